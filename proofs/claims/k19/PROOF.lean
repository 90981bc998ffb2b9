import PyProof.Rows.All
import Wide.All
import OpenK.AllK
import Wide.FinOn
import HandS.ForExc
import HandS.IsInst
import HandS.Property
import HandS.ExcInit
import HandS.Conv
import HandS.TupLe
import HandS.TupAny
import HandS.TupMul
import HandS.Comp
import HandS.Walk
import HandS.Deep
import HandS.TryMany
import HandS.ExcIs
import HandS.ExcField
import HandS.Flow
import KE.KDictKeyed
import KE.KDictWalk
import KE.KeyNested
import KE.GoesEnumKw
import HandS.OwnEq
import KE.KExcIs
import HandS.Style
import HandS.TryOnly
import HandS.Set
import PyProof.FactsAll.set_2
import PyProof.Rows.SetFrom
import KE.KSetInts
import PyProof.FactsTree
import PyProof.FactsBase
import PyProof.SetNew
import PyProof.CallType
import PyProof.InstFacts
import HandS.List
import HandS.Text
import HandS.FStr
import PyProof.StrOps2
import HandS.More
import PySem.Challenge.RW_cutsagain_k19_errors_apart
set_option Elab.async false
set_option linter.all false
set_option maxRecDepth 100000
set_option maxHeartbeats 0
namespace Mi
open PySem PySem.Spec
open PyProof.Rows L2

/-! ### data, the store of what may change -/
inductive D where
  | non
  | bl (b : Bool)
  | int (i : Int)
  | str (s : Str)
  | tup (ds : List D)
  | lst (ds : List D)
  /-- the law's own argument: it is read, never written -/
  | scr (ds : List D)
  | ins (c : Str) (ns : List Str) (ds : List D)
  | loc (l : Nat)
  /-- a dict that nothing changes any more: its keys, its values -/
  | dic (ks ds : List D)
  /-- an exception that a clause has kept -/
  | exc (c : Str) (ns : List Str) (ds : List D)
inductive O where
  | lst (ds : List D)
  | dic (ks ds : List D)
  | ins (c : Str) (ns : List Str) (ds : List D)
  /-- the same, where what stands in it may change too -/
  | nst (ds : List D)
  | ndc (ks ds : List D)
  | nin (c : Str) (ns : List Str) (ds : List D)
  | dead

mutual
def D.fz : D → Bool
  | .tup ds => fzs ds
  | .lst ds => fzs ds
  | .scr ds => fzs ds
  | .ins _ _ ds => fzs ds
  | .dic ks ds => fzs ks && fzs ds
  | .exc _ _ ds => fzs ds
  | .loc _ => false
  | .non => true
  | .bl _ => true
  | .int _ => true
  | .str _ => true
def fzs : List D → Bool
  | [] => true
  | d :: ds => d.fz && fzs ds
end
def O.fz : O → Bool
  | .nst _ => true
  | .ndc ks _ => fzs ks
  | .nin _ _ _ => true
  | .lst ds => fzs ds
  | .dic ks ds => fzs ks && fzs ds
  | .ins _ _ ds => fzs ds
  | .dead => true

/-! ### what stands in the first n places of the store alone -/
mutual
def D.bel (n : Nat) : D → Bool
  | .tup ds => bels n ds
  | .lst ds => bels n ds
  | .scr ds => bels n ds
  | .ins _ _ ds => bels n ds
  | .dic ks ds => bels n ks && bels n ds
  | .exc _ _ ds => bels n ds
  | .loc l => decide (l < n)
  | .non => true
  | .bl _ => true
  | .int _ => true
  | .str _ => true
def bels (n : Nat) : List D → Bool
  | [] => true
  | d :: ds => d.bel n && bels n ds
end
/-! ### the same data -/
mutual
def sameD : D → D → Bool
  | .non, e => (match e with | .non => true | _ => false)
  | .bl a, e => (match e with | .bl b => a == b | _ => false)
  | .int a, e => (match e with | .int b => decide (a = b) | _ => false)
  | .str a, e => (match e with | .str b => decide (a = b) | _ => false)
  | .loc a, e => (match e with | .loc b => decide (a = b) | _ => false)
  | .tup a, e => (match e with | .tup b => sameDs a b | _ => false)
  | .lst a, e => (match e with | .lst b => sameDs a b | _ => false)
  | .scr a, e => (match e with | .scr b => sameDs a b | _ => false)
  | .dic a a', e => (match e with | .dic b b' => sameDs a b && sameDs a' b' | _ => false)
  | .ins c x a, e => (match e with | .ins d y b => decide (c = d) && decide (x = y) && sameDs a b | _ => false)
  | .exc c x a, e => (match e with | .exc d y b => decide (c = d) && decide (x = y) && sameDs a b | _ => false)
def sameDs : List D → List D → Bool
  | [], es => es.isEmpty
  | d :: ds, es => (match es with | e :: es => sameD d e && sameDs ds es | [] => false)
end
mutual
theorem same_self : ∀ d : D, sameD d d = true
  | .non => by simp only [sameD]
  | .bl a => by simp [sameD]
  | .int a => by simp [sameD]
  | .str a => by simp [sameD]
  | .loc a => by simp [sameD]
  | .tup a => by simp only [sameD]; exact sames_self a
  | .lst a => by simp only [sameD]; exact sames_self a
  | .scr a => by simp only [sameD]; exact sames_self a
  | .dic a a' => by simp only [sameD, sames_self a, sames_self a', Bool.and_self]
  | .ins c x a => by simp [sameD, sames_self a]
  | .exc c x a => by simp [sameD, sames_self a]
theorem sames_self : ∀ ds : List D, sameDs ds ds = true
  | [] => rfl
  | d :: ds => by simp only [sameDs, same_self d, sames_self ds, Bool.and_self]
end
mutual
theorem same_eq : ∀ d e : D, sameD d e = true → d = e
  | .non, e, h => by cases e <;> first | rfl | (simp [sameD] at h)
  | .bl a, e, h => by cases e <;> simp [sameD] at h; rw [h]
  | .int a, e, h => by cases e <;> simp [sameD] at h; rw [h]
  | .str a, e, h => by cases e <;> simp [sameD] at h; rw [h]
  | .loc a, e, h => by cases e <;> simp [sameD] at h; rw [h]
  | .tup a, e, h => by cases e <;> simp [sameD] at h; rw [sames_eq a _ h]
  | .lst a, e, h => by cases e <;> simp [sameD] at h; rw [sames_eq a _ h]
  | .scr a, e, h => by cases e <;> simp [sameD] at h; rw [sames_eq a _ h]
  | .dic a a', e, h => by cases e <;> simp [sameD] at h; rw [sames_eq a _ h.1, sames_eq a' _ h.2]
  | .ins c x a, e, h => by cases e <;> simp [sameD] at h; rw [h.1.1, h.1.2, sames_eq a _ h.2]
  | .exc c x a, e, h => by cases e <;> simp [sameD] at h; rw [h.1.1, h.1.2, sames_eq a _ h.2]
theorem sames_eq : ∀ ds es : List D, sameDs ds es = true → ds = es
  | [], es, h => by cases es <;> first | rfl | (simp [sameDs] at h)
  | d :: ds, es, h => by
    cases es with
    | nil => simp [sameDs] at h
    | cons e es =>
      simp only [sameDs, Bool.and_eq_true] at h
      rw [same_eq d e h.1, sames_eq ds es h.2]
end
def sameO : O → O → Bool
  | .nst a, o => (match o with | .nst b => sameDs a b | _ => false)
  | .ndc a a', o => (match o with | .ndc b b' => sameDs a b && sameDs a' b' | _ => false)
  | .nin c x a, o => (match o with | .nin d y b => decide (c = d) && decide (x = y) && sameDs a b | _ => false)
  | _, _ => false
theorem sameO_eq {o u : O} (h : sameO o u = true) : o = u := by
  cases o <;> cases u <;> simp [sameO] at h
  · rw [sames_eq _ _ h]
  · rw [sames_eq _ _ h.1, sames_eq _ _ h.2]
  · rw [h.1.1, h.1.2, sames_eq _ _ h.2]
/-- an object that may stand in a store that is cut at n: all of it below, or as it stood at first -/
def okAt (n : Nat) (o0 : Option O) (o : O) : Bool := match o with
  | .nst ds => bels n ds || (match o0 with | some u => sameO u o | none => false)
  | .ndc ks ds => bels n ds || (match o0 with | some u => sameO u o | none => false)
  | .nin c ns ds => bels n ds || (match o0 with | some u => sameO u o | none => false)
  | _ => true
def goOk (n : Nat) : Nat → List O → List O → Bool
  | 0, _, _ => true
  | _ + 1, _, [] => true
  | k + 1, m0, o :: m => okAt n m0.head? o && goOk n k m0.tail m
/-- m, which came of m0, may be cut at n -/
def cutOk (m0 m : List O) (n : Nat) : Bool := decide (m.length ≤ n) || goOk n n m0 m
theorem okAt_self (n : Nat) (o : O) : okAt n (some o) o = true := by
  cases o <;> simp [okAt, sameO, sames_self]
theorem goOk_app (n : Nat) : ∀ (k : Nat) (m g : List O), k ≤ m.length → goOk n k m (m ++ g) = true
  | 0, m, g, _ => rfl
  | k + 1, [], g, h => by simp at h
  | k + 1, o :: m, g, h => by
    simp only [List.cons_append, goOk, List.head?_cons, List.tail_cons, okAt_self, Bool.true_and]
    exact goOk_app n k m g (by simpa using h)
def O.flat : O → Bool
  | .nst _ => false
  | .ndc _ _ => false
  | .nin _ _ _ => false
  | _ => true
theorem okAt_flat {n : Nat} {o0 : Option O} {o : O} (h : o.flat = true) : okAt n o0 o = true := by
  cases o <;> first | rfl | cases h
theorem goOk_set (n : Nat) {x : O} (hx : x.flat = true) : ∀ (k l : Nat) (m g : List O), k ≤ m.length → goOk n k m (m.set l x ++ g) = true
  | 0, l, m, g, _ => rfl
  | k + 1, l, [], g, h => by simp at h
  | k + 1, 0, o :: m, g, h => by
    simp only [List.set_cons_zero, List.cons_append, goOk, List.head?_cons, List.tail_cons, okAt_flat hx, Bool.true_and]
    exact goOk_app n k m g (by simpa using h)
  | k + 1, l + 1, o :: m, g, h => by
    simp only [List.set_cons_succ, List.cons_append, goOk, List.head?_cons, List.tail_cons, okAt_self, Bool.true_and]
    exact goOk_set n hx k l m g (by simpa using h)
theorem cutOk_app (m g : List O) : cutOk m (m ++ g) m.length = true := by
  unfold cutOk
  rw [goOk_app _ _ _ _ (Nat.le_refl _), Bool.or_true]
theorem cutOk_set {x : O} (hx : x.flat = true) (l : Nat) (m g : List O) : cutOk m (m.set l x ++ g) m.length = true := by
  unfold cutOk
  rw [goOk_set _ hx _ _ _ _ (Nat.le_refl _), Bool.or_true]
theorem cutOk_le {m0 m : List O} {n : Nat} (h : m.length ≤ n) : cutOk m0 m n = true := by
  unfold cutOk
  rw [decide_eq_true h, Bool.true_or]
theorem goOk_at {n : Nat} : ∀ (k : Nat) (m0 m : List O) (i : Nat) (o : O), goOk n k m0 m = true → i < k → m[i]? = some o → okAt n m0[i]? o = true
  | 0, m0, m, i, o, _, h, _ => absurd h (Nat.not_lt_zero _)
  | k + 1, m0, [], i, o, _, _, e => by simp at e
  | k + 1, m0, u :: m, 0, o, h, _, e => by
    simp only [goOk, Bool.and_eq_true] at h
    have e' : u = o := by simpa using e
    rw [← e', ← List.head?_eq_getElem?]
    exact h.1
  | k + 1, m0, u :: m, i + 1, o, h, hi, e => by
    simp only [goOk, Bool.and_eq_true] at h
    have := goOk_at k m0.tail m i o h.2 (by omega) (by simpa using e)
    rw [List.getElem?_tail] at this
    exact this

/-! ### dicts: keys are numbers, or tuples of numbers, nested -/
mutual
def nkD : D → Option NestedKey
  | .int i => some (.num i)
  | .tup ds => (nkDs ds).map .tup
  | _ => none
def nkDs : List D → Option (List NestedKey)
  | [] => some []
  | d :: ds => (nkD d).bind fun k => (nkDs ds).map fun ks => k :: ks
end
def isNumK : NestedKey → Bool
  | .num _ => true
  | _ => false
def isTupK : NestedKey → Bool
  | .tup _ => true
  | _ => false
/-- what stands at a: a dict with these very entries -/
def DicE (a : Addr) (es : Array DictEntry) (ep : Nat) : HO := .ext fun h => ∃ o, h.get? a = some o ∧ o.ExactDict ∧ o.data = .dict es ep
/-- the entries hold these keys, these values -/
def EntL : List NestedKey → List V → List V → List DictEntry → Prop
  | [], ks, vs, es => ks = [] ∧ vs = [] ∧ es = []
  | n :: ns, ks, vs, es => ∃ k kr v vr e er, ks = k :: kr ∧ vs = v :: vr ∧ es = e :: er ∧ (∀ w : World, e.hash = n.hash w) ∧ RelV k e.key ∧ RelV v e.val ∧ EntL ns kr vr er
structure DicOk (a : Addr) (ns : List NestedKey) (ks vs : List V) (es : Array DictEntry) : Prop where
  sys : (a == sysModules) = false
  few : ns.length ≤ sizeLine
  nd : ns.Nodup
  kind : ns.all isNumK = true ∨ ns.all isTupK = true
  deep : ∀ n ∈ ns, n.depth ≤ 8
  ents : EntL ns ks vs es.toList
/-- a list that is never written -/
def SqS (K : PySem.W.Frag) (H : Hp) (a : Addr) (xs : List V) : Prop := (∃ b, H a = some (.frz b (.lst xs))) ∨
  ∃ o its n, List.lookup a K = some o ∧ o.cls = Value.type "list" ∧ o.dict = none ∧ o.data = Data.seq its n ∧ its.size ≤ sizeLine ∧ Vals xs its.toList
theorem SqS.sq {K : PySem.W.Frag} {H : Hp} {a : Addr} {xs : List V} (h : SqS K H a xs) : SqL K H a xs := by
  rcases h with ⟨b, h⟩ | h
  · exact .inl (.inr ⟨b, h⟩)
  · exact .inr h
/-- what stands at a: an exception of the class cls, its dict at d -/
def ExV (cls : Value) (d : Option Addr) (a : Addr) : HO := .ext fun h => ∃ (oe : Obj) (vs : Array Value), h.get? a = some oe ∧ Zc cls d oe ∧ oe.data = .fields vs
section
variable (K : PySem.W.Frag) (mg : Str → Option Value) (H : Hp) (pi : List Addr)
mutual
def Rep : D → V → Prop
  | .non, v => v = .non
  | .bl b, v => v = .bl b
  | .int i, v => v = .int i
  | .str s, v => v = .str s
  | .tup ds, v => ∃ a vs, v = .ref a ∧ SqT K H a vs ∧ Reps ds vs
  | .lst ds, v => ∃ a vs, v = .ref a ∧ a ∉ pi ∧ H a = some (.lst vs) ∧ Reps ds vs
  | .scr ds, v => ∃ a vs, v = .ref a ∧ SqS K H a vs ∧ Reps ds vs
  | .ins c ns ds, v => ∃ a C dx fv, v = .ref a ∧ a ∉ pi ∧ mg c = some (.ref C) ∧ H a = some (.ins C dx fv) ∧ fv.map (·.1) = ns ∧ Reps ds (fv.map (·.2))
  | .loc l, v => ∃ a, v = .ref a ∧ pi[l]? = some a
  | .exc c ns ds, v => ∃ a C d fv, v = .ref a ∧ a ∉ pi ∧ mg c = some (.ref C) ∧ H a = some (ExV (.ref C) d a) ∧ ((d = none ∧ fv = []) ∨ ∃ dx, d = some dx ∧ dx ∉ pi ∧ H dx = some (.xd fv)) ∧ fv.map (·.1) = ns ∧ Reps ds (fv.map (·.2))
  | .dic ks ds, v => ∃ a es ep ns kv vs, v = .ref a ∧ a ∉ pi ∧ H a = some (DicE a es ep) ∧ nkDs ks = some ns ∧ DicOk a ns kv vs es ∧ Reps ks kv ∧ Reps ds vs
def Reps : List D → List V → Prop
  | [], vs => vs = []
  | d :: ds, vs => ∃ v r, vs = v :: r ∧ Rep d v ∧ Reps ds r
end
def RepO (a : Addr) : O → Prop
  | .nst ds => ∃ vs, H a = some (.lst vs) ∧ Reps K mg H pi ds vs
  | .ndc ks ds => ∃ es ep ns kv vs, H a = some (DicE a es ep) ∧ nkDs ks = some ns ∧ DicOk a ns kv vs es ∧ Reps K mg H pi ks kv ∧ Reps K mg H pi ds vs
  | .nin c ns ds => ∃ C dx fv, mg c = some (.ref C) ∧ H a = some (.ins C dx fv) ∧ fv.map (·.1) = ns ∧ Reps K mg H pi ds (fv.map (·.2))
  | .lst ds => ∃ vs, H a = some (.lst vs) ∧ Reps K mg H pi ds vs
  | .dic ks ds => ∃ es ep ns kv vs, H a = some (DicE a es ep) ∧ nkDs ks = some ns ∧ DicOk a ns kv vs es ∧ Reps K mg H pi ks kv ∧ Reps K mg H pi ds vs
  | .ins c ns ds => ∃ C dx fv, mg c = some (.ref C) ∧ H a = some (.ins C dx fv) ∧ fv.map (·.1) = ns ∧ Reps K mg H pi ds (fv.map (·.2))
  | .dead => ∃ o, H a = some o ∧ (∀ xs, o ≠ .tup xs) ∧ (∀ b u, o ≠ .frz b u)
structure RepM (m : List O) : Prop where
  len : pi.length = m.length
  nd : pi.Nodup
  fz : ∀ (l : Nat) (o : O), m[l]? = some o → o.fz = true
  at_ : ∀ (l : Nat) (a : Addr) (o : O), pi[l]? = some a → m[l]? = some o → RepO K mg H pi a o
structure RepS (rho : List (Option D)) (σ : L2.St) : Prop where
  len : rho.length = σ.length
  at_ : ∀ (i : Nat) (d : D), rho[i]? = some (some d) → ∃ v, σ[i]? = some (some v) ∧ Rep K mg H pi d v
end
/-- the heap grows; what is not in the store stays -/
structure Stp (H : Hp) (pi : List Addr) (H' : Hp) (pi' : List Addr) : Prop where
  pre : ∃ r, pi' = pi ++ r
  keep : ∀ a o, H a = some o → a ∉ pi → H' a = some o
  tup : ∀ a xs, H a = some (.tup xs) → H' a = some (.tup xs)
  frz : ∀ a b u, H a = some (.frz b u) → H' a = some (.frz b u)
  new : ∀ a, a ∈ pi' → a ∉ pi → H a = none
section
variable {K : PySem.W.Frag} {mg : Str → Option Value} {H H1 H2 : Hp} {pi pi1 pi2 : List Addr}
theorem Stp.refl : Stp H pi H pi := ⟨⟨[], by simp⟩, fun _ _ h _ => h, fun _ _ h => h, fun _ _ _ h => h, fun _ h n => absurd h n⟩
theorem Stp.mem (s : Stp H pi H1 pi1) {a : Addr} (h : a ∈ pi) : a ∈ pi1 := by
  obtain ⟨r, e⟩ := s.pre
  rw [e]
  exact List.mem_append_left _ h
theorem Stp.notin (s : Stp H pi H1 pi1) {a : Addr} {o : HO} (h : a ∉ pi) (e : H a = some o) : a ∉ pi1 := fun h1 => by
  rw [s.new a h1 h] at e
  cases e
theorem Stp.get (s : Stp H pi H1 pi1) {l : Nat} {a : Addr} (h : pi[l]? = some a) : pi1[l]? = some a := by
  obtain ⟨r, e⟩ := s.pre
  rw [e, List.getElem?_append_left (List.getElem?_eq_some_iff.mp h).1]
  exact h
theorem Stp.trans (s : Stp H pi H1 pi1) (t : Stp H1 pi1 H2 pi2) : Stp H pi H2 pi2 where
  pre := by
    obtain ⟨r, e⟩ := s.pre
    obtain ⟨q, f⟩ := t.pre
    exact ⟨r ++ q, by rw [f, e, List.append_assoc]⟩
  keep := fun a o h n => t.keep a o (s.keep a o h n) (s.notin n h)
  tup := fun a xs h => t.tup a xs (s.tup a xs h)
  frz := fun a b u h => t.frz a b u (s.frz a b u h)
  new := fun a h n => by
    by_cases h1 : a ∈ pi1
    · exact s.new a h1 n
    · have e := t.new a h h1
      cases q : H a with
      | none => rfl
      | some o =>
        rw [s.keep a o q n] at e
        cases e
theorem Stp.rd (s : Stp H pi H1 pi1) {a : Addr} {o : HO} (n : a ∉ pi) (h : Rd H a o) : Rd H1 a o := by
  rcases h with h | ⟨b, h⟩
  · exact .inl (s.keep a o h n)
  · exact .inr ⟨b, s.keep a _ h n⟩
theorem Stp.sqt (s : Stp H pi H1 pi1) {a : Addr} {xs : List V} (h : SqT K H a xs) : SqT K H1 a xs := by
  rcases h with (h | ⟨b, h⟩) | h
  · exact .inl (.inl (s.tup a xs h))
  · exact .inl (.inr ⟨b, s.frz a b _ h⟩)
  · exact .inr h
theorem rd_some {a : Addr} {o : HO} (h : Rd H a o) : ∃ u, H a = some u := by
  rcases h with h | ⟨b, h⟩
  · exact ⟨_, h⟩
  · exact ⟨_, h⟩
mutual
theorem Rep.mono (s : Stp H pi H1 pi1) : ∀ (d : D) (v : V), Rep K mg H pi d v → Rep K mg H1 pi1 d v
  | .non, v, h => by simpa only [Rep] using h
  | .bl b, v, h => by simpa only [Rep] using h
  | .int i, v, h => by simpa only [Rep] using h
  | .str x, v, h => by simpa only [Rep] using h
  | .tup ds, v, h => by
    simp only [Rep] at h ⊢
    obtain ⟨a, vs, e, q, r⟩ := h
    exact ⟨a, vs, e, s.sqt q, Reps.mono s ds vs r⟩
  | .lst ds, v, h => by
    simp only [Rep] at h ⊢
    obtain ⟨a, vs, e, n, q, r⟩ := h
    exact ⟨a, vs, e, s.notin n q, s.keep a _ q n, Reps.mono s ds vs r⟩
  | .scr ds, v, h => by
    simp only [Rep] at h ⊢
    obtain ⟨a, vs, e, q, r⟩ := h
    exact ⟨a, vs, e, q.imp (fun ⟨b, q⟩ => ⟨b, s.frz a b _ q⟩) fun q => q, Reps.mono s ds vs r⟩
  | .ins c ns ds, v, h => by
    simp only [Rep] at h ⊢
    obtain ⟨a, C, dx, fv, e, n, g, q, en, r⟩ := h
    exact ⟨a, C, dx, fv, e, s.notin n q, g, s.keep a _ q n, en, Reps.mono s ds _ r⟩
  | .exc c ns ds, v, h => by
    simp only [Rep] at h ⊢
    obtain ⟨a, C, d, fv, e, n, g, q, k, en, r⟩ := h
    exact ⟨a, C, d, fv, e, s.notin n q, g, s.keep a _ q n, k.imp id fun ⟨dx, e1, n1, q1⟩ => ⟨dx, e1, s.notin n1 q1, s.keep dx _ q1 n1⟩, en, Reps.mono s ds _ r⟩
  | .loc l, v, h => by
    simp only [Rep] at h ⊢
    obtain ⟨a, e, q⟩ := h
    exact ⟨a, e, s.get q⟩
  | .dic ks ds, v, h => by
    simp only [Rep] at h ⊢
    obtain ⟨a, es, ep, ns, kv, vs, e, n, q, hn, ok, r1, r2⟩ := h
    exact ⟨a, es, ep, ns, kv, vs, e, s.notin n q, s.keep a _ q n, hn, ok, Reps.mono s ks kv r1, Reps.mono s ds vs r2⟩
theorem Reps.mono (s : Stp H pi H1 pi1) : ∀ (ds : List D) (vs : List V), Reps K mg H pi ds vs → Reps K mg H1 pi1 ds vs
  | [], vs, h => by simpa only [Reps] using h
  | d :: ds, vs, h => by
    simp only [Reps] at h ⊢
    obtain ⟨v, r, e, a, b⟩ := h
    exact ⟨v, r, e, Rep.mono s d v a, Reps.mono s ds r b⟩
end
theorem Reps.length : ∀ {ds : List D} {vs : List V}, Reps K mg H pi ds vs → ds.length = vs.length
  | [], vs, h => by
    simp only [Reps] at h
    rw [h]
    rfl
  | d :: ds, vs, h => by
    simp only [Reps] at h
    obtain ⟨v, r, e, a, b⟩ := h
    rw [e, List.length_cons, List.length_cons, Reps.length b]
theorem Reps.get : ∀ {ds : List D} {vs : List V} {i : Nat} {d : D}, Reps K mg H pi ds vs → ds[i]? = some d → ∃ v, vs[i]? = some v ∧ Rep K mg H pi d v
  | [], vs, i, d, h, e => by simp at e
  | d :: ds, vs, i, d', h, e => by
    simp only [Reps] at h
    obtain ⟨v, r, rfl, a, b⟩ := h
    cases i with
    | zero =>
      have : d = d' := by simpa using e
      subst this
      exact ⟨v, rfl, a⟩
    | succ i =>
      have e' : ds[i]? = some d' := by simpa using e
      obtain ⟨w, h1, h2⟩ := Reps.get b e'
      exact ⟨w, by simpa using h1, h2⟩
theorem Reps.geto : ∀ {ds : List D} {vs : List V} {i : Nat} {v : V}, Reps K mg H pi ds vs → vs[i]? = some v → ∃ d, ds[i]? = some d ∧ Rep K mg H pi d v := fun {ds vs i v} h e => by
  have hl : i < ds.length := by
    rw [h.length]
    have ⟨low, _⟩ := List.getElem?_eq_some_iff.mp e
    exact low
  obtain ⟨w, e1, r⟩ := h.get (List.getElem?_eq_getElem hl)
  rw [e] at e1
  cases e1
  exact ⟨_, List.getElem?_eq_getElem hl, r⟩
theorem Reps.append : ∀ {ds es : List D} {vs ws : List V}, Reps K mg H pi ds vs → Reps K mg H pi es ws → Reps K mg H pi (ds ++ es) (vs ++ ws)
  | [], es, vs, ws, h, g => by
    simp only [Reps] at h
    subst h
    exact g
  | d :: ds, es, vs, ws, h, g => by
    simp only [Reps] at h
    obtain ⟨v, r, rfl, a, b⟩ := h
    show Reps K mg H pi (d :: (ds ++ es)) (v :: (r ++ ws))
    simp only [Reps]
    exact ⟨v, r ++ ws, rfl, a, Reps.append b g⟩
theorem reps_nil : Reps K mg H pi [] [] := by simp only [Reps]
theorem reps_cons {d : D} {v : V} {ds : List D} {vs : List V} (h : Rep K mg H pi d v) (g : Reps K mg H pi ds vs) : Reps K mg H pi (d :: ds) (v :: vs) := by
  simp only [Reps]
  exact ⟨v, vs, rfl, h, g⟩
theorem Reps.drop : ∀ {ds : List D} {vs : List V} (n : Nat), Reps K mg H pi ds vs → Reps K mg H pi (ds.drop n) (vs.drop n)
  | ds, vs, 0, h => h
  | [], vs, n + 1, h => by
    simp only [Reps] at h
    subst h
    exact reps_nil
  | d :: ds, vs, n + 1, h => by
    simp only [Reps] at h
    obtain ⟨v, r, rfl, a, b⟩ := h
    exact Reps.drop n b
theorem Reps.take : ∀ {ds : List D} {vs : List V} (n : Nat), Reps K mg H pi ds vs → Reps K mg H pi (ds.take n) (vs.take n)
  | ds, vs, 0, h => reps_nil
  | [], vs, n + 1, h => by
    simp only [Reps] at h
    subst h
    exact reps_nil
  | d :: ds, vs, n + 1, h => by
    simp only [Reps] at h
    obtain ⟨v, r, rfl, a, b⟩ := h
    exact reps_cons a (Reps.take n b)
theorem Reps.set : ∀ {ds : List D} {vs : List V} (i : Nat) {d : D} {v : V}, Reps K mg H pi ds vs → Rep K mg H pi d v → Reps K mg H pi (ds.set i d) (vs.set i v)
  | [], vs, i, d, v, h, g => by
    simp only [Reps] at h
    subst h
    exact reps_nil
  | d0 :: ds, vs, 0, d, v, h, g => by
    simp only [Reps] at h
    obtain ⟨v, r, rfl, a, b⟩ := h
    exact reps_cons g b
  | d0 :: ds, vs, i + 1, d, v, h, g => by
    simp only [Reps] at h
    obtain ⟨v, r, rfl, a, b⟩ := h
    exact reps_cons a (Reps.set i b g)
theorem RepS.mono (s : Stp H pi H1 pi1) {rho : List (Option D)} {σ : L2.St} (h : RepS K mg H pi rho σ) : RepS K mg H1 pi1 rho σ :=
  ⟨h.len, fun i d e => let ⟨v, a, b⟩ := h.at_ i d e; ⟨v, a, Rep.mono s d v b⟩⟩
theorem RepS.set {rho : List (Option D)} {σ : L2.St} (h : RepS K mg H pi rho σ) (i : Nat) {d : D} {v : V} (r : Rep K mg H pi d v) : RepS K mg H pi (rho.set i (some d)) (σ.set i (some v)) := by
  refine ⟨by rw [List.length_set, List.length_set, h.len], fun j e hj => ?_⟩
  by_cases hij : i = j
  · subst hij
    have hl : i < rho.length := by
      have := (List.getElem?_eq_some_iff.mp hj).1
      rwa [List.length_set] at this
    rw [List.getElem?_set_self hl] at hj
    have hd : d = e := by simpa using hj
    subst hd
    exact ⟨v, by rw [List.getElem?_set_self (by rw [← h.len]; exact hl)], r⟩
  · rw [List.getElem?_set_ne hij] at hj
    obtain ⟨w, a, b⟩ := h.at_ j e hj
    exact ⟨w, by rw [List.getElem?_set_ne hij]; exact a, b⟩
end

/-! ### outcomes -/
/-- an exception: its class by name, the fields that its __init__ set -/
structure Xn where
  cls : Str
  fs : List (Str × D)
inductive R (α : Type) where
  | ok (a : α)
  | er (x : Xn) (m : List O)
  | bad
abbrev RE := R (D × List O)
def R.bind {α β : Type} (r : R α) (k : α → R β) : R β := match r with
  | .ok a => k a
  | .er x m => .er x m
  | .bad => .bad
@[simp] theorem R.bind_ok {α β : Type} (a : α) (k : α → R β) : (R.ok a).bind k = k a := rfl
@[simp] theorem R.bind_er {α β : Type} (x : Xn) (m : List O) (k : α → R β) : (R.er x m : R α).bind k = .er x m := rfl
@[simp] theorem R.bind_bad {α β : Type} (k : α → R β) : (R.bad : R α).bind k = .bad := rfl
/-- what is known of an exception: its class, its own dict -/
def RepX (K : PySem.W.Frag) (mg : Str → Option Value) (H : Hp) (pi : List Addr) (x : Xn) (c : Value) (d : Option Addr) : Prop :=
  ∃ C, mg x.cls = some (.ref C) ∧ c = .ref C ∧ ((x.fs = [] ∧ d = none) ∨ (∃ f y a v, x.fs = [(f, y)] ∧ d = some a ∧ H a = some (.xd [(f, v)]) ∧ a ∉ pi ∧ y.fz = true ∧ Rep K mg H pi y v) ∨
    ∃ f y g z a v u, x.fs = [(f, y), (g, z)] ∧ d = some a ∧ H a = some (.xd [(g, u), (f, v)]) ∧ a ∉ pi ∧ (y.fz = true ∧ z.fz = true) ∧ Rep K mg H pi y v ∧ Rep K mg H pi z u)

abbrev ME := List (Option D) → List O → RE
abbrev MT := List (Option D) → List O → R (Bool × List O)
abbrev MA := List (Option D) → List O → R (List D × List O)

section
variable (K : PySem.W.Frag) (mg : Str → Option Value)
def PostV (E : XK) (H : Hp) (pi : List Addr) (Q : VK) : RE → Prop
  | .ok (d, m) => ∀ v H' pi', Stp H pi H' pi' → RepM K mg H' pi' m → Rep K mg H' pi' d v → Q v H'
  | .er x m => ∀ c dx H' pi', Stp H pi H' pi' → RepM K mg H' pi' m → RepX K mg H' pi' x c dx → E c dx H'
  | .bad => False
def PostT (E : XK) (H : Hp) (pi : List Addr) (Q : Bool → Hp → Prop) : R (Bool × List O) → Prop
  | .ok (b, m) => ∀ H' pi', Stp H pi H' pi' → RepM K mg H' pi' m → Q b H'
  | .er x m => ∀ c dx H' pi', Stp H pi H' pi' → RepM K mg H' pi' m → RepX K mg H' pi' x c dx → E c dx H'
  | .bad => False
def PostA (E : XK) (H : Hp) (pi : List Addr) (Q : List V → Hp → Prop) : R (List D × List O) → Prop
  | .ok (ds, m) => ∀ vs H' pi', Stp H pi H' pi' → RepM K mg H' pi' m → Reps K mg H' pi' ds vs → Q vs H'
  | .er x m => ∀ c dx H' pi', Stp H pi H' pi' → RepM K mg H' pi' m → RepX K mg H' pi' x c dx → E c dx H'
  | .bad => False
/-- the reading of an expression that is worth f; W: what is wished of an exception -/
def tE (W : WX) (f : ME) : TE := fun σ H Q => ∃ pi m rho, RepM K mg H pi m ∧ RepS K mg H pi rho σ ∧ PostV K mg (fun c d H' => W c d σ H') H pi Q (f rho m)
def tT (W : WX) (f : MT) : TT := fun σ H Q => ∃ pi m rho, RepM K mg H pi m ∧ RepS K mg H pi rho σ ∧ PostT K mg (fun c d H' => W c d σ H') H pi Q (f rho m)
def tA (W : WX) (f : MA) : TA := fun σ H Q => ∃ pi m rho, RepM K mg H pi m ∧ RepS K mg H pi rho σ ∧ PostA K mg (fun c d H' => W c d σ H') H pi Q (f rho m)
end
section
variable {K : PySem.W.Frag} {mg : Str → Option Value} {E : XK} {H H1 : Hp} {pi pi1 : List Addr}
theorem PostV.from {Q : VK} {r : RE} (s : Stp H pi H1 pi1) (h : PostV K mg E H pi Q r) : PostV K mg E H1 pi1 Q r := by
  match r, h with
  | .ok (d, m), h => exact fun v H' pi' t => h v H' pi' (s.trans t)
  | .er x m, h => exact fun c dx H' pi' t => h c dx H' pi' (s.trans t)
theorem PostT.from {Q : Bool → Hp → Prop} {r : R (Bool × List O)} (s : Stp H pi H1 pi1) (h : PostT K mg E H pi Q r) : PostT K mg E H1 pi1 Q r := by
  match r, h with
  | .ok (d, m), h => exact fun H' pi' t => h H' pi' (s.trans t)
  | .er x m, h => exact fun c dx H' pi' t => h c dx H' pi' (s.trans t)
theorem PostA.from {Q : List V → Hp → Prop} {r : R (List D × List O)} (s : Stp H pi H1 pi1) (h : PostA K mg E H pi Q r) : PostA K mg E H1 pi1 Q r := by
  match r, h with
  | .ok (d, m), h => exact fun v H' pi' t => h v H' pi' (s.trans t)
  | .er x m, h => exact fun c dx H' pi' t => h c dx H' pi' (s.trans t)
theorem PostV.mono {Q Q' : VK} {r : RE} (h : PostV K mg E H pi Q r) (q : ∀ v H', Q v H' → Q' v H') : PostV K mg E H pi Q' r := by
  match r, h with
  | .ok (d, m), h => exact fun v H' pi' t a b => q _ _ (h v H' pi' t a b)
  | .er x m, h => exact h
/-- an expression first, then what hangs on its value -/
theorem PostV.bind {Q : VK} {r : RE} {k : D × List O → RE} (h : PostV K mg E H pi Q (r.bind k)) :
    PostV K mg E H pi (fun v H1 => ∃ pi1 m1 d, Stp H pi H1 pi1 ∧ RepM K mg H1 pi1 m1 ∧ Rep K mg H1 pi1 d v ∧ PostV K mg E H1 pi1 Q (k (d, m1))) r := by
  match r, h with
  | .ok (d, m), h => exact fun v H' pi' t a b => ⟨pi', m, d, t, a, b, PostV.from t h⟩
  | .er x m, h => exact h
theorem PostV.bindT {Q : Bool → Hp → Prop} {r : RE} {k : D × List O → R (Bool × List O)} (h : PostT K mg E H pi Q (r.bind k)) :
    PostV K mg E H pi (fun v H1 => ∃ pi1 m1 d, Stp H pi H1 pi1 ∧ RepM K mg H1 pi1 m1 ∧ Rep K mg H1 pi1 d v ∧ PostT K mg E H1 pi1 Q (k (d, m1))) r := by
  match r, h with
  | .ok (d, m), h => exact fun v H' pi' t a b => ⟨pi', m, d, t, a, b, PostT.from t h⟩
  | .er x m, h => exact h
theorem PostV.bindA {Q : List V → Hp → Prop} {r : RE} {k : D × List O → R (List D × List O)} (h : PostA K mg E H pi Q (r.bind k)) :
    PostV K mg E H pi (fun v H1 => ∃ pi1 m1 d, Stp H pi H1 pi1 ∧ RepM K mg H1 pi1 m1 ∧ Rep K mg H1 pi1 d v ∧ PostA K mg E H1 pi1 Q (k (d, m1))) r := by
  match r, h with
  | .ok (d, m), h => exact fun v H' pi' t a b => ⟨pi', m, d, t, a, b, PostA.from t h⟩
  | .er x m, h => exact h
theorem PostA.bindV {Q : VK} {r : R (List D × List O)} {k : List D × List O → RE} (h : PostV K mg E H pi Q (r.bind k)) :
    PostA K mg E H pi (fun vs H1 => ∃ pi1 m1 ds, Stp H pi H1 pi1 ∧ RepM K mg H1 pi1 m1 ∧ Reps K mg H1 pi1 ds vs ∧ PostV K mg E H1 pi1 Q (k (ds, m1))) r := by
  match r, h with
  | .ok (d, m), h => exact fun v H' pi' t a b => ⟨pi', m, d, t, a, b, PostV.from t h⟩
  | .er x m, h => exact h
theorem PostA.bindA {Q : List V → Hp → Prop} {r : R (List D × List O)} {k : List D × List O → R (List D × List O)} (h : PostA K mg E H pi Q (r.bind k)) :
    PostA K mg E H pi (fun vs H1 => ∃ pi1 m1 ds, Stp H pi H1 pi1 ∧ RepM K mg H1 pi1 m1 ∧ Reps K mg H1 pi1 ds vs ∧ PostA K mg E H1 pi1 Q (k (ds, m1))) r := by
  match r, h with
  | .ok (d, m), h => exact fun v H' pi' t a b => ⟨pi', m, d, t, a, b, PostA.from t h⟩
  | .er x m, h => exact h
theorem PostT.bindV {Q : VK} {r : R (Bool × List O)} {k : Bool × List O → RE} (h : PostV K mg E H pi Q (r.bind k)) :
    PostT K mg E H pi (fun b H1 => ∃ pi1 m1, Stp H pi H1 pi1 ∧ RepM K mg H1 pi1 m1 ∧ PostV K mg E H1 pi1 Q (k (b, m1))) r := by
  match r, h with
  | .ok (d, m), h => exact fun H' pi' t a => ⟨pi', m, t, a, PostV.from t h⟩
  | .er x m, h => exact h
theorem PostT.bindT {Q : Bool → Hp → Prop} {r : R (Bool × List O)} {k : Bool × List O → R (Bool × List O)} (h : PostT K mg E H pi Q (r.bind k)) :
    PostT K mg E H pi (fun b H1 => ∃ pi1 m1, Stp H pi H1 pi1 ∧ RepM K mg H1 pi1 m1 ∧ PostT K mg E H1 pi1 Q (k (b, m1))) r := by
  match r, h with
  | .ok (d, m), h => exact fun H' pi' t a => ⟨pi', m, t, a, PostT.from t h⟩
  | .er x m, h => exact h
theorem PostV.here {Q : VK} {d : D} {m : List O} {v : V} (h : PostV K mg E H pi Q (.ok (d, m))) (a : RepM K mg H pi m) (b : Rep K mg H pi d v) : Q v H := h v H pi Stp.refl a b
end
end Mi
namespace Mi
open PySem PySem.Spec L2

section
variable {X : Cx} {W : WX} {e a b c : Expr} {pos : Pos}
theorem weak {e : Expr} {t t' : TE} (h : PE X e t) (w : ∀ σ H Q, t' σ H Q → t σ H Q) : PE X e t' := ⟨fun pins s σ H Q I q => h.run pins s σ H Q I (w σ H Q q)⟩
theorem weakT {e : Expr} {t t' : TT} (h : PT X e t) (w : ∀ σ H Q, t' σ H Q → t σ H Q) : PT X e t' := ⟨fun pins s σ H Q I q => h.run pins s σ H Q I (w σ H Q q)⟩
theorem weakW {e : Expr} {t t' : TT} (h : PW X e t) (w : ∀ σ H Q, t' σ H Q → t σ H Q) : PW X e t' := ⟨fun wh pins s σ H Q I q => h.run wh pins s σ H Q I (w σ H Q q)⟩
theorem weakA {es : List Expr} {t t' : TA} (h : PA X es t) (w : ∀ σ H Q, t' σ H Q → t σ H Q) : PA X es t' := ⟨fun p pins s σ H Q I q => h.run p pins s σ H Q I (w σ H Q q)⟩
theorem weakS {st : Stmt} {t t' : TS} (h : PS X st t) (w : ∀ σ H D, t' D σ H → t D σ H) : PS X st t' := ⟨fun pins s σ H D I q => h.run pins s σ H D I (w σ H D q)⟩
theorem weakSs {st : List Stmt} {t t' : TS} (h : PSs X st t) (w : ∀ σ H D, t' D σ H → t D σ H) : PSs X st t' := ⟨fun pins s σ H D I q => h.run pins s σ H D I (w σ H D q)⟩

/-- an expression, a test, arguments worth f -/
abbrev ME1 (X : Cx) (W : WX) (e : Expr) (f : ME) : Prop := PE X e (tE X.K X.mg W f)
abbrev MT1 (X : Cx) (W : WX) (e : Expr) (f : MT) : Prop := PT X e (tT X.K X.mg W f)
abbrev MW1 (X : Cx) (W : WX) (e : Expr) (f : MT) : Prop := PW X e (tT X.K X.mg W f)
abbrev MA1 (X : Cx) (W : WX) (es : List Expr) (f : MA) : Prop := PA X es (tA X.K X.mg W f)


def blOf : D → Option Bool
  | .bl k => some k
  | _ => none
theorem rep_bl {K : PySem.W.Frag} {mg : Str → Option Value} {H : Hp} {pi : List Addr} {d : D} {v : V} {k : Bool} (r : Rep K mg H pi d v) (e : blOf d = some k) : v = .bl k := by
  cases d with
  | bl b =>
    simp only [Rep] at r
    cases e
    exact r
  | _ => cases e
/-- what hangs on a bool -/
def onBl {α : Type} (o : Option Bool) (k : Bool → R α) : R α := match o with
  | some b => k b
  | none => .bad

/-! ### names, constants -/
def mVar (i : Nat) : ME := fun rho m => match rho.getD i none with
  | some d => .ok (d, m)
  | none => .bad
def mVal (d : D) : ME := fun _ m => .ok (d, m)
theorem m_var (i : Nat) {x : Str} (hN : X.N[i]? = some x := by rfl) (hv : Vis X.env.scope x := by first | exact Or.inl rfl | exact Or.inr (Or.inl rfl) | exact Or.inr (Or.inr rfl)) (hd : (x == ("__debug__" : Str)) = false := by decide)
    (hcd : (x == ("__classdict__" : Str)) = false := by decide) : ME1 X W (.Name x pos) (mVar i) := by
  refine weak (pe_var hN hv hd hcd) fun σ H Q h => ?_
  obtain ⟨pi, m, rho, hm, hs, p⟩ := h
  unfold mVar at p
  cases h1 : rho.getD i none with
  | none =>
    rw [h1] at p
    exact p.elim
  | some d =>
    rw [h1] at p
    have h2 : rho[i]? = some (some d) := by
      rw [List.getD_eq_getElem?_getD] at h1
      cases h3 : rho[i]? with
      | none =>
        rw [h3] at h1
        cases h1
      | some o =>
        rw [h3] at h1
        exact congrArg some h1
    obtain ⟨v, e1, r⟩ := hs.at_ i d h2
    exact ⟨v, e1, p.here hm r⟩
theorem m_val {d : D} {v : V} (h : PE X e (tC v)) (r : ∀ H pi, Rep X.K X.mg H pi d v) : ME1 X W e (mVal d) := by
  refine weak h fun σ H Q h => ?_
  obtain ⟨pi, m, rho, hm, hs, p⟩ := h
  exact PostV.here p hm (r _ _)
theorem m_int {i j pos} : ME1 X W (.Constant (.int i) j pos) (mVal (.int i)) := m_val pe_int fun _ _ => by simp only [Rep]
theorem m_bl {i j pos} : ME1 X W (.Constant (.bool i) j pos) (mVal (.bl i)) := m_val pe_bl fun _ _ => by simp only [Rep]
theorem m_non {j pos} : ME1 X W (.Constant .none j pos) (mVal .non) := m_val pe_non fun _ _ => by simp only [Rep]
theorem m_str {i j pos} : ME1 X W (.Constant (.str i) j pos) (mVal (.str i)) := m_val pe_str fun _ _ => by simp only [Rep]

/-! ### operators -/
abbrev G2 := List O → D → D → Option D
def rM (K : PySem.W.Frag) (mg : Str → Option Value) (g : G2) : R2 := fun x y H Q => ∃ pi m dx dy d, RepM K mg H pi m ∧ Rep K mg H pi dx x ∧ Rep K mg H pi dy y ∧ g m dx dy = some d ∧
  ∀ v H', Stp H pi H' pi → RepM K mg H' pi m → Rep K mg H' pi d v → Q v H'
abbrev OpM (X : Cx) (f : Value → Value → Sem Value) (g : G2) : Prop := OpR X f (rM X.K X.mg g)
def ofO (o : Option D) (m : List O) : RE := match o with
  | some d => .ok (d, m)
  | none => .bad
def mBin (g : G2) (fa fb : ME) : ME := fun rho m => (fa rho m).bind fun p => (fb rho p.2).bind fun q => ofO (g q.2 p.1 q.1) q.2
theorem rM_of {K : PySem.W.Frag} {mg : Str → Option Value} {E : XK} {g : G2} {x y : V} {H : Hp} {pi : List Addr} {Q : VK} {m : List O} {dx dy : D} (hm : RepM K mg H pi m) (hx : Rep K mg H pi dx x) (hy : Rep K mg H pi dy y)
    (p : PostV K mg E H pi Q (ofO (g m dx dy) m)) : rM K mg g x y H Q := by
  cases h : g m dx dy with
  | none =>
    rw [h] at p
    exact p.elim
  | some d =>
    rw [h] at p
    exact ⟨pi, m, dx, dy, d, hm, hx, hy, h, fun v H' st rm r => p v H' pi st rm r⟩
theorem m_op {op : Operator} {g : G2} {fa fb : ME} (ho : OpM X (binaryOp op) g) (ha : ME1 X W a fa) (hb : ME1 X W b fb) : ME1 X W (.BinOp a op b pos) (mBin g fa fb) := by
  refine weak (pe_op ho ha hb) fun σ H Q h => ?_
  obtain ⟨pi, m, rho, hm, hs, p⟩ := h
  refine ⟨pi, m, rho, hm, hs, (PostV.bind p).mono fun x H1 h1 => ?_⟩
  obtain ⟨pi1, m1, dx, st1, rm1, rx, p1⟩ := h1
  refine ⟨pi1, m1, rho, rm1, hs.mono st1, (PostV.bind p1).mono fun y H2 h2 => ?_⟩
  obtain ⟨pi2, m2, dy, st2, rm2, ry, p2⟩ := h2
  exact rM_of rm2 (Rep.mono st2 _ _ rx) ry p2
theorem m_cmp {op : CmpOp} {g : G2} {fa fb : ME} (ho : OpM X (compareOp op) g) (ha : ME1 X W a fa) (hb : ME1 X W b fb) (hm : behindInMarks op b = false := by first | exact nomark _ (by decide) (by decide) | rfl) : ME1 X W (.Compare a [op] [b] pos) (mBin g fa fb) := by
  refine weak (pe_cmpR ho ha hb hm) fun σ H Q h => ?_
  obtain ⟨pi, m, rho, hm, hs, p⟩ := h
  refine ⟨pi, m, rho, hm, hs, (PostV.bind p).mono fun x H1 h1 => ?_⟩
  obtain ⟨pi1, m1, dx, st1, rm1, rx, p1⟩ := h1
  refine ⟨pi1, m1, rho, rm1, hs.mono st1, (PostV.bind p1).mono fun y H2 h2 => ?_⟩
  obtain ⟨pi2, m2, dy, st2, rm2, ry, p2⟩ := h2
  exact rM_of rm2 (Rep.mono st2 _ _ rx) ry p2
/-- the truth of a value that is a bool -/
def mTst (f : ME) : MT := fun rho m => (f rho m).bind fun p => onBl (blOf p.1) fun k => .ok (k, p.2)
theorem post_tst {K : PySem.W.Frag} {mg : Str → Option Value} {E : XK} {H : Hp} {pi : List Addr} {Q : Bool → Hp → Prop} {f : RE} (p : PostT K mg E H pi Q (f.bind fun p => onBl (blOf p.1) fun k => .ok (k, p.2))) :
    PostV K mg E H pi (fun x H' => ∃ k, x = .bl k ∧ Q k H') f := by
  refine (PostV.bindT p).mono fun x H1 h1 => ?_
  obtain ⟨pi1, m1, d, st1, rm1, rx, p1⟩ := h1
  cases h : blOf d with
  | none =>
    simp only [h] at p1
    exact p1.elim
  | some k =>
    simp only [h] at p1
    exact ⟨k, rep_bl rx h, p1 H1 pi1 Stp.refl rm1⟩
theorem t_cmp {op : CmpOp} {g : G2} {fa fb : ME} (ho : OpM X (compareOp op) g) (ha : ME1 X W a fa) (hb : ME1 X W b fb) (hm : behindInMarks op b = false := by first | exact nomark _ (by decide) (by decide) | rfl) : MT1 X W (.Compare a [op] [b] pos) (mTst (mBin g fa fb)) := by
  refine weakT (pt_cmpR ho ha hb hm) fun σ H Q h => ?_
  obtain ⟨pi, m, rho, hm, hs, p⟩ := h
  have p : PostV X.K X.mg (fun c d H' => W c d σ H') H pi (fun x H' => ∃ k, x = .bl k ∧ Q k H') (mBin g fa fb rho m) := post_tst p
  refine ⟨pi, m, rho, hm, hs, (PostV.bind p).mono fun x H1 h1 => ?_⟩
  obtain ⟨pi1, m1, dx, st1, rm1, rx, p1⟩ := h1
  refine ⟨pi1, m1, rho, rm1, hs.mono st1, (PostV.bind p1).mono fun y H2 h2 => ?_⟩
  obtain ⟨pi2, m2, dy, st2, rm2, ry, p2⟩ := h2
  exact rM_of rm2 (Rep.mono st2 _ _ rx) ry p2
def mChain (g g' : G2) (fa fb fc : ME) : ME := fun rho m => (fa rho m).bind fun p => (fb rho p.2).bind fun q => (ofO (g q.2 p.1 q.1) q.2).bind fun r => onBl (blOf r.1) fun k =>
  if k = true then (fc rho r.2).bind fun s => ofO (g' s.2 q.1 s.1) s.2 else .ok (.bl false, r.2)
theorem post_chain {K : PySem.W.Frag} {mg : Str → Option Value} {σ : L2.St} {H : Hp} {pi : List Addr} {Q : VK} {g g' : G2} {fa fb fc : ME} {rho : List (Option D)} {m : List O} (hm : RepM K mg H pi m) (hs : RepS K mg H pi rho σ)
    (p : PostV K mg (fun c d H' => W c d σ H') H pi Q (mChain g g' fa fb fc rho m)) : tChain (rM K mg g) (rM K mg g') (tE K mg W fa) (tE K mg W fb) (tE K mg W fc) σ H Q := by
  refine ⟨pi, m, rho, hm, hs, (PostV.bind p).mono fun x H1 h1 => ?_⟩
  obtain ⟨pi1, m1, dx, st1, rm1, rx, p1⟩ := h1
  refine ⟨pi1, m1, rho, rm1, hs.mono st1, (PostV.bind p1).mono fun y H2 h2 => ?_⟩
  obtain ⟨pi2, m2, dy, st2, rm2, ry, p2⟩ := h2
  refine rM_of rm2 (Rep.mono st2 _ _ rx) ry ((PostV.bind p2).mono fun z H3 h3 => ?_)
  obtain ⟨pi3, m3, dz, st3, rm3, rz, p3⟩ := h3
  cases h : blOf dz with
  | none =>
    simp only [h] at p3
    exact p3.elim
  | some k =>
    simp only [h, onBl] at p3
    refine ⟨k, rep_bl rz h, ?_⟩
    cases k with
    | true =>
      rw [if_pos rfl] at p3 ⊢
      refine ⟨pi3, m3, rho, rm3, ((hs.mono st1).mono st2).mono st3, (PostV.bind p3).mono fun u H4 h4 => ?_⟩
      obtain ⟨pi4, m4, du, st4, rm4, ru, p4⟩ := h4
      exact rM_of rm4 (Rep.mono (st3.trans st4) _ _ ry) ru p4
    | false =>
      rw [if_neg Bool.false_ne_true] at p3 ⊢
      exact p3.here rm3 (by simp only [Rep])
theorem m_chain {op op' : CmpOp} {g g' : G2} {fa fb fc : ME} (ho : OpM X (compareOp op) g) (ho' : OpM X (compareOp op') g') (ha : ME1 X W a fa) (hb : ME1 X W b fb) (hc : ME1 X W c fc)
    (hm : lastMarks [op, op'] [b, c] = false := by with_unfolding_all rfl) : ME1 X W (.Compare a [op, op'] [b, c] pos) (mChain g g' fa fb fc) := by
  refine weak (pe_chain ho ho' ha hb hc hm) fun σ H Q h => ?_
  obtain ⟨pi, m, rho, hm, hs, p⟩ := h
  exact post_chain hm hs p
theorem t_chain {op op' : CmpOp} {g g' : G2} {fa fb fc : ME} (ho : OpM X (compareOp op) g) (ho' : OpM X (compareOp op') g') (ha : ME1 X W a fa) (hb : ME1 X W b fb) (hc : ME1 X W c fc)
    (hm : lastMarks [op, op'] [b, c] = false := by with_unfolding_all rfl) : MT1 X W (.Compare a [op, op'] [b, c] pos) (mTst (mChain g g' fa fb fc)) := by
  refine weakT (pt_chain ho ho' ha hb hc hm) fun σ H Q h => ?_
  obtain ⟨pi, m, rho, hm, hs, p⟩ := h
  exact post_chain hm hs (post_tst p)
/-- a value's truth, where it is a bool -/
theorem t_val {f : ME} (h : ME1 X W e f) (he : ∀ whole, isTrue e X.env whole = (do let v ← whole; standAt e.pos; holding [v] (truthy v)) := by intro _; rfl) : MT1 X W e (mTst f) := by
  refine weakT (pt_val h he) fun σ H Q h => ?_
  obtain ⟨pi, m, rho, hm, hs, p⟩ := h
  exact ⟨pi, m, rho, hm, hs, post_tst p⟩

/-! ### and, or, not, if else -/
def mAnd (f g : MT) : MT := fun rho m => (f rho m).bind fun p => if p.1 = true then g rho p.2 else .ok (false, p.2)
def mOr (f g : MT) : MT := fun rho m => (f rho m).bind fun p => if p.1 = true then .ok (true, p.2) else g rho p.2
def mNot (f : MT) : MT := fun rho m => (f rho m).bind fun p => .ok (!p.1, p.2)
def mIf {α : Type} (t : MT) (f g : List (Option D) → List O → R α) : List (Option D) → List O → R α := fun rho m => (t rho m).bind fun p => if p.1 = true then f rho p.2 else g rho p.2
theorem PostT.mono {K : PySem.W.Frag} {mg : Str → Option Value} {E : XK} {H : Hp} {pi : List Addr} {Q Q' : Bool → Hp → Prop} {r : R (Bool × List O)} (h : PostT K mg E H pi Q r) (q : ∀ v H', Q v H' → Q' v H') : PostT K mg E H pi Q' r := by
  match r, h with
  | .ok (d, m), h => exact fun H' pi' t a => q _ _ (h H' pi' t a)
  | .er x m, h => exact h
theorem post_and {K : PySem.W.Frag} {mg : Str → Option Value} {σ : L2.St} {H : Hp} {Q : Bool → Hp → Prop} {f g : MT} (h : tT K mg W (mAnd f g) σ H Q) : tAnd (tT K mg W f) (tT K mg W g) σ H Q := by
  obtain ⟨pi, m, rho, hm, hs, p⟩ := h
  refine ⟨pi, m, rho, hm, hs, (PostT.bindT p).mono fun b H1 h1 => ?_⟩
  obtain ⟨pi1, m1, st1, rm1, p1⟩ := h1
  cases b with
  | true =>
    rw [if_pos rfl] at p1 ⊢
    exact ⟨pi1, m1, rho, rm1, hs.mono st1, p1⟩
  | false =>
    rw [if_neg Bool.false_ne_true] at p1 ⊢
    exact p1 H1 pi1 Stp.refl rm1
theorem post_or {K : PySem.W.Frag} {mg : Str → Option Value} {σ : L2.St} {H : Hp} {Q : Bool → Hp → Prop} {f g : MT} (h : tT K mg W (mOr f g) σ H Q) : tOr (tT K mg W f) (tT K mg W g) σ H Q := by
  obtain ⟨pi, m, rho, hm, hs, p⟩ := h
  refine ⟨pi, m, rho, hm, hs, (PostT.bindT p).mono fun b H1 h1 => ?_⟩
  obtain ⟨pi1, m1, st1, rm1, p1⟩ := h1
  cases b with
  | true =>
    rw [if_pos rfl] at p1 ⊢
    exact p1 H1 pi1 Stp.refl rm1
  | false =>
    rw [if_neg Bool.false_ne_true] at p1 ⊢
    exact ⟨pi1, m1, rho, rm1, hs.mono st1, p1⟩
theorem w_one_and {f : MT} (h : MT1 X W a f) : MW1 X W (.BoolOp .And [a] pos) f := pw_and1 h
theorem w_one_or {f : MT} (h : MT1 X W a f) : MW1 X W (.BoolOp .Or [a] pos) f := pw_or1 h
theorem w_and {rest : List Expr} {f g : MT} (ha : MT1 X W a f) (hb : MW1 X W (.BoolOp .And (b :: rest) pos) g) : MW1 X W (.BoolOp .And (a :: b :: rest) pos) (mAnd f g) :=
  weakW (pw_and ha hb) fun σ H Q h => post_and h
theorem w_or {rest : List Expr} {f g : MT} (ha : MT1 X W a f) (hb : MW1 X W (.BoolOp .Or (b :: rest) pos) g) : MW1 X W (.BoolOp .Or (a :: b :: rest) pos) (mOr f g) :=
  weakW (pw_or ha hb) fun σ H Q h => post_or h
theorem t_w {f : MT} (h : MW1 X W e f) : MT1 X W e f := h.pt
theorem t_not {f : MT} (h : MT1 X W a f) : MT1 X W (.UnaryOp .Not a pos) (mNot f) := by
  refine weakT (pt_not h) fun σ H Q h => ?_
  obtain ⟨pi, m, rho, hm, hs, p⟩ := h
  refine ⟨pi, m, rho, hm, hs, (PostT.bindT p).mono fun b H1 h1 => ?_⟩
  obtain ⟨pi1, m1, st1, rm1, p1⟩ := h1
  exact p1 H1 pi1 Stp.refl rm1
/-- and, or, not as values: bools -/
def mBl (f : MT) : ME := fun rho m => (f rho m).bind fun p => .ok (.bl p.1, p.2)
def mAndV (f g : ME) : ME := fun rho m => (f rho m).bind fun p => onBl (blOf p.1) fun k => if k = true then g rho p.2 else .ok (.bl false, p.2)
def mOrV (f g : ME) : ME := fun rho m => (f rho m).bind fun p => onBl (blOf p.1) fun k => if k = true then .ok (.bl true, p.2) else g rho p.2
def mNotV (f : ME) : ME := fun rho m => (f rho m).bind fun p => onBl (blOf p.1) fun k => .ok (.bl (!k), p.2)
theorem m_one {op : BoolOp} {f : ME} (h : ME1 X W a f) : ME1 X W (.BoolOp op [a] pos) f := pe_one h
theorem m_and {rest : List Expr} {f g : ME} (ha : ME1 X W a f) (hb : ME1 X W (.BoolOp .And (b :: rest) pos) g) : ME1 X W (.BoolOp .And (a :: b :: rest) pos) (mAndV f g) := by
  refine weak (pe_and ha hb) fun σ H Q h => ?_
  obtain ⟨pi, m, rho, hm, hs, p⟩ := h
  refine ⟨pi, m, rho, hm, hs, (PostV.bind p).mono fun x H1 h1 => ?_⟩
  obtain ⟨pi1, m1, d, st1, rm1, rx, p1⟩ := h1
  cases h : blOf d with
  | none =>
    simp only [h] at p1
    exact p1.elim
  | some k =>
    simp only [h, onBl] at p1
    refine ⟨k, rep_bl rx h, ?_⟩
    cases k with
    | true =>
      rw [if_pos rfl] at p1 ⊢
      exact ⟨pi1, m1, rho, rm1, hs.mono st1, p1⟩
    | false =>
      rw [if_neg Bool.false_ne_true] at p1 ⊢
      exact p1.here rm1 (by simp only [Rep])
theorem m_or {rest : List Expr} {f g : ME} (ha : ME1 X W a f) (hb : ME1 X W (.BoolOp .Or (b :: rest) pos) g) : ME1 X W (.BoolOp .Or (a :: b :: rest) pos) (mOrV f g) := by
  refine weak (pe_or ha hb) fun σ H Q h => ?_
  obtain ⟨pi, m, rho, hm, hs, p⟩ := h
  refine ⟨pi, m, rho, hm, hs, (PostV.bind p).mono fun x H1 h1 => ?_⟩
  obtain ⟨pi1, m1, d, st1, rm1, rx, p1⟩ := h1
  cases h : blOf d with
  | none =>
    simp only [h] at p1
    exact p1.elim
  | some k =>
    simp only [h, onBl] at p1
    refine ⟨k, rep_bl rx h, ?_⟩
    cases k with
    | true =>
      rw [if_pos rfl] at p1 ⊢
      exact p1.here rm1 (by simp only [Rep])
    | false =>
      rw [if_neg Bool.false_ne_true] at p1 ⊢
      exact ⟨pi1, m1, rho, rm1, hs.mono st1, p1⟩
theorem m_not {f : ME} (h : ME1 X W a f) : ME1 X W (.UnaryOp .Not a pos) (mNotV f) := by
  refine weak (pe_not h) fun σ H Q h => ?_
  obtain ⟨pi, m, rho, hm, hs, p⟩ := h
  refine ⟨pi, m, rho, hm, hs, (PostV.bind p).mono fun x H1 h1 => ?_⟩
  obtain ⟨pi1, m1, d, st1, rm1, rx, p1⟩ := h1
  cases h : blOf d with
  | none =>
    simp only [h] at p1
    exact p1.elim
  | some k =>
    simp only [h, onBl] at p1
    exact ⟨k, rep_bl rx h, p1.here rm1 (by simp only [Rep])⟩
theorem m_if {t : MT} {f g : ME} (hc : MT1 X W c t) (ha : ME1 X W a f) (hb : ME1 X W b g) : ME1 X W (.IfExp c a b pos) (mIf t f g) := by
  refine weak (pe_ifExp hc ha hb) fun σ H Q h => ?_
  obtain ⟨pi, m, rho, hm, hs, p⟩ := h
  refine ⟨pi, m, rho, hm, hs, (PostT.bindV p).mono fun b H1 h1 => ?_⟩
  obtain ⟨pi1, m1, st1, rm1, p1⟩ := h1
  cases b with
  | true =>
    rw [if_pos rfl] at p1 ⊢
    exact ⟨pi1, m1, rho, rm1, hs.mono st1, p1⟩
  | false =>
    rw [if_neg Bool.false_ne_true] at p1 ⊢
    exact ⟨pi1, m1, rho, rm1, hs.mono st1, p1⟩

/-! ### arguments, displays -/
def mNil : MA := fun _ m => .ok ([], m)
def mCons (f : ME) (g : MA) : MA := fun rho m => (f rho m).bind fun p => (g rho p.2).bind fun q => .ok (p.1 :: q.1, q.2)
theorem PostA.mono {K : PySem.W.Frag} {mg : Str → Option Value} {E : XK} {H : Hp} {pi : List Addr} {Q Q' : List V → Hp → Prop} {r : R (List D × List O)} (h : PostA K mg E H pi Q r) (q : ∀ v H', Q v H' → Q' v H') : PostA K mg E H pi Q' r := by
  match r, h with
  | .ok (d, m), h => exact fun v H' pi' t a b => q _ _ (h v H' pi' t a b)
  | .er x m, h => exact h
theorem a_nil : MA1 X W [] mNil := by
  refine weakA pa_nil fun σ H Q h => ?_
  obtain ⟨pi, m, rho, hm, hs, p⟩ := h
  exact p [] H pi Stp.refl hm reps_nil
theorem a_cons {es : List Expr} {f : ME} {g : MA} (ha : ME1 X W e f) (hr : MA1 X W es g) (hs : starEach (e :: es) X.env = (false, eval e X.env) :: starEach es X.env := by rfl) : MA1 X W (e :: es) (mCons f g) := by
  refine weakA (pa_cons ha hr hs) fun σ H Q h => ?_
  obtain ⟨pi, m, rho, hm, hs, p⟩ := h
  refine ⟨pi, m, rho, hm, hs, (PostV.bindA p).mono fun x H1 h1 => ?_⟩
  obtain ⟨pi1, m1, d, st1, rm1, rx, p1⟩ := h1
  refine ⟨pi1, m1, rho, rm1, hs.mono st1, (PostA.bindA p1).mono fun xs H2 h2 => ?_⟩
  obtain ⟨pi2, m2, ds, st2, rm2, rxs, p2⟩ := h2
  exact p2 (x :: xs) H2 pi2 Stp.refl rm2 (reps_cons (Rep.mono st2 _ _ rx) rxs)
theorem stp_new {H : Hp} {pi : List Addr} {p : Addr} {o : HO} (n : H p = none) : Stp H pi (upd H p o) pi where
  pre := ⟨[], by simp⟩
  keep := fun a u h _ => by rw [upd_ne (ne_of_none h n)]; exact h
  tup := fun a xs h => by rw [upd_ne (ne_of_none h n)]; exact h
  frz := fun a b u h => by rw [upd_ne (ne_of_none h n)]; exact h
  new := fun a h n => absurd h n
theorem RepO.mono {K : PySem.W.Frag} {mg : Str → Option Value} {H H1 : Hp} {pi pi1 : List Addr} {a : Addr} {o : O} (s : Stp H pi H1 pi1) (k : H1 a = H a) (h : RepO K mg H pi a o) : RepO K mg H1 pi1 a o := by
  cases o with
  | lst ds =>
    obtain ⟨vs, e, r⟩ := h
    exact ⟨vs, k.trans e, Reps.mono s _ _ r⟩
  | ins c ns ds =>
    obtain ⟨C, dx, fv, g, e, en, r⟩ := h
    exact ⟨C, dx, fv, g, k.trans e, en, Reps.mono s _ _ r⟩
  | dic ks ds =>
    obtain ⟨es, ep, ns, kv, vs, e, hn, ok, r1, r2⟩ := h
    exact ⟨es, ep, ns, kv, vs, k.trans e, hn, ok, Reps.mono s _ _ r1, Reps.mono s _ _ r2⟩
  | nst ds =>
    obtain ⟨vs, e, r⟩ := h
    exact ⟨vs, k.trans e, Reps.mono s _ _ r⟩
  | nin c ns ds =>
    obtain ⟨C, dx, fv, g, e, en, r⟩ := h
    exact ⟨C, dx, fv, g, k.trans e, en, Reps.mono s _ _ r⟩
  | ndc ks ds =>
    obtain ⟨es, ep, ns, kv, vs, e, hn, ok, r1, r2⟩ := h
    exact ⟨es, ep, ns, kv, vs, k.trans e, hn, ok, Reps.mono s _ _ r1, Reps.mono s _ _ r2⟩
  | dead =>
    obtain ⟨u, e, h1, h2⟩ := h
    exact ⟨u, k.trans e, h1, h2⟩
theorem RepO.some {K : PySem.W.Frag} {mg : Str → Option Value} {H : Hp} {pi : List Addr} {a : Addr} {o : O} (h : RepO K mg H pi a o) : ∃ u, H a = some u ∧ (∀ xs, u ≠ .tup xs) ∧ (∀ b v, u ≠ .frz b v) := by
  cases o with
  | lst ds =>
    obtain ⟨vs, e, r⟩ := h
    exact ⟨_, e, ⟨(fun xs z => nomatch z), (fun b v z => nomatch z)⟩⟩
  | ins c ns ds =>
    obtain ⟨C, dx, fv, g, e, en, r⟩ := h
    exact ⟨_, e, ⟨(fun xs z => nomatch z), (fun b v z => nomatch z)⟩⟩
  | dic ks ds =>
    obtain ⟨es, ep, ns, kv, vs, e, _⟩ := h
    exact ⟨_, e, ⟨(fun xs z => by unfold DicE at z; cases z), (fun b v z => by unfold DicE at z; cases z)⟩⟩
  | nst ds =>
    obtain ⟨vs, e, r⟩ := h
    exact ⟨_, e, ⟨(fun xs z => nomatch z), (fun b v z => nomatch z)⟩⟩
  | nin c ns ds =>
    obtain ⟨C, dx, fv, g, e, en, r⟩ := h
    exact ⟨_, e, ⟨(fun xs z => nomatch z), (fun b v z => nomatch z)⟩⟩
  | ndc ks ds =>
    obtain ⟨es, ep, ns, kv, vs, e, _⟩ := h
    exact ⟨_, e, ⟨(fun xs z => by unfold DicE at z; cases z), (fun b v z => by unfold DicE at z; cases z)⟩⟩
  | dead => exact h
theorem RepM.at_some {K : PySem.W.Frag} {mg : Str → Option Value} {H : Hp} {pi : List Addr} {m : List O} (h : RepM K mg H pi m) {a : Addr} (ha : a ∈ pi) : ∃ u, H a = some u ∧ (∀ xs, u ≠ .tup xs) ∧ (∀ b v, u ≠ .frz b v) := by
  obtain ⟨l, hl, e⟩ := List.getElem_of_mem ha
  have hl2 : l < m.length := h.len ▸ hl
  exact (h.at_ l a m[l] (by rw [List.getElem?_eq_getElem hl, e]) (List.getElem?_eq_getElem hl2)).some
theorem RepM.fresh {K : PySem.W.Frag} {mg : Str → Option Value} {H : Hp} {pi : List Addr} {m : List O} (h : RepM K mg H pi m) {p : Addr} (n : H p = none) : p ∉ pi := fun hp => by
  obtain ⟨u, e, _⟩ := h.at_some hp
  rw [n] at e
  cases e
theorem RepM.new {K : PySem.W.Frag} {mg : Str → Option Value} {H : Hp} {pi : List Addr} {m : List O} (h : RepM K mg H pi m) {p : Addr} {o : HO} (n : H p = none) : RepM K mg (upd H p o) pi m :=
  ⟨h.len, h.nd, h.fz, fun l a u ha hu => RepO.mono (stp_new n) (upd_ne fun z => h.fresh n (z ▸ List.mem_of_getElem? ha)) (h.at_ l a u ha hu)⟩
def small : Nat := 100000
theorem sz {n : Nat} (h : n ≤ small) : n ≤ sizeLine := Nat.le_trans h (by decide)
theorem sz1 {n : Nat} (h : n < small) : n < sizeLine := Nat.lt_of_lt_of_le h (by decide)
def mTup (f : MA) : ME := fun rho m => (f rho m).bind fun p => if p.1.length ≤ small then .ok (.tup p.1, p.2) else .bad
theorem m_tup {es : List Expr} {f : MA} {x1} (h : MA1 X W es f) : ME1 X W (.Tuple es x1 pos) (mTup f) := by
  refine weak (pe_tup h) fun σ H Q h => ?_
  obtain ⟨pi, m, rho, hm, hs, p⟩ := h
  refine ⟨pi, m, rho, hm, hs, (PostA.bindV p).mono fun xs H1 h1 => ?_⟩
  obtain ⟨pi1, m1, ds, st1, rm1, r, p1⟩ := h1
  by_cases hl : ds.length ≤ small
  · rw [if_pos hl] at p1
    refine ⟨sz (r.length ▸ hl), fun q n => ?_⟩
    exact p1 (.ref q) _ pi1 (stp_new n) (rm1.new n) (by simp only [Rep]; exact ⟨q, xs, rfl, SqT.of upd_same, Reps.mono (stp_new n) _ _ r⟩)
  · rw [if_neg hl] at p1
    exact p1.elim
/-- a new list: it stands in the store, at its end -/
theorem RepM.alloc {K : PySem.W.Frag} {mg : Str → Option Value} {H : Hp} {pi : List Addr} {m : List O} (h : RepM K mg H pi m) {p : Addr} {o : HO} {u : O} (n : H p = none) (hf : u.fz = true) (hu : RepO K mg (upd H p o) (pi ++ [p]) p u) :
    Stp H pi (upd H p o) (pi ++ [p]) ∧ RepM K mg (upd H p o) (pi ++ [p]) (m ++ [u]) := by
  have st : Stp H pi (upd H p o) (pi ++ [p]) := {
    pre := ⟨[p], rfl⟩
    keep := fun a u h _ => by rw [upd_ne (ne_of_none h n)]; exact h
    tup := fun a xs h => by rw [upd_ne (ne_of_none h n)]; exact h
    frz := fun a b u h => by rw [upd_ne (ne_of_none h n)]; exact h
    new := fun a h1 n1 => by
      rcases List.mem_append.mp h1 with h1 | h1
      · exact absurd h1 n1
      · rw [(List.mem_singleton.mp h1 :)]
        exact n }
  refine ⟨st, by rw [List.length_append, List.length_append, h.len]; rfl, ?_, fun l o ho => ?_, fun l a o ha ho => ?_⟩
  · rw [List.nodup_append]
    exact ⟨h.nd, by simp, fun x hx y hy => by
      rw [List.mem_singleton.mp hy]
      exact fun z => h.fresh n (z ▸ hx)⟩
  · by_cases hl : l < m.length
    · rw [List.getElem?_append_left hl] at ho
      exact h.fz l o ho
    · have hl2 : l = m.length := by
        have := (List.getElem?_eq_some_iff.mp ho).1
        rw [List.length_append, List.length_singleton] at this
        omega
      rw [hl2, List.getElem?_append_right (Nat.le_refl _), Nat.sub_self] at ho
      have : u = o := Option.some.inj ho
      exact this ▸ hf
  · by_cases hl : l < m.length
    · rw [List.getElem?_append_left hl] at ho
      rw [List.getElem?_append_left (by rw [h.len]; exact hl)] at ha
      exact RepO.mono st (upd_ne fun z => h.fresh n (z ▸ List.mem_of_getElem? ha)) (h.at_ l a o ha ho)
    · have hl2 : l = m.length := by
        have := (List.getElem?_eq_some_iff.mp ho).1
        rw [List.length_append, List.length_singleton] at this
        omega
      rw [hl2, List.getElem?_append_right (Nat.le_refl _), Nat.sub_self] at ho
      rw [hl2, ← h.len, List.getElem?_append_right (Nat.le_refl _), Nat.sub_self] at ha
      have e1 : u = o := Option.some.inj ho
      have e2 : p = a := Option.some.inj ha
      exact e1 ▸ e2 ▸ hu
def mNew (f : MA) : ME := fun rho m => (f rho m).bind fun p => if p.1.length ≤ small ∧ fzs p.1 = true then .ok (.loc p.2.length, p.2 ++ [.lst p.1]) else .bad
theorem last_get {α : Type} (xs : List α) (x : α) : (xs ++ [x])[xs.length]? = some x := by simp
theorem m_new {es : List Expr} {f : MA} (h : MA1 X W es f) : ME1 X W (.List es pos) (mNew f) := by
  refine weak (pe_lst h) fun σ H Q h => ?_
  obtain ⟨pi, m, rho, hm, hs, p⟩ := h
  refine ⟨pi, m, rho, hm, hs, (PostA.bindV p).mono fun xs H1 h1 => ?_⟩
  obtain ⟨pi1, m1, ds, st1, rm1, r, p1⟩ := h1
  by_cases hl : ds.length ≤ small ∧ fzs ds = true
  · rw [if_pos hl] at p1
    refine ⟨sz (r.length ▸ hl.1), fun q n => ?_⟩
    have st0 : Stp H1 pi1 (upd H1 q (.lst xs)) (pi1 ++ [q]) := {
      pre := ⟨[q], rfl⟩
      keep := fun a u h _ => by rw [upd_ne (ne_of_none h n)]; exact h
      tup := fun a xs h => by rw [upd_ne (ne_of_none h n)]; exact h
      frz := fun a b u h => by rw [upd_ne (ne_of_none h n)]; exact h
      new := fun a h1 n1 => by
        rcases List.mem_append.mp h1 with h1 | h1
        · exact absurd h1 n1
        · rw [(List.mem_singleton.mp h1 :)]
          exact n }
    obtain ⟨st, rm⟩ := rm1.alloc (o := .lst xs) (u := .lst ds) n hl.2 ⟨xs, upd_same, Reps.mono st0 _ _ r⟩
    exact p1 (.ref q) _ _ st rm (by simp only [Rep]; exact ⟨q, rfl, by rw [← rm1.len]; exact last_get _ _⟩)
  · rw [if_neg hl] at p1
    exact p1.elim
/-- what stands last in the store is taken out of it: nothing changes it any more -/
def mFrz (f : ME) : ME := fun rho m => (f rho m).bind fun p => match p.1 with
  | .loc l => if m.length ≤ l ∧ l + 1 = p.2.length ∧ goOk l l m p.2 = true then (match p.2[l]? with
    | some (.lst ds) => .ok (.lst ds, p.2.take l)
    | some (.ins c ns ds) => .ok (.ins c ns ds, p.2.take l)
    | some (.dic ks ds) => .ok (.dic ks ds, p.2.take l)
    | _ => .bad) else .bad
  | _ => .bad
mutual
theorem Rep.cut {K : PySem.W.Frag} {mg : Str → Option Value} {H : Hp} {pi pi' : List Addr} (hp : ∀ a, a ∈ pi' → a ∈ pi) : ∀ (d : D) (v : V), d.fz = true → Rep K mg H pi d v → Rep K mg H pi' d v
  | .non, v, f, h => by simpa only [Rep] using h
  | .bl b, v, f, h => by simpa only [Rep] using h
  | .int i, v, f, h => by simpa only [Rep] using h
  | .str x, v, f, h => by simpa only [Rep] using h
  | .tup ds, v, f, h => by
    simp only [Rep] at h ⊢
    simp only [D.fz] at f
    obtain ⟨a, vs, e, q, r⟩ := h
    exact ⟨a, vs, e, q, Reps.cut hp ds vs f r⟩
  | .lst ds, v, f, h => by
    simp only [Rep] at h ⊢
    simp only [D.fz] at f
    obtain ⟨a, vs, e, n, q, r⟩ := h
    exact ⟨a, vs, e, fun z => n (hp a z), q, Reps.cut hp ds vs f r⟩
  | .scr ds, v, f, h => by
    simp only [Rep] at h ⊢
    simp only [D.fz] at f
    obtain ⟨a, vs, e, q, r⟩ := h
    exact ⟨a, vs, e, q, Reps.cut hp ds vs f r⟩
  | .ins c ns ds, v, f, h => by
    simp only [Rep] at h ⊢
    simp only [D.fz] at f
    obtain ⟨a, C, dx, fv, e, n, g, q, en, r⟩ := h
    exact ⟨a, C, dx, fv, e, fun z => n (hp a z), g, q, en, Reps.cut hp ds _ f r⟩
  | .exc c ns ds, v, f, h => by
    simp only [Rep] at h ⊢
    simp only [D.fz] at f
    obtain ⟨a, C, d, fv, e, n, g, q, k, en, r⟩ := h
    exact ⟨a, C, d, fv, e, fun z => n (hp a z), g, q, k.imp id fun ⟨dx, e1, n1, q1⟩ => ⟨dx, e1, fun z => n1 (hp dx z), q1⟩, en, Reps.cut hp ds _ f r⟩
  | .dic ks ds, v, f, h => by
    simp only [Rep] at h ⊢
    simp only [D.fz, Bool.and_eq_true] at f
    obtain ⟨a, es, ep, ns, kv, vs, e, n, q, hn, ok, r1, r2⟩ := h
    exact ⟨a, es, ep, ns, kv, vs, e, fun z => n (hp a z), q, hn, ok, Reps.cut hp ks kv f.1 r1, Reps.cut hp ds vs f.2 r2⟩
  | .loc l, v, f, h => by simp [D.fz] at f
theorem Reps.cut {K : PySem.W.Frag} {mg : Str → Option Value} {H : Hp} {pi pi' : List Addr} (hp : ∀ a, a ∈ pi' → a ∈ pi) : ∀ (ds : List D) (vs : List V), fzs ds = true → Reps K mg H pi ds vs → Reps K mg H pi' ds vs
  | [], vs, f, h => by simpa only [Reps] using h
  | d :: ds, vs, f, h => by
    simp only [Reps] at h ⊢
    simp only [fzs, Bool.and_eq_true] at f
    obtain ⟨v, r, e, a, b⟩ := h
    exact ⟨v, r, e, Rep.cut hp d v f.1 a, Reps.cut hp ds r f.2 b⟩
end
mutual
theorem Rep.bel {K : PySem.W.Frag} {mg : Str → Option Value} {H : Hp} {pi : List Addr} : ∀ (d : D) (v : V), Rep K mg H pi d v → d.bel pi.length = true
  | .non, v, h => rfl
  | .bl b, v, h => rfl
  | .int i, v, h => rfl
  | .str x, v, h => rfl
  | .tup ds, v, h => by
    simp only [Rep] at h
    obtain ⟨a, vs, e, q, r⟩ := h
    simp only [D.bel]
    exact Reps.bel ds vs r
  | .lst ds, v, h => by
    simp only [Rep] at h
    obtain ⟨a, vs, e, n, q, r⟩ := h
    simp only [D.bel]
    exact Reps.bel ds vs r
  | .scr ds, v, h => by
    simp only [Rep] at h
    obtain ⟨a, vs, e, q, r⟩ := h
    simp only [D.bel]
    exact Reps.bel ds vs r
  | .ins c ns ds, v, h => by
    simp only [Rep] at h
    obtain ⟨a, C, dx, fv, e, n, g, q, en, r⟩ := h
    simp only [D.bel]
    exact Reps.bel ds _ r
  | .exc c ns ds, v, h => by
    simp only [Rep] at h
    obtain ⟨a, C, d, fv, e, n, g, q, k, en, r⟩ := h
    simp only [D.bel]
    exact Reps.bel ds _ r
  | .dic ks ds, v, h => by
    simp only [Rep] at h
    obtain ⟨a, es, ep, ns, kv, vs, e, n, q, hn, ok, r1, r2⟩ := h
    simp only [D.bel, Reps.bel ks kv r1, Reps.bel ds vs r2, Bool.and_self]
  | .loc l, v, h => by
    simp only [Rep] at h
    obtain ⟨a, e, q⟩ := h
    simp only [D.bel]
    exact decide_eq_true (List.getElem?_eq_some_iff.mp q).1
theorem Reps.bel {K : PySem.W.Frag} {mg : Str → Option Value} {H : Hp} {pi : List Addr} : ∀ (ds : List D) (vs : List V), Reps K mg H pi ds vs → bels pi.length ds = true
  | [], vs, h => rfl
  | d :: ds, vs, h => by
    simp only [Reps] at h
    obtain ⟨v, r, e, a, b⟩ := h
    simp only [bels, Rep.bel d v a, Reps.bel ds r b, Bool.and_self]
end
mutual
theorem bel_le {n n' : Nat} (hn : n ≤ n') : ∀ d : D, d.bel n = true → d.bel n' = true
  | .non, h => rfl
  | .bl b, h => rfl
  | .int i, h => rfl
  | .str x, h => rfl
  | .tup ds, h => by simp only [D.bel] at h ⊢; exact bels_le hn ds h
  | .lst ds, h => by simp only [D.bel] at h ⊢; exact bels_le hn ds h
  | .scr ds, h => by simp only [D.bel] at h ⊢; exact bels_le hn ds h
  | .ins c ns ds, h => by simp only [D.bel] at h ⊢; exact bels_le hn ds h
  | .exc c ns ds, h => by simp only [D.bel] at h ⊢; exact bels_le hn ds h
  | .dic ks ds, h => by
    simp only [D.bel, Bool.and_eq_true] at h ⊢
    exact ⟨bels_le hn ks h.1, bels_le hn ds h.2⟩
  | .loc l, h => by
    simp only [D.bel, decide_eq_true_eq] at h ⊢
    omega
theorem bels_le {n n' : Nat} (hn : n ≤ n') : ∀ ds : List D, bels n ds = true → bels n' ds = true
  | [], h => rfl
  | d :: ds, h => by
    simp only [bels, Bool.and_eq_true] at h ⊢
    exact ⟨bel_le hn d h.1, bels_le hn ds h.2⟩
end
mutual
theorem Rep.cutB {K : PySem.W.Frag} {mg : Str → Option Value} {H : Hp} {pi : List Addr} {n : Nat} : ∀ (d : D) (v : V), d.bel n = true → Rep K mg H pi d v → Rep K mg H (pi.take n) d v
  | .non, v, f, h => by simpa only [Rep] using h
  | .bl b, v, f, h => by simpa only [Rep] using h
  | .int i, v, f, h => by simpa only [Rep] using h
  | .str x, v, f, h => by simpa only [Rep] using h
  | .tup ds, v, f, h => by
    simp only [Rep] at h ⊢
    simp only [D.bel] at f
    obtain ⟨a, vs, e, q, r⟩ := h
    exact ⟨a, vs, e, q, Reps.cutB ds vs f r⟩
  | .lst ds, v, f, h => by
    simp only [Rep] at h ⊢
    simp only [D.bel] at f
    obtain ⟨a, vs, e, q, p, r⟩ := h
    exact ⟨a, vs, e, fun z => q (List.mem_of_mem_take z), p, Reps.cutB ds vs f r⟩
  | .scr ds, v, f, h => by
    simp only [Rep] at h ⊢
    simp only [D.bel] at f
    obtain ⟨a, vs, e, q, r⟩ := h
    exact ⟨a, vs, e, q, Reps.cutB ds vs f r⟩
  | .ins c ns ds, v, f, h => by
    simp only [Rep] at h ⊢
    simp only [D.bel] at f
    obtain ⟨a, C, dx, fv, e, q, g, p, en, r⟩ := h
    exact ⟨a, C, dx, fv, e, fun z => q (List.mem_of_mem_take z), g, p, en, Reps.cutB ds _ f r⟩
  | .exc c ns ds, v, f, h => by
    simp only [Rep] at h ⊢
    simp only [D.bel] at f
    obtain ⟨a, C, d, fv, e, q, g, p, k, en, r⟩ := h
    exact ⟨a, C, d, fv, e, fun z => q (List.mem_of_mem_take z), g, p, k.imp id fun ⟨dx, e1, n1, q1⟩ => ⟨dx, e1, fun z => n1 (List.mem_of_mem_take z), q1⟩, en, Reps.cutB ds _ f r⟩
  | .dic ks ds, v, f, h => by
    simp only [Rep] at h ⊢
    simp only [D.bel, Bool.and_eq_true] at f
    obtain ⟨a, es, ep, ns, kv, vs, e, q, p, hn, ok, r1, r2⟩ := h
    exact ⟨a, es, ep, ns, kv, vs, e, fun z => q (List.mem_of_mem_take z), p, hn, ok, Reps.cutB ks kv f.1 r1, Reps.cutB ds vs f.2 r2⟩
  | .loc l, v, f, h => by
    simp only [Rep] at h ⊢
    simp only [D.bel, decide_eq_true_eq] at f
    obtain ⟨a, e, q⟩ := h
    exact ⟨a, e, by rw [List.getElem?_take, if_pos f]; exact q⟩
theorem Reps.cutB {K : PySem.W.Frag} {mg : Str → Option Value} {H : Hp} {pi : List Addr} {n : Nat} : ∀ (ds : List D) (vs : List V), bels n ds = true → Reps K mg H pi ds vs → Reps K mg H (pi.take n) ds vs
  | [], vs, f, h => by simpa only [Reps] using h
  | d :: ds, vs, f, h => by
    simp only [Reps] at h ⊢
    simp only [bels, Bool.and_eq_true] at f
    obtain ⟨v, r, e, a, b⟩ := h
    exact ⟨v, r, e, Rep.cutB d v f.1 a, Reps.cutB ds r f.2 b⟩
end
theorem RepM.cut {K : PySem.W.Frag} {mg : Str → Option Value} {H H0 : Hp} {pi pi0 : List Addr} {m m0 : List O} (h : RepM K mg H pi m) (h0 : RepM K mg H0 pi0 m0) (n : Nat) (hn : pi0.length ≤ n) (ok : cutOk m0 m n = true) : RepM K mg H (pi.take n) (m.take n) := by
  refine ⟨by rw [List.length_take, List.length_take, h.len], h.nd.sublist (List.take_sublist n pi), fun l o ho => ?_, fun l a o ha ho => ?_⟩
  · rw [List.getElem?_take] at ho
    split at ho
    · exact h.fz l o ho
    · cases ho
  · by_cases hl0 : m.length ≤ n
    · have e1 : pi.take n = pi := List.take_of_length_le (by rw [h.len]; exact hl0)
      have e2 : m.take n = m := List.take_of_length_le hl0
      rw [e1] at ha ⊢
      rw [e2] at ho
      exact h.at_ l a o ha ho
    have ok' : goOk n n m0 m = true := by
      unfold cutOk at ok
      rw [decide_eq_false hl0, Bool.false_or] at ok
      exact ok
    rw [List.getElem?_take] at ha ho
    split at ha
    · rename_i hl
      rw [if_pos hl] at ho
      have f := h.fz l o ho
      have r := h.at_ l a o ha ho
      have q := goOk_at n m0 m l o ok' hl ho
      have hp : ∀ a, a ∈ pi.take n → a ∈ pi := fun a z => List.mem_of_mem_take z
      have old : ∀ u, m0[l]? = some u → ∃ b, pi0[l]? = some b ∧ RepO K mg H0 pi0 b u := fun u hu => by
        have hlt : l < pi0.length := by rw [h0.len]; exact (List.getElem?_eq_some_iff.mp hu).1
        exact ⟨_, List.getElem?_eq_getElem hlt, h0.at_ l _ u (List.getElem?_eq_getElem hlt) hu⟩
      cases o with
      | nst ds =>
        obtain ⟨vs, e, r⟩ := r
        have hb : bels n ds = true := by
          simp only [okAt, Bool.or_eq_true] at q
          rcases q with q | q
          · exact q
          · cases hu : m0[l]? with
            | none => rw [hu] at q; cases q
            | some u =>
              rw [hu] at q
              obtain rfl := sameO_eq q
              obtain ⟨b, _, _, _, r0⟩ := old _ hu
              exact bels_le hn ds (Reps.bel _ _ r0)
        exact ⟨vs, e, Reps.cutB _ _ hb r⟩
      | nin c ns ds =>
        obtain ⟨C, dx, fv, g, e, en, r⟩ := r
        have hb : bels n ds = true := by
          simp only [okAt, Bool.or_eq_true] at q
          rcases q with q | q
          · exact q
          · cases hu : m0[l]? with
            | none => rw [hu] at q; cases q
            | some u =>
              rw [hu] at q
              obtain rfl := sameO_eq q
              obtain ⟨b, _, _, _, _, _, _, _, r0⟩ := old _ hu
              exact bels_le hn ds (Reps.bel _ _ r0)
        exact ⟨C, dx, fv, g, e, en, Reps.cutB _ _ hb r⟩
      | ndc ks ds =>
        obtain ⟨es, ep, ns, kv, vs, e, hk, ok2, r1, r2⟩ := r
        have hb : bels n ds = true := by
          simp only [okAt, Bool.or_eq_true] at q
          rcases q with q | q
          · exact q
          · cases hu : m0[l]? with
            | none => rw [hu] at q; cases q
            | some u =>
              rw [hu] at q
              obtain rfl := sameO_eq q
              obtain ⟨b, _, _, _, _, _, _, _, _, _, _, r0⟩ := old _ hu
              exact bels_le hn ds (Reps.bel _ _ r0)
        exact ⟨es, ep, ns, kv, vs, e, hk, ok2, Reps.cut hp _ _ f r1, Reps.cutB _ _ hb r2⟩
      | lst ds =>
        obtain ⟨vs, e, r⟩ := r
        exact ⟨vs, e, Reps.cut hp _ _ f r⟩
      | ins c ns ds =>
        obtain ⟨C, dx, fv, g, e, en, r⟩ := r
        exact ⟨C, dx, fv, g, e, en, Reps.cut hp _ _ f r⟩
      | dic ks ds =>
        obtain ⟨es, ep, ns, kv, vs, e, hn, ok, r1, r2⟩ := r
        have f : (fzs ks && fzs ds) = true := f
        rw [Bool.and_eq_true] at f
        exact ⟨es, ep, ns, kv, vs, e, hn, ok, Reps.cut hp _ _ f.1 r1, Reps.cut hp _ _ f.2 r2⟩
      | dead => exact r
    · cases ha
/-- the store falls back to an earlier length -/
theorem Stp.cut {H H1 : Hp} {pi pi1 : List Addr} (s : Stp H pi H1 pi1) {n : Nat} (hn : pi.length ≤ n) : Stp H pi H1 (pi1.take n) where
  pre := by
    obtain ⟨r, e⟩ := s.pre
    refine ⟨r.take (n - pi.length), ?_⟩
    rw [e, List.take_append, List.take_of_length_le hn]
  keep := s.keep
  tup := s.tup
  frz := s.frz
  new := fun a h n => s.new a (List.mem_of_mem_take h) n
end
end Mi
namespace Mi
open PySem PySem.Spec L2

/-! ### statements -/
inductive Fl where
  | nx (rho : List (Option D)) (m : List O)
  | rt (d : D) (m : List O)
  | bk (rho : List (Option D)) (m : List O)
  | ct (rho : List (Option D)) (m : List O)
  | er (x : Xn) (rho : List (Option D)) (m : List O)
  | bad
abbrev MS := List (Option D) → List O → Fl
section
variable (K : PySem.W.Frag) (mg : Str → Option Value)
def PostS (W : WX) (Z : Ends) (H : Hp) (pi : List Addr) : Fl → Prop
  | .nx rho m => ∀ σ' H' pi', Stp H pi H' pi' → RepM K mg H' pi' m → RepS K mg H' pi' rho σ' → Z.nx σ' H'
  | .rt d m => ∀ v H' pi', Stp H pi H' pi' → RepM K mg H' pi' m → Rep K mg H' pi' d v → Z.rt v H'
  | .bk rho m => ∀ σ' H' pi', Stp H pi H' pi' → RepM K mg H' pi' m → RepS K mg H' pi' rho σ' → Z.bk σ' H'
  | .ct rho m => ∀ σ' H' pi', Stp H pi H' pi' → RepM K mg H' pi' m → RepS K mg H' pi' rho σ' → Z.ct σ' H'
  | .er x rho m => ∀ c dx σ' H' pi', Stp H pi H' pi' → RepM K mg H' pi' m → RepS K mg H' pi' rho σ' → RepX K mg H' pi' x c dx → W c dx σ' H'
  | .bad => False
def tS (W : WX) (f : MS) : TS := fun Z σ H => ∃ pi m rho, RepM K mg H pi m ∧ RepS K mg H pi rho σ ∧ PostS K mg W Z H pi (f rho m)
end
theorem PostS.from {K : PySem.W.Frag} {mg : Str → Option Value} {W : WX} {Z : Ends} {H H1 : Hp} {pi pi1 : List Addr} {r : Fl} (s : Stp H pi H1 pi1) (h : PostS K mg W Z H pi r) : PostS K mg W Z H1 pi1 r := by
  cases r with
  | nx rho m => exact fun σ' H' pi' t => h σ' H' pi' (s.trans t)
  | rt rho m => exact fun σ' H' pi' t => h σ' H' pi' (s.trans t)
  | bk rho m => exact fun σ' H' pi' t => h σ' H' pi' (s.trans t)
  | ct rho m => exact fun σ' H' pi' t => h σ' H' pi' (s.trans t)
  | er x rho m => exact fun c dx σ' H' pi' t => h c dx σ' H' pi' (s.trans t)
  | bad => exact h
def onR {α : Type} (r : R (α × List O)) (rho : List (Option D)) (k : α → List O → Fl) : Fl := match r with
  | .ok p => k p.1 p.2
  | .er x m => .er x rho m
  | .bad => .bad
@[simp] theorem onR_ok {α : Type} (p : α × List O) (rho : List (Option D)) (k : α → List O → Fl) : onR (.ok p) rho k = k p.1 p.2 := rfl
@[simp] theorem onR_er {α : Type} (x : Xn) (m : List O) (rho : List (Option D)) (k : α → List O → Fl) : onR (.er x m) rho k = .er x rho m := rfl
@[simp] theorem onR_bad {α : Type} (rho : List (Option D)) (k : α → List O → Fl) : onR .bad rho k = .bad := rfl
section
variable {K : PySem.W.Frag} {mg : Str → Option Value} {W : WX} {Z : Ends} {H H1 : Hp} {pi pi1 : List Addr} {σ : L2.St} {rho : List (Option D)}
theorem post_onV {r : RE} {k : D → List O → Fl} (hs : RepS K mg H pi rho σ) (h : PostS K mg W Z H pi (onR r rho k)) :
    PostV K mg (fun c d H' => W c d σ H') H pi (fun v H1 => ∃ pi1 m1 d, Stp H pi H1 pi1 ∧ RepM K mg H1 pi1 m1 ∧ Rep K mg H1 pi1 d v ∧ PostS K mg W Z H1 pi1 (k d m1)) r := by
  match r, h with
  | .ok (d, m), h => exact fun v H' pi' t a b => ⟨pi', m, d, t, a, b, PostS.from t h⟩
  | .er x m, h => exact fun c dx H' pi' t a b => h c dx σ H' pi' t a (hs.mono t) b
theorem post_onT {r : R (Bool × List O)} {k : Bool → List O → Fl} (hs : RepS K mg H pi rho σ) (h : PostS K mg W Z H pi (onR r rho k)) :
    PostT K mg (fun c d H' => W c d σ H') H pi (fun b H1 => ∃ pi1 m1, Stp H pi H1 pi1 ∧ RepM K mg H1 pi1 m1 ∧ PostS K mg W Z H1 pi1 (k b m1)) r := by
  match r, h with
  | .ok (d, m), h => exact fun H' pi' t a => ⟨pi', m, t, a, PostS.from t h⟩
  | .er x m, h => exact fun c dx H' pi' t a b => h c dx σ H' pi' t a (hs.mono t) b
theorem post_onA {r : R (List D × List O)} {k : List D → List O → Fl} (hs : RepS K mg H pi rho σ) (h : PostS K mg W Z H pi (onR r rho k)) :
    PostA K mg (fun c d H' => W c d σ H') H pi (fun vs H1 => ∃ pi1 m1 ds, Stp H pi H1 pi1 ∧ RepM K mg H1 pi1 m1 ∧ Reps K mg H1 pi1 ds vs ∧ PostS K mg W Z H1 pi1 (k ds m1)) r := by
  match r, h with
  | .ok (d, m), h => exact fun v H' pi' t a b => ⟨pi', m, d, t, a, b, PostS.from t h⟩
  | .er x m, h => exact fun c dx H' pi' t a b => h c dx σ H' pi' t a (hs.mono t) b
end

section
variable {X : Cx} {W : WX} {e a b c : Expr} {pos : Pos} {st : Stmt} {rest : List Stmt}
abbrev MS1 (X : Cx) (W : WX) (st : Stmt) (f : MS) : Prop := PS X st (tS X.K X.mg W f)
abbrev MSs (X : Cx) (W : WX) (st : List Stmt) (f : MS) : Prop := PSs X st (tS X.K X.mg W f)
def mSkip : MS := fun rho m => .nx rho m
def mSeq (f g : MS) : MS := fun rho m => match f rho m with
  | .nx rho m => g rho m
  | r => r
def mRet (f : ME) : MS := fun rho m => onR (f rho m) rho fun d m => .rt d m
def mRetN : MS := fun _ m => .rt .non m
def mDo (f : ME) : MS := fun rho m => onR (f rho m) rho fun _ m => .nx rho m
def mIfS (t : MT) (f g : MS) : MS := fun rho m => onR (t rho m) rho fun b m => if b = true then f rho m else g rho m
theorem ss_nil : MSs X W [] mSkip := by
  refine weakSs pss_nil fun σ H Z h => ?_
  obtain ⟨pi, m, rho, hm, hs, p⟩ := h
  exact p σ H pi Stp.refl hm hs
theorem ss_one {f : MS} (h : MS1 X W st f) : MSs X W [st] f := pss_one h
theorem ss_cons {f g : MS} (h : MS1 X W st f) (hr : MSs X W rest g) : MSs X W (st :: rest) (mSeq f g) := by
  refine weakSs (pss_cons h hr) fun σ H Z hh => ?_
  obtain ⟨pi, m, rho, hm, hs, p⟩ := hh
  refine ⟨pi, m, rho, hm, hs, ?_⟩
  unfold mSeq at p
  cases hf : f rho m with
  | nx rho1 m1 =>
    rw [hf] at p
    exact fun σ' H' pi' t a b => ⟨pi', m1, rho1, a, b, PostS.from t p⟩
  | rt d m1 =>
    rw [hf] at p
    exact p
  | bk rho1 m1 =>
    rw [hf] at p
    exact p
  | ct rho1 m1 =>
    rw [hf] at p
    exact p
  | er x rho1 m1 =>
    rw [hf] at p
    exact p
  | bad =>
    rw [hf] at p
    exact p
theorem s_ret {f : ME} (h : ME1 X W e f) : MS1 X W (.Return (some e) pos) (mRet f) := by
  refine weakS (ps_ret h) fun σ H Z hh => ?_
  obtain ⟨pi, m, rho, hm, hs, p⟩ := hh
  refine ⟨pi, m, rho, hm, hs, (post_onV hs p).mono fun v H1 h1 => ?_⟩
  obtain ⟨pi1, m1, d, st1, rm1, r, p1⟩ := h1
  exact p1 v H1 pi1 Stp.refl rm1 r
theorem s_retN : MS1 X W (.Return none pos) mRetN := by
  refine weakS ps_retN fun σ H Z hh => ?_
  obtain ⟨pi, m, rho, hm, hs, p⟩ := hh
  exact p .non H pi Stp.refl hm (by simp only [Rep])
theorem s_pass : MS1 X W (.Pass pos) mSkip := by
  refine weakS ps_pass fun σ H Z hh => ?_
  obtain ⟨pi, m, rho, hm, hs, p⟩ := hh
  exact p σ H pi Stp.refl hm hs
theorem s_do {f : ME} (h : ME1 X W e f) (hs : swapsWith e none pos.line X.env = pure false := by rfl) : MS1 X W (.Expr e pos) (mDo f) := by
  refine weakS (ps_expr h hs) fun σ H Z hh => ?_
  obtain ⟨pi, m, rho, hm, hs, p⟩ := hh
  refine ⟨pi, m, rho, hm, hs, (post_onV hs p).mono fun v H1 h1 => ?_⟩
  obtain ⟨pi1, m1, d, st1, rm1, r, p1⟩ := h1
  exact p1 σ H1 pi1 Stp.refl rm1 (hs.mono st1)
theorem s_if {t : MT} {f g : MS} {x y : List Stmt} (hc : MT1 X W c t) (ha : MSs X W x f) (hb : MSs X W y g) : MS1 X W (.If c x y pos) (mIfS t f g) := by
  refine weakS (ps_if hc ha hb) fun σ H Z hh => ?_
  obtain ⟨pi, m, rho, hm, hs, p⟩ := hh
  refine ⟨pi, m, rho, hm, hs, (post_onT hs p).mono fun b H1 h1 => ?_⟩
  obtain ⟨pi1, m1, st1, rm1, p1⟩ := h1
  cases b with
  | true =>
    rw [if_pos rfl] at p1 ⊢
    exact ⟨pi1, m1, rho, rm1, hs.mono st1, p1⟩
  | false =>
    rw [if_neg Bool.false_ne_true] at p1 ⊢
    exact ⟨pi1, m1, rho, rm1, hs.mono st1, p1⟩

/-! ### targets -/
abbrev MG := D → List (Option D) → Option (List (Option D))
abbrev MGs := List D → List (Option D) → Option (List (Option D))
def gM (K : PySem.W.Frag) (mg : Str → Option Value) (h : MG) : TG := fun v σ H Q => ∃ pi m rho d rho', RepM K mg H pi m ∧ RepS K mg H pi rho σ ∧ Rep K mg H pi d v ∧ h d rho = some rho' ∧ ∀ σ', RepS K mg H pi rho' σ' → Q σ' H
def gMs (K : PySem.W.Frag) (mg : Str → Option Value) (h : MGs) : TGs := fun vs σ H Q => ∃ pi m rho ds rho', RepM K mg H pi m ∧ RepS K mg H pi rho σ ∧ Reps K mg H pi ds vs ∧ h ds rho = some rho' ∧ ∀ σ', RepS K mg H pi rho' σ' → Q σ' H
abbrev MG1 (X : Cx) (e : Expr) (h : MG) : Prop := PG X e (gM X.K X.mg h)
abbrev MG1s (X : Cx) (es : List Expr) (h : MGs) : Prop := PGs X es (gMs X.K X.mg h)
def gSet (i : Nat) : MG := fun d rho => some (rho.set i (some d))
def gsNil : MGs := fun ds rho => match ds with
  | [] => some rho
  | _ => none
def gsCons (g : MG) (gs : MGs) : MGs := fun ds rho => match ds with
  | [] => none
  | d :: ds => (g d rho).bind fun rho => gs ds rho
def gUnp (n : Nat) (gs : MGs) : MG := fun d rho => match d with
  | .tup ds => if ds.length = n then gs ds rho else none
  | _ => none
theorem weakG {t t' : TG} (h : PG X e t) (w : ∀ v σ H Q, t' v σ H Q → t v σ H Q) : PG X e t' := ⟨fun pins s σ H v u Q I r q => h.run pins s σ H v u Q I r (w v σ H Q q)⟩
theorem weakGs {es : List Expr} {t t' : TGs} (h : PGs X es t) (w : ∀ v σ H Q, t' v σ H Q → t v σ H Q) : PGs X es t' := ⟨fun pins s σ H v u Q I r q => h.run pins s σ H v u Q I r (w v σ H Q q)⟩
theorem g_name (i : Nat) {x : Str} (hN : X.N.Nodup) (hi : X.N[i]? = some x := by rfl) (hx : Loc X.env.scope x := by first | exact .inl rfl | exact .inr rfl) (hf : X.fn x = true ∨ X.env.scope.names.lookup x = some .local := by first | exact .inl rfl | exact .inr rfl) : MG1 X (.Name x pos) (gSet i) := by
  refine weakG (pg_name hN hi hx hf) fun v σ H Q h => ?_
  obtain ⟨pi, m, rho, d, rho', hm, hs, hr, e, q⟩ := h
  cases e
  exact q _ (hs.set i hr)
theorem gs_nil : MG1s X [] gsNil := by
  refine weakGs pgs_nil fun v σ H Q h => ?_
  obtain ⟨pi, m, rho, ds, rho', hm, hs, hr, e, q⟩ := h
  cases ds with
  | nil =>
    simp only [Reps] at hr
    cases e
    exact ⟨hr, q _ hs⟩
  | cons d ds => cases e
theorem gs_cons {es : List Expr} {g : MG} {gs : MGs} (h1 : MG1 X e g) (h2 : MG1s X es gs) (hq : (assignEach (e :: es) X.env).map (·.2) = assign e X.env :: (assignEach es X.env).map (·.2) := by rfl) : MG1s X (e :: es) (gsCons g gs) := by
  refine weakGs (pgs_cons h1 h2 hq) fun v σ H Q h => ?_
  obtain ⟨pi, m, rho, ds, rho', hm, hs, hr, e, q⟩ := h
  cases ds with
  | nil => cases e
  | cons d ds =>
    simp only [Reps] at hr
    obtain ⟨v, r, rfl, h1, h2⟩ := hr
    have e : (g d rho).bind (fun rho => gs ds rho) = some rho' := e
    cases hg : g d rho with
    | none =>
      rw [hg] at e
      cases e
    | some rho1 =>
      rw [hg] at e
      exact ⟨v, r, rfl, pi, m, rho, d, rho1, hm, hs, h1, hg, fun σ' hs' => ⟨pi, m, rho1, ds, rho', hm, hs', h2, e, q⟩⟩
theorem g_unp {es : List Expr} {k n : Nat} {gs : MGs} (hc : X.calm = true) (h : MG1s X es gs) (hn : (assignEach es X.env).length = n := by rfl) (hst : (assignEach es X.env).findIdx? (·.1) = none := by rfl) : MG1 X (.Tuple es k pos) (gUnp n gs) := by
  refine weakG (pg_tup hc h hn hst) fun v σ H Q hh => ?_
  obtain ⟨pi, m, rho, d, rho', hm, hs, hr, e, q⟩ := hh
  cases d with
  | tup ds =>
    simp only [Rep] at hr
    obtain ⟨a, vs, rfl, sq, r⟩ := hr
    have e : (if ds.length = n then gs ds rho else none) = some rho' := e
    by_cases hl : ds.length = n
    · rw [if_pos hl] at e
      exact ⟨a, vs, rfl, sq, r.length ▸ hl, pi, m, rho, ds, rho', hm, hs, r, e, q⟩
    · rw [if_neg hl] at e
      cases e
  | _ => cases e
def mAsg (g : MG) (f : ME) : MS := fun rho m => onR (f rho m) rho fun d m => match g d rho with
  | some rho => .nx rho m
  | none => .bad
theorem s_asg {tg : Expr} {g : MG} {f : ME} (he : ME1 X W e f) (hg : MG1 X tg g) (hs : swapsWithSole [tg] e pos.line X.env = pure false := by rfl) (hw : swappedStores [tg] e X.env = pure none := by rfl) (h1 : (assignEach [tg] X.env).map (·.2) = [assign tg X.env] := by rfl) : MS1 X W (.Assign [tg] e pos) (mAsg g f) := by
  refine weakS (ps_asg he hg hs hw h1) fun σ H Z hh => ?_
  obtain ⟨pi, m, rho, hm, hs, p⟩ := hh
  refine ⟨pi, m, rho, hm, hs, (post_onV hs p).mono fun v H1 h1 => ?_⟩
  obtain ⟨pi1, m1, d, st1, rm1, r, p1⟩ := h1
  cases hg : g d rho with
  | none =>
    rw [hg] at p1
    exact p1.elim
  | some rho' =>
    rw [hg] at p1
    exact ⟨pi1, m1, rho, d, rho', rm1, hs.mono st1, r, hg, fun σ' hs' => p1 σ' H1 pi1 Stp.refl rm1 hs'⟩
def mSet (i : Nat) (f : ME) : MS := mAsg (gSet i) f
theorem s_set (i : Nat) {x : Str} {p : Pos} {f : ME} (hN : X.N.Nodup) (he : ME1 X W e f) (hi : X.N[i]? = some x := by rfl) (hx : Loc X.env.scope x := by first | exact .inl rfl | exact .inr rfl) (hf : X.fn x = true ∨ X.env.scope.names.lookup x = some .local := by first | exact .inl rfl | exact .inr rfl)
    (hs : swapsWith e (some (.Name x p)) pos.line X.env = pure false := by rfl) : MS1 X W (.Assign [.Name x p] e pos) (mSet i f) := by
  refine weakS (ps_set hN hi hx he hs hf) fun σ H Z hh => ?_
  obtain ⟨pi, m, rho, hm, hs, p⟩ := hh
  have p : PostS X.K X.mg W Z H pi (onR (f rho m) rho fun d m => .nx (rho.set i (some d)) m) := p
  refine ⟨pi, m, rho, hm, hs, (post_onV hs p).mono fun v H1 h1 => ?_⟩
  obtain ⟨pi1, m1, d, st1, rm1, r, p1⟩ := h1
  exact p1 _ H1 pi1 Stp.refl rm1 ((hs.mono st1).set i r)

/-! ### for -/
structure WalkM (K : PySem.W.Frag) (mg : Str → Option Value) (J : It) (ds : List D) (H : Hp) (pi : List Addr) : Prop where
  ex : ∃ (G : Hp → Prop) (Y : Nat → Hp → V → Hp → Prop), Walk J ds.length G Y ∧ (∀ H2 pi2 m, Stp H pi H2 pi2 → RepM K mg H2 pi2 m → G H2) ∧
    (∀ i H2 pi2 m x H3, Stp H pi H2 pi2 → RepM K mg H2 pi2 m → Y i H2 x H3 → ∃ d, ds[i]? = some d ∧ Stp H2 pi2 H3 pi2 ∧ RepM K mg H3 pi2 m ∧ Rep K mg H3 pi2 d x)
def PostI (K : PySem.W.Frag) (mg : Str → Option Value) (E : XK) (H : Hp) (pi : List Addr) (Q : It → Hp → Prop) : R (List D × List O) → Prop
  | .ok (ds, m) => ∀ J H' pi', Stp H pi H' pi' → RepM K mg H' pi' m → WalkM K mg J ds H' pi' → Q J H'
  | .er x m => ∀ c dx H' pi', Stp H pi H' pi' → RepM K mg H' pi' m → RepX K mg H' pi' x c dx → E c dx H'
  | .bad => False
def tI (K : PySem.W.Frag) (mg : Str → Option Value) (W : WX) (f : MA) : TI := fun σ H Q => ∃ pi m rho, RepM K mg H pi m ∧ RepS K mg H pi rho σ ∧ PostI K mg (fun c d H' => W c d σ H') H pi Q (f rho m)
abbrev MI1 (X : Cx) (W : WX) (tg e : Expr) (f : MA) : Prop := PI X tg e (tI X.K X.mg W f)
theorem weakI {tg : Expr} {t t' : TI} (h : PI X tg e t) (w : ∀ σ H Q, t' σ H Q → t σ H Q) : PI X tg e t' := ⟨fun pins s σ H Q I q => h.run pins s σ H Q I (w σ H Q q)⟩
def mForL (g : MG) (b : MS) : List D → MS
  | [], rho, m => .nx rho m
  | d :: ds, rho, m => match g d rho with
    | none => .bad
    | some rho => match b rho m with
      | .nx rho m => mForL g b ds rho m
      | .ct rho m => mForL g b ds rho m
      | .bk rho m => .nx rho m
      | .rt d m => .rt d m
      | .er x rho m => .er x rho m
      | .bad => .bad
def mFor (g : MG) (fi : MA) (b : MS) : MS := fun rho m => onR (fi rho m) rho fun ds m => mForL g b ds rho m
theorem post_onI {K : PySem.W.Frag} {mg : Str → Option Value} {Z : Ends} {H : Hp} {pi : List Addr} {σ : L2.St} {rho : List (Option D)} {r : R (List D × List O)} {k : List D → List O → Fl} (hs : RepS K mg H pi rho σ) (h : PostS K mg W Z H pi (onR r rho k)) :
    PostI K mg (fun c d H' => W c d σ H') H pi (fun J H1 => ∃ pi1 m1 ds, Stp H pi H1 pi1 ∧ RepM K mg H1 pi1 m1 ∧ WalkM K mg J ds H1 pi1 ∧ PostS K mg W Z H1 pi1 (k ds m1)) r := by
  match r, h with
  | .ok (d, m), h => exact fun v H' pi' t a b => ⟨pi', m, d, t, a, b, PostS.from t h⟩
  | .er x m, h => exact fun c dx H' pi' t a b => h c dx σ H' pi' t a (hs.mono t) b
theorem PostI.mono {K : PySem.W.Frag} {mg : Str → Option Value} {E : XK} {H : Hp} {pi : List Addr} {Q Q' : It → Hp → Prop} {r : R (List D × List O)} (h : PostI K mg E H pi Q r) (q : ∀ v H', Q v H' → Q' v H') : PostI K mg E H pi Q' r := by
  match r, h with
  | .ok (d, m), h => exact fun v H' pi' t a b => q _ _ (h v H' pi' t a b)
  | .er x m, h => exact h
theorem s_for {tg iter : Expr} {body : List Stmt} {g : MG} {fi : MA} {b : MS} (hp : PassesOwn (model X.prog X.w) X.A X.env X.xe) (hc : X.calm = true) (hi : MI1 X W tg iter fi) (hg : MG1 X tg g) (hb : MSs X W body b) (hf : ∀ x, foldedSetIterable iter X.env x = pure x := by intro _; rfl) : MS1 X W (.For tg iter body [] pos) (mFor g fi b) := by
  refine weakS (ps_for hp hc hi hg hb hf) fun σ H Z hh => ?_
  obtain ⟨pi, m, rho, hm, hs, p⟩ := hh
  refine ⟨pi, m, rho, hm, hs, (post_onI hs p).mono fun J H1 h1 => ?_⟩
  obtain ⟨pi1, m1, ds, st1, rm1, w, p1⟩ := h1
  obtain ⟨G, Y, wk, hG, hY⟩ := w.ex
  refine for_it wk (fun i σ2 H2 => ∃ pi2 m2 rho2, Stp H1 pi1 H2 pi2 ∧ RepM X.K X.mg H2 pi2 m2 ∧ RepS X.K X.mg H2 pi2 rho2 σ2 ∧ PostS X.K X.mg W Z H2 pi2 (mForL g b (ds.drop i) rho2 m2))
    ⟨pi1, m1, rho, Stp.refl, rm1, hs.mono st1, p1⟩ (fun i σ2 H2 hi ⟨pi2, m2, rho2, s2, r2, _, _⟩ => hG H2 pi2 m2 s2 r2) (fun i x σ2 H2 H3 hi ⟨pi2, m2, rho2, s2, r2, e2, p2⟩ hy => ?_) (fun σ2 H2 ⟨pi2, m2, rho2, s2, r2, e2, p2⟩ => ?_)
  · obtain ⟨d, hd, st3, rm3, rx⟩ := hY i H2 pi2 m2 x H3 s2 r2 hy
    have hdr : ds.drop i = d :: ds.drop (i + 1) := by
      obtain ⟨hl, e⟩ := List.getElem?_eq_some_iff.mp hd
      rw [(List.drop_eq_getElem_cons hl :), e]
    rw [hdr] at p2
    simp only [mForL] at p2
    cases hgd : g d rho2 with
    | none =>
      rw [hgd] at p2
      exact p2.elim
    | some rho3 =>
      rw [hgd] at p2
      simp only at p2
      refine ⟨pi2, m2, rho2, d, rho3, rm3, e2.mono st3, rx, hgd, fun σ' hs' => ⟨pi2, m2, rho3, rm3, hs', ?_⟩⟩
      have p3 := PostS.from st3 p2
      cases hb2 : b rho3 m2 with
      | nx rho4 m4 =>
        rw [hb2] at p3
        exact fun σ4 H4 pi4 s4 r4 e4 => ⟨pi4, m4, rho4, (s2.trans st3).trans s4, r4, e4, PostS.from s4 p3⟩
      | ct rho4 m4 =>
        rw [hb2] at p3
        exact fun σ4 H4 pi4 s4 r4 e4 => ⟨pi4, m4, rho4, (s2.trans st3).trans s4, r4, e4, PostS.from s4 p3⟩
      | bk rho4 m4 =>
        rw [hb2] at p3
        exact p3
      | rt d4 m4 =>
        rw [hb2] at p3
        exact p3
      | er x4 rho4 m4 =>
        rw [hb2] at p3
        exact p3
      | bad =>
        rw [hb2] at p3
        exact p3
  · rw [List.drop_length] at p2
    exact p2 σ2 H2 pi2 Stp.refl r2 e2
end
end Mi
namespace Mi
open PySem PySem.Spec L2

/-! ### the store is written -/
theorem RepM.write {K : PySem.W.Frag} {mg : Str → Option Value} {H : Hp} {pi : List Addr} {m : List O} (h : RepM K mg H pi m) {l : Nat} {a : Addr} {o : O} {u : HO} {o' : O} (ha : pi[l]? = some a) (ho : m[l]? = some o)
    (hf : o'.fz = true) (hu : Stp H pi (upd H a u) pi → RepO K mg (upd H a u) pi a o') : Stp H pi (upd H a u) pi ∧ RepM K mg (upd H a u) pi (m.set l o') := by
  obtain ⟨w, e, n1, n2⟩ := (h.at_ l a o ha ho).some
  have ma : a ∈ pi := List.mem_of_getElem? ha
  have st : Stp H pi (upd H a u) pi := {
    pre := ⟨[], by simp⟩
    keep := fun b x hb hn => by rw [upd_ne (fun z => hn (by rw [z]; exact ma))]; exact hb
    tup := fun b xs hb => by
      rw [upd_ne (fun z => ?_)]
      · exact hb
      · subst z
        rw [e] at hb
        exact n1 xs (Option.some.inj hb)
    frz := fun b x y hb => by
      rw [upd_ne (fun z => ?_)]
      · exact hb
      · subst z
        rw [e] at hb
        exact n2 x y (Option.some.inj hb)
    new := fun b h1 h2 => absurd h1 h2 }
  refine ⟨st, by rw [List.length_set, h.len], h.nd, fun j x hj => ?_, fun j b x hb hj => ?_⟩
  · by_cases hlj : l = j
    · subst hlj
      have hl : l < m.length := (List.getElem?_eq_some_iff.mp ho).1
      rw [List.getElem?_set_self hl] at hj
      rw [← Option.some.inj hj]
      exact hf
    · rw [List.getElem?_set_ne hlj] at hj
      exact h.fz j x hj
  · by_cases hlj : l = j
    · subst hlj
      have hl : l < m.length := (List.getElem?_eq_some_iff.mp ho).1
      rw [List.getElem?_set_self hl] at hj
      rw [← Option.some.inj hj]
      rw [ha] at hb
      rw [← Option.some.inj hb]
      exact hu st
    · rw [List.getElem?_set_ne hlj] at hj
      refine RepO.mono st (upd_ne fun z => hlj ?_) (h.at_ j b x hb hj)
      rw [z] at hb
      obtain ⟨h1, e1⟩ := List.getElem?_eq_some_iff.mp ha
      obtain ⟨h2, e2⟩ := List.getElem?_eq_some_iff.mp hb
      exact (List.getElem_inj h.nd).mp (e1.trans e2.symm)
theorem RepM.loc {K : PySem.W.Frag} {mg : Str → Option Value} {H : Hp} {pi : List Addr} {m : List O} (h : RepM K mg H pi m) {l : Nat} {v : V} {ds : List D} (r : Rep K mg H pi (.loc l) v) (e : m[l]? = some (.lst ds)) :
    ∃ a vs, v = .ref a ∧ pi[l]? = some a ∧ H a = some (.lst vs) ∧ Reps K mg H pi ds vs ∧ fzs ds = true := by
  simp only [Rep] at r
  obtain ⟨a, rfl, ha⟩ := r
  obtain ⟨vs, e1, r1⟩ := h.at_ l a _ ha e
  exact ⟨a, vs, rfl, ha, e1, r1, h.fz l _ e⟩

section
variable {X : Cx} {W : WX} {e a b c : Expr} {pos : Pos} {st : Stmt} {rest : List Stmt}
/-! ### what is walked -/
def lstOf : D → Option (List D)
  | .lst ds => some ds
  | _ => none
def tupOf : D → Option (List D)
  | .tup ds => some ds
  | _ => none
def intOf : D → Option Int
  | .int i => some i
  | _ => none
def onO {α β : Type} (o : Option α) (k : α → R β) : R β := match o with
  | some b => k b
  | none => .bad
@[simp] theorem onO_some {α β : Type} (a : α) (k : α → R β) : onO (some a) k = k a := rfl
@[simp] theorem onO_none {α β : Type} (k : α → R β) : onO none k = .bad := rfl
theorem rep_lst {K : PySem.W.Frag} {mg : Str → Option Value} {H : Hp} {pi : List Addr} {d : D} {v : V} {ds : List D} (r : Rep K mg H pi d v) (e : lstOf d = some ds) : ∃ a vs, v = .ref a ∧ a ∉ pi ∧ H a = some (.lst vs) ∧ Reps K mg H pi ds vs := by
  cases d with
  | lst xs =>
    simp only [Rep] at r
    cases e
    exact r
  | _ => cases e
theorem rep_tup {K : PySem.W.Frag} {mg : Str → Option Value} {H : Hp} {pi : List Addr} {d : D} {v : V} {ds : List D} (r : Rep K mg H pi d v) (e : tupOf d = some ds) : ∃ a vs, v = .ref a ∧ SqT K H a vs ∧ Reps K mg H pi ds vs := by
  cases d with
  | tup xs =>
    simp only [Rep] at r
    cases e
    exact r
  | _ => cases e
theorem rep_int {K : PySem.W.Frag} {mg : Str → Option Value} {H : Hp} {pi : List Addr} {d : D} {v : V} {i : Int} (r : Rep K mg H pi d v) (e : intOf d = some i) : v = .int i := by
  cases d with
  | int j =>
    simp only [Rep] at r
    cases e
    exact r
  | _ => cases e
def mItL (f : ME) : MA := fun rho m => (f rho m).bind fun p => onO (lstOf p.1) fun ds => .ok (ds, p.2)
def mItT (f : ME) : MA := fun rho m => (f rho m).bind fun p => onO (tupOf p.1) fun ds => .ok (ds, p.2)
theorem PostV.bindI {K : PySem.W.Frag} {mg : Str → Option Value} {E : XK} {H : Hp} {pi : List Addr} {Q : It → Hp → Prop} {r : RE} {k : D × List O → R (List D × List O)} (h : PostI K mg E H pi Q (r.bind k)) :
    PostV K mg E H pi (fun v H1 => ∃ pi1 m1 d, Stp H pi H1 pi1 ∧ RepM K mg H1 pi1 m1 ∧ Rep K mg H1 pi1 d v ∧ PostI K mg E H1 pi1 Q (k (d, m1))) r := by
  have from_ : ∀ {H1 : Hp} {pi1 : List Addr} {r : R (List D × List O)}, Stp H pi H1 pi1 → PostI K mg E H pi Q r → PostI K mg E H1 pi1 Q r := fun {H1 pi1 r} s h => by
    match r, h with
    | .ok (d, m), h => exact fun v H' pi' t => h v H' pi' (s.trans t)
    | .er x m, h => exact fun c dx H' pi' t => h c dx H' pi' (s.trans t)
  match r, h with
  | .ok (d, m), h => exact fun v H' pi' t a b => ⟨pi', m, d, t, a, b, from_ t h⟩
  | .er x m, h => exact h
theorem i_list {tg : Expr} {f : ME} (h : ME1 X W e f) : MI1 X W tg e (mItL f) := by
  refine weakI (pi_list h) fun σ H Q hh => ?_
  obtain ⟨pi, m, rho, hm, hs, p⟩ := hh
  refine ⟨pi, m, rho, hm, hs, (PostV.bindI p).mono fun v H1 h1 => ?_⟩
  obtain ⟨pi1, m1, d, st1, rm1, r, p1⟩ := h1
  cases hd : lstOf d with
  | none =>
    simp only [hd] at p1
    exact p1.elim
  | some ds =>
    simp only [hd] at p1
    obtain ⟨a, vs, rfl, na, rd, r⟩ := rep_lst r hd
    refine ⟨a, rfl, ⟨vs, SqL.of rd⟩, p1 _ H1 pi1 Stp.refl rm1 ⟨fun H => SqL X.K H a vs, YAt vs, r.length ▸ walk_list, fun H2 pi2 m2 s2 r2 => SqL.of (s2.keep a _ rd na), fun i H2 pi2 m2 x H3 s2 r2 y => ?_⟩⟩
    obtain ⟨rfl, hx⟩ := y
    obtain ⟨d, e1, r1⟩ := r.geto hx
    exact ⟨d, e1, Stp.refl, r2, Rep.mono s2 _ _ r1⟩
theorem i_tup {tg : Expr} {f : ME} (h : ME1 X W e f) : MI1 X W tg e (mItT f) := by
  refine weakI (pi_tup h) fun σ H Q hh => ?_
  obtain ⟨pi, m, rho, hm, hs, p⟩ := hh
  refine ⟨pi, m, rho, hm, hs, (PostV.bindI p).mono fun v H1 h1 => ?_⟩
  obtain ⟨pi1, m1, d, st1, rm1, r, p1⟩ := h1
  cases hd : tupOf d with
  | none =>
    simp only [hd] at p1
    exact p1.elim
  | some ds =>
    simp only [hd] at p1
    obtain ⟨a, vs, rfl, rd, r⟩ := rep_tup r hd
    refine ⟨a, rfl, ⟨vs, rd⟩, p1 _ H1 pi1 Stp.refl rm1 ⟨fun H => SqT X.K H a vs, YAt vs, r.length ▸ walk_tup, fun H2 pi2 m2 s2 r2 => s2.sqt rd, fun i H2 pi2 m2 x H3 s2 r2 y => ?_⟩⟩
    obtain ⟨rfl, hx⟩ := y
    obtain ⟨d, e1, r1⟩ := r.geto hx
    exact ⟨d, e1, Stp.refl, r2, Rep.mono s2 _ _ r1⟩
def rngD (lo : Int) (n : Nat) : List D := (List.range n).map fun (k : Nat) => D.int (lo + k)
theorem rngD_length (lo : Int) (n : Nat) : (rngD lo n).length = n := by
  simp only [rngD, List.length_map, List.length_range]
theorem walk_rng {K : PySem.W.Frag} {mg : Str → Option Value} {H : Hp} {pi : List Addr} (lo : Int) (n : Nat) : WalkM K mg (Itr lo n) (rngD lo n) H pi := by
  refine ⟨fun _ => True, fun i H x H' => i < n ∧ H' = H ∧ x = .int (lo + i), ?_, fun _ _ _ _ _ => trivial, fun i H2 pi2 m2 x H3 s2 r2 y => ?_⟩
  · rw [rngD_length]
    exact ⟨fun _ _ hi _ => hi, fun _ _ => Nat.le_refl _, fun _ _ _ _ hi _ y => ⟨hi, y⟩⟩
  · obtain ⟨hi, rfl, rfl⟩ := y
    refine ⟨.int (lo + i), ?_, Stp.refl, r2, by simp only [Rep]⟩
    unfold rngD
    rw [List.getElem?_map, List.getElem?_range hi]
    rfl
def rngOk (j : Int) : Prop := -1000000 ≤ j ∧ j ≤ 1000000
instance (j : Int) : Decidable (rngOk j) := inferInstanceAs (Decidable (_ ∧ _))
def mRng1 (f : ME) : MA := fun rho m => (f rho m).bind fun p => onO (intOf p.1) fun j => if rngOk j then .ok (rngD 0 j.toNat, p.2) else .bad
def mRng2 (f g : ME) : MA := fun rho m => (f rho m).bind fun p => (g rho p.2).bind fun q => onO (intOf p.1) fun i => onO (intOf q.1) fun j => if rngOk i ∧ rngOk j then .ok (rngD i (j - i).toNat, q.2) else .bad
theorem i_rng1 {tg : Expr} {f : ME} {p : Pos} (hg : Gl X "range") (hm : X.mg "range" = none) (h : ME1 X W a f) (hs : starEach [a] X.env = [(false, eval a X.env)] := by rfl) (hs3 : starEach [a] X.env = (false, eval a X.env) :: starEach [] X.env := by rfl) : MI1 X W tg (.Call (.Name "range" p) [a] [] pos) (mRng1 f) := by
  refine weakI (pi_range1 hg hm (pa_cons h pa_nil hs3) hs) fun σ H Q hh => ?_
  obtain ⟨pi, m, rho, hm, hs, p⟩ := hh
  refine ⟨pi, m, rho, hm, hs, (PostV.bindI p).mono fun v H1 h1 => ?_⟩
  obtain ⟨pi1, m1, d, st1, rm1, r, p1⟩ := h1
  cases hd : intOf d with
  | none =>
    simp only [hd] at p1
    exact p1.elim
  | some j =>
    simp only [hd, onO_some] at p1
    by_cases hj : rngOk j
    · rw [if_pos hj] at p1
      obtain rfl := rep_int r hd
      obtain ⟨h1, h2⟩ := hj
      exact ⟨j, rfl, by omega, by omega, p1 _ H1 pi1 Stp.refl rm1 (walk_rng 0 j.toNat)⟩
    · rw [if_neg hj] at p1
      exact p1.elim
theorem i_rng2 {tg : Expr} {f g : ME} {p : Pos} (hg : Gl X "range") (hm : X.mg "range" = none) (h : ME1 X W a f) (h2 : ME1 X W b g) (hs : starEach [a, b] X.env = [(false, eval a X.env), (false, eval b X.env)] := by rfl) (hs2 : starEach [b] X.env = [(false, eval b X.env)] := by rfl) (hs3 : starEach [b] X.env = (false, eval b X.env) :: starEach [] X.env := by rfl) (hs4 : starEach [a, b] X.env = (false, eval a X.env) :: starEach [b] X.env := by rfl) :
    MI1 X W tg (.Call (.Name "range" p) [a, b] [] pos) (mRng2 f g) := by
  refine weakI (pi_range2 hg hm (pa_cons h (pa_cons h2 pa_nil hs3) hs4) hs hs2) fun σ H Q hh => ?_
  obtain ⟨pi, m, rho, hm, hs, p⟩ := hh
  refine ⟨pi, m, rho, hm, hs, (PostV.bindI p).mono fun v H1 h1 => ?_⟩
  obtain ⟨pi1, m1, d, st1, rm1, r, p1⟩ := h1
  refine ⟨pi1, m1, rho, rm1, hs.mono st1, (PostV.bindI p1).mono fun w H2 h2 => ?_⟩
  obtain ⟨pi2, m2, d2, st2, rm2, r2, p2⟩ := h2
  simp only at p2
  cases hd : intOf d with
  | none =>
    simp only [hd] at p2
    exact p2.elim
  | some i =>
    cases hd2 : intOf d2 with
    | none =>
      simp only [hd, hd2, onO_some] at p2
      exact p2.elim
    | some j =>
      simp only [hd, hd2, onO_some] at p2
      by_cases hj : rngOk i ∧ rngOk j
      · rw [if_pos hj] at p2
        obtain rfl := rep_int r hd
        obtain rfl := rep_int r2 hd2
        obtain ⟨⟨h1, h2⟩, h3, h4⟩ := hj
        exact ⟨i, j, rfl, ⟨by omega, by omega, by omega, by omega⟩, p2 _ H2 pi2 Stp.refl rm2 (walk_rng i (j - i).toNat)⟩
      · rw [if_neg hj] at p2
        exact p2.elim

/-! ### while -/
def mWhile (c : MT) (b : MS) : Nat → MS
  | 0, _, _ => .bad
  | n + 1, rho, m => onR (c rho m) rho fun k m => if k = true then (match b rho m with
    | .nx rho m => mWhile c b n rho m
    | .ct rho m => mWhile c b n rho m
    | .bk rho m => .nx rho m
    | .rt d m => .rt d m
    | .er x rho m => .er x rho m
    | .bad => .bad) else .nx rho m
theorem s_while (N : Nat) {t : MT} {f : MS} {body : List Stmt} (hp : PassesOwn (model X.prog X.w) X.A X.env X.xe) (hc : MT1 X W c t) (hb : MSs X W body f) : MS1 X W (.While c body [] pos) (mWhile t f N) := by
  refine weakS (ps_while hp hc hb) fun σ H Z hh => ?_
  refine ⟨fun n σ H => ∃ pi m rho, RepM X.K X.mg H pi m ∧ RepS X.K X.mg H pi rho σ ∧ PostS X.K X.mg W Z H pi (mWhile t f n rho m), ⟨N, hh⟩, fun n σ H hw => ?_⟩
  obtain ⟨pi, m, rho, hm, hs, p⟩ := hw
  cases n with
  | zero => exact p.elim
  | succ n =>
    simp only [mWhile] at p
    refine ⟨pi, m, rho, hm, hs, (post_onT hs p).mono fun k H1 h1 => ?_⟩
    obtain ⟨pi1, m1, st1, rm1, p1⟩ := h1
    cases k with
    | false =>
      rw [if_neg Bool.false_ne_true] at p1 ⊢
      exact p1 σ H1 pi1 Stp.refl rm1 (hs.mono st1)
    | true =>
      rw [if_pos rfl] at p1 ⊢
      cases hb2 : f rho m1 with
      | nx rho2 m2 =>
        rw [hb2] at p1
        refine ⟨_, fun σ' H' hn => hn, pi1, m1, rho, rm1, hs.mono st1, ?_⟩
        rw [hb2]
        exact fun σ2 H2 pi2 s2 r2 e2 => ⟨n, Nat.lt_succ_self n, pi2, m2, rho2, r2, e2, PostS.from s2 p1⟩
      | ct rho2 m2 =>
        rw [hb2] at p1
        refine ⟨_, fun σ' H' hn => hn, pi1, m1, rho, rm1, hs.mono st1, ?_⟩
        rw [hb2]
        exact fun σ2 H2 pi2 s2 r2 e2 => ⟨n, Nat.lt_succ_self n, pi2, m2, rho2, r2, e2, PostS.from s2 p1⟩
      | bk rho2 m2 =>
        rw [hb2] at p1
        refine ⟨_, fun σ' H' hn => hn, pi1, m1, rho, rm1, hs.mono st1, ?_⟩
        rw [hb2]
        exact p1
      | rt d2 m2 =>
        rw [hb2] at p1
        refine ⟨_, fun σ' H' hn => hn, pi1, m1, rho, rm1, hs.mono st1, ?_⟩
        rw [hb2]
        exact p1
      | er x2 rho2 m2 =>
        rw [hb2] at p1
        refine ⟨_, fun σ' H' hn => hn, pi1, m1, rho, rm1, hs.mono st1, ?_⟩
        rw [hb2]
        exact p1
      | bad =>
        rw [hb2] at p1
        exact p1.elim

/-! ### append, o[i] = v -/
def mAppend (fo fe : ME) : ME := fun rho m => (fo rho m).bind fun p => (fe rho p.2).bind fun q => match p.1 with
  | .loc l => (match q.2[l]? with
    | some (.lst ds) => if ds.length < small ∧ q.1.fz = true then .ok (.non, q.2.set l (.lst (ds ++ [q.1]))) else .bad
    | _ => .bad)
  | _ => .bad
/-- the list that stands at a place of the store -/
def atL (m : List O) (d : D) : Option (Nat × List D) := match d with
  | .loc l => (match m[l]? with
    | some (.lst ds) => some (l, ds)
    | _ => none)
  | _ => none
theorem atL_of {m : List O} {d : D} {l : Nat} {ds : List D} (h : atL m d = some (l, ds)) : d = .loc l ∧ m[l]? = some (.lst ds) := by
  unfold atL at h
  split at h
  · rename_i k
    split at h
    · rename_i es he
      cases h
      exact ⟨rfl, he⟩
    · cases h
  · cases h
def mApp (fo fe : ME) : ME := fun rho m => (fo rho m).bind fun p => (fe rho p.2).bind fun q => onO (atL q.2 p.1) fun z => if z.2.length < small ∧ q.1.fz = true then .ok (.non, q.2.set z.1 (.lst (z.2 ++ [q.1]))) else .bad
/-- at the receiver the list is looked at first -/
def mLoc (f : ME) : ME := fun rho m => (f rho m).bind fun p => onO (atL p.2 p.1) fun _ => .ok (p.1, p.2)
theorem m_app {o : Expr} {fo fe : ME} {apos : Pos} (ho : ME1 X W o fo) (he : ME1 X W e fe)
    (hbase : attributeBase o "append" X.env (eval o X.env) = eval o X.env := by rfl)
    (hfew : ((backTo pos (starEach [e] X.env)).all (fun x => !x.1) && (backToKw pos (keywordEach [] X.env)).all (fun x => x.1.isSome)
      && decide ([e].length + ([] : List Keyword).length + (if ([] : List Keyword).isEmpty then 0 else 1) < 30)) = true := by rfl)
    (hline : (apos.endLine == pos.line) = true := by rfl) (hs : starEach [e] X.env = (false, eval e X.env) :: starEach [] X.env := by rfl) (hplain : (backTo pos (starEach [] X.env)).any (·.1) = false := by rfl) :
    ME1 X W (.Call (.Attribute o "append" apos) [e] [] pos) (mApp (mLoc fo) fe) := by
  refine weak (pe_bm PySem.F.plainAttrs_list PySem.F.slot_list_append PySem.F.type_list_append mt_append ho (pa_cons he pa_nil hs) hbase hfew hline hs hplain) fun σ H Q hh => ?_
  obtain ⟨pi, m, rho, hm, hs, p⟩ := hh
  have p0 := PostV.bind p
  refine ⟨pi, m, rho, hm, hs, (PostV.bind p0).mono fun x H1 h1 => ?_⟩
  obtain ⟨pi1, m1, d, st1, rm1, r, p1⟩ := h1
  cases hz : atL m1 d with
  | none =>
    simp only [hz] at p1
    exact p1.elim
  | some z =>
    simp only [hz, onO_some] at p1
    obtain ⟨l, ds⟩ := z
    obtain ⟨rfl, em⟩ := atL_of hz
    obtain ⟨a, vs, rfl, ha, hH, rs, hf⟩ := rm1.loc r em
    obtain ⟨pi1', m1', d', st1', rm1', r', p1⟩ := p1 (.ref a) H1 pi1 Stp.refl rm1 r
    have p1 : PostV X.K X.mg (fun c d H' => W c d σ H') H1 pi1' Q ((fe rho m1').bind fun q => onO (atL q.2 d') fun z => if z.2.length < small ∧ q.1.fz = true then .ok (.non, q.2.set z.1 (.lst (z.2 ++ [q.1]))) else .bad) := p1
    refine ⟨.inl ⟨rfl, _, .inl (.inl hH)⟩, pi1', m1', rho, rm1', hs.mono st1', (PostV.bind p1).mono fun y H2 h2 => ?_⟩
    obtain ⟨pi2, m2, dy, st2, rm2, ry, p2⟩ := h2
    cases hz2 : atL m2 d' with
    | none =>
      simp only [hz2] at p2
      exact p2.elim
    | some z2 =>
      simp only [hz2, onO_some] at p2
      obtain ⟨l2, ds2⟩ := z2
      obtain ⟨rfl, em2⟩ := atL_of hz2
      by_cases hc : ds2.length < small ∧ dy.fz = true
      · rw [if_pos hc] at p2
        obtain ⟨a2, vs2, e2, ha2, hH2, rs2, hf2⟩ := rm2.loc (Rep.mono st2 _ _ r') em2
        cases e2
        have hfz : (O.lst (ds2 ++ [dy])).fz = true := by
          show fzs (ds2 ++ [dy]) = true
          have : ∀ xs : List D, fzs xs = true → fzs (xs ++ [dy]) = true := fun xs => by
            induction xs with
            | nil => intro _; simp [fzs, hc.2]
            | cons x xs ih => intro h; simp only [fzs, Bool.and_eq_true, List.cons_append] at h ⊢; exact ⟨h.1, ih h.2⟩
          exact this ds2 hf2
        obtain ⟨st3, rm3⟩ := rm2.write (u := .lst (vs2 ++ [y])) (o' := .lst (ds2 ++ [dy])) ha2 em2 hfz fun st => ⟨_, upd_same, (rs2.append (reps_cons ry reps_nil)).mono st⟩
        exact ⟨a, vs2, y, rfl, rfl, hH2, sz1 (rs2.length ▸ hc.1), p2 .non _ pi2 st3 rm3 (by simp only [Rep])⟩
      · rw [if_neg hc] at p2
        exact p2.elim
def mSetIx (fv fo fi : ME) : MS := fun rho m => onR (fv rho m) rho fun v m => onR (fo rho m) rho fun o m => onR (fi rho m) rho fun i m => match atL m o, intOf i with
  | some z, some k => (match ixN z.2.length k with
    | some j => if v.fz = true then .nx rho (m.set z.1 (.lst (z.2.set j v))) else .bad
    | none => .bad)
  | _, _ => .bad
theorem fzs_set {v : D} (hv : v.fz = true) : ∀ (xs : List D) (j : Nat), fzs xs = true → fzs (xs.set j v) = true
  | [], _, _ => rfl
  | x :: xs, 0, h => by
    simp only [fzs, Bool.and_eq_true, List.set_cons_zero] at h ⊢
    exact ⟨hv, h.2⟩
  | x :: xs, j + 1, h => by
    simp only [fzs, Bool.and_eq_true, List.set_cons_succ] at h ⊢
    exact ⟨h.1, fzs_set hv xs j h.2⟩
theorem s_setIx {o i : Expr} {p2 : Pos} {fv fo fi : ME} (hv : ME1 X W e fv) (ho : ME1 X W o fo) (hi : ME1 X W i fi)
    (hh : ∀ {g : TG}, PG X (.Subscript o i p2) g → PS X (.Assign [.Subscript o i p2] e pos) (tAsg (tE X.K X.mg W fv) g)) (hg : PG X (.Subscript o i p2) (gSub (tE X.K X.mg W fo) (tE X.K X.mg W fi) rSetL)) : MS1 X W (.Assign [.Subscript o i p2] e pos) (mSetIx fv fo fi) := by
  refine weakS (hh hg) fun σ H Z hh => ?_
  obtain ⟨pi, m, rho, hm, hs, p⟩ := hh
  refine ⟨pi, m, rho, hm, hs, (post_onV hs p).mono fun v H1 h1 => ?_⟩
  obtain ⟨pi1, m1, d, st1, rm1, rv, p1⟩ := h1
  refine ⟨pi1, m1, rho, rm1, hs.mono st1, (post_onV (hs.mono st1) p1).mono fun ov H2 h2 => ?_⟩
  obtain ⟨pi2, m2, od, st2, rm2, ro, p2⟩ := h2
  refine ⟨pi2, m2, rho, rm2, (hs.mono st1).mono st2, (post_onV ((hs.mono st1).mono st2) p2).mono fun iv H3 h3 => ?_⟩
  obtain ⟨pi3, m3, id, st3, rm3, ri, p3⟩ := h3
  cases hz : atL m3 od with
  | none =>
    simp only [hz] at p3
    exact p3.elim
  | some z =>
    cases hk : intOf id with
    | none =>
      simp only [hz, hk] at p3
      exact p3.elim
    | some k =>
      simp only [hz, hk] at p3
      obtain ⟨l, ds⟩ := z
      simp only at p3
      cases hj : ixN ds.length k with
      | none =>
        simp only [hj] at p3
        exact p3.elim
      | some j =>
        simp only [hj] at p3
        by_cases hf : d.fz = true
        · rw [if_pos hf] at p3
          obtain ⟨rfl, em⟩ := atL_of hz
          obtain rfl := rep_int ri hk
          obtain ⟨a, vs, e2, ha, hH, rs, hfs⟩ := rm3.loc (Rep.mono st3 _ _ ro) em
          cases e2
          have rv' := Rep.mono (st2.trans st3) _ _ rv
          obtain ⟨st4, rm4⟩ := rm3.write (u := .lst (vs.set j v)) (o' := .lst (ds.set j d)) ha em (fzs_set hf ds j hfs) fun st => ⟨_, upd_same, (rs.set j rv').mono st⟩
          exact ⟨a, vs, k, j, rfl, rfl, hH, by rw [← rs.length]; exact hj, p3 σ _ pi3 st4 rm4 ((((hs.mono st1).mono st2).mono st3).mono st4)⟩
        · rw [if_neg hf] at p3
          exact p3.elim

/-! ### calls of defs -/
abbrev GF := List D → List O → RE
/-- the promise of a def that is worth G at n arguments -/
def spM (K : PySem.W.Frag) (mg : Str → Option Value) (n : Nat) (G : GF) : Sp := fun vs H Q E => vs.length = n ∧ ∃ pi m ds, RepM K mg H pi m ∧ Reps K mg H pi ds vs ∧ PostV K mg E H pi Q (G ds m)
def mCall (G : GF) (f : MA) : ME := fun rho m => (f rho m).bind fun p => G p.1 p.2
theorem m_call {k n : Nat} {x : Str} {f : Addr} {fd : FuncData} {ps : List Str} {G : GF} {p : Pos} {es : List Expr} {fa : MA} (F : FnOk X.prog X.w X.K X.mg X.base (L2.CX X.prog X.w) k f fd ps (spM X.K X.mg n G)) (hr : Room k X.A) (hg : Gl X x)
    (hm : X.mg x = some (.ref f)) (hk : PySem.W.keepIn X.K (.ref f) = true) (hb : Binds X.K fd ps []) (tk : Takes X W) (ha : MA1 X W (e :: es) fa) (hn : (e :: es).length = n)
    (hl : ∀ rho m ds m1, fa rho m = .ok (ds, m1) → ds.length = n) (hdb : (x == ("__debug__" : Str)) = false := by decide) (he : starEach (e :: es) X.env = (false, eval e X.env) :: starEach es X.env := by rfl) (hpl : (backTo pos (starEach es X.env)).any (·.1) = false := by rfl) :
    ME1 X W (.Call (.Name x p) (e :: es) [] pos) (mCall G fa) := by
  refine weak (pe_callS F hr hg hm hk hb (E := WE W) (fun σ => passAt tk σ) ha hdb he hpl) fun σ H Q hh => ?_
  obtain ⟨pi, m, rho, hm, hs, p⟩ := hh
  have p : PostV X.K X.mg (fun c d H' => W c d σ H') H pi Q ((fa rho m).bind fun p => G p.1 p.2) := p
  cases hf : fa rho m with
  | ok q =>
    obtain ⟨ds, m1⟩ := q
    have hl1 := hl rho m ds m1 hf
    refine ⟨pi, m, rho, hm, hs, ?_⟩
    rw [hf] at p ⊢
    exact fun vs H1 pi1 st1 rm1 r1 => ⟨by rw [← r1.length]; exact hl1, pi1, m1, ds, rm1, r1, PostV.from st1 p⟩
  | er x m1 =>
    refine ⟨pi, m, rho, hm, hs, ?_⟩
    rw [hf] at p ⊢
    exact p
  | bad =>
    rw [hf] at p
    exact p.elim
theorem len_nil : ∀ rho m ds m1, mNil rho m = .ok (ds, m1) → ds.length = 0 := fun rho m ds m1 h => by
  cases h
  rfl
theorem len_cons {f : ME} {g : MA} {n : Nat} (h : ∀ rho m ds m1, g rho m = .ok (ds, m1) → ds.length = n) : ∀ rho m ds m1, mCons f g rho m = .ok (ds, m1) → ds.length = n + 1 := fun rho m ds m1 e => by
  unfold mCons at e
  cases hf : f rho m with
  | ok p =>
    rw [hf, R.bind_ok] at e
    cases hg : g rho p.2 with
    | ok q =>
      rw [hg, R.bind_ok] at e
      cases e
      rw [List.length_cons, h _ _ _ _ hg]
    | er x m1 =>
      rw [hg] at e
      cases e
    | bad =>
      rw [hg] at e
      cases e
  | er x m1 =>
    rw [hf] at e
    cases e
  | bad =>
    rw [hf] at e
    cases e
end
end Mi
namespace Mi
open PySem PySem.Spec L2

/-! ### data of the library's own kind -/
mutual
def toPy : D → Option PyData
  | .non => some .none
  | .bl b => some (.bool b)
  | .int i => some (.int i)
  | .str s => some (.str s)
  | .tup ds => (toPys ds).map .tuple
  | .lst ds => (toPys ds).map .list
  | .scr ds => (toPys ds).map .list
  | .ins _ _ _ => none
  | .loc _ => none
  | .dic _ _ => none
  | .exc _ _ _ => none
def toPys : List D → Option (List PyData)
  | [] => some []
  | d :: ds => (toPy d).bind fun p => (toPys ds).map fun ps => p :: ps
end
section
variable {K : PySem.W.Frag} {mg : Str → Option Value} {H : Hp} {pi : List Addr}
mutual
theorem dp_of : ∀ (d : D) (v : V) (p : PyData), Rep K mg H pi d v → toPy d = some p → Dp K H v p
  | .non, v, p, r, e => by
    simp only [Rep] at r
    simp only [toPy] at e
    cases e
    rw [r]
    exact .non
  | .bl b, v, p, r, e => by
    simp only [Rep] at r
    simp only [toPy] at e
    cases e
    rw [r]
    exact .bl b
  | .int b, v, p, r, e => by
    simp only [Rep] at r
    simp only [toPy] at e
    cases e
    rw [r]
    exact .int b
  | .str b, v, p, r, e => by
    simp only [Rep] at r
    simp only [toPy] at e
    cases e
    rw [r]
    exact .str b
  | .tup ds, v, p, r, e => by
    simp only [Rep] at r
    simp only [toPy] at e
    obtain ⟨a, vs, rfl, q, r⟩ := r
    cases h : toPys ds with
    | none =>
      rw [h] at e
      cases e
    | some ps =>
      rw [h] at e
      cases e
      exact .tup q (dps_of ds vs ps r h)
  | .lst ds, v, p, r, e => by
    simp only [Rep] at r
    simp only [toPy] at e
    obtain ⟨a, vs, rfl, n, q, r⟩ := r
    cases h : toPys ds with
    | none =>
      rw [h] at e
      cases e
    | some ps =>
      rw [h] at e
      cases e
      exact .lst (SqL.of q) (dps_of ds vs ps r h)
  | .scr ds, v, p, r, e => by
    simp only [Rep] at r
    simp only [toPy] at e
    obtain ⟨a, vs, rfl, q, r⟩ := r
    cases h : toPys ds with
    | none =>
      rw [h] at e
      cases e
    | some ps =>
      rw [h] at e
      cases e
      exact .lst q.sq (dps_of ds vs ps r h)
  | .ins c ns ds, v, p, r, e => by
    simp only [toPy] at e
    cases e
  | .loc l, v, p, r, e => by
    simp only [toPy] at e
    cases e
theorem dps_of : ∀ (ds : List D) (vs : List V) (ps : List PyData), Reps K mg H pi ds vs → toPys ds = some ps → DpAll K H vs ps
  | [], vs, ps, r, e => by
    simp only [Reps] at r
    simp only [toPys] at e
    cases e
    rw [r]
    exact .nil
  | d :: ds, vs, ps, r, e => by
    simp only [Reps] at r
    simp only [toPys] at e
    obtain ⟨v, w, rfl, r1, r2⟩ := r
    cases h1 : toPy d with
    | none =>
      rw [h1] at e
      cases e
    | some p =>
      rw [h1] at e
      cases h2 : toPys ds with
      | none =>
        rw [h2] at e
        cases e
      | some qs =>
        rw [h2] at e
        cases e
        exact .cons (dp_of d v p r1 h1) (dps_of ds w qs r2 h2)
end
/-- a value; of a place of the store, its list -/
def deref (m : List O) (d : D) : D := match d with
  | .loc l => (match m[l]? with
    | some (.lst ds) => .lst ds
    | _ => .loc l)
  | d => d
def toPyM (m : List O) (d : D) : Option PyData := toPy (deref m d)
theorem dpM_of {m : List O} {d : D} {v : V} {p : PyData} (hm : RepM K mg H pi m) (r : Rep K mg H pi d v) (e : toPyM m d = some p) : Dp K H v p := by
  unfold toPyM at e
  cases d with
  | loc l =>
    unfold deref at e
    simp only at e
    cases h : m[l]? with
    | none =>
      rw [h] at e
      simp only [toPy] at e
      cases e
    | some o =>
      cases o with
      | lst ds =>
        rw [h] at e
        simp only [toPy] at e
        obtain ⟨a, vs, rfl, ha, hH, rs, hf⟩ := hm.loc r h
        cases h2 : toPys ds with
        | none =>
          rw [h2] at e
          cases e
        | some ps =>
          rw [h2] at e
          cases e
          exact .lst (SqL.of hH) (dps_of ds vs ps rs h2)
      | ins c ns ds =>
        rw [h] at e
        simp only [toPy] at e
        cases e
      | dic ks ds =>
        rw [h] at e
        simp only [toPy] at e
        cases e
      | nst ds =>
        rw [h] at e
        simp only [toPy] at e
        cases e
      | ndc ks ds =>
        rw [h] at e
        simp only [toPy] at e
        cases e
      | nin c ns ds =>
        rw [h] at e
        simp only [toPy] at e
        cases e
      | dead =>
        rw [h] at e
        simp only [toPy] at e
        cases e
  | _ => exact dp_of _ v p r e
/-- a list or a tuple -/
def seqOf (m : List O) (d : D) : Option (List D) := match d with
  | .lst ds => some ds
  | .scr ds => some ds
  | .tup ds => some ds
  | .loc l => (match m[l]? with
    | some (.lst ds) => some ds
    | _ => none)
  | _ => none
theorem seq_of {m : List O} {d : D} {v : V} {ds : List D} (hm : RepM K mg H pi m) (r : Rep K mg H pi d v) (e : seqOf m d = some ds) : ∃ a vs, v = .ref a ∧ (SqL K H a vs ∨ SqT K H a vs) ∧ Reps K mg H pi ds vs := by
  unfold seqOf at e
  split at e
  · cases e
    simp only [Rep] at r
    obtain ⟨a, vs, rfl, n, q, r⟩ := r
    exact ⟨a, vs, rfl, .inl (SqL.of q), r⟩
  · cases e
    simp only [Rep] at r
    obtain ⟨a, vs, rfl, q, r⟩ := r
    exact ⟨a, vs, rfl, .inl q.sq, r⟩
  · cases e
    simp only [Rep] at r
    obtain ⟨a, vs, rfl, q, r⟩ := r
    exact ⟨a, vs, rfl, .inr q, r⟩
  · split at e
    · rename_i h
      cases e
      obtain ⟨a, vs, rfl, ha, hH, rs, hf⟩ := hm.loc r h
      exact ⟨a, vs, rfl, .inl (SqL.of hH), rs⟩
    · cases e
  · cases e
end

section
variable {X : Cx} {W : WX} {e a b c : Expr} {pos : Pos}
/-! ### operators by data -/
theorem opm_of {f : Value → Value → Sem Value} {g : G2} {r : R2} (h : OpR X f r) (k : ∀ (pi : List Addr) (m : List O) (dx dy d : D) (x y : V) (H : Hp) (Q : VK), RepM X.K X.mg H pi m → Rep X.K X.mg H pi dx x → Rep X.K X.mg H pi dy y → g m dx dy = some d →
    (∀ v H', Stp H pi H' pi → RepM X.K X.mg H' pi m → Rep X.K X.mg H' pi d v → Q v H') → r x y H Q) : OpM X f g := fun pins s σ H x y v u Q I rx ry ⟨pi, m, dx, dy, d, hm, hx, hy, e, q⟩ => h pins s σ H x y v u Q I rx ry (k pi m dx dy d x y H Q hm hx hy e q)
theorem opm_or {f : Value → Value → Sem Value} {g1 g2 g : G2} (h1 : OpM X f g1) (h2 : OpM X f g2) (k : ∀ m x y d, g m x y = some d → g1 m x y = some d ∨ g2 m x y = some d) : OpM X f g := fun pins s σ H x y v u Q I rx ry ⟨pi, m, dx, dy, d, hm, hx, hy, e, q⟩ => by
  rcases k m dx dy d e with e | e
  · exact h1 pins s σ H x y v u Q I rx ry ⟨pi, m, dx, dy, d, hm, hx, hy, e, q⟩
  · exact h2 pins s σ H x y v u Q I rx ry ⟨pi, m, dx, dy, d, hm, hx, hy, e, q⟩
def gI (c : Int → Int → Bool) (f : Int → Int → Int) : G2 := fun _ x y => match x, y with
  | .int i, .int j => if c i j = true then some (.int (f i j)) else none
  | _, _ => none
def gB (f : Int → Int → Bool) : G2 := fun _ x y => match x, y with
  | .int i, .int j => some (.bl (f i j))
  | _, _ => none
theorem gI_of {c : Int → Int → Bool} {f : Int → Int → Int} {m : List O} {x y d : D} (h : gI c f m x y = some d) : ∃ i j, x = .int i ∧ y = .int j ∧ c i j = true ∧ d = .int (f i j) := by
  unfold gI at h
  split at h
  · rename_i i j
    by_cases hc : c i j = true
    · rw [if_pos hc] at h
      exact ⟨i, j, rfl, rfl, hc, (Option.some.inj h).symm⟩
    · rw [if_neg hc] at h
      cases h
  · cases h
theorem gB_of {f : Int → Int → Bool} {m : List O} {x y d : D} (h : gB f m x y = some d) : ∃ i j, x = .int i ∧ y = .int j ∧ d = .bl (f i j) := by
  unfold gB at h
  split at h
  · rename_i i j
    exact ⟨i, j, rfl, rfl, (Option.some.inj h).symm⟩
  · cases h
theorem opm_int {f : Value → Value → Sem Value} {c : Int → Int → Bool} {g : Int → Int → Int} {C : Int → Int → Prop} (h : OpR X f (rI C fun i j => .int (g i j))) (hc : ∀ i j, c i j = true → C i j) : OpM X f (gI c g) :=
  opm_of h fun pi m dx dy d x y H Q hm hx hy e q => by
    obtain ⟨i, j, rfl, rfl, h1, rfl⟩ := gI_of e
    simp only [Rep] at hx hy
    exact ⟨i, j, hx, hy, hc i j h1, q _ H Stp.refl hm (by simp only [Rep])⟩
theorem opm_int0 {f : Value → Value → Sem Value} {g : Int → Int → Int} (h : OpR X f (rI0 fun i j => .int (g i j))) : OpM X f (gI (fun _ _ => true) g) :=
  opm_of h fun pi m dx dy d x y H Q hm hx hy e q => by
    obtain ⟨i, j, rfl, rfl, h1, rfl⟩ := gI_of e
    simp only [Rep] at hx hy
    exact ⟨i, j, hx, hy, q _ H Stp.refl hm (by simp only [Rep])⟩
theorem opm_bl0 {f : Value → Value → Sem Value} {g : Int → Int → Bool} (h : OpR X f (rI0 fun i j => .bl (g i j))) : OpM X f (gB g) :=
  opm_of h fun pi m dx dy d x y H Q hm hx hy e q => by
    obtain ⟨i, j, rfl, rfl, rfl⟩ := gB_of e
    simp only [Rep] at hx hy
    exact ⟨i, j, hx, hy, q _ H Stp.refl hm (by simp only [Rep])⟩
def gAddI : G2 := gI (fun _ _ => true) fun i j => i + j
def gSub : G2 := gI (fun _ _ => true) fun i j => i - j
def cMul (i j : Int) : Bool := decide (-(2 ^ 64) < i ∧ i < 2 ^ 64) || decide (-(2 ^ 64) < j ∧ j < 2 ^ 64)
def gMulI : G2 := gI cMul fun i j => i * j
def cDiv (i j : Int) : Bool := decide (0 < j ∧ j < 1073741824)
def gDiv : G2 := gI cDiv fun i j => i / j
def gMod : G2 := gI (fun _ j => decide (0 < j)) fun i j => i % j
def cPow (i j : Int) : Bool := decide (0 ≤ j ∧ j ≤ 1000000 ∧ i.natAbs < 2 ^ 64)
def gPow : G2 := gI cPow fun i j => i ^ j.toNat
theorem o_addI : OpM X (binaryOp .Add) gAddI := opm_int0 op_add
theorem o_sub : OpM X (binaryOp .Sub) gSub := opm_int0 op_sub
theorem o_mulI : OpM X (binaryOp .Mult) gMulI := opm_int op_mul fun i j h => by
  unfold cMul at h
  rcases (Bool.or_eq_true _ _).mp h with h | h
  · exact .inl (of_decide_eq_true h)
  · exact .inr (of_decide_eq_true h)
theorem o_div : OpM X (binaryOp .FloorDiv) gDiv := opm_int op_fdiv fun i j h => of_decide_eq_true (p := 0 < j ∧ j < 1073741824) h
theorem o_mod : OpM X (binaryOp .Mod) gMod := opm_int op_mod fun i j h => of_decide_eq_true h
theorem o_pow : OpM X (binaryOp .Pow) gPow := opm_int op_pow fun i j h => of_decide_eq_true (p := 0 ≤ j ∧ j ≤ 1000000 ∧ i.natAbs < 2 ^ 64) h
def gLt : G2 := gB fun i j => decide (i < j)
def gLe : G2 := gB fun i j => decide (i ≤ j)
def gGt : G2 := gB fun i j => decide (j < i)
def gGe : G2 := gB fun i j => decide (j ≤ i)
theorem o_lt : OpM X (compareOp .Lt) gLt := opm_bl0 op_lt
theorem o_le : OpM X (compareOp .LtE) gLe := opm_bl0 op_le
theorem o_gt : OpM X (compareOp .Gt) gGt := opm_bl0 op_gt
theorem o_ge : OpM X (compareOp .GtE) gGe := opm_bl0 op_ge
def gAddT : G2 := fun _ x y => match x, y with
  | .tup xs, .tup ys => if xs.length + ys.length ≤ small then some (.tup (xs ++ ys)) else none
  | _, _ => none
theorem o_addT : OpM X (binaryOp .Add) gAddT := opm_of op_catA fun pi m dx dy d x y H Q hm hx hy e q => by
  unfold gAddT at e
  split at e
  · rename_i xs ys
    by_cases hl : xs.length + ys.length ≤ small
    · rw [if_pos hl] at e
      cases e
      obtain ⟨p, vs, rfl, q1, r1⟩ := rep_tup hx rfl
      obtain ⟨p2, ws, rfl, q2, r2⟩ := rep_tup hy rfl
      refine ⟨p, p2, vs, ws, rfl, rfl, q1, q2, sz (by rw [← r1.length, ← r2.length]; exact hl), fun hv => ?_, fun hv hw => ?_, fun hv hw t n => ?_⟩
      · subst hv
        have : xs = [] := List.eq_nil_of_length_eq_zero r1.length
        subst this
        exact q _ H Stp.refl hm hy
      · subst hw
        have : ys = [] := List.eq_nil_of_length_eq_zero r2.length
        subst this
        exact q _ H Stp.refl hm (by rw [List.append_nil]; exact hx)
      · exact q _ _ (stp_new n) (hm.new n) (by simp only [Rep]; exact ⟨t, vs ++ ws, rfl, SqT.of upd_same, (r1.append r2).mono (stp_new n)⟩)
    · rw [if_neg hl] at e
      cases e
  · cases e
def gAdd : G2 := fun m x y => match x with
  | .tup _ => gAddT m x y
  | _ => gAddI m x y
theorem o_add : OpM X (binaryOp .Add) gAdd := opm_or o_addT o_addI fun m x y d h => by
  unfold gAdd at h
  split at h
  · exact .inl h
  · exact .inr h
def gMulT : G2 := fun _ x y => match x, y with
  | .tup xs, .int k => if xs ≠ [] ∧ 2 ≤ k ∧ k ≤ 1000 ∧ xs.length ≤ 1000 then some (.tup (List.replicate k.toNat xs).flatten) else none
  | _, _ => none
theorem Reps.rep {K : PySem.W.Frag} {mg : Str → Option Value} {H : Hp} {pi : List Addr} {ds : List D} {vs : List V} (h : Reps K mg H pi ds vs) : ∀ n : Nat, Reps K mg H pi (List.replicate n ds).flatten (List.replicate n vs).flatten
  | 0 => reps_nil
  | n + 1 => by
    simp only [List.replicate_succ, List.flatten_cons]
    exact h.append (Reps.rep h n)
theorem o_mulT : OpM X (binaryOp .Mult) gMulT := opm_of op_repT fun pi m dx dy d x y H Q hm hx hy e q => by
  unfold gMulT at e
  split at e
  · rename_i xs k
    by_cases hl : xs ≠ [] ∧ 2 ≤ k ∧ k ≤ 1000 ∧ xs.length ≤ 1000
    · rw [if_pos hl] at e
      cases e
      obtain ⟨p, vs, rfl, q1, r1⟩ := rep_tup hx rfl
      simp only [Rep] at hy
      subst hy
      refine ⟨p, k, vs, rfl, rfl, q1, fun z => hl.1 ?_, hl.2.1, hl.2.2.1, by rw [← r1.length]; exact hl.2.2.2, fun t n => ?_⟩
      · subst z
        exact List.eq_nil_of_length_eq_zero r1.length
      · exact q _ _ (stp_new n) (hm.new n) (by simp only [Rep]; exact ⟨t, _, rfl, SqT.of upd_same, (r1.rep k.toNat).mono (stp_new n)⟩)
    · rw [if_neg hl] at e
      cases e
  · cases e
def gMul : G2 := fun m x y => match x with
  | .tup _ => gMulT m x y
  | _ => gMulI m x y
theorem o_mul : OpM X (binaryOp .Mult) gMul := opm_or o_mulT o_mulI fun m x y d h => by
  unfold gMul at h
  split at h
  · exact .inl h
  · exact .inr h
/-- == and != of data -/
def eqP (m : List O) (x y : D) : Option Bool := (toPyM m x).bind fun p => (toPyM m y).bind fun q => if SeqAt.shaped p = true ∧ SeqAt.shaped q = true then some (PyData.eqv p q) else none
theorem eqP_of {m : List O} {x y : D} {k : Bool} (h : eqP m x y = some k) : ∃ p q, toPyM m x = some p ∧ toPyM m y = some q ∧ SeqAt.shaped p = true ∧ SeqAt.shaped q = true ∧ k = PyData.eqv p q := by
  unfold eqP at h
  cases h1 : toPyM m x with
  | none =>
    rw [h1] at h
    cases h
  | some p =>
    rw [h1] at h
    cases h2 : toPyM m y with
    | none =>
      rw [h2] at h
      cases h
    | some q =>
      rw [h2] at h
      simp only [Option.bind_some] at h
      by_cases hs : SeqAt.shaped p = true ∧ SeqAt.shaped q = true
      · rw [if_pos hs] at h
        exact ⟨p, q, rfl, rfl, hs.1, hs.2, (Option.some.inj h).symm⟩
      · rw [if_neg hs] at h
        cases h
def gEq : G2 := fun m x y => (eqP m x y).map .bl
def gNe : G2 := fun m x y => (eqP m x y).map fun k => .bl (!k)
theorem o_eq (hu : X.A.units + 64 < cLine) : OpM X (compareOp .Eq) gEq := opm_of (op_eqD hu) fun pi m dx dy d x y H Q hm hx hy e q => by
  unfold gEq at e
  cases h : eqP m dx dy with
  | none =>
    rw [h] at e
    cases e
  | some k =>
    rw [h] at e
    cases e
    obtain ⟨p, r, h1, h2, h3, h4, rfl⟩ := eqP_of h
    exact ⟨p, r, dpM_of hm hx h1, dpM_of hm hy h2, h3, h4, q _ H Stp.refl hm (by simp only [Rep])⟩
theorem o_ne (hu : X.A.units + 64 < cLine) : OpM X (compareOp .NotEq) gNe := opm_of (op_neD hu) fun pi m dx dy d x y H Q hm hx hy e q => by
  unfold gNe at e
  cases h : eqP m dx dy with
  | none =>
    rw [h] at e
    cases e
  | some k =>
    rw [h] at e
    cases e
    obtain ⟨p, r, h1, h2, h3, h4, rfl⟩ := eqP_of h
    exact ⟨p, r, dpM_of hm hx h1, dpM_of hm hy h2, h3, h4, q _ H Stp.refl hm (by simp only [Rep])⟩
def isNon (d : D) : Bool := match d with
  | .non => true
  | _ => false
def gIs (neg : Bool) : G2 := fun _ x y => if isNon y = true then some (.bl (if isNon x = true then !neg else neg)) else none
theorem rep_non {K : PySem.W.Frag} {mg : Str → Option Value} {H : Hp} {pi : List Addr} {d : D} {v : V} (r : Rep K mg H pi d v) : decide (v = .non) = isNon d := by
  cases d with
  | non =>
    simp only [Rep] at r
    rw [r]
    rfl
  | bl b =>
    simp only [Rep] at r
    rw [r]
    rfl
  | int b =>
    simp only [Rep] at r
    rw [r]
    rfl
  | str b =>
    simp only [Rep] at r
    rw [r]
    rfl
  | tup ds =>
    simp only [Rep] at r
    obtain ⟨a, vs, rfl, _⟩ := r
    rfl
  | lst ds =>
    simp only [Rep] at r
    obtain ⟨a, vs, rfl, _⟩ := r
    rfl
  | scr ds =>
    simp only [Rep] at r
    obtain ⟨a, vs, rfl, _⟩ := r
    rfl
  | ins c ns ds =>
    simp only [Rep] at r
    obtain ⟨a, C, dx, fv, rfl, _⟩ := r
    rfl
  | loc l =>
    simp only [Rep] at r
    obtain ⟨a, rfl, _⟩ := r
    rfl
  | dic ks ds =>
    simp only [Rep] at r
    obtain ⟨a, es, ep, ns, kv, vs, rfl, _⟩ := r
    rfl
  | exc c ns ds =>
    simp only [Rep] at r
    obtain ⟨a, C, d, fv, rfl, _⟩ := r
    rfl
theorem o_is : OpM X (compareOp .Is) (gIs false) := opm_of op_isN fun pi m dx dy d x y H Q hm hx hy e q => by
  unfold gIs at e
  by_cases hn : isNon dy = true
  · rw [if_pos hn] at e
    cases e
    have h1 := rep_non hy
    rw [hn] at h1
    refine ⟨of_decide_eq_true h1, q _ H Stp.refl hm ?_⟩
    simp only [Rep]
    rw [rep_non hx]
    cases isNon dx <;> rfl
  · rw [if_neg hn] at e
    cases e
theorem o_isnot : OpM X (compareOp .IsNot) (gIs true) := opm_of op_notN fun pi m dx dy d x y H Q hm hx hy e q => by
  unfold gIs at e
  by_cases hn : isNon dy = true
  · rw [if_pos hn] at e
    cases e
    have h1 := rep_non hy
    rw [hn] at h1
    refine ⟨of_decide_eq_true h1, q _ H Stp.refl hm ?_⟩
    simp only [Rep]
    rw [rep_non hx]
    cases isNon dx <;> rfl
  · rw [if_neg hn] at e
    cases e
def pyList (d : PyData) : Option (List PyData) := match d with
  | .list ds => some ds
  | _ => none
def mulI (f : ME) : ME := f
/-- a tuple or list that is data, of which the library's `in` knows lists alone: see o_inT below -/
def unNeg (f : ME) : ME := fun rho m => (f rho m).bind fun p => onO (intOf p.1) fun i => .ok (.int (-i), p.2)
theorem m_neg {f : ME} (h : ME1 X W a f) : ME1 X W (.UnaryOp .USub a pos) (unNeg f) := by
  refine weak (pe_un un_neg h) fun σ H Q hh => ?_
  obtain ⟨pi, m, rho, hm, hs, p⟩ := hh
  refine ⟨pi, m, rho, hm, hs, (PostV.bind p).mono fun x H1 h1 => ?_⟩
  obtain ⟨pi1, m1, d, st1, rm1, r, p1⟩ := h1
  cases hd : intOf d with
  | none =>
    simp only [hd] at p1
    exact p1.elim
  | some i =>
    simp only [hd, onO_some] at p1
    exact ⟨i, rep_int r hd, p1.here rm1 (by simp only [Rep])⟩

/-! ### subscripts and slices -/
def gIx : G2 := fun m x y => (seqOf m x).bind fun ds => (intOf y).bind fun i => atI ds i
theorem ix_m : IxR X (rM X.K X.mg gIx) := fun value slice pins s σ H x y v u Q I rx ry h hop => by
  obtain ⟨pi, m, dx, dy, d, hm, hx, hy, e, q⟩ := h
  unfold gIx at e
  cases h1 : seqOf m dx with
  | none =>
    rw [h1] at e
    cases e
  | some ds =>
    rw [h1] at e
    cases h2 : intOf dy with
    | none =>
      rw [h2] at e
      cases e
    | some i =>
      rw [h2] at e
      have e : atI ds i = some d := e
      obtain ⟨a, vs, rfl, sq, rs⟩ := seq_of hm hx h1
      obtain rfl := rep_int hy h2
      have hv : ∃ w, atI vs i = some w ∧ Rep X.K X.mg H pi d w := by
        unfold atI at e ⊢
        rw [← rs.length]
        cases hi : ixN ds.length i with
        | none =>
          rw [hi] at e
          cases e
        | some j =>
          rw [hi] at e
          exact rs.get e
      obtain ⟨w, ew, rw'⟩ := hv
      refine ix_seq value slice pins s σ H _ _ v u Q I rx ry ?_ hop
      rcases sq with sq | sq
      · exact .inl ⟨a, vs, i, w, rfl, rfl, sq, ew, q w H Stp.refl hm rw'⟩
      · exact .inr (.inl ⟨a, vs, i, w, rfl, rfl, sq, ew, q w H Stp.refl hm rw'⟩)
theorem m_ix {fa fb : ME} (ha : ME1 X W a fa) (hb : ME1 X W b fb) (hs : PlainIx b := by exact fun _ _ => rfl) : ME1 X W (.Subscript a b pos) (mBin gIx fa fb) := by
  refine weak (pe_ix ix_m ha hb hs) fun σ H Q h => ?_
  obtain ⟨pi, m, rho, hm, hs, p⟩ := h
  refine ⟨pi, m, rho, hm, hs, (PostV.bind p).mono fun x H1 h1 => ?_⟩
  obtain ⟨pi1, m1, dx, st1, rm1, rx, p1⟩ := h1
  refine ⟨pi1, m1, rho, rm1, hs.mono st1, (PostV.bind p1).mono fun y H2 h2 => ?_⟩
  obtain ⟨pi2, m2, dy, st2, rm2, ry, p2⟩ := h2
  exact rM_of rm2 (Rep.mono st2 _ _ rx) ry p2
abbrev MO := List (Option D) → List O → R (Option Int × List O)
def PostO (K : PySem.W.Frag) (mg : Str → Option Value) (E : XK) (H : Hp) (pi : List Addr) (Q : Option Int → Hp → Prop) : R (Option Int × List O) → Prop
  | .ok (b, m) => ∀ H' pi', Stp H pi H' pi' → RepM K mg H' pi' m → Q b H'
  | .er x m => ∀ c dx H' pi', Stp H pi H' pi' → RepM K mg H' pi' m → RepX K mg H' pi' x c dx → E c dx H'
  | .bad => False
def tO (K : PySem.W.Frag) (mg : Str → Option Value) (W : WX) (f : MO) : TO := fun σ H Q => ∃ pi m rho, RepM K mg H pi m ∧ RepS K mg H pi rho σ ∧ PostO K mg (fun c d H' => W c d σ H') H pi Q (f rho m)
abbrev MO1 (X : Cx) (W : WX) (e : Option Expr) (f : MO) : Prop := PO X e (tO X.K X.mg W f)
def oNone : MO := fun _ m => .ok (none, m)
def oSome (f : ME) : MO := fun rho m => (f rho m).bind fun p => onO (intOf p.1) fun i => .ok (some i, p.2)
theorem p_none : MO1 X W none oNone := ⟨fun pins s σ H Q I h => po_none.run pins s σ H Q I (by
  obtain ⟨pi, m, rho, hm, hs, p⟩ := h
  exact p H pi Stp.refl hm)⟩
theorem PostV.bindO {K : PySem.W.Frag} {mg : Str → Option Value} {E : XK} {H : Hp} {pi : List Addr} {Q : Option Int → Hp → Prop} {r : RE} {k : D × List O → R (Option Int × List O)} (h : PostO K mg E H pi Q (r.bind k)) :
    PostV K mg E H pi (fun v H1 => ∃ pi1 m1 d, Stp H pi H1 pi1 ∧ RepM K mg H1 pi1 m1 ∧ Rep K mg H1 pi1 d v ∧ PostO K mg E H1 pi1 Q (k (d, m1))) r := by
  have from_ : ∀ {H1 : Hp} {pi1 : List Addr} {r : R (Option Int × List O)}, Stp H pi H1 pi1 → PostO K mg E H pi Q r → PostO K mg E H1 pi1 Q r := fun {H1 pi1 r} s h => by
    match r, h with
    | .ok (d, m), h => exact fun H' pi' t => h H' pi' (s.trans t)
    | .er x m, h => exact fun c dx H' pi' t => h c dx H' pi' (s.trans t)
  match r, h with
  | .ok (d, m), h => exact fun v H' pi' t a b => ⟨pi', m, d, t, a, b, from_ t h⟩
  | .er x m, h => exact h
theorem p_some {f : ME} (h : ME1 X W e f) : MO1 X W (some e) (oSome f) := ⟨fun pins s σ H Q I hh => (po_some h).run pins s σ H Q I (by
  obtain ⟨pi, m, rho, hm, hs, p⟩ := hh
  refine ⟨pi, m, rho, hm, hs, (PostV.bindO p).mono fun x H1 h1 => ?_⟩
  obtain ⟨pi1, m1, d, st1, rm1, r, p1⟩ := h1
  cases hd : intOf d with
  | none =>
    simp only [hd] at p1
    exact p1.elim
  | some i =>
    simp only [hd, onO_some] at p1
    exact ⟨i, rep_int r hd, p1 H1 pi1 Stp.refl rm1⟩)⟩
def cutD (xs : List D) (lo hi : Option Int) : List D := (xs.drop (HT.sIx xs.length 0 lo)).take (HT.sIx xs.length xs.length hi - HT.sIx xs.length 0 lo)
def mSl (f : ME) (l h : MO) : ME := fun rho m => (f rho m).bind fun p => (l rho p.2).bind fun q => (h rho q.2).bind fun r => onO (tupOf p.1) fun ds => .ok (.tup (cutD ds q.1 r.1), r.2)
theorem PostO.bindV {K : PySem.W.Frag} {mg : Str → Option Value} {E : XK} {H : Hp} {pi : List Addr} {Q : VK} {r : R (Option Int × List O)} {k : Option Int × List O → RE} (h : PostV K mg E H pi Q (r.bind k)) :
    PostO K mg E H pi (fun o H1 => ∃ pi1 m1, Stp H pi H1 pi1 ∧ RepM K mg H1 pi1 m1 ∧ PostV K mg E H1 pi1 Q (k (o, m1))) r := by
  match r, h with
  | .ok (d, m), h => exact fun H' pi' t a => ⟨pi', m, t, a, PostV.from t h⟩
  | .er x m, h => exact h
theorem PostO.mono {K : PySem.W.Frag} {mg : Str → Option Value} {E : XK} {H : Hp} {pi : List Addr} {Q Q' : Option Int → Hp → Prop} {r : R (Option Int × List O)} (h : PostO K mg E H pi Q r) (q : ∀ v H', Q v H' → Q' v H') : PostO K mg E H pi Q' r := by
  match r, h with
  | .ok (d, m), h => exact fun H' pi' t a => q _ _ (h H' pi' t a)
  | .er x m, h => exact h
theorem m_slice {lo hi : Option Expr} {p2 : Pos} {f : ME} {fl fh : MO} (he : ME1 X W e f) (hl : MO1 X W lo fl) (hu : MO1 X W hi fh) : ME1 X W (.Subscript e (.Slice lo hi none p2) pos) (mSl f fl fh) := by
  refine weak (pe_slice sl_tupA he hl hu) fun σ H Q hh => ?_
  obtain ⟨pi, m, rho, hm, hs, p⟩ := hh
  refine ⟨pi, m, rho, hm, hs, (PostV.bind p).mono fun x H1 h1 => ?_⟩
  obtain ⟨pi1, m1, d, st1, rm1, r, p1⟩ := h1
  refine ⟨pi1, m1, rho, rm1, hs.mono st1, (PostO.bindV p1).mono fun l H2 h2 => ?_⟩
  obtain ⟨pi2, m2, st2, rm2, p2⟩ := h2
  refine ⟨pi2, m2, rho, rm2, (hs.mono st1).mono st2, (PostO.bindV p2).mono fun u H3 h3 => ?_⟩
  obtain ⟨pi3, m3, st3, rm3, p3⟩ := h3
  simp only at p3
  cases hd : tupOf d with
  | none =>
    simp only [hd] at p3
    exact p3.elim
  | some ds =>
    simp only [hd, onO_some] at p3
    obtain ⟨a, vs, rfl, sq, rs⟩ := rep_tup (Rep.mono (st2.trans st3) _ _ r) hd
    have hc : Reps X.K X.mg H3 pi3 (cutD ds l u) (cutV vs l u) := by
      unfold cutD cutV
      rw [rs.length]
      exact (rs.drop _).take _
    refine ⟨a, vs, rfl, sq, fun hz => ?_, fun hz t n => ?_⟩
    · have e1 : cutD ds l u = ds := by
        unfold cutD
        rw [rs.length, hz.1, hz.2, List.drop_zero, Nat.sub_zero, ← rs.length]
        exact List.take_length
      rw [e1] at p3
      exact p3.here rm3 (by simp only [Rep]; exact ⟨a, vs, rfl, sq, rs⟩)
    · exact p3 _ _ pi3 (stp_new n) (rm3.new n) (by simp only [Rep]; exact ⟨t, _, rfl, SqT.of upd_same, hc.mono (stp_new n)⟩)

/-! ### built-ins -/
abbrev GB := List O → List D → Option D
def rMB (K : PySem.W.Frag) (mg : Str → Option Value) (g : GB) : List V → Hp → VK → Prop := fun vs H Q => ∃ pi m ds d, RepM K mg H pi m ∧ Reps K mg H pi ds vs ∧ g m ds = some d ∧ ∀ v H', Stp H pi H' pi → RepM K mg H' pi m → Rep K mg H' pi d v → Q v H'
abbrev CallM (X : Cx) (f : Value) (g : GB) : Prop := CallR X f (rMB X.K X.mg g)
def mB (g : GB) (f : MA) : ME := fun rho m => (f rho m).bind fun p => ofO (g p.2 p.1) p.2
theorem rMB_of {K : PySem.W.Frag} {mg : Str → Option Value} {E : XK} {g : GB} {vs : List V} {H : Hp} {pi : List Addr} {Q : VK} {m : List O} {ds : List D} (hm : RepM K mg H pi m) (hx : Reps K mg H pi ds vs) (p : PostV K mg E H pi Q (ofO (g m ds) m)) : rMB K mg g vs H Q := by
  cases h : g m ds with
  | none =>
    rw [h] at p
    exact p.elim
  | some d =>
    rw [h] at p
    exact ⟨pi, m, ds, d, hm, hx, h, fun v H' st rm r => p v H' pi st rm r⟩
theorem m_B {x : Str} {id : String} {g : GB} {es : List Expr} {f : MA} {p : Pos} (hc : CallM X (.builtin id) g) (hg : Gl X x) (hm : X.mg x = none) (hv : bootBuiltins x = some (.builtin id)) (ha : MA1 X W (e :: es) f) (hn : x ≠ "__name__" := by decide) (hdb : (x == ("__debug__" : Str)) = false := by decide)
    (he : starEach (e :: es) X.env = (false, eval e X.env) :: starEach es X.env := by rfl) (hpl : (backTo pos (starEach es X.env)).any (·.1) = false := by rfl) : ME1 X W (.Call (.Name x p) (e :: es) [] pos) (mB g f) := by
  refine weak (pe_callB hc hg hm hv ha hn hdb he hpl) fun σ H Q hh => ?_
  obtain ⟨pi, m, rho, hm, hs, p⟩ := hh
  refine ⟨pi, m, rho, hm, hs, (PostA.bindV p).mono fun vs H1 h1 => ?_⟩
  obtain ⟨pi1, m1, ds, st1, rm1, r, p1⟩ := h1
  exact rMB_of rm1 r p1
theorem m_Ty {x : Str} {id : String} {g : GB} {es : List Expr} {f : MA} {p : Pos} (hc : CallM X (.type id) g) (hg : Gl X x) (hm : X.mg x = none) (hv : bootBuiltins x = some (.type id)) (ha : MA1 X W (e :: es) f) (hn : x ≠ "__name__" := by decide) (hdb : (x == ("__debug__" : Str)) = false := by decide)
    (he : starEach (e :: es) X.env = (false, eval e X.env) :: starEach es X.env := by rfl) (hpl : (backTo pos (starEach es X.env)).any (·.1) = false := by rfl) : ME1 X W (.Call (.Name x p) (e :: es) [] pos) (mB g f) := by
  refine weak (pe_callTy hc hg hm hv ha hn hdb he hpl) fun σ H Q hh => ?_
  obtain ⟨pi, m, rho, hm, hs, p⟩ := hh
  refine ⟨pi, m, rho, hm, hs, (PostA.bindV p).mono fun vs H1 h1 => ?_⟩
  obtain ⟨pi1, m1, ds, st1, rm1, r, p1⟩ := h1
  exact rMB_of rm1 r p1
def one {α : Type} (ds : List α) : Option α := match ds with
  | [d] => some d
  | _ => none
theorem one_of {α : Type} {ds : List α} {d : α} (h : one ds = some d) : ds = [d] := by
  unfold one at h
  split at h
  · cases h
    rfl
  · cases h
theorem reps_one {K : PySem.W.Frag} {mg : Str → Option Value} {H : Hp} {pi : List Addr} {d : D} {vs : List V} (r : Reps K mg H pi [d] vs) : ∃ v, vs = [v] ∧ Rep K mg H pi d v := by
  simp only [Reps] at r
  obtain ⟨v, w, rfl, r1, rfl⟩ := r
  exact ⟨v, rfl, r1⟩
theorem reps_two {K : PySem.W.Frag} {mg : Str → Option Value} {H : Hp} {pi : List Addr} {d e : D} {vs : List V} (r : Reps K mg H pi [d, e] vs) : ∃ v w, vs = [v, w] ∧ Rep K mg H pi d v ∧ Rep K mg H pi e w := by
  simp only [Reps] at r
  obtain ⟨v, w, rfl, r1, u, z, rfl, r2, rfl⟩ := r
  exact ⟨v, u, rfl, r1, r2⟩
def bLen : GB := fun m ds => (one ds).bind fun d => (seqOf m d).map fun xs => .int xs.length
theorem c_len : CallM X (.builtin "len") bLen := fun pins s σ H xs us Q I r h => by
  obtain ⟨pi, m, ds, d, hm, hx, e, q⟩ := h
  unfold bLen at e
  cases h1 : one ds with
  | none =>
    rw [h1] at e
    cases e
  | some d1 =>
    rw [h1] at e
    cases h2 : seqOf m d1 with
    | none =>
      rw [Option.bind_some, h2] at e
      cases e
    | some ys =>
      rw [Option.bind_some, h2] at e
      cases e
      have := one_of h1
      subst this
      obtain ⟨v, rfl, r1⟩ := reps_one hx
      obtain ⟨a, vs, rfl, sq, rs⟩ := seq_of hm r1 h2
      exact call_len_seq pins s σ H _ us Q I r ⟨a, vs, rfl, sq, by rw [← rs.length]; exact q _ H Stp.refl hm (by simp only [Rep])⟩
def bInt : GB := fun _ ds => (one ds).bind fun d => match d with
  | .int i => some (.int i)
  | .bl k => some (.int (if k then 1 else 0))
  | _ => none
theorem c_int : CallM X (.type "int") bInt := fun pins s σ H xs us Q I r h => by
  obtain ⟨pi, m, ds, d, hm, hx, e, q⟩ := h
  unfold bInt at e
  cases h1 : one ds with
  | none =>
    rw [h1] at e
    cases e
  | some d1 =>
    rw [h1, Option.bind_some] at e
    have := one_of h1
    subst this
    obtain ⟨v, rfl, r1⟩ := reps_one hx
    cases d1 with
    | int i =>
      cases e
      simp only [Rep] at r1
      subst r1
      exact call_int1 pins s σ H _ us Q I r (.inl ⟨i, rfl, q _ H Stp.refl hm (by simp only [Rep])⟩)
    | bl k =>
      cases e
      simp only [Rep] at r1
      subst r1
      exact call_int1 pins s σ H _ us Q I r (.inr ⟨k, rfl, q _ H Stp.refl hm (by simp only [Rep])⟩)
    | _ => cases e
def two {α : Type} (ds : List α) : Option (α × α) := match ds with
  | [d, e] => some (d, e)
  | _ => none
theorem two_of {α : Type} {ds : List α} {p : α × α} (h : two ds = some p) : ds = [p.1, p.2] := by
  unfold two at h
  split at h
  · cases h
    rfl
  · cases h
def bMin : GB := fun _ ds => (two ds).bind fun p => (intOf p.1).bind fun i => (intOf p.2).map fun j => .int (if j < i then j else i)
theorem c_min (hc : X.calm = true) : CallM X (.builtin "min") bMin := fun pins s σ H xs us Q I r h => by
  obtain ⟨pi, m, ds, d, hm, hx, e, q⟩ := h
  unfold bMin at e
  cases h1 : two ds with
  | none =>
    rw [h1] at e
    cases e
  | some p =>
    obtain ⟨d1, d2⟩ := p
    rw [h1, Option.bind_some] at e
    have := two_of h1
    subst this
    obtain ⟨v, w, rfl, r1, r2⟩ := reps_two hx
    simp only at e
    cases h2 : intOf d1 with
    | none =>
      rw [h2] at e
      cases e
    | some i =>
      cases h3 : intOf d2 with
      | none =>
        rw [h2, h3] at e
        cases e
      | some j =>
        rw [h2, h3] at e
        cases e
        obtain rfl := rep_int r1 h2
        obtain rfl := rep_int r2 h3
        exact call_min2 hc pins s σ H _ us Q I r ⟨i, j, rfl, q _ H Stp.refl hm (by simp only [Rep])⟩
/-- tuple(list or tuple) -/
def bTup : GB := fun m ds => (one ds).bind fun d => (seqOf m d).map .tup
theorem c_tup : CallM X (.type "tuple") bTup := fun pins s σ H xs us Q I r h => by
  obtain ⟨pi, m, ds, d, hm, hx, e, q⟩ := h
  unfold bTup at e
  cases h1 : one ds with
  | none =>
    rw [h1] at e
    cases e
  | some d1 =>
    rw [h1] at e
    cases h2 : seqOf m d1 with
    | none =>
      rw [Option.bind_some, h2] at e
      cases e
    | some ys =>
      rw [Option.bind_some, h2] at e
      cases e
      have := one_of h1
      subst this
      obtain ⟨v, rfl, r1⟩ := reps_one hx
      obtain ⟨a, vs, rfl, sq, rs⟩ := seq_of hm r1 h2
      refine call_tuple_of pins s σ H _ us Q I r ⟨a, vs, rfl, ?_⟩
      rcases sq with sq | sq
      · exact .inl ⟨sq, fun t n => q _ _ (stp_new n) (hm.new n) (by simp only [Rep]; exact ⟨t, vs, rfl, SqT.of upd_same, rs.mono (stp_new n)⟩)⟩
      · exact .inr ⟨sq, q _ H Stp.refl hm (by simp only [Rep]; exact ⟨a, vs, rfl, sq, rs⟩)⟩
/-- isinstance of data, of a built-in class -/
def tyN (d : D) : Option String := match d with
  | .non => some "NoneType"
  | .bl _ => some "bool"
  | .int _ => some "int"
  | .str _ => some "str"
  | .tup _ => some "tuple"
  | .lst _ => some "list"
  | _ => none
theorem tyx_tup {K : PySem.W.Frag} {H : Hp} {a : Addr} {vs : List V} (h : SqT K H a vs) : TyX K H (.ref a) (.type "tuple") := by
  rcases h with (h | ⟨b, h⟩) | ⟨o, its, n, h1, h2, _⟩
  · exact .base (.tup h)
  · exact .fTuple h
  · exact .kTuple h1 h2
theorem tyx_of {K : PySem.W.Frag} {mg : Str → Option Value} {H : Hp} {pi : List Addr} {d : D} {v : V} {n : String} (r : Rep K mg H pi d v) (h : tyN d = some n) : TyX K H v (.type n) := by
  cases d with
  | non =>
    simp only [Rep] at r
    cases h
    rw [r]
    exact .base .non
  | bl b =>
    simp only [Rep] at r
    cases h
    rw [r]
    exact .base (.bl b)
  | int b =>
    simp only [Rep] at r
    cases h
    rw [r]
    exact .base (.int b)
  | str b =>
    simp only [Rep] at r
    cases h
    rw [r]
    exact .base (.str b)
  | tup ds =>
    simp only [Rep] at r
    cases h
    obtain ⟨a, vs, rfl, q, _⟩ := r
    exact tyx_tup q
  | lst ds =>
    simp only [Rep] at r
    cases h
    obtain ⟨a, vs, rfl, n, q, _⟩ := r
    exact .base (.lst q)
  | scr ds => cases h
  | ins c ns ds => cases h
  | loc l => cases h
  | dic ks ds => cases h
  | exc c ns ds => cases h
def bIsi (t : String) (d : D) : Option Bool := (tyN d).bind fun n => kitB n t
def mIsi (t : String) (f : ME) : ME := fun rho m => (f rho m).bind fun p => onO (bIsi t p.1) fun k => .ok (.bl k, p.2)
theorem m_isi {x : Str} {t : String} {f : ME} {p q : Pos} (hg : Gl X "isinstance") (hm : X.mg "isinstance" = none) (hgt : Gl X x) (hmt : X.mg x = none) (hvt : bootBuiltins x = some (.type t)) (ha : ME1 X W e f) (hn : x ≠ "__name__" := by decide) (hdb : (x == ("__debug__" : Str)) = false := by decide)
    (he : starEach [e, .Name x q] X.env = (false, eval e X.env) :: starEach [.Name x q] X.env := by rfl) (he2 : starEach [.Name x q] X.env = (false, eval (.Name x q) X.env) :: starEach [] X.env := by rfl) (hpl : (backTo pos (starEach [.Name x q] X.env)).any (·.1) = false := by rfl) :
    ME1 X W (.Call (.Name "isinstance" p) [e, .Name x q] [] pos) (mIsi t f) := by
  refine weak (pe_callB call_isi hg hm (by decide +kernel) (pa_cons ha (pa_cons (pe_bltn (v := .ty t) hgt hmt hvt rfl hn hdb) pa_nil he2) he) (by decide) (by decide) he hpl) fun σ H Q hh => ?_
  obtain ⟨pi, m, rho, hm, hs, p⟩ := hh
  refine ⟨pi, m, rho, hm, hs, (PostV.bind p).mono fun x H1 h1 => ?_⟩
  obtain ⟨pi1, m1, d, st1, rm1, r, p1⟩ := h1
  cases hd : bIsi t d with
  | none =>
    simp only [hd] at p1
    exact p1.elim
  | some k =>
    simp only [hd, onO_some] at p1
    unfold bIsi at hd
    cases ht : tyN d with
    | none =>
      rw [ht] at hd
      cases hd
    | some n =>
      rw [ht] at hd
      exact ⟨x, .ty t, .type n, .type t, k, rfl, .ty t, tyx_of r ht, kit_ty hd, p1.here rm1 (by simp only [Rep])⟩
/-- list(list or tuple): a new one -/
def mList (f : ME) : ME := fun rho m => (f rho m).bind fun p => onO (seqOf p.2 p.1) fun ds => if fzs ds = true then .ok (.loc p.2.length, p.2 ++ [.lst ds]) else .bad
theorem stp_alloc {H : Hp} {pi : List Addr} {p : Addr} {o : HO} (n : H p = none) : Stp H pi (upd H p o) (pi ++ [p]) where
  pre := ⟨[p], rfl⟩
  keep := fun a u h _ => by rw [upd_ne (ne_of_none h n)]; exact h
  tup := fun a xs h => by rw [upd_ne (ne_of_none h n)]; exact h
  frz := fun a b u h => by rw [upd_ne (ne_of_none h n)]; exact h
  new := fun a h1 n1 => by
    rcases List.mem_append.mp h1 with h1 | h1
    · exact absurd h1 n1
    · rw [(List.mem_singleton.mp h1 :)]
      exact n
theorem m_list {f : ME} {p : Pos} (hg : Gl X "list") (hm : X.mg "list" = none) (ha : ME1 X W e f) (he : starEach [e] X.env = (false, eval e X.env) :: starEach [] X.env := by rfl) (hpl : (backTo pos (starEach [] X.env)).any (·.1) = false := by rfl) :
    ME1 X W (.Call (.Name "list" p) [e] [] pos) (mList f) := by
  refine weak (pe_callTy call_list_of hg hm (by decide +kernel) (pa_cons ha pa_nil he) (by decide) (by decide) he hpl) fun σ H Q hh => ?_
  obtain ⟨pi, m, rho, hm, hs, p⟩ := hh
  refine ⟨pi, m, rho, hm, hs, (PostV.bind p).mono fun x H1 h1 => ?_⟩
  obtain ⟨pi1, m1, d, st1, rm1, r, p1⟩ := h1
  cases hd : seqOf m1 d with
  | none =>
    simp only [hd] at p1
    exact p1.elim
  | some ds =>
    simp only [hd, onO_some] at p1
    by_cases hf : fzs ds = true
    · rw [if_pos hf] at p1
      obtain ⟨a, vs, rfl, sq, rs⟩ := seq_of rm1 r hd
      refine ⟨a, vs, rfl, sq, fun t n => ?_⟩
      obtain ⟨st, rm⟩ := rm1.alloc (o := .lst vs) (u := .lst ds) n hf ⟨vs, upd_same, rs.mono (stp_alloc n)⟩
      exact p1 (.ref t) _ _ st rm (by simp only [Rep]; exact ⟨t, rfl, by rw [← rm1.len]; exact last_get _ _⟩)
    · rw [if_neg hf] at p1
      exact p1.elim
/-- list + list: a new one -/
def mCat (f g : ME) : ME := fun rho m => (f rho m).bind fun p => (g rho p.2).bind fun q => onO (lstOf (deref q.2 p.1)) fun xs => onO (lstOf (deref q.2 q.1)) fun ys => if xs.length + ys.length ≤ small ∧ fzs xs = true ∧ fzs ys = true then .ok (.loc q.2.length, q.2 ++ [.lst (xs ++ ys)]) else .bad
theorem lst_at {K : PySem.W.Frag} {mg : Str → Option Value} {H : Hp} {pi : List Addr} {m : List O} {d : D} {v : V} {ds : List D} (hm : RepM K mg H pi m) (r : Rep K mg H pi d v) (e : lstOf (deref m d) = some ds) : ∃ a vs, v = .ref a ∧ H a = some (.lst vs) ∧ Reps K mg H pi ds vs := by
  cases d with
  | lst xs =>
    cases e
    simp only [Rep] at r
    obtain ⟨a, vs, rfl, n, q, rs⟩ := r
    exact ⟨a, vs, rfl, q, rs⟩
  | loc l =>
    unfold deref at e
    simp only at e
    split at e
    · rename_i h
      cases e
      obtain ⟨a, vs, rfl, ha, hH, rs, hf⟩ := hm.loc r h
      exact ⟨a, vs, rfl, hH, rs⟩
    · cases e
  | _ => cases e
theorem fzs_app : ∀ (xs ys : List D), fzs xs = true → fzs ys = true → fzs (xs ++ ys) = true
  | [], ys, _, h => h
  | x :: xs, ys, h, g => by
    simp only [fzs, Bool.and_eq_true, List.cons_append] at h ⊢
    exact ⟨h.1, fzs_app xs ys h.2 g⟩
theorem m_cat {f g : ME} (ha : ME1 X W a f) (hb : ME1 X W b g) : ME1 X W (.BinOp a .Add b pos) (mCat f g) := by
  refine weak (pe_op op_cat ha hb) fun σ H Q h => ?_
  obtain ⟨pi, m, rho, hm, hs, p⟩ := h
  refine ⟨pi, m, rho, hm, hs, (PostV.bind p).mono fun x H1 h1 => ?_⟩
  obtain ⟨pi1, m1, dx, st1, rm1, rx, p1⟩ := h1
  refine ⟨pi1, m1, rho, rm1, hs.mono st1, (PostV.bind p1).mono fun y H2 h2 => ?_⟩
  obtain ⟨pi2, m2, dy, st2, rm2, ry, p2⟩ := h2
  simp only at p2
  cases h3 : lstOf (deref m2 dx) with
  | none =>
    simp only [h3] at p2
    exact p2.elim
  | some xs =>
    cases h4 : lstOf (deref m2 dy) with
    | none =>
      simp only [h3, h4, onO_some] at p2
      exact p2.elim
    | some ys =>
      simp only [h3, h4, onO_some] at p2
      by_cases hc : xs.length + ys.length ≤ small ∧ fzs xs = true ∧ fzs ys = true
      · rw [if_pos hc] at p2
        obtain ⟨a1, vs, rfl, q1, rs⟩ := lst_at rm2 (Rep.mono st2 _ _ rx) h3
        obtain ⟨a2, ws, rfl, q2, rs2⟩ := lst_at rm2 ry h4
        refine ⟨a1, a2, vs, ws, rfl, rfl, q1, q2, sz (by rw [← rs.length, ← rs2.length]; exact hc.1), fun t n => ?_⟩
        obtain ⟨st, rm⟩ := rm2.alloc (o := .lst (vs ++ ws)) (u := .lst (xs ++ ys)) n (fzs_app xs ys hc.2.1 hc.2.2) ⟨_, upd_same, (rs.append rs2).mono (stp_alloc n)⟩
        exact p2 (.ref t) _ _ st rm (by simp only [Rep]; exact ⟨t, rfl, by rw [← rm2.len]; exact last_get _ _⟩)
      · rw [if_neg hc] at p2
        exact p2.elim
theorem frz_read {K : PySem.W.Frag} {mg : Str → Option Value} {f : ME} {σ : L2.St} {H : Hp} {Q : VK} (h : tE K mg W (mFrz f) σ H Q) : tE K mg W f σ H Q := by
  obtain ⟨pi, m, rho, hm, hs, p⟩ := h
  refine ⟨pi, m, rho, hm, hs, ?_⟩
  unfold mFrz at p
  cases hf : f rho m with
  | er x m1 =>
    rw [hf] at p
    exact p
  | bad =>
    rw [hf] at p
    exact p
  | ok q =>
    obtain ⟨d, m1⟩ := q
    rw [hf, R.bind_ok] at p
    intro v H1 pi1 st1 rm1 r1
    cases d with
    | loc l =>
      simp only at p
      by_cases hl : m.length ≤ l ∧ l + 1 = m1.length ∧ goOk l l m m1 = true
      · rw [if_pos hl] at p
        have hpl : pi.length ≤ l := by
          rw [hm.len]
          exact hl.1
        have hpre : pi.length ≤ pi1.length := by
          obtain ⟨r, e⟩ := st1.pre
          rw [e, List.length_append]
          omega
        have r1' := r1
        simp only [Rep] at r1'
        obtain ⟨a, rfl, ha⟩ := r1'
        have hal : a ∉ pi1.take l := fun hin => by
          obtain ⟨j, hj, ej⟩ := List.getElem_of_mem hin
          have hj2 : j < l := by
            rw [List.length_take] at hj
            omega
          rw [List.getElem_take] at ej
          obtain ⟨h1, e1⟩ := List.getElem?_eq_some_iff.mp ha
          have := (List.getElem_inj rm1.nd (i := j) (j := l)).mp (ej.trans e1.symm)
          omega
        have hH : ∃ u, H1 a = some u := by
          obtain ⟨u, e, _⟩ := rm1.at_some (List.mem_of_getElem? ha)
          exact ⟨u, e⟩
        have st2 := st1.cut (n := l) hpl
        have rm2 := rm1.cut hm l hpl (by unfold cutOk; rw [hl.2.2, Bool.or_true])
        cases hm1 : m1[l]? with
        | none =>
          rw [hm1] at p
          exact p.elim
        | some o =>
          cases o with
          | lst ds =>
            rw [hm1] at p
            obtain ⟨a', vs, e', ha', hH', rs, hfz⟩ := rm1.loc r1 hm1
            cases e'
            exact p (.ref a) H1 (pi1.take l) st2 rm2 (by simp only [Rep]; exact ⟨a, vs, rfl, hal, hH', Reps.cut (fun b hb => List.mem_of_mem_take hb) _ _ hfz rs⟩)
          | ins c ns ds =>
            rw [hm1] at p
            obtain ⟨C, dx, fv, g, e, en, rs⟩ := rm1.at_ l a _ ha hm1
            have hfz := rm1.fz l _ hm1
            exact p (.ref a) H1 (pi1.take l) st2 rm2 (by simp only [Rep]; exact ⟨a, C, dx, fv, rfl, hal, g, e, en, Reps.cut (fun b hb => List.mem_of_mem_take hb) _ _ hfz rs⟩)
          | dic ks ds =>
            rw [hm1] at p
            obtain ⟨es, ep, ns, kv, vs, e, hn, ok, r1, r2⟩ := rm1.at_ l a _ ha hm1
            have hfz : (fzs ks && fzs ds) = true := rm1.fz l _ hm1
            rw [Bool.and_eq_true] at hfz
            exact p (.ref a) H1 (pi1.take l) st2 rm2 (by simp only [Rep]; exact ⟨a, es, ep, ns, kv, vs, rfl, hal, e, hn, ok, Reps.cut (fun b hb => List.mem_of_mem_take hb) _ _ hfz.1 r1, Reps.cut (fun b hb => List.mem_of_mem_take hb) _ _ hfz.2 r2⟩)
          | nst ds =>
            rw [hm1] at p
            exact p.elim
          | ndc ks ds =>
            rw [hm1] at p
            exact p.elim
          | nin c ns ds =>
            rw [hm1] at p
            exact p.elim
          | dead =>
            rw [hm1] at p
            exact p.elim
      · rw [if_neg hl] at p
        exact p.elim
    | _ => exact p.elim
end
end Mi
namespace Mi
open PySem PySem.Spec L2

section
variable {X : Cx} {W : WX} {e a b c : Expr} {pos : Pos}
/-! ### in a tuple of data -/
def rInT (K : PySem.W.Frag) (neg : Bool) : R2 := fun x y H Q => ∃ d ds, Dp K H x d ∧ Dp K H y (.tuple ds) ∧ SeqAt.shaped d = true ∧ SeqAt.shaped (.tuple ds) = true ∧ Q (.bl (if neg = true then !(ds.any fun z => PyData.eqv z d) else ds.any fun z => PyData.eqv z d)) H
theorem lay_tup {ds : List PyData} (h : SeqAt.shaped (.tuple ds) = true) : PyData.canLayAll0 ds = true := by
  have h1 : (PyData.canLay0 (.tuple ds) && decide (PyData.depth (.tuple ds) ≤ 64)) = true := h
  have h2 := (Bool.and_eq_true _ _).mp h1
  have h3 := h2.1
  simp only [PyData.canLay0] at h3
  exact h3
theorem lay_of {d : PyData} (h : SeqAt.shaped d = true) : d.canLay0 = true := ((Bool.and_eq_true _ _).mp (show (d.canLay0 && decide (d.depth ≤ 64)) = true from h)).1
theorem op_inT (hu : X.A.units + 65 < cLine) : OpR X (compareOp .In) (rInT X.K false) := by
  rintro pins s σ H x y v u Q inv relx rely ⟨d, ds, isd, ist, small1, small2, won⟩
  have ⟨one, here⟩ := Dp.reads inv d x v isd relx
  have ⟨all, there⟩ := Dp.reads inv (.tuple ds) y u ist rely
  exact SeqAt.in_tuple_reads there here (lay_tup small2) (lay_of small1) (PyProof.Rows.room_in_shaped small1 hu) ⟨.bl _, H, inv, rfl, won⟩
def inP (m : List O) (x y : D) : Option Bool := (toPyM m x).bind fun p => match toPyM m y with
  | some (.tuple ds) => if SeqAt.shaped p = true ∧ SeqAt.shaped (.tuple ds) = true then some (ds.any fun z => PyData.eqv z p) else none
  | _ => none
def gIn : G2 := fun m x y => (inP m x y).map .bl
theorem o_in (hu : X.A.units + 65 < cLine) : OpM X (compareOp .In) gIn := opm_of (op_inT hu) fun pi m dx dy d x y H Q hm hx hy e q => by
  unfold gIn at e
  cases h : inP m dx dy with
  | none =>
    rw [h] at e
    cases e
  | some k =>
    rw [h] at e
    cases e
    unfold inP at h
    cases h1 : toPyM m dx with
    | none =>
      rw [h1] at h
      cases h
    | some p =>
      rw [h1, Option.bind_some] at h
      cases h2 : toPyM m dy with
      | none =>
        rw [h2] at h
        cases h
      | some r =>
        rw [h2] at h
        cases r with
        | tuple ds =>
          simp only at h
          by_cases hs : SeqAt.shaped p = true ∧ SeqAt.shaped (.tuple ds) = true
          · rw [if_pos hs] at h
            cases h
            exact ⟨p, ds, dpM_of hm hx h1, dpM_of hm hy h2, hs.1, hs.2, q _ H Stp.refl hm (by simp only [Rep]; rw [if_neg Bool.false_ne_true])⟩
          · rw [if_neg hs] at h
            cases h
        | _ => cases h

/-! ### enumerate(tuple), enumerate(tuple, start = k) -/
def IteT (K : PySem.W.Frag) (a : Addr) (c : Int) : It :=
  ⟨fun i H => ∃ (xs : List V) (x : V), SqT K H a xs ∧ xs[i]? = some x, fun i H v H' => ∃ T x, v = .ref T ∧ H T = none ∧ H' = upd H T (.tup [.int (c + (i : Nat)), x]) ∧ ∀ xs, SqT K H a xs → xs[i]? = some x, fun i H => ∃ xs : List V, SqT K H a xs ∧ xs.length = i⟩
/-- the enumerate object e stands over the tuple's iterator it: i pairs have been drawn -/
structure EnT (a e it : Addr) (c : Int) (i : Nat) (h : Heap) : Prop where
  own : ∃ w, IsEnum h e it (c + (i : Nat)) w
  under : h.IsTupleIter it a i
  two : e ≠ it
section
variable {a e it : Addr} {c : Int} {i : Nat} {h : Heap} {items : Array Value}
theorem EnT.either (t : EnT a e it c i h) : (∃ o, h.get? e = some o ∧ ∀ v, o.data ≠ .cell v) ∧ ∃ o, h.get? it = some o ∧ ∀ v, o.data ≠ .cell v := by
  have ⟨w, own⟩ := t.own
  have ⟨cell, at_, _, shape⟩ := t.under
  exact ⟨⟨_, own, fun _ no => by cases no⟩, cell, at_, fun _ no => by
    rw [shape] at no
    cases no⟩
theorem EnT.later {h' : Heap} (t : EnT a e it c i h) (ke : ∀ o, h.get? e = some o → h'.get? e = some o) (ki : ∀ o, h.get? it = some o → h'.get? it = some o) : EnT a e it c i h' :=
  ⟨t.own.imp fun _ own => ke _ own, t.under.at ki, t.two⟩
theorem EnT.lt (t : EnT a e it c i h) : e < h.objs.size ∧ it < h.objs.size := by
  have ⟨_, own⟩ := t.own
  have ⟨_, at_, _⟩ := t.under
  exact ⟨Heap.lt_size own, Heap.lt_size at_⟩
/-- what is a tuple is neither of the two -/
theorem EnT.apart (t : EnT a e it c i h) (isT : h.IsTuple a items) : e ≠ a ∧ a ≠ it := by
  have ⟨_, own⟩ := t.own
  have ⟨_, at_, cls, _⟩ := t.under
  have ⟨_, atT, clsT, _⟩ := isT
  constructor <;> intro same
  · rw [← same, own] at atT
    cases atT
    revert clsT
    intro no
    injection no with no
    revert no
    decide
  · rw [same, at_] at atT
    cases atT
    rw [cls] at clsT
    injection clsT with no
    revert no
    decide
end
theorem turn_enumT {P : Program} {w : World} {K : PySem.W.Frag} {elts : List Expr} {kk : Nat} {tpos : Pos} (a e it : Addr) (c : Int) :
    Turn P w K (.Tuple elts kk tpos) (IteT K a c) [e, it] e (EnT a e it c) where
  mem := List.mem_cons_self
  obj := fun i h t b here => by
    simp only [List.mem_cons, List.not_mem_nil, or_false] at here
    rcases here with rfl | rfl
    · exact t.either.1
    · exact t.either.2
  keep := fun i h h' t same => t.later (same e List.mem_cons_self) (same it (List.mem_cons_of_mem _ List.mem_cons_self))
  item := by
    intro X eP ew eK calm i pins s σ H E inv frame t ⟨xs, x, seq, atx⟩
    cases eP
    cases ew
    cases eK
    have ⟨items, vals, isT, _⟩ := inv.tuple seq
    have ⟨val, atv, rel⟩ := vals.get atx
    have ⟨ae, ai⟩ := t.apart isT
    have ⟨_, own⟩ := t.own
    have inside : i < items.toArray.size := by
      rw [List.size_toArray]
      exact (List.getElem?_eq_some_iff.mp atv).choose
    have quiet : X.A.in1.handled = none := inv.ok.hd calm
    refine wpAny_pyNext_enum_itemC (Draws.tuple quiet it a ai items.toArray) own ⟨t.under, isT⟩ inside t.two (by simp only [List.mem_cons, List.not_mem_nil, or_false, not_or]; exact ⟨t.two, ae⟩) fun y mid tk drawn out stands pair grown rest => ?_
    have ey : y = val := by
      have d1 : items.toArray[i]? = some y := drawn
      rw [List.getElem?_toArray, atv] at d1
      exact (Option.some.inj d1).symm
    rw [ey] at out pair
    refine ⟨_, rfl, wpAny_letOwnedTupleGo_enum (s := { s with heap := mid, toks := tk + 1 }) (ey ▸ out) fun last own2 but => ?_⟩
    have pair2 := (but.2 _ (Nat.ne_of_gt t.lt.1)).trans pair
    have fresh : ObjOk X.prog X.w (upd H s.heap.objs.size (.tup [.int (c + (i : Nat)), x])) last s.heap.objs.size (.tup [.int (c + (i : Nat)), x]) :=
      ⟨(by decide : 2 ≤ sizeLine), _, .cons ⟨_, rfl⟩ (.cons rel .nil), _, pair2, rfl, _, rfl⟩
    have inv2 : Inv X pins σ (upd H s.heap.objs.size (.tup [.int (c + (i : Nat)), x])) { s with heap := last, toks := tk + 1 } := by
      refine inv.turnedNew (ch := [e, it]) (fun b o far at_ => ?_) frame (Nat.le_refl _) fresh
      have be : b ≠ e := fun z => far (z ▸ List.mem_cons_self)
      have bi : b ≠ it := fun z => far (z ▸ List.mem_cons_of_mem _ List.mem_cons_self)
      exact (but.2 b be).trans (rest b o be bi at_)
    refine ⟨.ref s.heap.objs.size, _, inv2, rfl, ⟨_, x, rfl, inv.hok.fresh (Nat.le_refl _), rfl, fun zs seq2 => inv.tuple_inj seq2 seq ▸ atx⟩, ⟨⟨val, ?_⟩, stands.1.at fun o q => (but.2 it (Ne.symm t.two)).trans q, t.two⟩, fun b here => ?_⟩
    · rw [show c + ((i + 1 : Nat) : Int) = c + (i : Int) + 1 by omega]
      exact ey ▸ own2
    · have low : b < s.heap.objs.size := by
        simp only [List.mem_cons, List.not_mem_nil, or_false] at here
        rcases here with rfl | rfl
        · exact t.lt.1
        · exact t.lt.2
      exact (upd_ne (Nat.ne_of_lt low)).trans (frame b here).1
  done := by
    intro X eP ew eK calm i pins s σ H E inv frame t ⟨xs, seq, long⟩
    cases eP
    cases ew
    cases eK
    have ⟨items, vals, isT, _⟩ := inv.tuple seq
    have ⟨g0, g1, _, g3, g4, g5⟩ := frame it (List.mem_cons_of_mem _ List.mem_cons_self)
    have ⟨_, own⟩ := t.own
    have all : items.toArray.size = i := by rw [List.size_toArray, ← vals.length, long]
    have quiet : X.A.in1.handled = none := inv.ok.hd calm
    exact wpAny_pyNext_enum_endD (Draws.tuple quiet it a (t.apart isT).2 items.toArray) own ⟨all.symm ▸ t.under, isT⟩ fun h' but => ⟨rfl, inv.turned (t' := s.toks) (fun b o far at_ => but b o far at_) g0 g1 g3 g4 g5⟩
  self := fun A i s Q E t won => by
    have ⟨_, own⟩ := t.own
    exact wpAny_pyIter_enum own won
/-- a class of the language called with keywords -/
theorem callWith_type_kwB {M : Model} {A : Around} {E : Value → Shared → Prop} {s : Shared} {pos : Pos} {id : String} {first : List Value} {args : List (Bool × Sem Value)} {kws : List (Option Str × Sem Value)} {Q : Value → Shared → Prop}
    (noStar : args.any (·.1) = false) (noTwo : kws.any (·.1.isNone) = false)
    (run : wpAny M A (evalArgs (.type id) true args kws) (fun g s1 => wpAny M A (call (.type id) (first ++ g.pos) g.kw) Q E s1) E s) :
    wpAny M A (callWith pos (.type id) first args kws) Q E s := by
  unfold callWith
  apply wpAny_bind
  apply wpAny_holding
  refine wpAny_mono run (fun g s1 won => ?_) fun _ _ lost => lost
  apply wpAny_bind
  apply wpAny_standAt
  simp only [noStar, noTwo, Bool.or_false]
  apply wpAny_bind
  apply wpAny_pure
  apply wpAny_bind
  refine wpAny_mono won (fun r s2 got => ?_) fun _ _ lost => lost
  apply wpAny_bind
  apply wpAny_holding
  apply wpAny_point
  exact wpAny_pure got
/-- the new enumerate object: no count told -/
def enObj (it : Addr) : Obj := { cls := .type "enumerate", data := .fields #[.none, .bool false, .ref it, rawInt 0, .none, .none] }
set_option maxHeartbeats 0 in
theorem meets_enumerate_new0 {v : Value} {o : Obj} {H : Heap → Prop} (B : Begins v o H) :
    Meets (Builtin.«enumerate.__new__» ⟨[.type "enumerate", v], []⟩) (fun _ R s => H s.heap ∧ R (.ok (.ret (.ref (s.heap.push o).objs.size))) { s with heap := (s.heap.push o).push (enObj s.heap.objs.size) }) :=
  .of_wp fun prog w around R s both => by
    rcases s with ⟨hp, g, d, tk, os⟩
    rcases both with ⟨fits, won⟩
    have sub0 := sub_enumerate
    have come : ∀ {A1 : Around} {E1 Q1 : Value → Shared → Prop}, Q1 (.ref hp.objs.size) ⟨hp.push o, g, d, tk, os⟩ → wpAny (model prog w) A1 (pyIter v) Q1 E1 ⟨hp, g, d, tk, os⟩ := fun got => B.iter prog w _ _ ⟨hp, g, d, tk, os⟩ _ fits got
    unfold enObj at won
    wp_walk using come
    apply wpAny_stack_any
    intro top
    apply wpAny_pure
    split
    next c _ _ _ _ _ => cases (c == Value.type "enumerate") <;> (wp_walk using come; exact ⟨_, rfl, won⟩)
    next => wp_walk using come; exact ⟨_, rfl, won⟩
def enD (c : Int) (ds : List D) : List D := (List.range ds.length).map fun (k : Nat) => D.tup [.int (c + k), ds.getD k .non]
theorem enD_length (c : Int) (ds : List D) : (enD c ds).length = ds.length := by
  simp only [enD, List.length_map, List.length_range]
theorem walk_en {K : PySem.W.Frag} {mg : Str → Option Value} {H : Hp} {pi : List Addr} {a : Addr} {vs : List V} {ds : List D} (c : Int) (q : SqT K H a vs) (rs : Reps K mg H pi ds vs) : WalkM K mg (IteT K a c) (enD c ds) H pi := by
  refine ⟨fun H => SqT K H a vs, fun i H v H' => i < ds.length ∧ ∃ T x, v = .ref T ∧ H T = none ∧ H' = upd H T (.tup [.int (c + (i : Nat)), x]) ∧ vs[i]? = some x, ?_, fun H2 pi2 m2 s2 r2 => s2.sqt q, fun i H2 pi2 m2 x H3 s2 r2 y => ?_⟩
  · rw [enD_length, rs.length]
    exact ⟨fun i H hi q => ⟨vs, vs[i], q, by simp [hi]⟩, fun H q => ⟨vs, q, rfl⟩, fun i H x H' hi q y => by
      obtain ⟨T, x', h1, h2, h3, h4⟩ := y
      exact ⟨hi, T, x', h1, h2, h3, h4 vs q⟩⟩
  · obtain ⟨hi, T, x', rfl, n, rfl, hx⟩ := y
    obtain ⟨d, hd, r⟩ := rs.geto hx
    refine ⟨.tup [.int (c + i), d], ?_, stp_new n, r2.new n, ?_⟩
    · unfold enD
      rw [List.getElem?_map, List.getElem?_range hi]
      show some (D.tup [.int (c + i), ds.getD i .non]) = _
      rw [List.getD_eq_getElem?_getD, hd]
      rfl
    · simp only [Rep]
      exact ⟨T, _, rfl, SqT.of upd_same, reps_cons (by simp only [Rep]) (reps_cons (Rep.mono (s2.trans (stp_new n)) _ _ r) reps_nil)⟩
def mEn (c : Int) (f : ME) : MA := fun rho m => (f rho m).bind fun p => onO (tupOf p.1) fun ds => .ok (enD c ds, p.2)
/-- enumerate(v) without a count: two new cells (the library tells it of lists) -/
theorem enum_begins0 {prog : Program} {w : World} {A : Around} {E : Value → Shared → Prop} {s : Shared} {v : Value} {o : Obj} {H : Heap → Prop} {Q : Value → Shared → Prop} (B : Begins v o H) (fits : H s.heap)
    (go : ∀ hp, IsEnum hp (s.heap.objs.size + 1) s.heap.objs.size 0 .none → hp.get? s.heap.objs.size = some o → hp.objs.size = s.heap.objs.size + 2 → (∀ b ob, s.heap.get? b = some ob → hp.get? b = some ob) → Q (.ref (s.heap.objs.size + 1)) { s with heap := hp }) :
    wpAny (model prog w) A (call (.type "enumerate") [v]) Q E s := by
  have one : (s.heap.push o).objs.size = s.heap.objs.size + 1 := Heap.size_push ..
  have own : IsEnum ((s.heap.push o).push (enObj s.heap.objs.size)) (s.heap.objs.size + 1) s.heap.objs.size 0 .none := one ▸ Heap.get?_push_size (s.heap.push o) (o := enObj s.heap.objs.size) rfl
  have two : ((s.heap.push o).push (enObj s.heap.objs.size)).objs.size = s.heap.objs.size + 2 := by rw [Heap.size_push, one]
  have old : ∀ b ob, s.heap.get? b = some ob → ((s.heap.push o).push (enObj s.heap.objs.size)).get? b = some ob := fun b ob q => Heap.get?_push_of_some _ (Heap.get?_push_of_some _ q)
  have won := go _ own (Heap.get?_push_of_some _ (Heap.get?_push_size _ B.free)) two old
  apply callType_new F.called_enumerate (by decide) (F.typeCall_enumerate_1 _) (F.newCall_enumerate_1 _) (fun x => F.args_object_init_2 x _) F.entry_enumerate_new (meets_enumerate_new0 B)
  refine ⟨fits, ?_⟩
  show _ ∧ _
  rw [one]
  exact ⟨⟨_, own, rfl⟩, won⟩
/-- the iterator has come -/
theorem enum_come {pins : List (Addr × Obj)} {s : Shared} {σ : L2.St} {H : Hp} {R : It → Hp → Prop} {elts : List Expr} {kk : Nat} {tpos : Pos} {a : Addr} {c : Int} {hp : Heap} (inv : Inv X pins σ H s)
    (own : IsEnum hp (s.heap.objs.size + 1) s.heap.objs.size c .none) (under : hp.IsTupleIter s.heap.objs.size a 0) (old : ∀ b o, s.heap.get? b = some o → hp.get? b = some o) (won : R (IteT X.K a c) H) :
    wpAny (model X.prog X.w) X.A (pyIter (.ref (s.heap.objs.size + 1))) (PIE X pins σ (.Tuple elts kk tpos) R) X.xe { s with heap := hp } := by
  have t : EnT a (s.heap.objs.size + 1) s.heap.objs.size c 0 hp := ⟨⟨.none, by rw [show c + ((0 : Nat) : Int) = c by omega]; exact own⟩, under, Nat.succ_ne_self _⟩
  have high : ∀ b ∈ [s.heap.objs.size + 1, s.heap.objs.size], s.heap.objs.size ≤ b := fun b here => by
    simp only [List.mem_cons, List.not_mem_nil, or_false] at here
    omega
  exact wpAny_pyIter_enum own ⟨s.heap.objs.size + 1, [s.heap.objs.size + 1, s.heap.objs.size], _, _, H, rfl, inv.kept (t' := s.toks) old, turn_enumT a (s.heap.objs.size + 1) s.heap.objs.size c, t, fun b here => inv.fpOk (high b here) (inv.hok.fresh (high b here)), won⟩
theorem pi_enumK {ta : TE} {p tpos ip kp : Pos} {j : Nat} {c : Int} {elts : List Expr} {kk : Nat} (hg : Gl X "enumerate") (hm : X.mg "enumerate" = none) (ha : PE X e ta) (hc0 : -(2 ^ 62) ≤ c) (hc1 : c < 2 ^ 62)
    (hs2 : starEach [e] X.env = (false, eval e X.env) :: starEach [] X.env := by rfl) (he : backTo pos (starEach [e] X.env) = (false, eval e X.env) :: backTo pos (starEach [] X.env) := by rfl) (hplain : (backTo pos (starEach [e] X.env)).any (·.1) = false := by rfl)
    (hall : (backToKw pos (keywordEach [⟨some (Str.ofString "start"), .Constant (.int c) j ip, kp⟩] X.env)).all (·.1.isSome) = true := by rfl)
    (hkw : (backToKw pos (keywordEach [⟨some (Str.ofString "start"), .Constant (.int c) j ip, kp⟩] X.env)).any (·.1.isNone) = false := by rfl)
    (hnm : (backToKw pos (keywordEach [⟨some (Str.ofString "start"), .Constant (.int c) j ip, kp⟩] X.env)).filterMap (·.1) = [Str.ofString "start"] := by rfl) :
    PI X (.Tuple elts kk tpos) (.Call (.Name "enumerate" p) [e] [⟨some (Str.ofString "start"), .Constant (.int c) j ip, kp⟩] pos) (fun σ H R => ta σ H fun v H1 => ∃ a xs, [v] = [V.ref a] ∧ SqT X.K H1 a xs ∧ R (IteT X.K a c) H1) := by
  refine ⟨?_⟩
  intro pins s σ H R I h
  refine wpAny_Call_Name_kw (ld_blt I hg hm PyProof.Rows.boot_enumerate ?_ (by decide) (by decide))
  refine callWith_type_kwB hplain hkw ?_
  rw [he]
  refine PyProof.Rows.evalArgs_kwB hall ?_
  rw [← he]
  refine thn ((pa_cons ha pa_nil hs2).run pos pins s σ H (fun vs H1 => ∃ a xs, vs = [.ref a] ∧ SqT X.K H1 a xs ∧ R (IteT X.K a c) H1) I ?_) fun us s1 hh => ?_
  · exact h
  · obtain ⟨vs, H1, I1, r1, a, xs, ev, sq, q⟩ := hh
    subst ev
    cases r1 with
    | cons r rr =>
      cases rr
      cases r
      rw [hnm]
      refine PyProof.Rows.kws_cons (wpAny_Constant_int (PyProof.Rows.kws_nil ?_))
      have I2 := I1.tok (s1.toks + 1)
      obtain ⟨its, rv, p', hz⟩ := I2.tuple sq
      refine enum_begins_start (begins_tuple a its.toArray) p' (by omega) (by omega) fun h' he' hit hsz hk => ?_
      exact enum_come I2 he' ⟨_, hit, rfl, rfl⟩ hk q
theorem pi_enum0 {ta : TE} {p tpos : Pos} {elts : List Expr} {kk : Nat} (hg : Gl X "enumerate") (hm : X.mg "enumerate" = none) (ha : PE X e ta) (hs : starEach [e] X.env = [(false, eval e X.env)] := by rfl) (hs2 : starEach [e] X.env = (false, eval e X.env) :: starEach [] X.env := by rfl) :
    PI X (.Tuple elts kk tpos) (.Call (.Name "enumerate" p) [e] [] pos) (fun σ H R => ta σ H fun v H1 => ∃ a xs, [v] = [V.ref a] ∧ SqT X.K H1 a xs ∧ R (IteT X.K a 0) H1) := by
  refine ⟨?_⟩
  intro pins s σ H R I h
  refine PyProof.Rows.Call_ (ld_blt I hg hm PyProof.Rows.boot_enumerate (PyProof.Rows.callWith_type1 (thn ((pa_cons ha pa_nil hs2).run pos pins s σ H (fun vs H1 => ∃ a xs, vs = [.ref a] ∧ SqT X.K H1 a xs ∧ R (IteT X.K a 0) H1) I h) fun us s1 hh => ?_) hs rfl))
  obtain ⟨vs, H1, I1, r1, a, xs, ev, sq, q⟩ := hh
  subst ev
  cases r1 with
  | cons r rr =>
    cases rr
    cases r
    obtain ⟨its, rv, p', hz⟩ := I1.tuple sq
    refine enum_begins0 (begins_tuple a its.toArray) p' fun h' he' hit hsz hk => ?_
    exact enum_come I1 he' ⟨_, hit, rfl, rfl⟩ hk q
theorem i_enT_read {K : PySem.W.Frag} {mg : Str → Option Value} {f : ME} {c : Int} {σ : L2.St} {H : Hp} {R : It → Hp → Prop} (hh : tI K mg W (mEn c f) σ H R) : tE K mg W f σ H (fun v H1 => ∃ a xs, [v] = [V.ref a] ∧ SqT K H1 a xs ∧ R (IteT K a c) H1) := by
  obtain ⟨pi, m, rho, hm, hs, p⟩ := hh
  refine ⟨pi, m, rho, hm, hs, (PostV.bindI p).mono fun v H1 h1 => ?_⟩
  obtain ⟨pi1, m1, d, st1, rm1, r, p1⟩ := h1
  cases hd : tupOf d with
  | none =>
    simp only [hd] at p1
    exact p1.elim
  | some ds =>
    simp only [hd] at p1
    obtain ⟨a, vs, rfl, rd, r⟩ := rep_tup r hd
    exact ⟨a, vs, rfl, rd, p1 _ H1 pi1 Stp.refl rm1 (walk_en c rd r)⟩
theorem i_en0 {f : ME} {p tpos : Pos} {elts : List Expr} {kk : Nat} (hg : Gl X "enumerate") (hm : X.mg "enumerate" = none) (ha : ME1 X W e f) (hs : starEach [e] X.env = [(false, eval e X.env)] := by rfl) (hs2 : starEach [e] X.env = (false, eval e X.env) :: starEach [] X.env := by rfl) :
    MI1 X W (.Tuple elts kk tpos) (.Call (.Name "enumerate" p) [e] [] pos) (mEn 0 f) := weakI (pi_enum0 hg hm ha hs hs2) fun σ H R h => i_enT_read h
theorem i_enK {f : ME} {p tpos ip kp : Pos} {j : Nat} {c : Int} {elts : List Expr} {kk : Nat} (hg : Gl X "enumerate") (hm : X.mg "enumerate" = none) (ha : ME1 X W e f) (hc0 : -(2 ^ 62) ≤ c) (hc1 : c < 2 ^ 62)
    (hs2 : starEach [e] X.env = (false, eval e X.env) :: starEach [] X.env := by rfl) (he : backTo pos (starEach [e] X.env) = (false, eval e X.env) :: backTo pos (starEach [] X.env) := by rfl) (hplain : (backTo pos (starEach [e] X.env)).any (·.1) = false := by rfl)
    (hall : (backToKw pos (keywordEach [⟨some (Str.ofString "start"), .Constant (.int c) j ip, kp⟩] X.env)).all (·.1.isSome) = true := by rfl)
    (hkw : (backToKw pos (keywordEach [⟨some (Str.ofString "start"), .Constant (.int c) j ip, kp⟩] X.env)).any (·.1.isNone) = false := by rfl)
    (hnm : (backToKw pos (keywordEach [⟨some (Str.ofString "start"), .Constant (.int c) j ip, kp⟩] X.env)).filterMap (·.1) = [Str.ofString "start"] := by rfl) :
    MI1 X W (.Tuple elts kk tpos) (.Call (.Name "enumerate" p) [e] [⟨some (Str.ofString "start"), .Constant (.int c) j ip, kp⟩] pos) (mEn c f) := weakI (pi_enumK hg hm ha hc0 hc1 hs2 he hplain hall hkw hnm) fun σ H R h => i_enT_read h
end
end Mi
namespace Mi
open PySem PySem.Spec L2

/-! ### list comprehensions, one name -/
def W0 : WX := fun _ _ _ _ => False
def lcL (L i : Nat) (ft : MT) (fe : ME) (rho : List (Option D)) : List D → List O → Option (List O)
  | [], m => some m
  | d :: ds, m => match ft (rho.set i (some d)) m with
    | .ok p => if p.1 = true then (match fe (rho.set i (some d)) p.2 with
      | .ok q => (match q.2[L]? with
        | some (.lst acc) => if acc.length < small ∧ q.1.fz = true then lcL L i ft fe rho ds (q.2.set L (.lst (acc ++ [q.1]))) else none
        | _ => none)
      | _ => none) else lcL L i ft fe rho ds p.2
    | _ => none
def mLc (i : Nat) (fi : MA) (ft : MT) (fe : ME) : ME := fun rho m => (fi rho m).bind fun p => match lcL p.2.length i ft fe (rho.set i none) p.1 (p.2 ++ [.lst []]) with
  | some m' => .ok (.loc p.2.length, m')
  | none => .bad
def mYes : MT := fun _ m => .ok (true, m)
theorem RepS.wipe {K : PySem.W.Frag} {mg : Str → Option Value} {H : Hp} {pi : List Addr} {rho : List (Option D)} {σ : L2.St} (h : RepS K mg H pi rho σ) (i : Nat) : RepS K mg H pi (rho.set i none) (σ.set i none) := by
  refine ⟨by rw [List.length_set, List.length_set, h.len], fun j d hj => ?_⟩
  by_cases hij : i = j
  · subst hij
    by_cases hl : i < rho.length
    · rw [List.getElem?_set_self hl] at hj
      simp at hj
    · rw [List.getElem?_eq_none (by rw [List.length_set]; omega)] at hj
      cases hj
  · rw [List.getElem?_set_ne hij] at hj
    obtain ⟨v, a, b⟩ := h.at_ j d hj
    exact ⟨v, by rw [List.getElem?_set_ne hij]; exact a, b⟩
theorem lc_read {K : PySem.W.Frag} {mg : Str → Option Value} {W : WX} {i : Nat} {fi : MA} {ft : MT} {fe : ME} {σ : L2.St} {H : Hp} {Q : VK} (h : tE K mg W (mLc i fi ft fe) σ H Q) : tLc (tI K mg W fi) (gName i) (tT K mg W0 ft) (tE K mg W0 fe) [i] σ H Q := by
  obtain ⟨pi, m, rho, hm, hs, p⟩ := h
  have p : PostV K mg (fun c d H' => W c d σ H') H pi Q ((fi rho m).bind fun p => match lcL p.2.length i ft fe (rho.set i none) p.1 (p.2 ++ [.lst []]) with
    | some m' => .ok (.loc p.2.length, m')
    | none => .bad) := p
  refine ⟨pi, m, rho, hm, hs, ?_⟩
  cases hf : fi rho m with
  | er x m1 =>
    rw [hf] at p
    exact p
  | bad =>
    rw [hf] at p
    exact p.elim
  | ok q =>
    obtain ⟨ds, m1⟩ := q
    rw [hf, R.bind_ok] at p
    intro J H1 pi1 st1 rm1 wk
    simp only at p
    obtain ⟨G, Y, wk, hG, hY⟩ := wk.ex
    intro Da nD
    obtain ⟨stA, rmA⟩ := rm1.alloc (o := .lst []) (u := .lst []) nD (by rfl) ⟨[], upd_same, reps_nil⟩
    have hL : (pi1 ++ [Da])[m1.length]? = some Da := by
      rw [← rm1.len]
      exact last_get _ _
    cases hl : lcL m1.length i ft fe (rho.set i none) ds (m1 ++ [.lst []]) with
    | none =>
      rw [hl] at p
      exact p.elim
    | some mE =>
      rw [hl] at p
      refine lc_it wk (fun k H2 => ∃ pi2 m2, Stp (upd H1 Da (.lst [])) (pi1 ++ [Da]) H2 pi2 ∧ RepM K mg H2 pi2 m2 ∧ lcL m1.length i ft fe (rho.set i none) (ds.drop k) m2 = some mE)
        ⟨pi1 ++ [Da], m1 ++ [.lst []], Stp.refl, rmA, by rw [List.drop_zero]; exact hl⟩ (fun k H2 hk ⟨pi2, m2, s2, r2, _⟩ => hG H2 pi2 m2 (stA.trans s2) r2) (fun k x H2 H3 hk ⟨pi2, m2, s2, r2, e2⟩ hy => ?_) (fun H2 ⟨pi2, m2, s2, r2, e2⟩ => ?_)
      · obtain ⟨d, hd, st3, rm3, rx⟩ := hY k H2 pi2 m2 x H3 (stA.trans s2) r2 hy
        have hdr : ds.drop k = d :: ds.drop (k + 1) := by
          obtain ⟨hl, e⟩ := List.getElem?_eq_some_iff.mp hd
          rw [(List.drop_eq_getElem_cons hl :), e]
        rw [hdr] at e2
        simp only [lcL, List.set_set] at e2
        have hsW : RepS K mg H3 pi2 (rho.set i (some d)) (σ.set i (some x)) := (((hs.mono st1).mono (stA.trans s2)).mono st3).set i rx
        show (((wipe σ [i]).set i (some x)) |> fun σ2 => wipe σ2 [i] = wipe σ [i] ∧ _)
        have hw : (wipe σ [i]).set i (some x) = σ.set i (some x) := by
          show (σ.set i none).set i (some x) = _
          rw [List.set_set]
        rw [hw]
        refine ⟨by show (σ.set i (some x)).set i none = σ.set i none; rw [List.set_set], pi2, m2, rho.set i (some d), rm3, hsW, ?_⟩
        cases ht : ft (rho.set i (some d)) m2 with
        | er y m3 =>
          rw [ht] at e2
          cases e2
        | bad =>
          rw [ht] at e2
          cases e2
        | ok q =>
          obtain ⟨b, m3⟩ := q
          rw [ht] at e2
          simp only at e2
          intro H4 pi4 st4 rm4
          cases b with
          | false =>
            rw [if_neg Bool.false_ne_true] at e2 ⊢
            exact ⟨pi4, m3, (s2.trans st3).trans st4, rm4, e2⟩
          | true =>
            rw [if_pos rfl] at e2 ⊢
            refine ⟨pi4, m3, rho.set i (some d), rm4, hsW.mono st4, ?_⟩
            cases he : fe (rho.set i (some d)) m3 with
            | er y m5 =>
              rw [he] at e2
              cases e2
            | bad =>
              rw [he] at e2
              cases e2
            | ok q =>
              obtain ⟨y, m5⟩ := q
              rw [he] at e2
              simp only at e2
              intro v H5 pi5 st5 rm5 ry
              have hL5 : pi5[m1.length]? = some Da := (((s2.trans st3).trans st4).trans st5).get hL
              cases h6 : m5[m1.length]? with
              | none =>
                rw [h6] at e2
                cases e2
              | some o =>
                cases o with
                | ins c ns es =>
                  rw [h6] at e2
                  cases e2
                | dic ks es =>
                  rw [h6] at e2
                  cases e2
                | nst es =>
                  rw [h6] at e2
                  cases e2
                | ndc ks es =>
                  rw [h6] at e2
                  cases e2
                | nin c ns es =>
                  rw [h6] at e2
                  cases e2
                | dead =>
                  rw [h6] at e2
                  cases e2
                | lst acc =>
                  rw [h6] at e2
                  simp only at e2
                  by_cases hc : acc.length < small ∧ y.fz = true
                  · rw [if_pos hc] at e2
                    obtain ⟨vs, eH, rs⟩ := rm5.at_ _ _ _ hL5 h6
                    have hfa := rm5.fz _ _ h6
                    obtain ⟨st6, rm6⟩ := rm5.write (u := .lst (vs ++ [v])) (o' := .lst (acc ++ [y])) hL5 h6 (fzs_app acc [y] hfa (by simp [fzs, hc.2])) fun st => ⟨_, upd_same, (rs.append (reps_cons ry reps_nil)).mono st⟩
                    exact ⟨vs, eH, sz1 (rs.length ▸ hc.1), pi5, _, (((s2.trans st3).trans st4).trans st5).trans st6, rm6, e2⟩
                  · rw [if_neg hc] at e2
                    cases e2
      · rw [List.drop_length] at e2
        simp only [lcL] at e2
        cases e2
        exact p (.ref Da) H2 pi2 ((st1.trans stA).trans s2) r2 (by simp only [Rep]; exact ⟨Da, rfl, s2.get hL⟩)

section
variable {X : Cx} {W : WX} {pos : Pos}
theorem ts_one {Y : Cx} {c : Expr} {f : MT} (h : MT1 Y W c f) : PTs Y [c] (tT Y.K Y.mg W f) := pts_one h
theorem ts_nil {Y : Cx} : PTs Y [] (tT Y.K Y.mg W mYes) := ⟨fun pins s σ H Q I h => pts_nil.run pins s σ H Q I (by
  obtain ⟨pi, m, rho, hm, hs, p⟩ := h
  exact p H pi Stp.refl hm)⟩
theorem m_lc {i : Nat} {elt tg iter : Expr} {ifs : List Expr} {scope : Scope} {x : Str} {fi : MA} {ft : MT} {fe : ME} (hc : X.calm = true) (hN : X.N.Nodup) (hi : MI1 X W tg iter fi) (ok : BlkOk X.N X.env.scope scope [(x, i)])
    (hg : ∀ (s : Shared) (H : Hp) (C : Addr) (cl : List (Str × Addr)) (fp : List Addr), PG (X.blk s H scope (compEnvC scope cl C X.env) fp) tg (gName i))
    (ht : ∀ (s : Shared) (H : Hp) (C : Addr) (cl : List (Str × Addr)) (fp : List Addr), PTs (X.blk s H scope (compEnvC scope cl C X.env) fp) ifs (tT X.K X.mg W0 ft))
    (he : ∀ (s : Shared) (H : Hp) (C : Addr) (cl : List (Str × Addr)) (fp : List Addr), ME1 (X.blk s H scope (compEnvC scope cl C X.env) fp) W0 elt fe) (hs : ∀ x, foldedSetIterable iter X.env x = pure x := by intro _; rfl) :
    ME1 X W (.ListComp elt [⟨tg, iter, ifs, 0⟩] scope pos) (mLc i fi ft fe) :=
  weak (pe_lc (own := [(x, i)]) hc hN hi ok hg ht he hs) fun σ H Q h => lc_read h
theorem s_setLc {i j : Nat} {y : Str} {py spos : Pos} {elt tg iter : Expr} {ifs : List Expr} {scope : Scope} {x : Str} {fi : MA} {ft : MT} {fe : ME} (hc : X.calm = true) (hN : X.N.Nodup) (hy : X.N[j]? = some y) (hyl : X.env.scope.names.lookup y = some .local)
    (hsw : swapsWith (.ListComp elt [⟨tg, iter, ifs, 0⟩] scope pos) (some (.Name y py)) spos.line X.env = pure true) (hi : MI1 X W tg iter fi) (ok : BlkOk X.N X.env.scope scope [(x, i)])
    (hg : ∀ (s : Shared) (H : Hp) (C : Addr) (cl : List (Str × Addr)) (fp : List Addr), PG (X.blk s H scope (compEnvC scope cl C X.env) fp) tg (gName i))
    (ht : ∀ (s : Shared) (H : Hp) (C : Addr) (cl : List (Str × Addr)) (fp : List Addr), PTs (X.blk s H scope (compEnvC scope cl C X.env) fp) ifs (tT X.K X.mg W0 ft))
    (he : ∀ (s : Shared) (H : Hp) (C : Addr) (cl : List (Str × Addr)) (fp : List Addr), ME1 (X.blk s H scope (compEnvC scope cl C X.env) fp) W0 elt fe) {f : ME} (hr : ∀ σ H Q, tE X.K X.mg W f σ H Q → tE X.K X.mg W (mLc i fi ft fe) σ H Q) (hs : ∀ x, foldedSetIterable iter X.env x = pure x := by intro _; rfl) :
    MS1 X W (.Assign [.Name y py] (.ListComp elt [⟨tg, iter, ifs, 0⟩] scope pos) spos) (mSet j f) :=
  weakS (ps_setLc (own := [(x, i)]) hc hN hy hyl hsw hi ok hg ht he hs) fun σ H Z hh => by
    obtain ⟨pi, m, rho, hm, hs, p⟩ := hh
    have p : PostS X.K X.mg W Z H pi (onR (f rho m) rho fun d m => .nx (rho.set j (some d)) m) := p
    refine lc_read (hr σ H _ ⟨pi, m, rho, hm, hs, (post_onV hs p).mono fun v H1 h1 => ?_⟩)
    obtain ⟨pi1, m1, d, st1, rm1, r, p1⟩ := h1
    exact p1 _ H1 pi1 Stp.refl rm1 ((hs.mono st1).set j r)
theorem m_frz {e : Expr} {f : ME} (h : ME1 X W e f) : ME1 X W e (mFrz f) := weak h fun σ H Q => frz_read

/-! ### defs -/
/-- what a def hands back to its caller: what it laid itself is taken out of the store -/
def fq (n : Nat) (m : List O) (d : D) : Option D := match d with
  | .loc l => if l < n then some (.loc l) else (match m[l]? with
    | some (.lst ds) => some (.lst ds)
    | some (.ins c ns ds) => some (.ins c ns ds)
    | some (.dic ks ds) => some (.dic ks ds)
    | _ => none)
  | d => if d.fz = true then some d else none
def fqs (n : Nat) (m : List O) : List D → Option (List D)
  | [] => some []
  | d :: ds => (fq n m d).bind fun e => (fqs n m ds).map fun es => e :: es
def fr0 (n : Nat) (m : List O) (d : D) : Option D := match d with
  | .loc l => if l < n then some (.loc l) else (match m[l]? with
    | some (.lst ds) => some (.lst ds)
    | some (.ins c ns ds) => some (.ins c ns ds)
    | some (.dic ks ds) => some (.dic ks ds)
    | some (.nst ds) => (fqs n m ds).map .lst
    | some (.ndc ks ds) => (fqs n m ds).map (.dic ks)
    | some (.nin c ns ds) => (fqs n m ds).map (.ins c ns)
    | _ => none)
  | d => if d.fz = true then some d else none
def frs (n : Nat) (m : List O) : List D → Option (List D)
  | [] => some []
  | d :: ds => (fr0 n m d).bind fun e => (frs n m ds).map fun es => e :: es
def fr (n : Nat) (m : List O) (d : D) : Option D := match d with
  | .tup ds => (frs n m ds).map .tup
  | d => fr0 n m d
section
variable {K : PySem.W.Frag} {mg : Str → Option Value} {H : Hp} {pi : List Addr} {m : List O}
theorem fz_keep {n : Nat} {d d' : D} {v : V} (r : Rep K mg H pi d v) (e : (if d.fz = true then some d else none) = some d') : Rep K mg H (pi.take n) d' v := by
  by_cases hf : d.fz = true
  · rw [if_pos hf] at e
    cases e
    exact Rep.cut (fun b hb => List.mem_of_mem_take hb) _ _ hf r
  · rw [if_neg hf] at e
    cases e
theorem fq_ok (hm : RepM K mg H pi m) {n : Nat} {d d' : D} {v : V} (r : Rep K mg H pi d v) (e : fq n m d = some d') : Rep K mg H (pi.take n) d' v := by
  unfold fq at e
  split at e
  · rename_i l
    have r' := r
    simp only [Rep] at r'
    obtain ⟨a, rfl, ha⟩ := r'
    by_cases hl : l < n
    · rw [if_pos hl] at e
      cases e
      simp only [Rep]
      exact ⟨a, rfl, by rw [List.getElem?_take, if_pos hl]; exact ha⟩
    · rw [if_neg hl] at e
      have hal : a ∉ pi.take n := fun hin => by
        obtain ⟨j, hj, ej⟩ := List.getElem_of_mem hin
        have hj2 : j < n := by
          rw [List.length_take] at hj
          omega
        rw [List.getElem_take] at ej
        obtain ⟨h1, e1⟩ := List.getElem?_eq_some_iff.mp ha
        have := (List.getElem_inj hm.nd (i := j) (j := l)).mp (ej.trans e1.symm)
        omega
      split at e
      · rename_i ds h1
        cases e
        obtain ⟨a', vs, e', ha', hH', rs, hfz⟩ := hm.loc r h1
        cases e'
        simp only [Rep]
        exact ⟨a, vs, rfl, hal, hH', Reps.cut (fun b hb => List.mem_of_mem_take hb) _ _ hfz rs⟩
      · rename_i c ns ds h1
        cases e
        obtain ⟨C, dx, fv, g, e, en, rs⟩ := hm.at_ l a _ ha h1
        have hfz := hm.fz l _ h1
        simp only [Rep]
        exact ⟨a, C, dx, fv, rfl, hal, g, e, en, Reps.cut (fun b hb => List.mem_of_mem_take hb) _ _ hfz rs⟩
      · rename_i ks ds h1
        cases e
        obtain ⟨es, ep, ns, kv, vs, e, hn, ok, r1, r2⟩ := hm.at_ l a _ ha h1
        have hfz : (fzs ks && fzs ds) = true := hm.fz l _ h1
        rw [Bool.and_eq_true] at hfz
        simp only [Rep]
        exact ⟨a, es, ep, ns, kv, vs, rfl, hal, e, hn, ok, Reps.cut (fun b hb => List.mem_of_mem_take hb) _ _ hfz.1 r1, Reps.cut (fun b hb => List.mem_of_mem_take hb) _ _ hfz.2 r2⟩
      · cases e
  · exact fz_keep r e
theorem fqs_ok (hm : RepM K mg H pi m) {n : Nat} : ∀ {ds ds' : List D} {vs : List V}, Reps K mg H pi ds vs → fqs n m ds = some ds' → Reps K mg H (pi.take n) ds' vs
  | [], ds', vs, r, e => by
    simp only [fqs] at e
    cases e
    simp only [Reps] at r ⊢
    exact r
  | d :: ds, ds', vs, r, e => by
    simp only [fqs] at e
    simp only [Reps] at r
    obtain ⟨v, w, rfl, r1, r2⟩ := r
    cases h1 : fq n m d with
    | none =>
      rw [h1] at e
      cases e
    | some d1 =>
      rw [h1] at e
      cases h2 : fqs n m ds with
      | none =>
        rw [h2] at e
        cases e
      | some ds1 =>
        rw [h2] at e
        cases e
        exact reps_cons (fq_ok hm r1 h1) (fqs_ok hm r2 h2)
theorem fr0_ok (hm : RepM K mg H pi m) {n : Nat} {d d' : D} {v : V} (r : Rep K mg H pi d v) (e : fr0 n m d = some d') : Rep K mg H (pi.take n) d' v := by
  unfold fr0 at e
  split at e
  · rename_i l
    have r' := r
    simp only [Rep] at r'
    obtain ⟨a, rfl, ha⟩ := r'
    by_cases hl : l < n
    · rw [if_pos hl] at e
      cases e
      simp only [Rep]
      exact ⟨a, rfl, by rw [List.getElem?_take, if_pos hl]; exact ha⟩
    · rw [if_neg hl] at e
      have hal : a ∉ pi.take n := fun hin => by
        obtain ⟨j, hj, ej⟩ := List.getElem_of_mem hin
        have hj2 : j < n := by
          rw [List.length_take] at hj
          omega
        rw [List.getElem_take] at ej
        obtain ⟨h1, e1⟩ := List.getElem?_eq_some_iff.mp ha
        have := (List.getElem_inj hm.nd (i := j) (j := l)).mp (ej.trans e1.symm)
        omega
      split at e
      · rename_i ds h1
        cases e
        obtain ⟨a', vs, e', ha', hH', rs, hfz⟩ := hm.loc r h1
        cases e'
        simp only [Rep]
        exact ⟨a, vs, rfl, hal, hH', Reps.cut (fun b hb => List.mem_of_mem_take hb) _ _ hfz rs⟩
      · rename_i c ns ds h1
        cases e
        obtain ⟨C, dx, fv, g, e, en, rs⟩ := hm.at_ l a _ ha h1
        have hfz := hm.fz l _ h1
        simp only [Rep]
        exact ⟨a, C, dx, fv, rfl, hal, g, e, en, Reps.cut (fun b hb => List.mem_of_mem_take hb) _ _ hfz rs⟩
      · rename_i ks ds h1
        cases e
        obtain ⟨es, ep, ns, kv, vs, e, hn, ok, r1, r2⟩ := hm.at_ l a _ ha h1
        have hfz : (fzs ks && fzs ds) = true := hm.fz l _ h1
        rw [Bool.and_eq_true] at hfz
        simp only [Rep]
        exact ⟨a, es, ep, ns, kv, vs, rfl, hal, e, hn, ok, Reps.cut (fun b hb => List.mem_of_mem_take hb) _ _ hfz.1 r1, Reps.cut (fun b hb => List.mem_of_mem_take hb) _ _ hfz.2 r2⟩
      · rename_i ds h1
        obtain ⟨vs, e0, rs⟩ := hm.at_ l a _ ha h1
        cases h2 : fqs n m ds with
        | none =>
          rw [h2] at e
          cases e
        | some ds' =>
          rw [h2] at e
          cases e
          simp only [Rep]
          exact ⟨a, vs, rfl, hal, e0, fqs_ok hm rs h2⟩
      · rename_i ks ds h1
        obtain ⟨es, ep, ns, kv, vs, e0, hn, ok, r1, r2⟩ := hm.at_ l a _ ha h1
        have hfz : fzs ks = true := hm.fz l _ h1
        cases h2 : fqs n m ds with
        | none =>
          rw [h2] at e
          cases e
        | some ds' =>
          rw [h2] at e
          cases e
          simp only [Rep]
          exact ⟨a, es, ep, ns, kv, vs, rfl, hal, e0, hn, ok, Reps.cut (fun b hb => List.mem_of_mem_take hb) _ _ hfz r1, fqs_ok hm r2 h2⟩
      · rename_i c ns ds h1
        obtain ⟨C, dx, fv, g, e0, en, rs⟩ := hm.at_ l a _ ha h1
        cases h2 : fqs n m ds with
        | none =>
          rw [h2] at e
          cases e
        | some ds' =>
          rw [h2] at e
          cases e
          simp only [Rep]
          exact ⟨a, C, dx, fv, rfl, hal, g, e0, en, fqs_ok hm rs h2⟩
      · cases e
  · exact fz_keep r e
theorem frs_ok (hm : RepM K mg H pi m) {n : Nat} : ∀ {ds ds' : List D} {vs : List V}, Reps K mg H pi ds vs → frs n m ds = some ds' → Reps K mg H (pi.take n) ds' vs
  | [], ds', vs, r, e => by
    simp only [frs] at e
    cases e
    simp only [Reps] at r ⊢
    exact r
  | d :: ds, ds', vs, r, e => by
    simp only [frs] at e
    simp only [Reps] at r
    obtain ⟨v, w, rfl, r1, r2⟩ := r
    cases h1 : fr0 n m d with
    | none =>
      rw [h1] at e
      cases e
    | some d1 =>
      rw [h1] at e
      cases h2 : frs n m ds with
      | none =>
        rw [h2] at e
        cases e
      | some ds1 =>
        rw [h2] at e
        cases e
        exact reps_cons (fr0_ok hm r1 h1) (frs_ok hm r2 h2)
theorem fr_ok (hm : RepM K mg H pi m) {n : Nat} {d d' : D} {v : V} (r : Rep K mg H pi d v) (e : fr n m d = some d') : Rep K mg H (pi.take n) d' v := by
  unfold fr at e
  split at e
  · rename_i ds
    simp only [Rep] at r
    obtain ⟨a, vs, rfl, q, rs⟩ := r
    cases h : frs n m ds with
    | none =>
      rw [h] at e
      cases e
    | some ds' =>
      rw [h] at e
      cases e
      simp only [Rep]
      exact ⟨a, vs, rfl, q, frs_ok hm rs h⟩
  · exact fr0_ok hm r e
theorem RepX.cut {n : Nat} {x : Xn} {c : Value} {d : Option Addr} (h : RepX K mg H pi x c d) : RepX K mg H (pi.take n) x c d := by
  obtain ⟨C, h1, h2, h3⟩ := h
  refine ⟨C, h1, h2, ?_⟩
  rcases h3 with h3 | ⟨f, y, a, v, e1, e2, e3, n1, hf, r⟩ | ⟨f, y, g, z, a, v, u, e1, e2, e3, n1, hf, r, r2⟩
  · exact .inl h3
  · exact .inr (.inl ⟨f, y, a, v, e1, e2, e3, fun z => n1 (List.mem_of_mem_take z), hf, Rep.cut (fun b hb => List.mem_of_mem_take hb) _ _ hf r⟩)
  · exact .inr (.inr ⟨f, y, g, z, a, v, u, e1, e2, e3, fun z => n1 (List.mem_of_mem_take z), hf, Rep.cut (fun b hb => List.mem_of_mem_take hb) _ _ hf.1 r, Rep.cut (fun b hb => List.mem_of_mem_take hb) _ _ hf.2 r2⟩)
end
def outRaw : Fl → RE
  | .rt d m => .ok (d, m)
  | .nx _ m => .ok (.non, m)
  | .er x _ m => .er x m
  | _ => .bad
def outCut (m0 : List O) : Fl → RE
  | .rt d m => if cutOk m0 m m0.length = true then (match fr m0.length m d with
    | some d => .ok (d, m.take m0.length)
    | none => .bad) else .bad
  | .nx _ m => if cutOk m0 m m0.length = true then .ok (.non, m.take m0.length) else .bad
  | .er x _ m => if cutOk m0 m m0.length = true then .er x (m.take m0.length) else .bad
  | _ => .bad
def startD (k : Nat) (ds : List D) : List (Option D) := ds.map some ++ List.replicate (k - ds.length) none
theorem start_rep {K : PySem.W.Frag} {mg : Str → Option Value} {H : Hp} {pi : List Addr} {N : List Str} {ds : List D} {vs : List V} (r : Reps K mg H pi ds vs) : RepS K mg H pi (startD N.length ds) (L2.start N vs) := by
  have hl := r.length
  refine ⟨by unfold startD L2.start; simp [hl], fun i d e => ?_⟩
  unfold startD at e
  by_cases hi : i < ds.length
  · rw [List.getElem?_append_left (by rw [List.length_map]; exact hi), List.getElem?_map] at e
    have e2 : ds[i]? = some d := by
      rw [List.getElem?_eq_getElem hi] at e ⊢
      simpa using e
    obtain ⟨v, e3, r3⟩ := r.get e2
    refine ⟨v, ?_, r3⟩
    unfold L2.start
    rw [List.getElem?_append_left (by rw [List.length_map, ← hl]; exact hi), List.getElem?_map, e3]
    rfl
  · rw [List.getElem?_append_right (by rw [List.length_map]; omega)] at e
    have := List.mem_of_getElem? e
    have := List.eq_of_mem_replicate this
    cases this
/-- the rule for a def: its body is worth b, and b is worth G -/
theorem fn_ok {P : Program} {w : World} {K : PySem.W.Frag} {mg : Str → Option Value} {base : Heap} {x qual : Str} {st : Stmt} {f : Addr} {fd : FuncData} {N ps : List Str} {k n : Nat} {b : MS} {G : GF} (F : Fun K x qual st f fd) (S : FnScope N ps (defScope st)) (hps : ps.length = n)
    (hb : ∀ (cdv : Value) (A : Around) (outer : List Env) (s : Shared) (H : Hp) (E : XK), Room k (A.deeper (PyProof.Rows.envOfC qual (defScope st) s.heap.objs.size f cdv)) →
      MSs (cxOf (L2.CX P w) P w K mg base N qual (defScope st) f cdv A outer s H E) (fun c d _ H' => E c d H') (defBody st) b)
    (hG : ∀ ds m, ds.length = n → G ds m = .bad ∨ G ds m = outCut m (b (startD N.length ds) m) ∨ G ds m = outRaw (b (startD N.length ds) m)) :
    FnOk P w K mg base (L2.CX P w) (k + 1) f fd ps (spM K mg n G) := by
  refine F.okX S (fun vs H Q E h => by rw [h.1, hps]) fun cdv A outer s H vs Q E hr h => ?_
  obtain ⟨hn, pi, m, ds, hm, hr1, p⟩ := h
  refine ⟨_, hb cdv A outer s H E hr, pi, m, startD N.length ds, hm, start_rep hr1, ?_⟩
  have hml : m.length = pi.length := hm.len.symm
  rcases hG ds m (by rw [hr1.length]; exact hn) with e | e | e
  · rw [e] at p
    exact p.elim
  · rw [e] at p
    cases hf : b (startD N.length ds) m with
    | rt d m1 =>
      rw [hf] at p
      simp only [outCut] at p
      intro v H1 pi1 st1 rm1 r1
      by_cases ck : cutOk m m1 m.length = true
      case neg =>
        rw [if_neg ck] at p
        exact p.elim
      rw [if_pos ck] at p
      cases h2 : fr m.length m1 d with
      | none =>
        rw [h2] at p
        exact p.elim
      | some d' =>
        rw [h2] at p
        exact p v H1 _ (st1.cut (Nat.le_of_eq hml.symm)) (rm1.cut hm _ (Nat.le_of_eq hm.len) ck) (fr_ok rm1 r1 h2)
    | nx rho m1 =>
      rw [hf] at p
      simp only [outCut] at p
      intro σ1 H1 pi1 st1 rm1 r1
      by_cases ck : cutOk m m1 m.length = true
      case neg =>
        rw [if_neg ck] at p
        exact p.elim
      rw [if_pos ck] at p
      exact p .non H1 _ (st1.cut (Nat.le_of_eq hml.symm)) (rm1.cut hm _ (Nat.le_of_eq hm.len) ck) (by simp only [Rep])
    | er y rho m1 =>
      rw [hf] at p
      simp only [outCut] at p
      intro c dx σ1 H1 pi1 st1 rm1 r1 rx
      by_cases ck : cutOk m m1 m.length = true
      case neg =>
        rw [if_neg ck] at p
        exact p.elim
      rw [if_pos ck] at p
      exact p c dx H1 _ (st1.cut (Nat.le_of_eq hml.symm)) (rm1.cut hm _ (Nat.le_of_eq hm.len) ck) rx.cut
    | bk rho m1 =>
      rw [hf] at p
      exact p.elim
    | ct rho m1 =>
      rw [hf] at p
      exact p.elim
    | bad =>
      rw [hf] at p
      exact p.elim
  · rw [e] at p
    cases hf : b (startD N.length ds) m with
    | rt d m1 =>
      rw [hf] at p
      exact fun v H1 pi1 st1 rm1 r1 => p v H1 pi1 st1 rm1 r1
    | nx rho m1 =>
      rw [hf] at p
      exact fun σ1 H1 pi1 st1 rm1 r1 => p .non H1 pi1 st1 rm1 (by simp only [Rep])
    | er y rho m1 =>
      rw [hf] at p
      exact fun c dx σ1 H1 pi1 st1 rm1 r1 rx => p c dx H1 pi1 st1 rm1 rx
    | bk rho m1 =>
      rw [hf] at p
      exact p.elim
    | ct rho m1 =>
      rw [hf] at p
      exact p.elim
    | bad =>
      rw [hf] at p
      exact p.elim

/-! ### what never runs; raise -/
def mBad : MS := fun _ _ => .bad
theorem s_never {st : Stmt} : MS1 X W st mBad := weakS ps_never fun σ H Z h => by
  obtain ⟨pi, m, rho, hm, hs, p⟩ := h
  exact p
theorem ss_never {st : List Stmt} : MSs X W st mBad := weakSs pss_never fun σ H Z h => by
  obtain ⟨pi, m, rho, hm, hs, p⟩ := h
  exact p
def mRaise (x : Str) : MS := fun rho m => .er ⟨x, []⟩ rho m
theorem s_raise {x t : Str} {C : Addr} {bmB : List Value} {B newId initId : String} {j : Nat} {p p2 p3 : Pos} (hc : X.calm = true) (tk : Takes X W) (F : ExcBaseFacts B newId initId bmB) (q : PySem.W.excIn X.K C bmB newId = true) (gC : X.mg x = some (.ref C))
    (kC : PySem.W.keepIn X.K (.ref C) = true) (r : Raises X (.ref C)) (hg : Gl X x) (hdb : (x == ("__debug__" : Str)) = false := by decide) : MS1 X W (.Raise (some (.Call (.Name x p) [.Constant (.str t) j p2] [] p3)) none pos) (mRaise x) :=
  weakS (ps_raise hc tk (pmk_own F q gC kC r hg hdb)) fun σ H Z h => by
    obtain ⟨pi, m, rho, hm, hs, p⟩ := h
    exact p (.ref C) none σ H pi Stp.refl hm hs ⟨C, gC, rfl, .inl ⟨rfl, rfl⟩⟩
end
end Mi
namespace Mi
open PySem PySem.Spec L2

section
variable {X : Cx} {W : WX} {e : Expr} {pos : Pos}
/-! ### instances -/
def insOf (c0 : Str) (d : D) : Option (List Str × List D) := match d with
  | .ins c ns ds => if c = c0 then some (ns, ds) else none
  | _ => none
def fldAt (f : Str) : List Str → List D → Option D
  | n :: ns, d :: ds => if f = n then some d else fldAt f ns ds
  | _, _ => none
theorem fld_of {K : PySem.W.Frag} {mg : Str → Option Value} {H : Hp} {pi : List Addr} {f : Str} {d : D} : ∀ {ns : List Str} {ds : List D} {fv : List (Str × V)}, fv.map (·.1) = ns → Reps K mg H pi ds (fv.map (·.2)) → fldAt f ns ds = some d → ∃ v, fv.lookup f = some v ∧ Rep K mg H pi d v
  | [], ds, fv, en, r, h => by
    unfold fldAt at h
    cases h
  | n :: ns, [], fv, en, r, h => by
    unfold fldAt at h
    cases h
  | n :: ns, d0 :: ds, [], en, r, h => by cases en
  | n :: ns, d0 :: ds, (m, v) :: fv, en, r, h => by
    simp only [List.map_cons, List.cons.injEq] at en
    obtain ⟨rfl, en⟩ := en
    simp only [List.map_cons, Reps] at r
    obtain ⟨v1, r1, e1, h1, h2⟩ := r
    simp only [List.cons.injEq] at e1
    obtain ⟨rfl, rfl⟩ := e1
    simp only [fldAt] at h
    by_cases hf : f = m
    · rw [if_pos hf] at h
      cases h
      exact ⟨v, by subst hf; simp [List.lookup], h1⟩
    · rw [if_neg hf] at h
      obtain ⟨w, e2, r2⟩ := fld_of en h2 h
      exact ⟨w, by simp only [List.lookup]; rw [show (f == m) = false from by simpa using hf]; exact e2, r2⟩
def mFldI (c0 f : Str) (fe : ME) : ME := fun rho m => (fe rho m).bind fun p => onO (insOf c0 p.1) fun q => onO (fldAt f q.1 q.2) fun d => .ok (d, p.2)
theorem ins_of {K : PySem.W.Frag} {mg : Str → Option Value} {H : Hp} {pi : List Addr} {c0 : Str} {d : D} {v : V} {q : List Str × List D} (r : Rep K mg H pi d v) (e : insOf c0 d = some q) : ∃ a C dx fv, v = .ref a ∧ a ∉ pi ∧ mg c0 = some (.ref C) ∧ H a = some (.ins C dx fv) ∧ fv.map (·.1) = q.1 ∧ Reps K mg H pi q.2 (fv.map (·.2)) := by
  cases d with
  | ins c ns ds =>
    simp only [insOf] at e
    by_cases hc : c = c0
    · rw [if_pos hc] at e
      cases e
      simp only [Rep] at r
      obtain ⟨a, C, dx, fv, h⟩ := r
      exact ⟨a, C, dx, fv, h.1, h.2.1, hc ▸ h.2.2.1, h.2.2.2.1, h.2.2.2.2.1, h.2.2.2.2.2⟩
    · rw [if_neg hc] at e
      cases e
  | _ => cases e
/-- a property of a finished instance -/
theorem m_prop {c0 pr f : Str} {k : Nat} {C p g : Addr} {fd : FuncData} {ps : List Str} {fe : ME} (he : ME1 X W e fe) (c : Cls X.K C) (hC : X.mg c0 = some (.ref C)) (hp : PropOf X.K C pr p g) (F : FnOk X.prog X.w X.K X.mg X.base CX0 k g fd ps (getSp C f)) (hr : Room (k + 1) X.A)
    (hb : Binds X.K fd ps []) (hab : attributeBase e pr X.env (eval e X.env) = eval e X.env := by rfl) : ME1 X W (.Attribute e pr pos) (mFldI c0 f fe) := by
  refine weak (pe_prop he c hp F hr hb .nil (E := E0) pass0 hab) fun σ H Q hh => ?_
  obtain ⟨pi, m, rho, hm, hs, p⟩ := hh
  refine ⟨pi, m, rho, hm, hs, (PostV.bind p).mono fun v H1 h1 => ?_⟩
  obtain ⟨pi1, m1, d, st1, rm1, r, p1⟩ := h1
  cases hd : insOf c0 d with
  | none =>
    simp only [hd] at p1
    exact p1.elim
  | some q =>
    simp only [hd, onO_some] at p1
    obtain ⟨a, C', dx, fv, rfl, na, g', ha, en, rs⟩ := ins_of r hd
    rw [hC] at g'
    cases g'
    cases hf : fldAt f q.1 q.2 with
    | none =>
      simp only [hf] at p1
      exact p1.elim
    | some y =>
      simp only [hf, onO_some] at p1
      obtain ⟨w, e2, r2⟩ := fld_of en rs hf
      exact ⟨a, dx, fv, rfl, ha, a, dx, fv, w, rfl, ha, e2, p1.here rm1 r2⟩
/-- self.f = e in __init__ -/
def atI (m : List O) (d : D) : Option (Nat × Str × List Str × List D) := match d with
  | .loc l => (match m[l]? with
    | some (.ins c ns ds) => some (l, c, ns, ds)
    | _ => none)
  | _ => none
theorem atI_of {m : List O} {d : D} {l : Nat} {c : Str} {ns : List Str} {ds : List D} (h : atI m d = some (l, c, ns, ds)) : d = .loc l ∧ m[l]? = some (.ins c ns ds) := by
  unfold atI at h
  split at h
  · split at h
    · rename_i he
      cases h
      exact ⟨rfl, he⟩
    · cases h
  · cases h
def mSetF (c0 f : Str) (fv fo : ME) : MS := fun rho m => onR (fv rho m) rho fun v m => onR (fo rho m) rho fun o m => match atI m o with
  | some z => if z.2.1 = c0 ∧ f ∉ z.2.2.1 ∧ v.fz = true ∧ z.2.2.1.length < 900 then .nx rho (m.set z.1 (.ins z.2.1 (z.2.2.1 ++ [f]) (z.2.2.2 ++ [v]))) else .bad
  | none => .bad
theorem putF_new {f : Str} {v : V} : ∀ {fs : List (Str × V)}, f ∉ fs.map (·.1) → putF f v fs = fs ++ [(f, v)]
  | [], _ => rfl
  | (g, x) :: r, h => by
    simp only [List.map_cons, List.mem_cons, not_or] at h
    show (if g = f then (g, v) :: r else (g, x) :: putF f v r) = _
    rw [if_neg (fun e => h.1 e.symm), putF_new h.2]
    rfl
theorem s_setF {o v : Expr} {c0 f : Str} {p2 : Pos} {C : Addr} {fv fo : ME} (ho : ME1 X W o fo) (hv : ME1 X W v fv) (c : Cls X.K C) (hC : X.mg c0 = some (.ref C)) (hn : NoAttr X.K C f) (hs : swapsWith v (some (.Attribute o f p2)) pos.line X.env = pure false := by rfl) :
    MS1 X W (.Assign [.Attribute o f p2] v pos) (mSetF c0 f fv fo) := by
  refine weakS (ps_fld ho hv hs) fun σ H Z hh => ?_
  obtain ⟨pi, m, rho, hm, hs, p⟩ := hh
  refine ⟨pi, m, rho, hm, hs, (post_onV hs p).mono fun y H1 h1 => ?_⟩
  obtain ⟨pi1, m1, d, st1, rm1, rv, p1⟩ := h1
  refine ⟨pi1, m1, rho, rm1, hs.mono st1, (post_onV (hs.mono st1) p1).mono fun ov H2 h2 => ?_⟩
  obtain ⟨pi2, m2, od, st2, rm2, ro, p2⟩ := h2
  cases hz : atI m2 od with
  | none =>
    simp only [hz] at p2
    exact p2.elim
  | some z =>
    simp only [hz] at p2
    obtain ⟨l, c1, ns, ds⟩ := z
    simp only at p2
    by_cases hc : c1 = c0 ∧ f ∉ ns ∧ d.fz = true ∧ ns.length < 900
    · rw [if_pos hc] at p2
      obtain ⟨rfl, em⟩ := atI_of hz
      simp only [Rep] at ro
      obtain ⟨a, rfl, ha⟩ := ro
      obtain ⟨C', dx, fs, g', eH, en, rs⟩ := rm2.at_ l a _ ha em
      rw [hc.1, hC] at g'
      cases g'
      have rv' := Rep.mono st2 _ _ rv
      have hz2 : fzs ds = true := rm2.fz l _ em
      have hl : fs.length < 1000 := by
        have : (fs.map (·.1)).length = ns.length := by rw [en]
        rw [List.length_map] at this
        omega
      obtain ⟨st3, rm3⟩ := rm2.write (u := .ins C dx (fs ++ [(f, y)])) (o' := .ins c1 (ns ++ [f]) (ds ++ [d])) ha em (fzs_app ds [d] hz2 (by simp [fzs, hc.2.2.1])) fun st => ⟨C, dx, fs ++ [(f, y)], by rw [hc.1]; exact hC, upd_same, by rw [List.map_append, en]; rfl, by
        rw [List.map_append]
        exact (rs.append (reps_cons rv' reps_nil)).mono st⟩
      refine ⟨a, C, dx, fs, rfl, eH, c, hn, hl, ?_⟩
      rw [putF_new (by rw [en]; exact hc.2.1)]
      exact p2 σ _ pi2 st3 rm3 (((hs.mono st1).mono st2).mono st3)
    · rw [if_neg hc] at p2
      exact p2.elim
/-- C(e, ..): a new instance, its __init__ run; nothing is raised -/
def mMake (c0 : Str) (G : GF) (fa : MA) : ME := fun rho m => (fa rho m).bind fun p => match G (.loc p.2.length :: p.1) (p.2 ++ [.ins c0 [] []]) with
  | .ok q => if isNon q.1 = true then .ok (.loc p.2.length, q.2) else .bad
  | _ => .bad
theorem m_make {k n : Nat} {x : Str} {C fI : Addr} {fd : FuncData} {ps : List Str} {G : GF} {p : Pos} {es : List Expr} {fa : MA} (M : Mk X.K C fI) (F : FnOk X.prog X.w X.K X.mg X.base (L2.CX X.prog X.w) k fI fd ps (spM X.K X.mg n G)) (hr : Room (k + 1) X.A) (hg : Gl X x)
    (hm : X.mg x = some (.ref C)) (hb : Binds X.K fd ps []) (ha : MA1 X W (e :: es) fa) (hl : ∀ rho m ds m1, fa rho m = .ok (ds, m1) → ds.length + 1 = n) (hdb : (x == ("__debug__" : Str)) = false := by decide) (he : starEach (e :: es) X.env = (false, eval e X.env) :: starEach es X.env := by rfl) (hpl : (backTo pos (starEach es X.env)).any (·.1) = false := by rfl) :
    ME1 X W (.Call (.Name x p) (e :: es) [] pos) (mMake x G fa) := by
  refine weak (pe_make M F hr hg hm hb .nil passL ha hdb he hpl) fun σ H Q hh => ?_
  obtain ⟨pi, m, rho, hm', hs, p⟩ := hh
  have p : PostV X.K X.mg (fun c d H' => W c d σ H') H pi Q ((fa rho m).bind fun p => match G (.loc p.2.length :: p.1) (p.2 ++ [.ins x [] []]) with
    | .ok q => if isNon q.1 = true then .ok (.loc p.2.length, q.2) else .bad
    | _ => .bad) := p
  cases hf : fa rho m with
  | er y m1 =>
    refine ⟨pi, m, rho, hm', hs, ?_⟩
    rw [hf] at p ⊢
    exact p
  | bad =>
    rw [hf] at p
    exact p.elim
  | ok q =>
    obtain ⟨ds, m1⟩ := q
    have hl1 := hl rho m ds m1 hf
    refine ⟨pi, m, rho, hm', hs, ?_⟩
    rw [hf] at p ⊢
    rw [R.bind_ok] at p
    simp only at p
    intro vs H1 pi1 st1 rm1 r1 a dx na ndx hne
    have st2 : Stp H1 pi1 (upd H1 dx (.own a)) pi1 := stp_new ndx
    have rm2 : RepM X.K X.mg (upd H1 dx (.own a)) pi1 m1 := rm1.new ndx
    have na2 : (upd H1 dx (.own a)) a = none := by rw [upd_ne (Ne.symm hne)]; exact na
    obtain ⟨st3, rm3⟩ := rm2.alloc (o := .ins C dx []) (u := .ins x [] []) na2 (by rfl) ⟨C, dx, [], hm, upd_same, rfl, reps_nil⟩
    have hLa : (pi1 ++ [a])[m1.length]? = some a := by
      rw [← rm1.len]
      exact last_get _ _
    refine ⟨by rw [List.append_nil, List.length_cons, ← r1.length]; exact hl1, pi1 ++ [a], m1 ++ [.ins x [] []], .loc m1.length :: ds, rm3, ?_, ?_⟩
    · rw [List.append_nil]
      exact reps_cons (by simp only [Rep]; exact ⟨a, rfl, hLa⟩) (r1.mono (st2.trans st3))
    · cases hG : G (.loc m1.length :: ds) (m1 ++ [.ins x [] []]) with
      | er y m4 =>
        rw [hG] at p
        exact p.elim
      | bad =>
        rw [hG] at p
        exact p.elim
      | ok q =>
        obtain ⟨d4, m4⟩ := q
        rw [hG] at p
        simp only at p
        by_cases hn : isNon d4 = true
        · rw [if_pos hn] at p
          intro v H4 pi4 st4 rm4 r4
          have hv := rep_non r4
          rw [hn] at hv
          exact ⟨of_decide_eq_true hv, p (.ref a) H4 pi4 (((st1.trans st2).trans st3).trans st4) rm4 (by simp only [Rep]; exact ⟨a, rfl, st4.get hLa⟩)⟩
        · rw [if_neg hn] at p
          exact p.elim

/-! ### names of the module -/
theorem m_glob {x : Str} {v : V} {u : Value} {d : D} (hg : Gl X x) (hm : X.mg x = some u) (r : RelV v u) (h : ∀ H pi, Rep X.K X.mg H pi d v) (hd : (x == ("__debug__" : Str)) = false := by decide) : ME1 X W (.Name x pos) (mVal d) := m_val (pe_glob hg hm r hd) h
/-- a tuple that stands in the written part -/
theorem rep_kt {K : PySem.W.Frag} {mg : Str → Option Value} {H : Hp} {pi : List Addr} {a : Addr} {o : Obj} {its : Array Value} {n : Nat} {ds : List D} {vs : List V} (h : K.lookup a = some o) (h1 : o.cls = .type "tuple") (h2 : o.data = .seq its n) (h3 : its.size ≤ sizeLine) (hv : Vals vs its.toList) (r : Reps K mg H pi ds vs) :
    Rep K mg H pi (.tup ds) (.ref a) := by
  simp only [Rep]
  exact ⟨a, vs, rfl, .inr ⟨o, its, n, h, h1, h2, h3, hv⟩, r⟩

/-! ### try: body except C as e: x = 'a' if isinstance(e, B) else 'b' -/
def mTry (cn : Str) (i j : Nat) (s1 : Str) (body : MS) : MS := fun rho m => match body rho m with
  | .er x rho m => if x.cls = cn ∧ x.fs.isEmpty = true ∧ i < rho.length then .nx ((rho.set j (some (.str s1))).set i none) m else .bad
  | r => r
theorem s_try {cn bn n y : Str} {i j : Nat} {C B : Addr} {s1 s2 : Str} {body : List Stmt} {b : MS} {np pos' p1 p2 p3 p4 p5 p6 p7 p8 p9 : Pos} {j1 j2 : Nat} (hs : X.stack = X.env :: X.outer) (hf : X.env.frame = some X.env.locals) (hN : X.N.Nodup) (hi : X.N[i]? = some n) (hln : X.env.kindOf n = some .local)
    (hgc : Gl X cn) (hmc : X.mg cn = some (.ref C)) (hdc : (cn == ("__debug__" : Str)) = false) (hgb : Gl X bn) (hmb : X.mg bn = some (.ref B)) (hdb : (bn == ("__debug__" : Str)) = false) (hgi : Gl X "isinstance") (hmi : X.mg "isinstance" = none)
    (hj : X.N[j]? = some y) (hy : X.env.kindOf y = some .local) (hij : i ≠ j) (hex : PySem.W.exmOne X.K (.ref C) (.ref C) = some true) (xC : ExcC X.K C) (hk : PySem.W.kitOne X.K (.ref C) (.ref B) = some true) (tk : Takes X W)
    (hb : ∀ (W' : WX) (pn : List (Addr × Obj)) (xe : Value → Shared → Prop), Takes (X.tr pn xe) W' → PassesOwn (model X.prog X.w) X.A X.env xe → MSs (X.tr pn xe) W' body b)
    (hsw : ∀ a pn, swapsWith (.IfExp (.Call (.Name "isinstance" p1) [.Name n p2, .Name bn p3] [] p4) (.Constant (.str s1) j1 p5) (.Constant (.str s2) j2 p6) p7) (some (.Name y p8)) p9.line (X.suite a pn).env = pure false)
    (he1 : starEach [.Name n p2, .Name bn p3] X.env = (false, eval (.Name n p2) X.env) :: starEach [.Name bn p3] X.env) (he2 : starEach [.Name bn p3] X.env = (false, eval (.Name bn p3) X.env) :: starEach [] X.env)
    (hpl : (backTo p4 (starEach [.Name bn p3] X.env)).any (·.1) = false) (hnd : (n == ("__debug__" : Str)) = false) (hnc : (n == ("__classdict__" : Str)) = false) :
    MS1 X W (.Try body [.ExceptHandler (some (.Name cn np)) (some n) [.Assign [.Name y p8] (.IfExp (.Call (.Name "isinstance" p1) [.Name n p2, .Name bn p3] [] p4) (.Constant (.str s1) j1 p5) (.Constant (.str s2) j2 p6) p7) p9] pos'] [] [] pos) (mTry cn i j s1 b) := by
  have hsu : ∀ (a : Addr) (oe : Obj) (cls : Value) (d : Option Addr) (pn : List (Addr × Obj)), Zc cls d oe → (∃ vs, oe.data = .fields vs) → PSs (X.suite a ((a, oe) :: pn)) [.Assign [.Name y p8] (.IfExp (.Call (.Name "isinstance" p1) [.Name n p2, .Name bn p3] [] p4) (.Constant (.str s1) j1 p5) (.Constant (.str s2) j2 p6) p7) p9]
      (fun Z σ H => cls = .ref C ∧ d = none ∧ σ[i]? = some (some (.ref a)) ∧ Z.nx (σ.set j (some (.str s1))) H) := fun a oe cls d pn hz hv => by
    by_cases hcd : cls = .ref C ∧ d = none
    · obtain ⟨rfl, rfl⟩ := hcd
      have pe : PE (X.suite a ((a, oe) :: pn)) (.Call (.Name "isinstance" p1) [.Name n p2, .Name bn p3] [] p4) _ := pe_callB (call_isE xC hz hv) hgi hmi (by decide +kernel) (pa_cons (pe_var (i := i) hi (.inl hln) hnd hnc) (pa_cons (pe_glob (v := .ref B) hgb hmb rfl hdb) pa_nil he2) he1) (by decide) (by decide) he1 hpl
      refine weakSs (pss_one (ps_set (i := j) hN hj (.inl hy) (pe_ifExp (pt_val pe) pe_str pe_str) (hsw a _) (.inr hy))) fun σ H Z h => ?_
      obtain ⟨_, _, hσ, q⟩ := h
      exact ⟨.ref a, hσ, .ref B, .ref B, true, rfl, fun u hu => hu, hk, true, rfl, iteT q⟩
    · refine weakSs pss_never fun σ H Z h => hcd ⟨h.1, h.2.1⟩
  refine weakS (ps_try_as hs hf hN hi hln ⟨hgc, hdc, .inl hmc⟩ tk (tb := fun W' => tS X.K X.mg W' b) (fun W' pn xe tk' hp => hb W' pn xe tk' hp) hsu) fun σ H Z hh => ?_
  obtain ⟨pi, m, rho, hm, hs', p⟩ := hh
  refine ⟨pi, m, rho, hm, hs', ?_⟩
  have p : PostS X.K X.mg W Z H pi (match b rho m with
    | .er x rho m => if x.cls = cn ∧ x.fs.isEmpty = true ∧ i < rho.length then .nx ((rho.set j (some (.str s1))).set i none) m else .bad
    | r => r) := p
  cases hb2 : b rho m with
  | nx rho1 m1 =>
    rw [hb2] at p
    exact p
  | rt d m1 =>
    rw [hb2] at p
    exact p
  | bk rho1 m1 =>
    rw [hb2] at p
    exact p
  | ct rho1 m1 =>
    rw [hb2] at p
    exact p
  | bad =>
    rw [hb2] at p
    exact p
  | er x rho1 m1 =>
    rw [hb2] at p
    simp only at p
    by_cases hx : x.cls = cn ∧ x.fs.isEmpty = true ∧ i < rho1.length
    · rw [if_pos hx] at p
      intro c dx σ1 H1 pi1 st1 rm1 rs1 rx
      obtain ⟨C', g1, rfl, h3⟩ := rx
      rw [hx.1, hmc] at g1
      cases g1
      have hd : dx = none := by
        rcases h3 with ⟨_, h3⟩ | ⟨f, yy, a, v, e1, _⟩ | ⟨f, yy, g, zz, a, v, u, e1, _⟩
        · exact h3
        · rw [e1] at hx
          exact absurd hx.2.1 (by simp)
        · rw [e1] at hx
          exact absurd hx.2.1 (by simp)
      refine ⟨true, hex, fun _ a na => ⟨rfl, hd, ?_, ?_⟩, fun z => by cases z⟩
      · rw [List.getElem?_set_self (by rw [← rs1.len]; exact hx.2.2)]
      · show Z.nx (((σ1.set i (some (.ref _))).set j (some (.str s1))).set i none) H1
        rw [List.set_comm _ _ hij, List.set_set]
        exact p _ H1 pi1 st1 rm1 ((rs1.set j (d := .str s1) (v := .str s1) (by simp only [Rep])).wipe i)
    · rw [if_neg hx] at p
      exact p.elim
end
end Mi
namespace Mi
open PySem PySem.Spec L2

section
variable {X : Cx} {W : WX} {e a b c : Expr} {pos : Pos}
/-- x, y = a, b -/
def mPar (i j : Nat) (f : MA) : MS := fun rho m => onR (f rho m) rho fun ds m => match ds with
  | [d, d'] => .nx ((rho.set i (some d)).set j (some d')) m
  | _ => .bad
theorem s_par {i j : Nat} {x y : Str} {f : MA} {px py pt : Pos} {kt k2 pt2} (hc : X.calm = true) (hN : X.N.Nodup) (hi : X.N[i]? = some x) (hj : X.N[j]? = some y) (hij : i ≠ j)
    (hx : X.env.scope.names.lookup x = some .local) (hy : X.env.scope.names.lookup y = some .local) (ha : MA1 X W [a, b] f) (hw : swappedStores [.Tuple [.Name x px, .Name y py] kt pt] (.Tuple [a, b] k2 pt2) X.env = pure (some [x, y])) (hs : swapsWithSole [.Tuple [.Name x px, .Name y py] kt pt] (.Tuple [a, b] k2 pt2) pos.line X.env = pure false := by rfl) :
    MS1 X W (.Assign [.Tuple [.Name x px, .Name y py] kt pt] (.Tuple [a, b] k2 pt2) pos) (mPar i j f) := by
  refine weakS (ps_par hc hN hi hj hij hx hy ha hw hs) fun σ H Z hh => ?_
  obtain ⟨pi, m, rho, hm, hs, p⟩ := hh
  refine ⟨pi, m, rho, hm, hs, (post_onA hs p).mono fun vs H1 h1 => ?_⟩
  obtain ⟨pi1, m1, ds, st1, rm1, r, p1⟩ := h1
  match ds, r, p1 with
  | [d, d'], r, p1 =>
    obtain ⟨v, w, rfl, r1, r2⟩ := reps_two r
    exact ⟨v, w, rfl, p1 _ H1 pi1 Stp.refl rm1 (((hs.mono st1).set i r1).set j r2)⟩
  | [], r, p1 => exact p1.elim
  | [_], r, p1 => exact p1.elim
  | _ :: _ :: _ :: _, r, p1 => exact p1.elim
/-- list(range(a, b)): a new one -/
def mListRg (f g : ME) : ME := fun rho m => (f rho m).bind fun p => (g rho p.2).bind fun q => onO (intOf p.1) fun i => onO (intOf q.1) fun j => if rngOk i ∧ rngOk j then .ok (.loc q.2.length, q.2 ++ [.lst (rngD i (j - i).toNat)]) else .bad
theorem rng_reps {K : PySem.W.Frag} {mg : Str → Option Value} {H : Hp} {pi : List Addr} (i : Int) : ∀ n : Nat, Reps K mg H pi (rngD i n) ((List.range n).map fun (k : Nat) => V.int (i + (k : Nat))) := fun n => by
  unfold rngD
  induction (List.range n) with
  | nil => exact reps_nil
  | cons k r ih => exact reps_cons (by simp only [Rep]) ih
theorem rng_fz (i : Int) (n : Nat) : fzs (rngD i n) = true := by
  unfold rngD
  induction (List.range n) with
  | nil => rfl
  | cons k r ih => simp only [List.map_cons, fzs, D.fz, Bool.true_and]; exact ih
theorem m_listRg {f g : ME} {p p2 : Pos} {pos2 : Pos} (hc : X.calm = true) (hg : Gl X "list") (hm : X.mg "list" = none) (hg2 : Gl X "range") (hm2 : X.mg "range" = none) (ha : ME1 X W a f) (hb : ME1 X W b g)
    (na : starEach [a, b] X.env = (false, eval a X.env) :: starEach [b] X.env := by rfl) (nb : starEach [b] X.env = (false, eval b X.env) :: starEach [] X.env := by rfl)
    (np : (backTo pos2 (starEach [b] X.env)).any (·.1) = false := by rfl)
    (nl : starEach [.Call (.Name "range" p2) [a, b] [] pos2] X.env = (false, eval (.Call (.Name "range" p2) [a, b] [] pos2) X.env) :: starEach [] X.env := by rfl) :
    ME1 X W (.Call (.Name "list" p) [.Call (.Name "range" p2) [a, b] [] pos2] [] pos) (mListRg f g) := by
  refine weak (pe_listRg hc hg hm (prg_2 hg2 hm2 ha hb na nb np) nl) fun σ H Q h => ?_
  obtain ⟨pi, m, rho, hm, hs, p⟩ := h
  refine ⟨pi, m, rho, hm, hs, (PostV.bind p).mono fun x H1 h1 => ?_⟩
  obtain ⟨pi1, m1, dx, st1, rm1, rx, p1⟩ := h1
  refine ⟨pi1, m1, rho, rm1, hs.mono st1, (PostV.bind p1).mono fun y H2 h2 => ?_⟩
  obtain ⟨pi2, m2, dy, st2, rm2, ry, p2⟩ := h2
  simp only at p2
  cases h3 : intOf dx with
  | none =>
    simp only [h3] at p2
    exact p2.elim
  | some i =>
    cases h4 : intOf dy with
    | none =>
      simp only [h3, h4, onO_some] at p2
      exact p2.elim
    | some j =>
      simp only [h3, h4, onO_some] at p2
      by_cases hc : rngOk i ∧ rngOk j
      · rw [if_pos hc] at p2
        obtain rfl := rep_int rx h3
        obtain rfl := rep_int ry h4
        obtain ⟨⟨a1, a2⟩, b1, b2⟩ := hc
        refine ⟨i, j, rfl, rfl, ⟨by omega, by omega, by omega, by omega, by omega⟩, fun t n => ?_⟩
        obtain ⟨st, rm⟩ := rm2.alloc (o := .lst (rgV i j)) (u := .lst (rngD i (j - i).toNat)) n (rng_fz _ _) ⟨_, upd_same, rng_reps i _⟩
        exact p2 (.ref t) _ _ st rm (by simp only [Rep]; exact ⟨t, rfl, by rw [← rm2.len]; exact last_get _ _⟩)
      · rw [if_neg hc] at p2
        exact p2.elim
theorem hu_of2 {k : Nat} {A : Around} (hr : Room k A) : A.units + 64 < cLine ∧ A.units + 65 < cLine := ⟨by have := hr.un; omega, by have := hr.un; omega⟩
theorem s_setIx' {o i : Expr} {p2 : Pos} {fv fo fi : ME} (hv : ME1 X W e fv) (ho : ME1 X W o fo) (hi : ME1 X W i fi) (hs : swapsWithSole [.Subscript o i p2] e pos.line X.env = pure false := by rfl) (hw : swappedStores [.Subscript o i p2] e X.env = pure none := by rfl)
    (h1 : (assignEach [.Subscript o i p2] X.env).map (·.2) = [assign (.Subscript o i p2) X.env] := by rfl)
    (ha : ∀ v, assign (.Subscript o i p2) X.env v = (do let ov ← holding [v] (eval o X.env); let iv ← holding [v, ov] (eval i X.env); standAt p2; holding [v, ov, iv] (setItem ov iv v); release [v, ov, iv] []) := by intro _; rfl) : MS1 X W (.Assign [.Subscript o i p2] e pos) (mSetIx fv fo fi) :=
  s_setIx hv ho hi (fun hg => ps_asg hv hg hs hw h1) (pg_sub ho hi set_list ha)
end
theorem ints_reps {K : PySem.W.Frag} {mg : Str → Option Value} {H : Hp} {pi : List Addr} : ∀ ns : List Int, Reps K mg H pi (ns.map D.int) (ns.map V.int)
  | [] => reps_nil
  | n :: ns => reps_cons (by simp only [Rep]) (ints_reps ns)
theorem sqs_of {K : PySem.W.Frag} {H : Hp} {a : Addr} {xs : List V} (hO : Only H) (h : SqL K H a xs) : SqS K H a xs := by
  rcases h with (h | h) | h
  · rcases hO a with z | ⟨o, ys, z⟩
    · rw [z] at h
      cases h
    · rw [z] at h
      cases h
  · exact .inl h
  · exact .inr h
theorem cx_none {P : Program} {w : World} {outer : List Env} {H : Hp} {s : Shared} {u : Value} {s' : Shared} (h : L2.CX P w outer H s (fun _ _ _ => False) u s') : False := by
  obtain ⟨_, _, _, _, _, _, _, _, _, _, _, _, no⟩ := h
  exact no.elim
theorem binds_of {K : PySem.W.Frag} {x qual : Str} {st : Stmt} {ps : List Str} (h : ∀ (kV doc pm : Value) (an : Option Addr) (cdv ct : Value) (us : List Value), us.length = ps.length → bindArgs (PySem.W.fnOf x qual (defArgs st) (defBody st) (defScope st) .none kV doc pm an cdv ct) ⟨us, []⟩ = pure (ps.zip us))
    (kV doc pm : Value) (an : Option Addr) (cdv ct : Value) : Binds K (PySem.W.fnOf x qual (defArgs st) (defBody st) (defScope st) .none kV doc pm an cdv ct) ps [] := .all (h kV doc pm an cdv ct)
/-! ### <= of ints and of tuples of ints -/
def intsOf : List D → Option (List Int)
  | [] => some []
  | .int i :: r => (intsOf r).map fun ns => i :: ns
  | _ => none
theorem intsOf_map : ∀ ns : List Int, intsOf (ns.map D.int) = some ns
  | [] => rfl
  | n :: ns => by
    show (intsOf (ns.map D.int)).map (fun ns => n :: ns) = _
    rw [intsOf_map ns]
    rfl
theorem reps_intsOf {K : PySem.W.Frag} {mg : Str → Option Value} {H : Hp} {pi : List Addr} : ∀ {ds : List D} {vs : List V} {ns : List Int}, Reps K mg H pi ds vs → intsOf ds = some ns → vs = ns.map V.int
  | [], vs, ns, r, e => by
    simp only [Reps] at r
    cases e
    exact r
  | d :: ds, vs, ns, r, e => by
    simp only [Reps] at r
    obtain ⟨v, w, rfl, r1, r2⟩ := r
    cases d with
    | int i =>
      have e : (intsOf ds).map (fun ns => i :: ns) = some ns := e
      cases h : intsOf ds with
      | none =>
        rw [h] at e
        cases e
      | some ms =>
        rw [h] at e
        cases e
        simp only [Rep] at r1
        rw [r1, reps_intsOf r2 h]
        rfl
    | _ => cases e
theorem lexAt_shift (e r : Nat → Bool) (z : Bool) : ∀ (k i : Nat), Ob.lexAt e r z (i + 1) k = Ob.lexAt (fun j => e (j + 1)) (fun j => r (j + 1)) z i k
  | 0, _ => rfl
  | k + 1, i => by
    rw [Ob.lexAt_succ, Ob.lexAt_succ, lexAt_shift e r z k (i + 1)]
theorem lexAt_le : ∀ ns ms : List Int, Ob.lexAt (fun j => decide (ns.getD j 0 = ms.getD j 0)) (fun j => decide (ns.getD j 0 ≤ ms.getD j 0)) (decide (ns.length ≤ ms.length)) 0 (min ns.length ms.length) = L2.lexLeI ns ms
  | [], ms => by
    rw [List.length_nil, Nat.zero_min]
    show decide (0 ≤ ms.length) = true
    simp
  | x :: xs, [] => by
    rw [List.length_nil, Nat.min_zero]
    show decide (xs.length + 1 ≤ 0) = false
    simp
  | x :: xs, y :: ys => by
    rw [List.length_cons, List.length_cons, Nat.succ_min_succ, Ob.lexAt_succ, lexAt_shift]
    have ih := lexAt_le xs ys
    have e1 : decide (xs.length + 1 ≤ ys.length + 1) = decide (xs.length ≤ ys.length) := by simp
    show (if decide (x = y) = true then Ob.lexAt (fun j => decide (xs.getD j 0 = ys.getD j 0)) (fun j => decide (xs.getD j 0 ≤ ys.getD j 0)) (decide (xs.length + 1 ≤ ys.length + 1)) 0 (min xs.length ys.length) else decide (x ≤ y)) = L2.lexLeI (x :: xs) (y :: ys)
    rw [e1, ih]
    show _ = (if x = y then L2.lexLeI xs ys else decide (x ≤ y))
    by_cases h : x = y
    · rw [if_pos (decide_eq_true h), if_pos h]
    · have no : ¬ decide (x = y) = true := by simpa using h
      rw [if_neg no, if_neg h]
def gLeT : G2 := fun _ x y => (tupOf x).bind fun xs => (tupOf y).bind fun ys => (intsOf xs).bind fun ns => (intsOf ys).map fun ms => .bl (L2.lexLeI ns ms)
theorem o_leT {X : Cx} (hu : X.A.units < cLine) : OpM X (compareOp .LtE) gLeT := opm_of (op_leT hu) fun pi m dx dy d x y H Q hm hx hy e q => by
  unfold gLeT at e
  cases h1 : tupOf dx with
  | none =>
    rw [h1] at e
    cases e
  | some xs =>
    cases h2 : tupOf dy with
    | none =>
      rw [h1, h2] at e
      cases e
    | some ys =>
      cases h3 : intsOf xs with
      | none =>
        rw [h1, h2] at e
        simp only [Option.bind_some, h3] at e
        cases e
      | some ns =>
        cases h4 : intsOf ys with
        | none =>
          rw [h1, h2] at e
          simp only [Option.bind_some, h3, h4] at e
          cases e
        | some ms =>
          rw [h1, h2] at e
          simp only [Option.bind_some, h3, h4] at e
          cases e
          obtain ⟨a, vs, rfl, q1, r1⟩ := rep_tup hx h1
          obtain ⟨b, ws, rfl, q2, r2⟩ := rep_tup hy h2
          have e1 := reps_intsOf r1 h3
          have e2 := reps_intsOf r2 h4
          subst e1 e2
          refine ⟨a, b, ns, ms, rfl, rfl, q1, q2, ?_⟩
          rw [lexAt_le]
          exact q _ H Stp.refl hm (by simp only [Rep])
def gLeA : G2 := fun m x y => match x with
  | .tup _ => gLeT m x y
  | _ => gLe m x y
theorem o_leA {X : Cx} (hu : X.A.units + 64 < cLine) : OpM X (compareOp .LtE) gLeA := opm_or (o_leT (Nat.lt_of_le_of_lt (Nat.le_add_right _ _) hu)) o_le fun m x y d h => by
  unfold gLeA at h
  split at h
  · exact .inl h
  · exact .inr h
end Mi
namespace Mi
open PySem PySem.Spec L2

/-! ### evaluation: one equation a construct, so made that what comes later is looked at later -/
section
variable {f g h : ME} {t u : MT} {a b : MS} {fa : MA} {rho : List (Option D)} {m : List O} {d e : D} {p : D × List O}
theorem mVar_0 {r : List (Option D)} : mVar 0 (some d :: r) m = .ok (d, m) := rfl
theorem mVar_s {i : Nat} {x : Option D} {r : List (Option D)} : mVar (i + 1) (x :: r) m = mVar i r m := rfl
theorem mVal_e : mVal d rho m = .ok (d, m) := rfl
def mBin2 (k : G2) (x : D) (q : D × List O) : RE := ofO (k q.2 x q.1) q.2
def mBin1 (k : G2) (fb : ME) (rho : List (Option D)) (p : D × List O) : RE := (fb rho p.2).bind (mBin2 k p.1)
theorem mBin_e {k : G2} : mBin k f g rho m = (f rho m).bind (mBin1 k g rho) := rfl
theorem mBin1_e {k : G2} : mBin1 k g rho (d, m) = (g rho m).bind (mBin2 k d) := rfl
theorem mBin2_e {k : G2} : mBin2 k d (e, m) = ofO (k m d e) m := rfl
theorem ofO_s : ofO (some d) m = .ok (d, m) := rfl
def mTst1 (p : D × List O) : R (Bool × List O) := onBl (blOf p.1) fun k => .ok (k, p.2)
theorem mTst_e : mTst f rho m = (f rho m).bind mTst1 := rfl
theorem mTst1_e {k : Bool} : mTst1 (.bl k, m) = .ok (k, m) := rfl
def mChain2 (k k' : G2) (x : D) (fc : ME) (rho : List (Option D)) (q : D × List O) : RE := (ofO (k q.2 x q.1) q.2).bind fun r => onBl (blOf r.1) fun b => if b = true then (fc rho r.2).bind fun s => ofO (k' s.2 q.1 s.1) s.2 else .ok (.bl false, r.2)
def mChain1 (k k' : G2) (fb fc : ME) (rho : List (Option D)) (p : D × List O) : RE := (fb rho p.2).bind (mChain2 k k' p.1 fc rho)
theorem mChain_e {k k' : G2} : mChain k k' f g h rho m = (f rho m).bind (mChain1 k k' g h rho) := rfl
theorem mChain1_e {k k' : G2} : mChain1 k k' g h rho (d, m) = (g rho m).bind (mChain2 k k' d h rho) := rfl
theorem mChain2_t {k k' : G2} (hk : k m d e = some (.bl true)) : mChain2 k k' d h rho (e, m) = (h rho m).bind (mBin2 k' e) := by
  unfold mChain2
  simp only [hk, ofO, R.bind_ok, blOf, onBl, if_pos]
  rfl
theorem mChain2_f {k k' : G2} (hk : k m d e = some (.bl false)) : mChain2 k k' d h rho (e, m) = .ok (.bl false, m) := by
  unfold mChain2
  simp only [hk, ofO, R.bind_ok, blOf, onBl, if_neg Bool.false_ne_true]
def mSel {α : Type} (f g : List (Option D) → List O → R α) (rho : List (Option D)) (p : Bool × List O) : R α := if p.1 = true then f rho p.2 else g rho p.2
theorem mIf_e {α : Type} {f g : List (Option D) → List O → R α} : mIf t f g rho m = (t rho m).bind (mSel f g rho) := rfl
theorem mSel_t {α : Type} {f g : List (Option D) → List O → R α} : mSel f g rho (true, m) = f rho m := rfl
theorem mSel_f {α : Type} {f g : List (Option D) → List O → R α} : mSel f g rho (false, m) = g rho m := rfl
def mAnd1 (u : MT) (rho : List (Option D)) (p : Bool × List O) : R (Bool × List O) := if p.1 = true then u rho p.2 else .ok (false, p.2)
theorem mAnd_e : mAnd t u rho m = (t rho m).bind (mAnd1 u rho) := rfl
theorem mAnd1_t : mAnd1 u rho (true, m) = u rho m := rfl
theorem mAnd1_f : mAnd1 u rho (false, m) = .ok (false, m) := rfl
def mOr1 (u : MT) (rho : List (Option D)) (p : Bool × List O) : R (Bool × List O) := if p.1 = true then .ok (true, p.2) else u rho p.2
theorem mOr_e : mOr t u rho m = (t rho m).bind (mOr1 u rho) := rfl
theorem mOr1_t : mOr1 u rho (true, m) = .ok (true, m) := rfl
theorem mOr1_f : mOr1 u rho (false, m) = u rho m := rfl
def mNot1 (p : Bool × List O) : R (Bool × List O) := .ok (!p.1, p.2)
theorem mNot_e : mNot t rho m = (t rho m).bind mNot1 := rfl
theorem mNot1_e {k : Bool} : mNot1 (k, m) = .ok (!k, m) := rfl
def mAndV1 (g : ME) (rho : List (Option D)) (p : D × List O) : RE := onBl (blOf p.1) fun k => if k = true then g rho p.2 else .ok (.bl false, p.2)
theorem mAndV_e : mAndV f g rho m = (f rho m).bind (mAndV1 g rho) := rfl
theorem mAndV1_t : mAndV1 g rho (.bl true, m) = g rho m := rfl
theorem mAndV1_f : mAndV1 g rho (.bl false, m) = .ok (.bl false, m) := rfl
def mOrV1 (g : ME) (rho : List (Option D)) (p : D × List O) : RE := onBl (blOf p.1) fun k => if k = true then .ok (.bl true, p.2) else g rho p.2
theorem mOrV_e : mOrV f g rho m = (f rho m).bind (mOrV1 g rho) := rfl
theorem mOrV1_t : mOrV1 g rho (.bl true, m) = .ok (.bl true, m) := rfl
theorem mOrV1_f : mOrV1 g rho (.bl false, m) = g rho m := rfl
def mNotV1 (p : D × List O) : RE := onBl (blOf p.1) fun k => .ok (.bl (!k), p.2)
theorem mNotV_e : mNotV f rho m = (f rho m).bind mNotV1 := rfl
theorem mNotV1_e {k : Bool} : mNotV1 (.bl k, m) = .ok (.bl (!k), m) := rfl
def mCons2 (d : D) (q : List D × List O) : R (List D × List O) := .ok (d :: q.1, q.2)
def mCons1 (fa : MA) (rho : List (Option D)) (p : D × List O) : R (List D × List O) := (fa rho p.2).bind (mCons2 p.1)
theorem mCons_e : mCons f fa rho m = (f rho m).bind (mCons1 fa rho) := rfl
theorem mCons1_e : mCons1 fa rho (d, m) = (fa rho m).bind (mCons2 d) := rfl
theorem mCons2_e {ds : List D} : mCons2 d (ds, m) = .ok (d :: ds, m) := rfl
theorem mNil_e : mNil rho m = .ok ([], m) := rfl
def mTup1 (p : List D × List O) : RE := if p.1.length ≤ small then .ok (.tup p.1, p.2) else .bad
theorem mTup_e : mTup fa rho m = (fa rho m).bind mTup1 := rfl
theorem mTup1_e {ds : List D} (h : ds.length ≤ small) : mTup1 (ds, m) = .ok (.tup ds, m) := if_pos h
def mNew1 (p : List D × List O) : RE := if p.1.length ≤ small ∧ fzs p.1 = true then .ok (.loc p.2.length, p.2 ++ [.lst p.1]) else .bad
theorem mNew_e : mNew fa rho m = (fa rho m).bind mNew1 := rfl
theorem mNew1_e {ds : List D} (h : ds.length ≤ small ∧ fzs ds = true) : mNew1 (ds, m) = .ok (.loc m.length, m ++ [.lst ds]) := if_pos h
/-- what of a store stood there before, or is flat -/
def Kept (m m' : List O) : Prop := m'.length = m.length ∧ ∀ (i : Nat) (o : O), m'[i]? = some o → o.flat = true ∨ m[i]? = some o
theorem Kept.rfl {m : List O} : Kept m m := ⟨Eq.refl _, fun _ _ h => .inr h⟩
theorem Kept.set {m : List O} {x : O} (l : Nat) (hx : x.flat = true) : Kept m (m.set l x) := ⟨List.length_set, fun i o h => by
  by_cases e : l = i
  · subst e
    have hl : l < (m.set l x).length := (List.getElem?_eq_some_iff.mp h).1
    rw [List.length_set] at hl
    rw [List.getElem?_set_self hl] at h
    rw [← Option.some.inj h]
    exact .inl hx
  · rw [List.getElem?_set_ne e] at h
    exact .inr h⟩
theorem Kept.trans {m m1 m2 : List O} (h : Kept m m1) (g : Kept m1 m2) : Kept m m2 := ⟨g.1.trans h.1, fun i o e => (g.2 i o e).elim .inl fun e1 => h.2 i o e1⟩
theorem goOk_of {n : Nat} : ∀ (k : Nat) (m m' g : List O), k ≤ m'.length → (∀ (i : Nat) (o : O), m'[i]? = some o → o.flat = true ∨ m[i]? = some o) → goOk n k m (m' ++ g) = true
  | 0, _, _, _, _, _ => _root_.rfl
  | k + 1, m, [], g, h, _ => by simp at h
  | k + 1, m, o :: m', g, h, q => by
    have q0 := q 0 o _root_.rfl
    have e : okAt n m.head? o = true := by
      rcases q0 with f | e
      · exact okAt_flat f
      · rw [List.head?_eq_getElem?, e]
        exact okAt_self n o
    simp only [List.cons_append, goOk, e, Bool.true_and]
    refine goOk_of k m.tail m' g (by simpa using h) fun i u hu => ?_
    have := q (i + 1) u (by simpa using hu)
    rw [List.getElem?_tail]
    exact this
theorem Kept.go {m m' : List O} (h : Kept m m') (g : List O) : goOk m'.length m'.length m (m' ++ g) = true := goOk_of _ _ _ _ (Nat.le_refl _) h.2
theorem Kept.cut {m m' : List O} (h : Kept m m') (g : List O) : cutOk m (m' ++ g) m.length = true := by
  unfold cutOk
  have := h.go g
  rw [h.1] at this
  rw [this, Bool.or_true]
/-- a list that is made and at once taken out of the store again -/
theorem frz_new {ds : List D} (hf : f rho m = .ok (.loc m.length, m ++ [.lst ds])) : mFrz f rho m = .ok (.lst ds, m) := by
  unfold mFrz
  rw [hf, R.bind_ok]
  have := Kept.rfl (m := m) |>.go [.lst ds]
  simp [this]
theorem frz_newM {ds : List D} {m' : List O} (hf : f rho m = .ok (.loc m'.length, m' ++ [.lst ds])) (hk : Kept m m') : mFrz f rho m = .ok (.lst ds, m') := by
  unfold mFrz
  rw [hf, R.bind_ok]
  have := hk.go [.lst ds]
  have hl : m.length ≤ m'.length := Nat.le_of_eq hk.1.symm
  simp [hl, this]
theorem frz_ins {c : Str} {ns : List Str} {ds : List D} {m' : List O} (hf : f rho m = .ok (.loc m'.length, m' ++ [.ins c ns ds])) (hk : Kept m m') : mFrz f rho m = .ok (.ins c ns ds, m') := by
  unfold mFrz
  rw [hf, R.bind_ok]
  have := hk.go [.ins c ns ds]
  have hl : m.length ≤ m'.length := Nat.le_of_eq hk.1.symm
  simp [hl, this]
def mFrz1 (m : List O) (p : D × List O) : RE := match p.1 with
  | .loc l => if m.length ≤ l ∧ l + 1 = p.2.length ∧ goOk l l m p.2 = true then (match p.2[l]? with
    | some (.lst ds) => .ok (.lst ds, p.2.take l)
    | some (.ins c ns ds) => .ok (.ins c ns ds, p.2.take l)
    | some (.dic ks ds) => .ok (.dic ks ds, p.2.take l)
    | _ => .bad) else .bad
  | _ => .bad
theorem mFrz_e : mFrz f rho m = (f rho m).bind (mFrz1 m) := rfl
theorem mFrz1_l {m m' : List O} {ds : List D} {l : Nat} (h1 : l = m'.length) (hk : Kept m m') : mFrz1 m (.loc l, m' ++ [.lst ds]) = .ok (.lst ds, m') := by
  subst h1
  have := hk.go [.lst ds]
  have hl : m.length ≤ m'.length := Nat.le_of_eq hk.1.symm
  unfold mFrz1
  simp [hl, this]
theorem mFrz1_i {m m' : List O} {c : Str} {ns : List Str} {ds : List D} {l : Nat} (h1 : l = m'.length) (hk : Kept m m') : mFrz1 m (.loc l, m' ++ [.ins c ns ds]) = .ok (.ins c ns ds, m') := by
  subst h1
  have := hk.go [.ins c ns ds]
  have hl : m.length ≤ m'.length := Nat.le_of_eq hk.1.symm
  unfold mFrz1
  simp [hl, this]
def mCall1 (G : GF) (p : List D × List O) : RE := G p.1 p.2
theorem mCall_e {G : GF} : mCall G fa rho m = (fa rho m).bind (mCall1 G) := rfl
theorem mCall1_e {G : GF} {ds : List D} : mCall1 G (ds, m) = G ds m := rfl
def mB1 (k : GB) (p : List D × List O) : RE := ofO (k p.2 p.1) p.2
theorem mB_e {k : GB} : mB k fa rho m = (fa rho m).bind (mB1 k) := rfl
theorem mB1_e {k : GB} {ds : List D} : mB1 k (ds, m) = ofO (k m ds) m := rfl
def unNeg1 (p : D × List O) : RE := onO (intOf p.1) fun i => .ok (.int (-i), p.2)
theorem unNeg_e : unNeg f rho m = (f rho m).bind unNeg1 := rfl
theorem unNeg1_e {i : Int} : unNeg1 (.int i, m) = .ok (.int (-i), m) := rfl
def mIsi1 (t : String) (p : D × List O) : RE := onO (bIsi t p.1) fun k => .ok (.bl k, p.2)
theorem mIsi_e {t : String} : mIsi t f rho m = (f rho m).bind (mIsi1 t) := rfl
theorem mIsi1_e {t : String} {k : Bool} (h : bIsi t d = some k) : mIsi1 t (d, m) = .ok (.bl k, m) := by
  unfold mIsi1
  rw [h]
  rfl
def mList1 (p : D × List O) : RE := onO (seqOf p.2 p.1) fun ds => if fzs ds = true then .ok (.loc p.2.length, p.2 ++ [.lst ds]) else .bad
theorem mList_e : mList f rho m = (f rho m).bind mList1 := rfl
theorem mList1_e {ds : List D} (h : seqOf m d = some ds) (hf : fzs ds = true) : mList1 (d, m) = .ok (.loc m.length, m ++ [.lst ds]) := by
  unfold mList1
  rw [h]
  exact if_pos hf
def oSome1 (p : D × List O) : R (Option Int × List O) := onO (intOf p.1) fun i => .ok (some i, p.2)
theorem oSome_e : oSome f rho m = (f rho m).bind oSome1 := rfl
theorem oSome1_e {i : Int} : oSome1 (.int i, m) = .ok (some i, m) := rfl
theorem oNone_e : oNone rho m = .ok (none, m) := rfl
def mSl3 (d : D) (l : Option Int) (r : Option Int × List O) : RE := onO (tupOf d) fun ds => .ok (.tup (cutD ds l r.1), r.2)
def mSl2 (d : D) (fh : MO) (rho : List (Option D)) (q : Option Int × List O) : RE := (fh rho q.2).bind (mSl3 d q.1)
def mSl1 (fl fh : MO) (rho : List (Option D)) (p : D × List O) : RE := (fl rho p.2).bind (mSl2 p.1 fh rho)
theorem mSl_e {fl fh : MO} : mSl f fl fh rho m = (f rho m).bind (mSl1 fl fh rho) := rfl
theorem mSl1_e {fl fh : MO} : mSl1 fl fh rho (d, m) = (fl rho m).bind (mSl2 d fh rho) := rfl
theorem mSl2_e {fh : MO} {l : Option Int} : mSl2 d fh rho (l, m) = (fh rho m).bind (mSl3 d l) := rfl
theorem mSl3_e {ds : List D} {l r : Option Int} : mSl3 (.tup ds) l (r, m) = .ok (.tup (cutD ds l r), m) := rfl
def mFld1 (c0 f : Str) (p : D × List O) : RE := onO (insOf c0 p.1) fun q => onO (fldAt f q.1 q.2) fun d => .ok (d, p.2)
theorem mFld_e {c0 s : Str} : mFldI c0 s f rho m = (f rho m).bind (mFld1 c0 s) := rfl
def mCat2 (d : D) (q : D × List O) : RE := onO (lstOf (deref q.2 d)) fun xs => onO (lstOf (deref q.2 q.1)) fun ys => if xs.length + ys.length ≤ small ∧ fzs xs = true ∧ fzs ys = true then .ok (.loc q.2.length, q.2 ++ [.lst (xs ++ ys)]) else .bad
def mCat1 (g : ME) (rho : List (Option D)) (p : D × List O) : RE := (g rho p.2).bind (mCat2 p.1)
theorem mCat_e : mCat f g rho m = (f rho m).bind (mCat1 g rho) := rfl
theorem mCat1_e : mCat1 g rho (d, m) = (g rho m).bind (mCat2 d) := rfl
theorem mCat2_e {xs ys : List D} (h : xs.length + ys.length ≤ small ∧ fzs xs = true ∧ fzs ys = true) : mCat2 (.lst xs) (.lst ys, m) = .ok (.loc m.length, m ++ [.lst (xs ++ ys)]) := if_pos h
def mLoc1 (p : D × List O) : RE := onO (atL p.2 p.1) fun _ => .ok (p.1, p.2)
theorem mLoc_e : mLoc f rho m = (f rho m).bind mLoc1 := rfl
theorem mLoc1_e {l : Nat} {ds : List D} (h : m[l]? = some (.lst ds)) : mLoc1 (.loc l, m) = .ok (.loc l, m) := by
  unfold mLoc1 atL
  simp only [h, onO_some]
def mApp2 (d : D) (q : D × List O) : RE := onO (atL q.2 d) fun z => if z.2.length < small ∧ q.1.fz = true then .ok (.non, q.2.set z.1 (.lst (z.2 ++ [q.1]))) else .bad
def mApp1 (g : ME) (rho : List (Option D)) (p : D × List O) : RE := (g rho p.2).bind (mApp2 p.1)
theorem mApp_e : mApp f g rho m = (f rho m).bind (mApp1 g rho) := rfl
theorem mApp1_e : mApp1 g rho (d, m) = (g rho m).bind (mApp2 d) := rfl
theorem mApp2_e {l : Nat} {ds : List D} (h : m[l]? = some (.lst ds)) (hs : ds.length < small) (hf : d.fz = true) : mApp2 (.loc l) (d, m) = .ok (.non, m.set l (.lst (ds ++ [d]))) := by
  unfold mApp2 atL
  simp only [h, onO_some]
  exact if_pos ⟨hs, hf⟩
/-! statements -/
def Fl.on (r : Fl) (g : MS) : Fl := match r with
  | .nx rho m => g rho m
  | r => r
theorem mSeq_e : mSeq a b rho m = (a rho m).on b := rfl
theorem on_nx : (Fl.nx rho m).on b = b rho m := rfl
theorem on_rt : (Fl.rt d m).on b = .rt d m := rfl
theorem on_er {x : Xn} : (Fl.er x rho m).on b = .er x rho m := rfl
theorem on_bad : (Fl.bad).on b = .bad := rfl
def kRet (d : D) (m : List O) : Fl := .rt d m
theorem mRet_e : mRet f rho m = onR (f rho m) rho kRet := rfl
theorem kRet_e : kRet d m = .rt d m := rfl
def kNx (rho : List (Option D)) (d : D) (m : List O) : Fl := .nx rho m
theorem mDo_e : mDo f rho m = onR (f rho m) rho (kNx rho) := rfl
theorem kNx_e : kNx rho d m = .nx rho m := rfl
def kIf (a b : MS) (rho : List (Option D)) (k : Bool) (m : List O) : Fl := if k = true then a rho m else b rho m
theorem mIfS_e : mIfS t a b rho m = onR (t rho m) rho (kIf a b rho) := rfl
theorem kIf_t : kIf a b rho true m = a rho m := rfl
theorem kIf_f : kIf a b rho false m = b rho m := rfl
def kAsg (g : MG) (rho : List (Option D)) (d : D) (m : List O) : Fl := match g d rho with
  | some rho => .nx rho m
  | none => .bad
theorem mAsg_e {k : MG} : mAsg k f rho m = onR (f rho m) rho (kAsg k rho) := rfl
theorem kAsg_e {k : MG} {rho' : List (Option D)} (h : k d rho = some rho') : kAsg k rho d m = .nx rho' m := by
  unfold kAsg
  rw [h]
def kSet (i : Nat) (rho : List (Option D)) (d : D) (m : List O) : Fl := .nx (rho.set i (some d)) m
theorem mSet_e {i : Nat} : mSet i f rho m = onR (f rho m) rho (kSet i rho) := rfl
theorem kSet_e {i : Nat} : kSet i rho d m = .nx (rho.set i (some d)) m := rfl
theorem mSkip_e : mSkip rho m = .nx rho m := rfl
def kIx2 (v o : D) (rho : List (Option D)) (i : D) (m : List O) : Fl := match atL m o, intOf i with
  | some z, some k => (match ixN z.2.length k with
    | some j => if v.fz = true then .nx rho (m.set z.1 (.lst (z.2.set j v))) else .bad
    | none => .bad)
  | _, _ => .bad
def kIx1 (v : D) (fi : ME) (rho : List (Option D)) (o : D) (m : List O) : Fl := onR (fi rho m) rho (kIx2 v o rho)
def kIx0 (fo fi : ME) (rho : List (Option D)) (v : D) (m : List O) : Fl := onR (fo rho m) rho (kIx1 v fi rho)
theorem mSetIx_e : mSetIx f g h rho m = onR (f rho m) rho (kIx0 g h rho) := rfl
theorem kIx0_e : kIx0 g h rho d m = onR (g rho m) rho (kIx1 d h rho) := rfl
theorem kIx1_e : kIx1 d h rho e m = onR (h rho m) rho (kIx2 d e rho) := rfl
theorem kIx2_e {l j : Nat} {i : Int} {ds : List D} (h : m[l]? = some (.lst ds)) (hj : ixN ds.length i = some j) (hf : d.fz = true) : kIx2 d (.loc l) rho (.int i) m = .nx rho (m.set l (.lst (ds.set j d))) := by
  unfold kIx2 atL
  simp only [h, intOf, hj]
  exact if_pos hf
def kFor (g : MG) (b : MS) (rho : List (Option D)) (ds : List D) (m : List O) : Fl := mForL g b ds rho m
theorem mFor_e {k : MG} : mFor k fa b rho m = onR (fa rho m) rho (kFor k b rho) := rfl
theorem kFor_e {k : MG} {ds : List D} : kFor k b rho ds m = mForL k b ds rho m := rfl
def mItL1 (p : D × List O) : R (List D × List O) := onO (lstOf p.1) fun ds => .ok (ds, p.2)
theorem mItL_e : mItL f rho m = (f rho m).bind mItL1 := rfl
theorem mItL1_e {ds : List D} : mItL1 (.lst ds, m) = .ok (ds, m) := rfl
def mItT1 (p : D × List O) : R (List D × List O) := onO (tupOf p.1) fun ds => .ok (ds, p.2)
theorem mItT_e : mItT f rho m = (f rho m).bind mItT1 := rfl
theorem mItT1_e {ds : List D} : mItT1 (.tup ds, m) = .ok (ds, m) := rfl
def mRng11 (p : D × List O) : R (List D × List O) := onO (intOf p.1) fun j => if rngOk j then .ok (rngD 0 j.toNat, p.2) else .bad
theorem mRng1_e : mRng1 f rho m = (f rho m).bind mRng11 := rfl
theorem mRng11_e {j : Int} (h : rngOk j) : mRng11 (.int j, m) = .ok (rngD 0 j.toNat, m) := if_pos h
def mRng22 (d : D) (q : D × List O) : R (List D × List O) := onO (intOf d) fun i => onO (intOf q.1) fun j => if rngOk i ∧ rngOk j then .ok (rngD i (j - i).toNat, q.2) else .bad
def mRng21 (g : ME) (rho : List (Option D)) (p : D × List O) : R (List D × List O) := (g rho p.2).bind (mRng22 p.1)
theorem mRng2_e : mRng2 f g rho m = (f rho m).bind (mRng21 g rho) := rfl
theorem mRng21_e : mRng21 g rho (d, m) = (g rho m).bind (mRng22 d) := rfl
theorem mRng22_e {i j : Int} (h : rngOk i ∧ rngOk j) : mRng22 (.int i) (.int j, m) = .ok (rngD i (j - i).toNat, m) := if_pos h
def mEn1 (c : Int) (p : D × List O) : R (List D × List O) := onO (tupOf p.1) fun ds => .ok (enD c ds, p.2)
theorem mEn_e {c : Int} : mEn c f rho m = (f rho m).bind (mEn1 c) := rfl
theorem mEn1_e {c : Int} {ds : List D} : mEn1 c (.tup ds, m) = .ok (enD c ds, m) := rfl
theorem onR_o {α : Type} {x : α} {k : α → List O → Fl} : onR (.ok (x, m)) rho k = k x m := rfl
def kPar (i j : Nat) (rho : List (Option D)) (ds : List D) (m : List O) : Fl := match ds with
  | [d, d'] => .nx ((rho.set i (some d)).set j (some d')) m
  | _ => .bad
theorem mPar_e {i j : Nat} : mPar i j fa rho m = onR (fa rho m) rho (kPar i j rho) := rfl
theorem kPar_e {i j : Nat} : kPar i j rho [d, e] m = .nx ((rho.set i (some d)).set j (some e)) m := rfl
def mLc1 (i : Nat) (ft : MT) (fe : ME) (rho : List (Option D)) (p : List D × List O) : RE := match lcL p.2.length i ft fe (rho.set i none) p.1 (p.2 ++ [.lst []]) with
  | some m' => .ok (.loc p.2.length, m')
  | none => .bad
theorem mLc_e {i : Nat} : mLc i fa t f rho m = (fa rho m).bind (mLc1 i t f rho) := rfl
theorem mLc1_e {i : Nat} {ds : List D} {m' : List O} (h : lcL m.length i t f (rho.set i none) ds (m ++ [.lst []]) = some m') : mLc1 i t f rho (ds, m) = .ok (.loc m.length, m') := by
  unfold mLc1
  simp only [h]
end
/-! ### operators on what is known -/
section
variable {m : List O} {i j : Int}
theorem gAdd_i : gAdd m (.int i) (.int j) = some (.int (i + j)) := rfl
theorem gSub_i : gSub m (.int i) (.int j) = some (.int (i - j)) := rfl
theorem gAdd_t {xs ys : List D} (h : xs.length + ys.length ≤ small) : gAdd m (.tup xs) (.tup ys) = some (.tup (xs ++ ys)) := if_pos h
theorem gMul_i (h : cMul i j = true) : gMul m (.int i) (.int j) = some (.int (i * j)) := if_pos h
theorem gDiv_i (h : cDiv i j = true) : gDiv m (.int i) (.int j) = some (.int (i / j)) := if_pos h
theorem gMod_i (h : 0 < j) : gMod m (.int i) (.int j) = some (.int (i % j)) := if_pos (decide_eq_true h)
theorem gPow_i (h : cPow i j = true) : gPow m (.int i) (.int j) = some (.int (i ^ j.toNat)) := if_pos h
theorem gLt_i : gLt m (.int i) (.int j) = some (.bl (decide (i < j))) := rfl
theorem gLe_i : gLe m (.int i) (.int j) = some (.bl (decide (i ≤ j))) := rfl
theorem gLeA_i : gLeA m (.int i) (.int j) = some (.bl (decide (i ≤ j))) := rfl
theorem gGt_i : gGt m (.int i) (.int j) = some (.bl (decide (j < i))) := rfl
theorem gGe_i : gGe m (.int i) (.int j) = some (.bl (decide (j ≤ i))) := rfl
theorem shaped_int : SeqAt.shaped (.int i) = true := by simp [SeqAt.shaped, PyData.canLay0, PyData.depth]
theorem gEq_i : gEq m (.int i) (.int j) = some (.bl (i == j)) := by
  unfold gEq eqP
  show (if SeqAt.shaped (.int i) = true ∧ SeqAt.shaped (.int j) = true then some (PyData.eqv (.int i) (.int j)) else none).map D.bl = _
  rw [if_pos ⟨shaped_int, shaped_int⟩]
  simp only [PyData.eqv]
  rfl
theorem gNe_i : gNe m (.int i) (.int j) = some (.bl (!(i == j))) := by
  unfold gNe eqP
  show (if SeqAt.shaped (.int i) = true ∧ SeqAt.shaped (.int j) = true then some (PyData.eqv (.int i) (.int j)) else none).map (fun k => D.bl (!k)) = _
  rw [if_pos ⟨shaped_int, shaped_int⟩]
  simp only [PyData.eqv]
  rfl
theorem gIs_n {neg : Bool} : gIs neg m .non .non = some (.bl (!neg)) := by cases neg <;> rfl
theorem gIs_i {neg : Bool} : gIs neg m (.int i) .non = some (.bl neg) := by cases neg <;> rfl
theorem bLen_t {xs : List D} : bLen m [.tup xs] = some (.int xs.length) := rfl
theorem bLen_l {xs : List D} : bLen m [.lst xs] = some (.int xs.length) := rfl
theorem bInt_i : bInt m [.int i] = some (.int i) := rfl
theorem bInt_b {k : Bool} : bInt m [.bl k] = some (.int (if k then 1 else 0)) := rfl
theorem bMin_i : bMin m [.int i, .int j] = some (.int (if j < i then j else i)) := rfl
theorem bTup_l {xs : List D} : bTup m [.lst xs] = some (.tup xs) := rfl
theorem gIx_t {xs : List D} {n : Nat} {d : D} (h : xs[n]? = some d) : gIx m (.tup xs) (.int n) = some d := L2.atI_nat h
theorem gIx_l {xs : List D} {n : Nat} {d : D} (h : xs[n]? = some d) : gIx m (.lst xs) (.int n) = some d := L2.atI_nat h
theorem gIx_loc {l : Nat} {xs : List D} {n : Nat} {d : D} (e : m[l]? = some (.lst xs)) (h : xs[n]? = some d) : gIx m (.loc l) (.int n) = some d := by
  unfold gIx seqOf
  simp only [e, Option.bind_some, intOf]
  exact L2.atI_nat h
theorem ixN_nat {n j : Nat} (h : j < n) : ixN n (j : Int) = some j := by
  unfold ixN
  have low : (0 : Int) ≤ j := by omega
  rw [if_pos low, if_pos (by omega)]
  rfl
theorem gAdd_e {m : List O} {xs : List D} : gAdd m (.tup xs) = gAddT m (.tup xs) := rfl
end
theorem cut_rt' {m : List O} {d : D} {m' : List O} (h : fr m.length m' d = some d) (hl : m'.length ≤ m.length) : outCut m (.rt d m') = .ok (d, m') := by
  show (if cutOk m m' m.length = true then (match fr m.length m' d with
    | some d => R.ok (d, m'.take m.length)
    | none => .bad) else .bad) = _
  rw [if_pos (cutOk_le hl), h]
  show R.ok (d, m'.take m.length) = _
  rw [List.take_of_length_le hl]
/-- a store that has grown is cut -/
theorem cut_app {m m' : List O} {d d' : D} {g : List O} (hk : Kept m m') (h : fr m.length (m' ++ g) d = some d') : outCut m (.rt d (m' ++ g)) = .ok (d', m') := by
  show (if cutOk m (m' ++ g) m.length = true then (match fr m.length (m' ++ g) d with
    | some d => R.ok (d, (m' ++ g).take m.length)
    | none => .bad) else .bad) = _
  rw [if_pos (hk.cut g), h]
  show R.ok (d', (m' ++ g).take m.length) = _
  rw [← hk.1, List.take_left]
theorem cut_er {x : Xn} {rho : List (Option D)} {m m' : List O} (h : m'.length ≤ m.length) : outCut m (.er x rho m') = .er x m' := by
  show (if cutOk m m' m.length = true then R.er x (m'.take m.length) else .bad) = _
  rw [if_pos (cutOk_le h), List.take_of_length_le h]
theorem frs_fz {n : Nat} {m : List O} : ∀ es : List D, fzs es = true → Mi.frs n m es = some es
  | [], _ => rfl
  | e :: es, h => by
    simp only [fzs, Bool.and_eq_true] at h
    simp only [Mi.frs]
    have he : fr0 n m e = some e := by
      unfold fr0
      split
      · simp [D.fz] at h
      · rw [if_pos h.1]
    rw [he, Option.bind_some, frs_fz es h.2]
    rfl
theorem fr_fz {n : Nat} {m : List O} {d : D} (h : d.fz = true) : fr n m d = some d := by
  have h0 : fr0 n m d = some d := by
    unfold fr0
    split
    · simp [D.fz] at h
    · rw [if_pos h]
  unfold fr
  split
  · rename_i ds
    have hs : fzs ds = true := by simpa only [D.fz] using h
    rw [frs_fz ds hs]
    rfl
  · exact h0
theorem cut_rt {m : List O} {d : D} {m' : List O} (hf : d.fz = true) (h : m'.length ≤ m.length) : outCut m (.rt d m') = .ok (d, m') := cut_rt' (fr_fz hf) h
theorem cut_nx {m : List O} {rho : List (Option D)} {m' : List O} (h : m'.length ≤ m.length) : outCut m (.nx rho m') = .ok (.non, m') := by
  show (if cutOk m m' m.length = true then R.ok (D.non, m'.take m.length) else .bad) = _
  rw [if_pos (cutOk_le h), List.take_of_length_le h]
theorem fz_ints : ∀ ns : List Int, fzs (ns.map D.int) = true
  | [] => rfl
  | n :: ns => by simp only [List.map_cons, fzs, D.fz, Bool.true_and]; exact fz_ints ns
end Mi
namespace Mi
open PySem PySem.Spec L2
section
variable {X : Cx} {W : WX} {e a b c : Expr} {pos : Pos}
/-! ### C(e, ..): a new instance; what its __init__ raises goes on -/
section
variable {CX : CXT} {k : Nat} {C f : Addr} {fd : FuncData} {ps : List Str} {ds : List Value} {dvs : List V} {sp : Sp} {x : Str} {p : Pos} {es : List Expr} {t : TA}
/-- the make itself; what is raised is held against the locals of here -/
theorem run_makeS {E : XK} {pins : List (Addr × Obj)} {σ : L2.St} {H : Hp} {s : Shared} {Q : VK} {us : List Value} {vs : List V} (made : Mk X.K C f) (def_ : FnOk X.prog X.w X.K X.mg X.base CX k f fd ps sp) (room : Room (k + 1) X.A) (bound : Binds X.K fd ps ds) (dv : Vals dvs ds) (goes : PassesAt CX X σ E) (inv : Inv X pins σ H s) (rel : Vals vs us)
    (does : ∀ o d, H o = none → H d = none → d ≠ o → sp (.ref o :: (vs ++ dvs)) (upd (upd H d (.own o)) o (.ins C d [])) (fun v H2 => v = .non ∧ Q (.ref o) H2) E) : wpAny (model X.prog X.w) X.A (call (.ref C) us) (EP X pins σ Q) X.xe s := by
  let o := s.heap.objs.size + 1
  have won := does o s.heap.objs.size (inv.hok.fresh (Nat.le_succ _)) (inv.hok.fresh (Nat.le_refl _)) (Nat.ne_of_lt (Nat.lt_succ_self _))
  have inv2 := Inv.made (C := C) inv
  have rels : Vals (V.ref o :: (vs ++ dvs)) (Value.ref o :: (us ++ ds)) := .cons rfl (rel.append dv)
  have many : (Value.ref o :: us ++ ds).length = ps.length := (rels.length.symm.trans (def_.len _ _ _ _ won))
  have body := def_.run _ X.stack _ _ ⟨Value.ref o :: us, []⟩ (Value.ref o :: (us ++ ds)) _ _ E (room.make C us []) (inv2.env0.make C us []) (bound _ (Value.ref o :: us) inv2.kIn many) rels won
  refine wpAny_call (make_map (f := f) inv.kIn made.makes made.init (beq_iff_eq.mp made.fn) (codeAny_mono body fun out s2 got => ?_))
  match out, got with
  | .error e, got => exact goes pins _ _ e s2 inv2 got
  | .ok (.ret u), got =>
    have ⟨v, H2, inv3, r3, isn, q⟩ := inv2.after got
    cases isn
    exact ⟨r3, V.ref o, H2, inv3, rfl, q⟩
theorem pe_makeS {EE : L2.St → XK} (made : Mk X.K C f) (def_ : FnOk X.prog X.w X.K X.mg X.base CX k f fd ps sp) (room : Room (k + 1) X.A) (glob : Gl X x) (mem : X.mg x = some (.ref C)) (bound : Binds X.K fd ps ds) (dv : Vals dvs ds) (goes : ∀ σ, PassesAt CX X σ (EE σ)) (ha : PA X (e :: es) t)
    (dbg : (x == ("__debug__" : Str)) = false := by decide) (st : starEach (e :: es) X.env = (false, eval e X.env) :: starEach es X.env := by rfl) (pl : (backTo pos (starEach es X.env)).any (·.1) = false := by rfl) :
    PE X (.Call (.Name x p) (e :: es) [] pos) fun σ H Q => tMake C sp dvs (EE σ) t σ H Q := by
  constructor
  intro pins s σ H Q inv h
  refine wpAny_Call_Name_kw (ld_glob inv glob mem ?_ dbg)
  exact PySem.W.callWith_K (h₀ := X.base) inv.ok.mod.kin made.kp (thn (ha.run pos pins s σ H _ inv h) fun us s1 ⟨vs, H1, inv1, rel, q⟩ => ⟨inv1.kIn, run_makeS made def_ room bound dv (goes σ) inv1 rel q⟩) st pl
end
def mMakeX (c0 : Str) (G : GF) (fa : MA) : ME := fun rho m => (fa rho m).bind fun p => match G (.loc p.2.length :: p.1) (p.2 ++ [.ins c0 [] []]) with
  | .ok q => if isNon q.1 = true then .ok (.loc p.2.length, q.2) else .bad
  | .er y m => .er y m
  | .bad => .bad
theorem m_makeX {k n : Nat} {x : Str} {C fI : Addr} {fd : FuncData} {ps : List Str} {G : GF} {p : Pos} {es : List Expr} {fa : MA} (M : Mk X.K C fI) (F : FnOk X.prog X.w X.K X.mg X.base (L2.CX X.prog X.w) k fI fd ps (spM X.K X.mg n G)) (hr : Room (k + 1) X.A) (hg : Gl X x)
    (hm : X.mg x = some (.ref C)) (hb : Binds X.K fd ps []) (tk : Takes X W) (ha : MA1 X W (e :: es) fa) (hl : ∀ rho m ds m1, fa rho m = .ok (ds, m1) → ds.length + 1 = n) (hdb : (x == ("__debug__" : Str)) = false := by decide) (he : starEach (e :: es) X.env = (false, eval e X.env) :: starEach es X.env := by rfl) (hpl : (backTo pos (starEach es X.env)).any (·.1) = false := by rfl) :
    ME1 X W (.Call (.Name x p) (e :: es) [] pos) (mMakeX x G fa) := by
  refine weak (pe_makeS M F hr hg hm hb .nil (EE := WE W) (fun σ => passAt tk σ) ha hdb he hpl) fun σ H Q hh => ?_
  obtain ⟨pi, m, rho, hm', hs, p⟩ := hh
  have p : PostV X.K X.mg (fun c d H' => W c d σ H') H pi Q ((fa rho m).bind fun p => match G (.loc p.2.length :: p.1) (p.2 ++ [.ins x [] []]) with
    | .ok q => if isNon q.1 = true then .ok (.loc p.2.length, q.2) else .bad
    | .er y m => .er y m
    | .bad => .bad) := p
  cases hf : fa rho m with
  | er y m1 =>
    refine ⟨pi, m, rho, hm', hs, ?_⟩
    rw [hf] at p ⊢
    exact p
  | bad =>
    rw [hf] at p
    exact p.elim
  | ok q =>
    obtain ⟨ds, m1⟩ := q
    have hl1 := hl rho m ds m1 hf
    refine ⟨pi, m, rho, hm', hs, ?_⟩
    rw [hf] at p ⊢
    rw [R.bind_ok] at p
    simp only at p
    intro vs H1 pi1 st1 rm1 r1 a dx na ndx hne
    have st2 : Stp H1 pi1 (upd H1 dx (.own a)) pi1 := stp_new ndx
    have rm2 : RepM X.K X.mg (upd H1 dx (.own a)) pi1 m1 := rm1.new ndx
    have na2 : (upd H1 dx (.own a)) a = none := by rw [upd_ne (Ne.symm hne)]; exact na
    obtain ⟨st3, rm3⟩ := rm2.alloc (o := .ins C dx []) (u := .ins x [] []) na2 (by rfl) ⟨C, dx, [], hm, upd_same, rfl, reps_nil⟩
    have hLa : (pi1 ++ [a])[m1.length]? = some a := by
      rw [← rm1.len]
      exact last_get _ _
    refine ⟨by rw [List.append_nil, List.length_cons, ← r1.length]; exact hl1, pi1 ++ [a], m1 ++ [.ins x [] []], .loc m1.length :: ds, rm3, ?_, ?_⟩
    · rw [List.append_nil]
      exact reps_cons (by simp only [Rep]; exact ⟨a, rfl, hLa⟩) (r1.mono (st2.trans st3))
    · cases hG : G (.loc m1.length :: ds) (m1 ++ [.ins x [] []]) with
      | er y m4 =>
        rw [hG] at p
        intro c cd H4 pi4 st4 rm4 rx
        exact p c cd H4 pi4 (((st1.trans st2).trans st3).trans st4) rm4 rx
      | bad =>
        rw [hG] at p
        exact p.elim
      | ok q =>
        obtain ⟨d4, m4⟩ := q
        rw [hG] at p
        simp only at p
        by_cases hn : isNon d4 = true
        · rw [if_pos hn] at p
          intro v H4 pi4 st4 rm4 r4
          have hv := rep_non r4
          rw [hn] at hv
          exact ⟨of_decide_eq_true hv, p (.ref a) H4 pi4 (((st1.trans st2).trans st3).trans st4) rm4 (by simp only [Rep]; exact ⟨a, rfl, st4.get hLa⟩)⟩
        · rw [if_neg hn] at p
          exact p.elim

end
end Mi
namespace Mi
open PySem PySem.Spec L2 PyProof.Rows

/-! ### try with several clauses 'except C as n' -/
def wiped (i : Nat) (D : Ends) : Ends := { nx := fun τ G => D.nx (τ.set i none) G, rt := D.rt, bk := fun τ G => D.bk (τ.set i none) G, ct := fun τ G => D.ct (τ.set i none) G }
abbrev Cl := Value × (Addr → Value → Option Addr → TS)
/-- what the clauses wish of an exception, the first that fits -/
def wAsM (K : PySem.W.Frag) (i : Nat) (Wout : WX) (D : Ends) : List Cl → WX
  | [] => Wout
  | q :: r => fun cls d σ H => ∃ fits, PySem.W.exmOne K cls q.1 = some fits ∧ (fits = true → ∀ a, H a = none → q.2 a cls d (wiped i D) (σ.set i (some (.ref a))) H) ∧ (fits = false → wAsM K i Wout D r cls d σ H)
inductive AsOk (X : Cx) (n : Str) : List ExceptHandler → List Cl → Prop
  | nil : AsOk X n [] []
  | cons {x : Str} {q : Cl} {b0 : Stmt} {rest : List Stmt} {np ps : Pos} {hds : List ExceptHandler} {l : List Cl} (name : Names X x q.1)
      (does : ∀ (a : Addr) (o : Obj) (cls : Value) (d : Option Addr) (pn : List (Addr × Obj)), Zc cls d o → (∃ vs, o.data = .fields vs) → PSs (X.suite a ((a, o) :: pn)) (b0 :: rest) (q.2 a cls d)) (more : AsOk X n hds l) :
      AsOk X n (.ExceptHandler (some (.Name x np)) (some n) (b0 :: rest) ps :: hds) (q :: l)
section
variable {X : Cx} {n : Str} {i : Nat} {body : List Stmt} {h0 : ExceptHandler} {hds : List ExceptHandler} {l : List Cl} {pos : Pos} {tb : WX → TS} {Wout : WX}
theorem ps_tryAs (hs : X.stack = X.env :: X.outer) (hf : X.env.frame = some X.env.locals) (hN : X.N.Nodup) (hi : X.N[i]? = some n) (isl : X.env.kindOf n = some .local) (tk : Takes X Wout)
    (inner : ∀ (W1 : WX) (pn : List (Addr × Obj)) (xe : Value → Shared → Prop), Takes (X.tr pn xe) W1 → PassesOwn (model X.prog X.w) X.A X.env xe → PSs (X.tr pn xe) body (tb W1))
    (clauses : AsOk X n (h0 :: hds) l) : PS X (.Try body (h0 :: hds) [] [] pos) (fun D σ H => tb (wAsM X.K i Wout D l) D σ H) := by
  constructor
  intro pins s σ H D inv h
  have ok := inv.ok
  have frames : X.A.frames = some (X.env :: X.outer) := ok.frames.trans (congrArg some hs)
  refine wpAny_Try_except (wpAny_mono ((inner (wAsM X.K i Wout D l) (X.pn ++ pins) (fun e s1 => wpAny (model X.prog X.w) X.A (noteFrame e X.env) (fun _ s2 => wpAny (model X.prog X.w) X.A (setFlight e none) (fun _ s3 => wpAny (model X.prog X.w) X.A (handleBy e X.env (h0 :: hds)) (SP X pins D) X.xe s3) X.xe s2) X.xe s1)
    (fun u s1 thrown => ?caught) PassesOwn.looking).run [] s σ H D (inv.toTry _) h) (fun f s1 over => ?over) fun _ _ lost => lost)
  case over =>
    match f, over with
    | .next, ⟨τ, G, inv1, q⟩ => exact wpAny_execs_nil ⟨τ, G, inv1.ofTry ok, q⟩
    | .brk, ⟨τ, G, inv1, q⟩ => exact ⟨τ, G, inv1.ofTry ok, q⟩
    | .cont, ⟨τ, G, inv1, q⟩ => exact ⟨τ, G, inv1.ofTry ok, q⟩
    | .ret u, ⟨v, τ, G, inv1, rel, q⟩ => exact ⟨v, τ, G, inv1.ofTry ok, rel, q⟩
  case caught =>
    obtain ⟨a, B, s0, pins1, τ, G, cls, d, rfl, inv0, below, up1, sky, gone, same, agree, want⟩ := thrown
    have inv1 : Inv X pins τ G s0 := inv0.ofTry ok
    have over : Sky B (X.env :: X.outer) a (Zc cls d) X.env.locals s1.heap := hs ▸ sky
    change wpAny (model X.prog X.w) X.A (noteFrame (.ref a) X.env) _ _ _
    refine Sky.land Zc.steady frames hf over fun h3 down up3 => ?_
    have inv3 : Inv X pins τ G { s1 with heap := h3 } := inv1.landed below down.1 (up1.trans up3) same agree
    have ⟨o3, v3, at3, z3, sh3⟩ := down.there
    have alien : a ∉ L2.frs (X.env :: X.outer) := fun mem => by
      have ⟨_, o, at_, no⟩ := down.2.2.1.mem mem
      cases at_.symm.trans at3
      exact no _ sh3
    have notLoc : a ≠ X.env.locals := fun z => alien (List.mem_filterMap.mpr ⟨X.env, List.mem_cons_self, hf.trans (congrArg some z.symm)⟩)
    have notFs : a ∉ X.fs := fun mem => by
      have ⟨E, memE, q⟩ := List.mem_filterMap.mp mem
      exact alien (List.mem_filterMap.mpr ⟨E, List.mem_cons_of_mem _ memE, q⟩)
    have inS := inv3.suite at3 sh3 gone notLoc notFs
    have all : ∀ {hs1 : List ExceptHandler} {l1 : List Cl}, AsOk X n hs1 l1 → wAsM X.K i Wout D l1 cls d τ G → wpAny (model X.prog X.w) X.A (handleBy (.ref a) X.env hs1) (SP X pins D) X.xe { s1 with heap := h3 } := by
      intro hs1 l1 good
      induction good with
      | nil =>
        intro lost
        apply wpAny_handleBy_nil
        have ⟨_, _, _, o, vs, T, _, _, at_, _, sh, one, _⟩ := id down
        have last : wpAny (model X.prog X.w) X.A (setFlight (.ref a) X.env.frame) (fun _ s4 => wpAny (model X.prog X.w) X.A (throw (.ref a) : Sem Flow) (SP X pins D) X.xe s4) X.xe { s1 with heap := h3 } :=
          hf ▸ HandSPX.setFlight_upZ down fun h4 flying up4 => wpAny_throw (tk _ _ ⟨a, B, s0, pins, τ, G, cls, d, rfl, inv1, below, (up1.trans up3).trans up4, .inr (.inr (hs ▸ flying)), gone, same, agree, lost⟩)
        unfold PySem.passOn
        apply wpAny_bind
        apply wpAny_field at_ sh one
        rw [if_neg (by simp : ¬ ((Value.ref T == Value.none) = true))]
        first
          | exact wpAny_bind last
          | exact wpAny_bind (wpAny_pure (wpAny_bind last))
      | @cons x q b0 rest np ps hs2 l2 name does more ih =>
        rintro ⟨fits, asked, yes, no⟩
        apply wpAny_handleBy_cons _ (fun z => by cases z)
        apply codeAny_handlers_test
        have look : PySem.W.Looks (model X.prog X.w) h3 (typeOf (.ref a)) cls := fun A Q E s2 keeps won => wpAny_typeOf_ref (keeps _ _ at3) (z3.1.symm ▸ won)
        have answer := PySem.W.exm_one (M := model X.prog X.w) inv3.kIn look asked
        have named : ∀ {Q E : Value → Shared → Prop}, Q q.1 { s1 with heap := h3 } → wpAny (model X.prog X.w) (X.A.mark (some (.ref a))) (eval (.Name x np) X.env) Q E { s1 with heap := h3 } := fun {Q E} won => by
          rcases name with ⟨glob, dbg, mem | ⟨mem, boot, nn⟩⟩
          · exact ld_glob (X := X.suite a ((a, o3) :: (X.pn ++ pins))) inS glob mem won dbg
          · exact ld_blt (X := X.suite a ((a, o3) :: (X.pn ++ pins))) inS glob mem boot won nn dbg
        refine named (answer.here ?_)
        cases fits with
        | false => exact ih (no rfl)
        | true =>
          apply codeAny_handlers_suite_as
          refine HandSPX.lands_againZ down fun h4 down4 up4 => ?_
          have inv4 : Inv X pins τ G { s1 with heap := h4 } := inv1.landed below down4.1 ((up1.trans up3).trans up4) same agree
          have ⟨o4, v4, at4, z4, sh4⟩ := down4.there
          refine store_ok (X := X.suite a ((a, o4) :: (X.pn ++ pins))) (v := .ref a) (inv4.suite at4 sh4 gone notLoc notFs) hN hi (.inl isl) rfl (fun s5 in5 => ?_) (.inr isl)
          refine wpAny_mono ((does a o4 cls d (X.pn ++ pins) z4 ⟨_, sh4⟩).run [] s5 _ G _ in5 (yes rfl a gone)) (fun f s6 over => ?_) fun _ _ z => z.elim
          have leave : ∀ {τ6 : L2.St} {G6 : Hp} {Q : Shared → Prop}, Inv (X.suite a ((a, o4) :: (X.pn ++ pins))) [] τ6 G6 s6 → (∀ s7, Inv X pins (τ6.set i none) G6 s7 → Q s7) →
              wpAny (model X.prog X.w) X.A (do bindName X.env n .none; unbindBehindTheSuite X.env n ps) (fun _ s7 => Q s7) X.xe s6 := fun in6 won => gone_ok (in6.unsuite ok) hN hi isl won
          match f, over with
          | .next, ⟨τ6, G6, in6, q6⟩ => exact leave in6 fun s7 in7 => ⟨_, _, in7, q6⟩
          | .brk, ⟨τ6, G6, in6, q6⟩ => exact leave in6 fun s7 in7 => ⟨_, _, in7, q6⟩
          | .cont, ⟨τ6, G6, in6, q6⟩ => exact leave in6 fun s7 in7 => ⟨_, _, in7, q6⟩
          | .ret u, ⟨v, τ6, G6, in6, rel, q6⟩ => exact leave in6 fun s7 in7 => ⟨_, _, _, in7, rel, q6⟩
    exact all clauses want
end
end Mi
namespace Mi
open PySem PySem.Spec L2 PyProof.Rows

/-! ### x == y by the text's own __eq__, whatever it answers; y: of the class too, or a tuple -/
def rOwn (K : PySem.W.Frag) (C : Addr) (sp : Sp) : R2 := fun x y H Q => ∃ a b dx fs, x = .ref a ∧ y = .ref b ∧ H a = some (.ins C dx fs) ∧ ((∃ dy gs, H b = some (.ins C dy gs)) ∨ ∃ xs, SqT K H b xs) ∧
  sp [x, y] H (fun v H2 => (∃ k, v = .bl k) ∧ Q v H2) fun _ _ _ => False
section
variable {X : Cx} {k : Nat} {C f : Addr} {fd : FuncData} {ps : List Str} {sp : Sp}
theorem op_own (def_ : FnOk X.prog X.w X.K X.mg X.base (L2.CX X.prog X.w) k f fd ps sp) (slot : PySem.W.findIn X.K (.ref C) "__eq__" = some (some (.ref f))) (isF : PySem.W.isFn X.K (.ref f) = true) (noT : PySem.W.subIn X.K (.type "tuple") (.ref C) = some false)
    (bound : Binds X.K fd ps []) (room : Room k X.A) : OpR X (compareOp .Eq) (rOwn X.K C sp) := by
  rintro pins s σ H x y v u Q inv relx rely ⟨a, b, dx, fs, rfl, rfl, ata, kind, run⟩
  cases relx
  cases rely
  have ⟨mA, J, _⟩ := ins_get inv.hok ata
  have ⟨od, J, _⟩ := J.look
  have ⟨m, frees⟩ := inv.fr
  have back : wpAny (model X.prog X.w) X.A (call (.ref f) [.ref a, .ref b]) (PySem.W.CmpBack (EP X pins σ Q)) X.xe s := by
    have many := def_.len _ _ _ _ run
    have rels : Vals [V.ref a, V.ref b] [Value.ref a, Value.ref b] := .cons rfl (.cons rfl .nil)
    have bind2 := bound s [.ref a, .ref b] inv.kIn (by simpa using many)
    refine wpAny_call (codeAny_mono (def_.run X.A X.stack s H ⟨[.ref a, .ref b], []⟩ [.ref a, .ref b] [.ref a, .ref b] _ (fun _ _ _ => False) room inv.env0 (by simpa using bind2) rels run) fun out s1 got => ?_)
    match out, got with
    | .error e, got => exact passL pins σ H s e s1 inv got
    | .ok (.ret w), got =>
      have ⟨z, H1, inv1, relz, ⟨k, isb⟩, q⟩ := inv.after got
      subst isb
      cases relz
      exact ⟨.bl k, H1, inv1, rfl, q⟩
  have go : ∀ tb : Value, PySem.W.Looks (model X.prog X.w) s.heap (typeOf (.ref b)) tb → PySem.W.notFirst X.K C tb = true → wpAny (model X.prog X.w) X.A (richCompare .Eq (.ref a) (.ref b)) (EP X pins σ Q) X.xe s :=
    fun tb look first => PySem.W.cmp_K (op := .Eq) (tb := tb) room.units0 frees inv.ok.mod.kin J look first slot isF back
  show wpAny (model X.prog X.w) X.A (richCompare .Eq (.ref a) (.ref b)) (EP X pins σ Q) X.xe s
  rcases kind with ⟨dy, gs, atb⟩ | ⟨xs, seq⟩
  · have ⟨mB, J2, _⟩ := ins_get inv.hok atb
    have ⟨od2, J2, _⟩ := J2.look
    exact go (.ref C) J2.type (by simp [PySem.W.notFirst])
  · have ⟨its, rels, ⟨o, ato, cls, _⟩, _⟩ := inv.tuple seq
    exact go (.type "tuple") (fun A Q E s2 keeps won => wpAny_typeOf_ref (keeps _ _ ato) (cls.symm ▸ won)) (by simp [PySem.W.notFirst, noT])
end
def eqOk (c0 : Str) (x y : D) : Bool := match x with
  | .ins c _ _ => decide (c = c0) && (match y with
    | .ins c' _ _ => decide (c' = c0)
    | .tup _ => true
    | _ => false)
  | _ => false
def blOnly (r : RE) : RE := match r with
  | .ok (.bl k, m) => .ok (.bl k, m)
  | _ => .bad
def mEqI (c0 : Str) (G : GF) (fa fb : ME) : ME := fun rho m => (fa rho m).bind fun p => (fb rho p.2).bind fun q => if eqOk c0 p.1 q.1 = true then blOnly (G [p.1, q.1] q.2) else .bad
theorem bl_only {K : PySem.W.Frag} {mg : Str → Option Value} {E : XK} {H : Hp} {pi : List Addr} {Q : VK} {r : RE} (p : PostV K mg E H pi Q (blOnly r)) : PostV K mg (fun _ _ _ => False) H pi (fun v H2 => (∃ k, v = .bl k) ∧ Q v H2) r := by
  match r, p with
  | .ok (.bl k, m), p => exact fun v G pi1 st rm rep => ⟨⟨k, by simpa only [Rep] using rep⟩, p v G pi1 st rm rep⟩
section
variable {X : Cx} {W : WX} {a b : Expr} {pos : Pos}
theorem m_eqI {k : Nat} {c0 : Str} {C f : Addr} {fd : FuncData} {ps : List Str} {G : GF} {fa fb : ME} (def_ : FnOk X.prog X.w X.K X.mg X.base (L2.CX X.prog X.w) k f fd ps (spM X.K X.mg 2 G)) (slot : PySem.W.findIn X.K (.ref C) "__eq__" = some (some (.ref f))) (isF : PySem.W.isFn X.K (.ref f) = true) (noT : PySem.W.subIn X.K (.type "tuple") (.ref C) = some false)
    (bound : Binds X.K fd ps []) (room : Room k X.A) (mem : X.mg c0 = some (.ref C)) (ha : ME1 X W a fa) (hb : ME1 X W b fb) (mark : behindInMarks .Eq b = false := by first | exact nomark _ (by decide) (by decide) | rfl) : ME1 X W (.Compare a [.Eq] [b] pos) (mEqI c0 G fa fb) := by
  refine weak (pe_cmpR (op_own def_ slot isF noT bound room) ha hb mark) fun σ H Q h => ?_
  obtain ⟨pi, m, rho, rm, hs, p⟩ := h
  refine ⟨pi, m, rho, rm, hs, (PostV.bind p).mono fun x H1 h1 => ?_⟩
  obtain ⟨pi1, m1, dx, st1, rm1, rx, p1⟩ := h1
  refine ⟨pi1, m1, rho, rm1, hs.mono st1, (PostV.bind p1).mono fun y H2 h2 => ?_⟩
  obtain ⟨pi2, m2, dy, st2, rm2, ry, p2⟩ := h2
  have rx2 := Rep.mono st2 _ _ rx
  by_cases ok : eqOk c0 dx dy = true
  · simp only [if_pos ok] at p2
    have run : spM X.K X.mg 2 G [x, y] H2 (fun v H3 => (∃ k, v = .bl k) ∧ Q v H3) (fun _ _ _ => False) := ⟨rfl, pi2, m2, [dx, dy], rm2, reps_cons rx2 (reps_cons ry reps_nil), bl_only p2⟩
    unfold eqOk at ok
    cases dx with
    | ins c ns ds =>
      have ok := (Bool.and_eq_true _ _).mp ok
      have ok1 := of_decide_eq_true ok.1
      have first := rx2
      simp only [Rep] at first
      obtain ⟨a1, C1, d1, fv1, rfl, _, g1, at1, _⟩ := first
      rw [ok1, mem] at g1
      cases g1
      cases dy with
      | ins c' ns' ds' =>
        have second := ry
        simp only [Rep] at second
        obtain ⟨a2, C2, d2, fv2, rfl, _, g2, at2, _⟩ := second
        have same : c' = c0 := by simpa using ok.2
        rw [same, mem] at g2
        cases g2
        exact ⟨a1, a2, d1, fv1, rfl, rfl, at1, .inl ⟨d2, fv2, at2⟩, run⟩
      | tup es =>
        have second := ry
        simp only [Rep] at second
        obtain ⟨a2, vs, rfl, seq, _⟩ := second
        exact ⟨a1, a2, d1, fv1, rfl, rfl, at1, .inr ⟨vs, seq⟩, run⟩
      | _ => simp at ok
    | _ => simp at ok
  · simp only [if_neg ok] at p2
    exact p2.elim
end
end Mi
namespace Mi
open PySem PySem.Spec L2

/-! ### isinstance(x, C), C a class of the text -/
def bIsiC (c0 : Str) (d : D) : Option Bool := match d with
  | .ins c _ _ => if c = c0 then some true else none
  | d => (tyN d).map fun _ => false
def mIsiC (c0 : Str) (f : ME) : ME := fun rho m => (f rho m).bind fun p => onO (bIsiC c0 p.1) fun k => .ok (.bl k, p.2)
section
variable {X : Cx} {W : WX} {e : Expr} {pos : Pos}
theorem m_isiC {c0 : Str} {C : Addr} {f : ME} {p q : Pos} (hg : Gl X "isinstance") (hm : X.mg "isinstance" = none) (glob : Gl X c0) (mem : X.mg c0 = some (.ref C)) (ofC : ∀ {H : Hp} {a dx : Addr} {fs : List (Str × V)}, H a = some (.ins C dx fs) → TyX X.K H (.ref a) (.ref C)) (yes : PySem.W.kitOne X.K (.ref C) (.ref C) = some true) (no : ∀ n ∈ ["NoneType", "bool", "int", "str", "tuple", "list"], PySem.W.kitOne X.K (.type n) (.ref C) = some false) (ha : ME1 X W e f) (dbg : (c0 == ("__debug__" : Str)) = false := by decide)
    (one : starEach [e, .Name c0 q] X.env = (false, eval e X.env) :: starEach [.Name c0 q] X.env := by rfl) (two : starEach [.Name c0 q] X.env = (false, eval (.Name c0 q) X.env) :: starEach [] X.env := by rfl) (plain : (backTo pos (starEach [.Name c0 q] X.env)).any (·.1) = false := by rfl) :
    ME1 X W (.Call (.Name "isinstance" p) [e, .Name c0 q] [] pos) (mIsiC c0 f) := by
  refine weak (pe_callB call_isi hg hm (by decide +kernel) (pa_cons ha (pa_cons (pe_glob (v := .ref C) glob mem rfl dbg) pa_nil two) one) (by decide) (by decide) one plain) fun σ H Q hh => ?_
  obtain ⟨pi, m, rho, rm, hs, post⟩ := hh
  refine ⟨pi, m, rho, rm, hs, (PostV.bind post).mono fun x H1 h1 => ?_⟩
  obtain ⟨pi1, m1, d, st1, rm1, rep, p1⟩ := h1
  cases hd : bIsiC c0 d with
  | none =>
    simp only [hd] at p1
    exact p1.elim
  | some k =>
    simp only [hd, onO_some] at p1
    have won := p1.here (v := .bl k) rm1 (by simp only [Rep])
    have other : ∀ n, tyN d = some n → bIsiC c0 d = some false → n ∈ ["NoneType", "bool", "int", "str", "tuple", "list"] → ∃ (y c : V) (t u : Value) (b : Bool), [x, V.ref C] = [y, c] ∧ ClsV c u ∧ TyX X.K H1 y t ∧ PySem.W.kitOne X.K t u = some b ∧ Q (.bl b) H1 := fun n hn hb hin => by
      rw [hd] at hb
      cases hb
      exact ⟨x, .ref C, .type n, .ref C, false, rfl, .own C, tyx_of rep hn, no n hin, won⟩
    cases d with
    | ins c ns ds =>
      have whole := rep
      simp only [Rep] at whole
      obtain ⟨a, C1, dx, fv, rfl, _, g, at1, _⟩ := whole
      change (if c = c0 then some true else none) = some k at hd
      by_cases same : c = c0
      · rw [if_pos same] at hd
        cases hd
        rw [same, mem] at g
        cases g
        exact ⟨.ref a, .ref C, .ref C, .ref C, true, rfl, .own C, ofC at1, yes, won⟩
      · rw [if_neg same] at hd
        cases hd
    | non => exact other "NoneType" rfl rfl (by simp)
    | bl b => exact other "bool" rfl rfl (by simp)
    | int i => exact other "int" rfl rfl (by simp)
    | str s => exact other "str" rfl rfl (by simp)
    | tup ds => exact other "tuple" rfl rfl (by simp)
    | lst ds => exact other "list" rfl rfl (by simp)
    | _ => cases hd
end
end Mi
namespace Mi
open PySem PySem.Spec L2

/-! ### raise C(e), C's own __init__ keeping e as a field -/
def spExI (C : Addr) (fld : Str) : Sp := fun vs H Q _ => ∃ a y, vs = [.ref a, y] ∧ H a = some (exo a C none) ∧ ∀ dx, H dx = none → dx ≠ a → Q .non (upd (upd H dx (exd dx [(fld, y)])) a (exo a C (some dx)))
theorem exI_ok {P : Program} {w : World} {K : PySem.W.Frag} {mg : Str → Option Value} {base : Heap} {x qual p1 fld : Str} {st : Stmt} {f C : Addr} {fd : FuncData} {q1 q2 q3 q4 : Pos} (F : Fun K x qual st f fd) (S : FnScope ["self", p1] ["self", p1] (defScope st)) (body : defBody st = [.Assign [.Attribute (.Name "self" q1) fld q2] (.Name p1 q3) q4])
    (see0 : Vis (defScope st) "self") (see1 : Vis (defScope st) p1) (T : OexC K C) (noF : PySem.W.findIn K (.ref C) fld = some none) (d1 : (p1 == ("__debug__" : Str)) = false := by decide) (d2 : (p1 == ("__classdict__" : Str)) = false := by decide) : FnOk P w K mg base (L2.CX P w) 3 f fd ["self", p1] (spExI C fld) := by
  refine F.okX (k := 2) S (fun vs H Q E h => ?_) fun cdv A outer s H vs Q E hr h => ?_
  · obtain ⟨a, y, rfl, _⟩ := h
    rfl
  · obtain ⟨a, y, rfl, at_, won⟩ := h
    rw [body]
    refine ⟨_, pss_one (ps_ost (pe_var (i := 0) rfl see0) (pe_var (i := 1) rfl see1 d1 d2)), ?_⟩
    exact ⟨y, rfl, .ref a, rfl, a, C, rfl, T, noF, .inl ⟨at_, won⟩⟩
def mRaiseF (cls fld : Str) (f : ME) : MS := fun rho m => onR (f rho m) rho fun d m => if d.fz = true then .er ⟨cls, [(fld, d)]⟩ rho m else .bad
section
variable {X : Cx} {W : WX} {e : Expr} {pos : Pos}
theorem s_raiseF {k : Nat} {x fld : Str} {C fI : Addr} {fd : FuncData} {ps : List Str} {f : ME} {p p3 : Pos} (calm : X.calm = true) (tk : Takes X W) (T : OexC X.K C) (iC : PySem.W.findIn X.K (.ref C) "__init__" = some (some (.ref fI))) (tI : PySem.W.typeIn X.K (.ref fI) = some (.type "function"))
    (def_ : FnOk X.prog X.w X.K X.mg X.base (L2.CX X.prog X.w) k fI fd ps (spExI C fld)) (room : Room (k + 1) X.A) (bound : Binds X.K fd ps []) (glob : Gl X x) (mem : X.mg x = some (.ref C)) (he : ME1 X W e f)
    (dbg : (x == ("__debug__" : Str)) = false := by decide) (one : starEach [e] X.env = (false, eval e X.env) :: starEach [] X.env := by rfl) (plain : (backTo p3 (starEach [] X.env)).any (·.1) = false := by rfl) :
    MS1 X W (.Raise (some (.Call (.Name x p) [e] [] p3)) none pos) (mRaiseF x fld f) := by
  refine weakS (ps_raise calm tk (pmk_oex T iC tI def_ room bound .nil passL glob mem (pa_cons he pa_nil one) dbg one plain)) fun σ H Z h => ?_
  obtain ⟨pi, m, rho, rm, hs, post⟩ := h
  refine ⟨pi, m, rho, rm, hs, ?_⟩
  have post : PostS X.K X.mg W Z H pi (onR (f rho m) rho fun d m => if d.fz = true then .er ⟨x, [(fld, d)]⟩ rho m else .bad) := post
  cases hf : f rho m with
  | bad =>
    rw [hf] at post
    exact post.elim
  | er y m1 =>
    rw [hf] at post
    exact fun c dx H1 pi1 st1 rm1 rx => post c dx σ H1 pi1 st1 rm1 (hs.mono st1) rx
  | ok q =>
    obtain ⟨d, m1⟩ := q
    simp only [hf, onR_ok] at post
    by_cases whole : d.fz = true
    · rw [if_pos whole] at post
      intro v H1 pi1 st1 rm1 rep
      refine ⟨by show 1 ≤ 1000; decide, fun a na => ⟨a, v, rfl, upd_same, fun dx ndx ne => ⟨rfl, dx, [(fld, v)], upd_same, (upd_ne ne).trans upd_same, ?_, ?_⟩⟩⟩
      · exact (upd_ne ne).symm.trans ndx
      · have n1 : H1 dx = none := (upd_ne ne).symm.trans ndx
        have heap : upd (del (upd (upd (upd H1 a (exo a C none)) dx (exd dx [(fld, v)])) a (exo a C (some dx))) a) dx (.xd [(fld, v)]) = upd H1 dx (.xd [(fld, v)]) := by
          funext b
          by_cases hb : b = dx
          · rw [hb, upd_same, upd_same]
          · rw [upd_ne hb, upd_ne hb]
            by_cases ha : b = a
            · rw [ha, del_same, na]
            · rw [del_ne ha, upd_ne ha, upd_ne hb, upd_ne ha]
        rw [heap]
        have st2 : Stp H1 pi1 (upd H1 dx (.xd [(fld, v)])) pi1 := stp_new n1
        exact post (.ref C) (some dx) σ _ pi1 (st1.trans st2) (rm1.new n1) ((hs.mono st1).mono st2) ⟨C, mem, rfl, .inr (.inl ⟨fld, d, dx, v, rfl, rfl, upd_same, rm1.fresh n1, whole, Rep.mono st2 _ _ rep⟩)⟩
    · rw [if_neg whole] at post
      exact post.elim
end
/-! ### raise C(e, e2), C's own __init__ keeping both as fields -/
def spExI2 (C : Addr) (f1 f2 : Str) : Sp := fun vs H Q _ => ∃ a y z, vs = [.ref a, y, z] ∧ H a = some (exo a C none) ∧ ∀ dx, H dx = none → dx ≠ a → Q .non (upd (upd (upd H dx (exd dx [(f1, y)])) a (exo a C (some dx))) dx (exd dx [(f2, z), (f1, y)]))
theorem exI2_ok {P : Program} {w : World} {K : PySem.W.Frag} {mg : Str → Option Value} {base : Heap} {x qual p1 p2 fld fld2 : Str} {st : Stmt} {f C : Addr} {fd : FuncData} {q1 q2 q3 q4 q5 q6 q7 q8 : Pos} (F : Fun K x qual st f fd) (S : FnScope ["self", p1, p2] ["self", p1, p2] (defScope st)) (body : defBody st = [.Assign [.Attribute (.Name "self" q1) fld q2] (.Name p1 q3) q4, .Assign [.Attribute (.Name "self" q5) fld2 q6] (.Name p2 q7) q8])
    (see0 : Vis (defScope st) "self") (see1 : Vis (defScope st) p1) (see2 : Vis (defScope st) p2) (T : OexC K C) (noF : PySem.W.findIn K (.ref C) fld = some none) (noF2 : PySem.W.findIn K (.ref C) fld2 = some none) (d1 : (p1 == ("__debug__" : Str)) = false := by decide) (d2 : (p1 == ("__classdict__" : Str)) = false := by decide) (d3 : (p2 == ("__debug__" : Str)) = false := by decide) (d4 : (p2 == ("__classdict__" : Str)) = false := by decide) : FnOk P w K mg base (L2.CX P w) 3 f fd ["self", p1, p2] (spExI2 C fld fld2) := by
  refine F.okX (k := 2) S (fun vs H Q E h => ?_) fun cdv A outer s H vs Q E hr h => ?_
  · obtain ⟨a, y, z, rfl, _⟩ := h
    rfl
  · obtain ⟨a, y, z, rfl, at_, won⟩ := h
    rw [body]
    refine ⟨_, pss_cons (ps_ost (pe_var (i := 0) rfl see0) (pe_var (i := 1) rfl see1 d1 d2)) (pss_one (ps_ost (pe_var (i := 0) rfl see0) (pe_var (i := 2) rfl see2 d3 d4))), ?_⟩
    exact ⟨y, rfl, .ref a, rfl, a, C, rfl, T, noF, .inl ⟨at_, fun dx nd ne => ⟨z, rfl, .ref a, rfl, a, C, rfl, T, noF2, .inr ⟨dx, [(fld, y)], upd_same, (upd_ne ne).trans upd_same, (by show 1 ≤ 900; decide), won dx nd ne⟩⟩⟩⟩
def mRaiseF2 (cls fld fld2 : Str) (f g : ME) : MS := fun rho m => onR (f rho m) rho fun d m => onR (g rho m) rho fun e m => if d.fz = true ∧ e.fz = true then .er ⟨cls, [(fld, d), (fld2, e)]⟩ rho m else .bad
section
variable {X : Cx} {W : WX} {e e2 : Expr} {pos : Pos}
theorem s_raiseF2 {k : Nat} {x fld fld2 : Str} {C fI : Addr} {fd : FuncData} {ps : List Str} {f g : ME} {p p3 : Pos} (calm : X.calm = true) (tk : Takes X W) (T : OexC X.K C) (iC : PySem.W.findIn X.K (.ref C) "__init__" = some (some (.ref fI))) (tI : PySem.W.typeIn X.K (.ref fI) = some (.type "function"))
    (def_ : FnOk X.prog X.w X.K X.mg X.base (L2.CX X.prog X.w) k fI fd ps (spExI2 C fld fld2)) (room : Room (k + 1) X.A) (bound : Binds X.K fd ps []) (glob : Gl X x) (mem : X.mg x = some (.ref C)) (he : ME1 X W e f) (he2 : ME1 X W e2 g)
    (dbg : (x == ("__debug__" : Str)) = false := by decide) (one : starEach [e, e2] X.env = (false, eval e X.env) :: starEach [e2] X.env := by rfl) (two : starEach [e2] X.env = (false, eval e2 X.env) :: starEach [] X.env := by rfl) (plain : (backTo p3 (starEach [e2] X.env)).any (·.1) = false := by rfl) :
    MS1 X W (.Raise (some (.Call (.Name x p) [e, e2] [] p3)) none pos) (mRaiseF2 x fld fld2 f g) := by
  refine weakS (ps_raise calm tk (pmk_oex T iC tI def_ room bound .nil passL glob mem (pa_cons he (pa_cons he2 pa_nil two) one) dbg one plain)) fun σ H Z h => ?_
  obtain ⟨pi, m, rho, rm, hs, post⟩ := h
  refine ⟨pi, m, rho, rm, hs, (post_onV hs post).mono fun v H1 h1 => ?_⟩
  obtain ⟨pi1, m1, d, st1, rm1, rep1, post1⟩ := h1
  refine ⟨pi1, m1, rho, rm1, hs.mono st1, (post_onV (hs.mono st1) post1).mono fun u H2 h2 => ?_⟩
  obtain ⟨pi2, m2, d2, st2, rm2, rep2, post2⟩ := h2
  by_cases whole : d.fz = true ∧ d2.fz = true
  · rw [if_pos whole] at post2
    have rep1 := Rep.mono st2 _ _ rep1
    refine ⟨by show 2 ≤ 1000; decide, fun a na => ⟨a, v, u, rfl, upd_same, fun dx ndx ne => ⟨rfl, dx, [(fld2, u), (fld, v)], (upd_ne (fun z => ne z.symm)).trans upd_same, upd_same, (upd_ne ne).symm.trans ndx, ?_⟩⟩⟩
    have n1 : H2 dx = none := (upd_ne ne).symm.trans ndx
    have heap : upd (del (upd (upd (upd (upd H2 a (exo a C none)) dx (exd dx [(fld, v)])) a (exo a C (some dx))) dx (exd dx [(fld2, u), (fld, v)])) a) dx (.xd [(fld2, u), (fld, v)]) = upd H2 dx (.xd [(fld2, u), (fld, v)]) := by
      funext b
      by_cases hb : b = dx
      · rw [hb, upd_same, upd_same]
      · rw [upd_ne hb, upd_ne hb]
        by_cases ha : b = a
        · rw [ha, del_same, na]
        · rw [del_ne ha, upd_ne hb, upd_ne ha, upd_ne hb, upd_ne ha]
    rw [heap]
    have st3 : Stp H2 pi2 (upd H2 dx (.xd [(fld2, u), (fld, v)])) pi2 := stp_new n1
    exact post2 (.ref C) (some dx) σ _ pi2 st3 (rm2.new n1) (((hs.mono st1).mono st2).mono st3) ⟨C, mem, rfl, .inr (.inr ⟨fld, d, fld2, d2, dx, v, u, rfl, rfl, upd_same, rm2.fresh n1, whole, Rep.mono st3 _ _ rep1, Rep.mono st3 _ _ rep2⟩)⟩
  · rw [if_neg whole] at post2
    exact post2.elim
end
end Mi
namespace Mi
open PySem PySem.Spec L2

/-! ### isinstance(e, c), e the exception that the clause holds: with a field or without -/
def rIsD (K : PySem.W.Frag) (D a : Addr) (d : Option Addr) : List V → Hp → VK → Prop := fun xs H Q => (d = none ∨ ∃ dd fs, d = some dd ∧ H dd = some (.xd fs)) ∧ ∃ (c : V) (cv : Value) (b : Bool), xs = [.ref a, c] ∧ (∀ u, RelV c u → u = cv) ∧ PySem.W.kitOne K (.ref D) cv = some b ∧ Q (.bl b) H
theorem call_isD {X : Cx} {a D : Addr} {oe : Obj} {d : Option Addr} {pn : List (Addr × Obj)} (C : ExcC X.K D) (hz : Zc (.ref D) d oe) (hf : ∃ vs, oe.data = .fields vs) : CallR (X.suite a ((a, oe) :: pn)) (.builtin "isinstance") (rIsD X.K D a d) := by
  rintro pins s σ H xs us Q inv rel ⟨dict, c, cv, b, rfl, is, ans, won⟩
  cases rel with
  | cons r1 rr =>
    cases rr with
    | cons r2 rr =>
      cases rr
      cases r1
      have same := is _ r2
      subst same
      have ⟨ata, _⟩ := inv.pin (a, oe) (List.mem_append.mpr (.inl List.mem_cons_self))
      have ⟨vs, sh⟩ := hf
      have hcl : (PySem.W.clsIn X.K D).isSome = true := by
        obtain ⟨cd, hcd, _⟩ := PySem.W.any_some C.hd
        rw [hcd]
        rfl
      have notC : PySem.W.notCls oe := by
        unfold PySem.W.notCls
        rw [sh]
      have goes : ∀ od, PySem.W.InstAt s.heap a oe D od → wpAny (model (X.suite a ((a, oe) :: pn)).prog (X.suite a ((a, oe) :: pn)).w) (X.suite a ((a, oe) :: pn)).A (call (.builtin "isinstance") [.ref a, _]) (EP (X.suite a ((a, oe) :: pn)) pins σ Q) (X.suite a ((a, oe) :: pn)).xe s := fun od J =>
        PySem.W.kia_one (PySem.W.kitx_exc (od := od) hcl C.hg C.hk C.hs C.ha C.hn C.ht C.hm) inv.kIn J ans (fun z => nomatch z) fun tk => ⟨.bl b, H, inv.kept (t' := tk) fun _ _ z => z, rfl, won⟩
      rcases dict with rfl | ⟨dd, fs, rfl, atd⟩
      · exact goes none ⟨ata, hz.1, notC, by rw [hz.2]; trivial⟩
      · have ⟨mA, hns, _⟩ := (show ObjOk X.prog X.w H s.heap dd (.xd fs) from inv.hok dd _ atd)
        have ⟨od, ho, _⟩ := lookIn_ns hns
        exact goes (some od) ⟨ata, hz.1, notC, by rw [hz.2]; exact ho⟩
/-! ### what a clause does: y = A if isinstance(n, B) else 'b' -/
section
variable {X : Cx} {n bn y : Str} {i j : Nat} {C B : Addr}
/-- A a text -/
def clTxt (C : Addr) (i j : Nat) (s1 : Str) : Addr → Value → Option Addr → TS := fun a cls d Z σ H => cls = .ref C ∧ d = none ∧ σ[i]? = some (some (.ref a)) ∧ Z.nx (σ.set j (some (.str s1))) H
/-- A the list of a text and the field -/
def clFld (C : Addr) (i j : Nat) (s1 fld : Str) : Addr → Value → Option Addr → TS := fun a cls d Z σ H => cls = .ref C ∧ σ[i]? = some (some (.ref a)) ∧ ∃ dd fs v, d = some dd ∧ H dd = some (.xd fs) ∧ fs.lookup fld = some v ∧ ∀ t, H t = none → Z.nx (σ.set j (some (.ref t))) (upd H t (.lst [.str s1, v]))
/-- A the list of a text and two fields -/
def clFl2 (C : Addr) (i j : Nat) (s1 f1 f2 : Str) : Addr → Value → Option Addr → TS := fun a cls d Z σ H => cls = .ref C ∧ σ[i]? = some (some (.ref a)) ∧ ∃ dd fs v u, d = some dd ∧ H dd = some (.xd fs) ∧ fs.lookup f1 = some v ∧ fs.lookup f2 = some u ∧ ∀ t, H t = none → Z.nx (σ.set j (some (.ref t))) (upd H t (.lst [.str s1, v, u]))
theorem cl_txt {s1 s2 : Str} {p1 p2 p3 p4 p5 p6 p7 p8 p9 : Pos} {j1 j2 : Nat} (hN : X.N.Nodup) (hi : X.N[i]? = some n) (hj : X.N[j]? = some y) (isl : X.env.kindOf y = some .local) (globB : Gl X bn) (memB : X.mg bn = some (.ref B)) (dbgB : (bn == ("__debug__" : Str)) = false) (globI : Gl X "isinstance") (memI : X.mg "isinstance" = none) (see : Vis X.env.scope n) (dbgN : (n == ("__debug__" : Str)) = false) (clN : (n == ("__classdict__" : Str)) = false)
    (T : ExcC X.K C) (kit : PySem.W.kitOne X.K (.ref C) (.ref B) = some true) (one : starEach [.Name n p2, .Name bn p3] X.env = (false, eval (.Name n p2) X.env) :: starEach [.Name bn p3] X.env) (two : starEach [.Name bn p3] X.env = (false, eval (.Name bn p3) X.env) :: starEach [] X.env) (plain : (backTo p4 (starEach [.Name bn p3] X.env)).any (·.1) = false)
    (sw : ∀ a pn, swapsWith (.IfExp (.Call (.Name "isinstance" p1) [.Name n p2, .Name bn p3] [] p4) (.Constant (.str s1) j1 p5) (.Constant (.str s2) j2 p6) p7) (some (.Name y p8)) p9.line (X.suite a pn).env = pure false) (a : Addr) (o : Obj) (cls : Value) (d : Option Addr) (pn : List (Addr × Obj)) (hz : Zc cls d o) (hf : ∃ vs, o.data = .fields vs) :
    PSs (X.suite a ((a, o) :: pn)) [.Assign [.Name y p8] (.IfExp (.Call (.Name "isinstance" p1) [.Name n p2, .Name bn p3] [] p4) (.Constant (.str s1) j1 p5) (.Constant (.str s2) j2 p6) p7) p9] (clTxt C i j s1 a cls d) := by
  by_cases here : cls = .ref C ∧ d = none
  · obtain ⟨rfl, rfl⟩ := here
    have ask : PE (X.suite a ((a, o) :: pn)) (.Call (.Name "isinstance" p1) [.Name n p2, .Name bn p3] [] p4) _ := pe_callB (call_isD T hz hf) globI memI (by decide +kernel) (pa_cons (pe_var (i := i) hi see dbgN clN) (pa_cons (pe_glob (v := .ref B) globB memB rfl dbgB) pa_nil two) one) (by decide) (by decide) one plain
    refine weakSs (pss_one (ps_set (i := j) hN hj (.inl isl) (pe_ifExp (pt_val ask) pe_str pe_str) (sw a _) (.inr isl))) fun σ H Z h => ?_
    obtain ⟨_, _, slot, won⟩ := h
    exact ⟨.ref a, slot, .inl rfl, .ref B, .ref B, true, rfl, fun u hu => hu, kit, true, rfl, iteT won⟩
  · exact weakSs pss_never fun σ H Z h => here ⟨h.1, h.2.1⟩
theorem cl_fld {s1 s2 fld : Str} {p1 p2 p3 p4 p5 p6 p7 p8 p9 pa pb pc : Pos} {j1 j2 : Nat} (hN : X.N.Nodup) (hi : X.N[i]? = some n) (hj : X.N[j]? = some y) (isl : X.env.kindOf y = some .local) (globB : Gl X bn) (memB : X.mg bn = some (.ref B)) (dbgB : (bn == ("__debug__" : Str)) = false) (globI : Gl X "isinstance") (memI : X.mg "isinstance" = none) (see : Vis X.env.scope n) (dbgN : (n == ("__debug__" : Str)) = false) (clN : (n == ("__classdict__" : Str)) = false)
    (T : ExcC X.K C) (T2 : XfC X.K C) (noF : PySem.W.findIn X.K (.ref C) fld = some none) (kit : PySem.W.kitOne X.K (.ref C) (.ref B) = some true) (one : starEach [.Name n p2, .Name bn p3] X.env = (false, eval (.Name n p2) X.env) :: starEach [.Name bn p3] X.env) (two : starEach [.Name bn p3] X.env = (false, eval (.Name bn p3) X.env) :: starEach [] X.env) (plain : (backTo p4 (starEach [.Name bn p3] X.env)).any (·.1) = false)
    (l1 : starEach [.Constant (.str s1) j1 p5, .Attribute (.Name n pa) fld pb] X.env = (false, eval (.Constant (.str s1) j1 p5) X.env) :: starEach [.Attribute (.Name n pa) fld pb] X.env) (l2 : starEach [.Attribute (.Name n pa) fld pb] X.env = (false, eval (.Attribute (.Name n pa) fld pb) X.env) :: starEach [] X.env) (ab : attributeBase (.Name n pa) fld X.env (eval (.Name n pa) X.env) = eval (.Name n pa) X.env)
    (sw : ∀ a pn, swapsWith (.IfExp (.Call (.Name "isinstance" p1) [.Name n p2, .Name bn p3] [] p4) (.List [.Constant (.str s1) j1 p5, .Attribute (.Name n pa) fld pb] pc) (.Constant (.str s2) j2 p6) p7) (some (.Name y p8)) p9.line (X.suite a pn).env = pure false) (a : Addr) (o : Obj) (cls : Value) (d : Option Addr) (pn : List (Addr × Obj)) (hz : Zc cls d o) (hf : ∃ vs, o.data = .fields vs) :
    PSs (X.suite a ((a, o) :: pn)) [.Assign [.Name y p8] (.IfExp (.Call (.Name "isinstance" p1) [.Name n p2, .Name bn p3] [] p4) (.List [.Constant (.str s1) j1 p5, .Attribute (.Name n pa) fld pb] pc) (.Constant (.str s2) j2 p6) p7) p9] (clFld C i j s1 fld a cls d) := by
  by_cases here : cls = .ref C
  · subst here
    have ask : PE (X.suite a ((a, o) :: pn)) (.Call (.Name "isinstance" p1) [.Name n p2, .Name bn p3] [] p4) _ := pe_callB (call_isD T hz hf) globI memI (by decide +kernel) (pa_cons (pe_var (i := i) hi see dbgN clN) (pa_cons (pe_glob (v := .ref B) globB memB rfl dbgB) pa_nil two) one) (by decide) (by decide) one plain
    have lit : PE (X.suite a ((a, o) :: pn)) (.List [.Constant (.str s1) j1 p5, .Attribute (.Name n pa) fld pb] pc) _ := pe_lst (pa_cons pe_str (pa_cons (pe_xf T2 noF hz hf (pe_var (i := i) hi see dbgN clN) ab) pa_nil l2) l1)
    refine weakSs (pss_one (ps_set (i := j) hN hj (.inl isl) (pe_ifExp (pt_val ask) lit pe_str) (sw a _) (.inr isl))) fun σ H Z h => ?_
    obtain ⟨_, slot, dd, fs, v, isd, atd, fv, won⟩ := h
    exact ⟨.ref a, slot, .inr ⟨dd, fs, isd, atd⟩, .ref B, .ref B, true, rfl, fun u hu => hu, kit, true, rfl, iteT ⟨.ref a, slot, rfl, rfl, dd, fs, v, isd, atd, fv, (by decide : 2 ≤ sizeLine), won⟩⟩
  · exact weakSs pss_never fun σ H Z h => here h.1
theorem cl_fl2 {s1 s2 fld fld2 : Str} {p1 p2 p3 p4 p5 p6 p7 p8 p9 pa pb pc pd pe : Pos} {j1 j2 : Nat} (hN : X.N.Nodup) (hi : X.N[i]? = some n) (hj : X.N[j]? = some y) (isl : X.env.kindOf y = some .local) (globB : Gl X bn) (memB : X.mg bn = some (.ref B)) (dbgB : (bn == ("__debug__" : Str)) = false) (globI : Gl X "isinstance") (memI : X.mg "isinstance" = none) (see : Vis X.env.scope n) (dbgN : (n == ("__debug__" : Str)) = false) (clN : (n == ("__classdict__" : Str)) = false)
    (T : ExcC X.K C) (T2 : XfC X.K C) (noF : PySem.W.findIn X.K (.ref C) fld = some none) (noF2 : PySem.W.findIn X.K (.ref C) fld2 = some none) (kit : PySem.W.kitOne X.K (.ref C) (.ref B) = some true) (one : starEach [.Name n p2, .Name bn p3] X.env = (false, eval (.Name n p2) X.env) :: starEach [.Name bn p3] X.env) (two : starEach [.Name bn p3] X.env = (false, eval (.Name bn p3) X.env) :: starEach [] X.env) (plain : (backTo p4 (starEach [.Name bn p3] X.env)).any (·.1) = false)
    (l1 : starEach [.Constant (.str s1) j1 p5, .Attribute (.Name n pa) fld pb, .Attribute (.Name n pd) fld2 pe] X.env = (false, eval (.Constant (.str s1) j1 p5) X.env) :: starEach [.Attribute (.Name n pa) fld pb, .Attribute (.Name n pd) fld2 pe] X.env) (l2 : starEach [.Attribute (.Name n pa) fld pb, .Attribute (.Name n pd) fld2 pe] X.env = (false, eval (.Attribute (.Name n pa) fld pb) X.env) :: starEach [.Attribute (.Name n pd) fld2 pe] X.env) (l3 : starEach [.Attribute (.Name n pd) fld2 pe] X.env = (false, eval (.Attribute (.Name n pd) fld2 pe) X.env) :: starEach [] X.env) (ab : attributeBase (.Name n pa) fld X.env (eval (.Name n pa) X.env) = eval (.Name n pa) X.env) (ab2 : attributeBase (.Name n pd) fld2 X.env (eval (.Name n pd) X.env) = eval (.Name n pd) X.env)
    (sw : ∀ a pn, swapsWith (.IfExp (.Call (.Name "isinstance" p1) [.Name n p2, .Name bn p3] [] p4) (.List [.Constant (.str s1) j1 p5, .Attribute (.Name n pa) fld pb, .Attribute (.Name n pd) fld2 pe] pc) (.Constant (.str s2) j2 p6) p7) (some (.Name y p8)) p9.line (X.suite a pn).env = pure false) (a : Addr) (o : Obj) (cls : Value) (d : Option Addr) (pn : List (Addr × Obj)) (hz : Zc cls d o) (hf : ∃ vs, o.data = .fields vs) :
    PSs (X.suite a ((a, o) :: pn)) [.Assign [.Name y p8] (.IfExp (.Call (.Name "isinstance" p1) [.Name n p2, .Name bn p3] [] p4) (.List [.Constant (.str s1) j1 p5, .Attribute (.Name n pa) fld pb, .Attribute (.Name n pd) fld2 pe] pc) (.Constant (.str s2) j2 p6) p7) p9] (clFl2 C i j s1 fld fld2 a cls d) := by
  by_cases here : cls = .ref C
  · subst here
    have ask : PE (X.suite a ((a, o) :: pn)) (.Call (.Name "isinstance" p1) [.Name n p2, .Name bn p3] [] p4) _ := pe_callB (call_isD T hz hf) globI memI (by decide +kernel) (pa_cons (pe_var (i := i) hi see dbgN clN) (pa_cons (pe_glob (v := .ref B) globB memB rfl dbgB) pa_nil two) one) (by decide) (by decide) one plain
    have lit : PE (X.suite a ((a, o) :: pn)) (.List [.Constant (.str s1) j1 p5, .Attribute (.Name n pa) fld pb, .Attribute (.Name n pd) fld2 pe] pc) _ := pe_lst (pa_cons pe_str (pa_cons (pe_xf T2 noF hz hf (pe_var (i := i) hi see dbgN clN) ab) (pa_cons (pe_xf T2 noF2 hz hf (pe_var (i := i) hi see dbgN clN) ab2) pa_nil l3) l2) l1)
    refine weakSs (pss_one (ps_set (i := j) hN hj (.inl isl) (pe_ifExp (pt_val ask) lit pe_str) (sw a _) (.inr isl))) fun σ H Z h => ?_
    obtain ⟨_, slot, dd, fs, v, w, isd, atd, fv, fw, won⟩ := h
    exact ⟨.ref a, slot, .inr ⟨dd, fs, isd, atd⟩, .ref B, .ref B, true, rfl, fun u hu => hu, kit, true, rfl, iteT ⟨.ref a, slot, rfl, rfl, dd, fs, v, isd, atd, fv, .ref a, slot, rfl, rfl, dd, fs, w, isd, atd, fw, (by decide : 3 ≤ sizeLine), won⟩⟩
  · exact weakSs pss_never fun σ H Z h => here h.1
end
end Mi
namespace Mi
open PySem PySem.Spec L2

/-! ### try with clauses, over the store -/
inductive Cw where
  | txt (s : Str)
  | fld (s f : Str)
  | fl2 (s f g : Str)
def Cw.get (x : Xn) : Cw → Option D
  | .txt s => if x.fs.isEmpty = true then some (.str s) else none
  | .fld s f => match x.fs with
    | [(g, d)] => if g = f then some (.lst [.str s, d]) else none
    | _ => none
  | .fl2 s f f2 => match x.fs with
    | [(g, d), (g2, d2)] => if g = f ∧ g2 = f2 ∧ g2 ≠ g then some (.lst [.str s, d, d2]) else none
    | _ => none
def Cw.ts (C : Addr) (i j : Nat) : Cw → Addr → Value → Option Addr → TS
  | .txt s => clTxt C i j s
  | .fld s f => clFld C i j s f
  | .fl2 s f g => clFl2 C i j s f g
def pickC (x : Xn) : List (Str × Cw) → Option D
  | [] => none
  | q :: r => if x.cls = q.1 then q.2.get x else pickC x r
def mTryM (cl : List (Str × Cw)) (i j : Nat) (body : MS) : MS := fun rho m => match body rho m with
  | .er x rho m => match pickC x cl with
    | some d => if i < rho.length then .nx ((rho.set j (some d)).set i none) m else .bad
    | none => .bad
  | r => r
theorem pick_mem {x : Xn} {d : D} : ∀ {cl : List (Str × Cw)}, pickC x cl = some d → x.cls ∈ cl.map (·.1)
  | [], h => by cases h
  | q :: r, h => by
    unfold pickC at h
    by_cases e : x.cls = q.1
    · rw [e]
      exact List.mem_cons_self
    · rw [if_neg e] at h
      exact List.mem_cons_of_mem _ (pick_mem h)
inductive Along (K : PySem.W.Frag) (mg : Str → Option Value) (i j : Nat) : List (Str × Cw) → List Cl → Prop
  | nil : Along K mg i j [] []
  | cons {c : Str} {w : Cw} {C : Addr} {cl : List (Str × Cw)} {l : List Cl} (mem : mg c = some (.ref C)) (more : Along K mg i j cl l) : Along K mg i j ((c, w) :: cl) ((.ref C, w.ts C i j) :: l)
theorem wish_of {K : PySem.W.Frag} {mg : Str → Option Value} {W : WX} {Z : Ends} {i j : Nat} {x : Xn} {Cx : Addr} {dx : Option Addr} {σ : L2.St} {H : Hp} {pi : List Addr} {rho : List (Option D)} {m : List O} {d : D} (hij : i ≠ j) (low : i < rho.length) (memx : mg x.cls = some (.ref Cx))
    (rm : RepM K mg H pi m) (rs : RepS K mg H pi rho σ) (rx : RepX K mg H pi x (.ref Cx) dx) (won : PostS K mg W Z H pi (.nx ((rho.set j (some d)).set i none) m)) : ∀ {cl : List (Str × Cw)} {l : List Cl}, Along K mg i j cl l →
    (∀ c ∈ cl.map (·.1), ∀ C, mg c = some (.ref C) → PySem.W.exmOne K (.ref Cx) (.ref C) = some (decide (x.cls = c))) → pickC x cl = some d → wAsM K i W Z l (.ref Cx) dx σ H
  | _, _, Along.nil, _, no => by cases no
  | _, _, .cons (c := c) (w := w) (C := C) mem more, ex, h => by
    have out : ∀ {τ : L2.St} {v : V} {a : Addr}, (wiped i Z).nx ((σ.set i (some (.ref a))).set j (some v)) = fun G => Z.nx ((σ.set j (some v)).set i none) G := fun {τ v a} => by
      funext G
      show Z.nx (((σ.set i (some (.ref a))).set j (some v)).set i none) G = _
      rw [List.set_comm _ _ hij, List.set_set]
    refine ⟨decide (x.cls = c), ex c (by simp) C mem, fun yes a na => ?_, fun no => ?_⟩
    · have same : x.cls = c := of_decide_eq_true yes
      unfold pickC at h
      rw [if_pos same] at h
      rw [← same, memx] at mem
      cases mem
      have slot : (σ.set i (some (V.ref a)))[i]? = some (some (.ref a)) := List.getElem?_set_self (rs.len ▸ low)
      obtain ⟨C', g1, _, kind⟩ := rx
      cases w with
      | txt s =>
        simp only [Cw.get] at h
        by_cases empty : x.fs.isEmpty = true
        · rw [if_pos empty] at h
          cases h
          have none_ : dx = none := by
            rcases kind with ⟨_, q⟩ | ⟨f, y, b, v, q, _⟩ | ⟨f, y, g, z, b, v, u, q, _⟩
            · exact q
            · rw [q] at empty
              cases empty
            · rw [q] at empty
              cases empty
          refine ⟨rfl, none_, slot, ?_⟩
          rw [out (τ := σ)]
          exact won _ H pi Stp.refl rm ((rs.set j (d := .str s) (v := .str s) (by simp only [Rep])).wipe i)
        · rw [if_neg empty] at h
          cases h
      | fld s f =>
        simp only [Cw.get] at h
        rcases kind with ⟨q, _⟩ | ⟨g, y, b, v, q, isd, atd, out_, whole, rep⟩ | ⟨g, y, g2, z, b, v, u, q, _⟩
        · rw [q] at h
          cases h
        rotate_left
        · rw [q] at h
          cases h
        · rw [q] at h
          simp only at h
          by_cases named : g = f
          · rw [if_pos named] at h
            cases h
            refine ⟨rfl, slot, b, [(g, v)], v, isd, atd, by rw [named]; simp [List.lookup], fun t nt => ?_⟩
            rw [out (τ := σ)]
            have st : Stp H pi (upd H t (.lst [.str s, v])) pi := stp_new nt
            refine won _ _ pi st (rm.new nt) (((rs.mono st).set j (d := .lst [.str s, y]) (v := .ref t) ?_).wipe i)
            simp only [Rep]
            exact ⟨t, [.str s, v], rfl, rm.fresh nt, upd_same, reps_cons (by simp only [Rep]) (reps_cons (Rep.mono st _ _ rep) reps_nil)⟩
          · rw [if_neg named] at h
            cases h
      | fl2 s f f2 =>
        simp only [Cw.get] at h
        rcases kind with ⟨q, _⟩ | ⟨g, y, b, v, q, _⟩ | ⟨g, y, g2, z, b, v, u, q, isd, atd, out_, whole, rep, rep2⟩
        · rw [q] at h
          cases h
        · rw [q] at h
          cases h
        · rw [q] at h
          simp only at h
          by_cases named : g = f ∧ g2 = f2 ∧ g2 ≠ g
          · rw [if_pos named] at h
            cases h
            obtain ⟨rfl, rfl, ne⟩ := named
            have l1 : List.lookup g [(g2, u), (g, v)] = some v := by
              have : (g == g2) = false := beq_eq_false_iff_ne.mpr fun z => ne z.symm
              simp [List.lookup, this]
            have l2 : List.lookup g2 [(g2, u), (g, v)] = some u := by simp [List.lookup]
            refine ⟨rfl, slot, b, [(g2, u), (g, v)], v, u, isd, atd, l1, l2, fun t nt => ?_⟩
            rw [out (τ := σ)]
            have st : Stp H pi (upd H t (.lst [.str s, v, u])) pi := stp_new nt
            refine won _ _ pi st (rm.new nt) (((rs.mono st).set j (d := .lst [.str s, y, z]) (v := .ref t) ?_).wipe i)
            simp only [Rep]
            exact ⟨t, [.str s, v, u], rfl, rm.fresh nt, upd_same, reps_cons (by simp only [Rep]) (reps_cons (Rep.mono st _ _ rep) (reps_cons (Rep.mono st _ _ rep2) reps_nil))⟩
          · rw [if_neg named] at h
            cases h
    · have other : ¬ x.cls = c := of_decide_eq_false no
      unfold pickC at h
      rw [if_neg other] at h
      exact wish_of hij low memx rm rs rx won more (fun c' hc' => ex c' (List.mem_cons_of_mem _ hc')) h
section
variable {X : Cx} {W : WX} {pos : Pos}
theorem s_tryM {n : Str} {i j : Nat} {body : List Stmt} {b : MS} {h0 : ExceptHandler} {hds : List ExceptHandler} {l : List Cl} {cl : List (Str × Cw)} (hs : X.stack = X.env :: X.outer) (hf : X.env.frame = some X.env.locals) (hN : X.N.Nodup) (hi : X.N[i]? = some n) (isl : X.env.kindOf n = some .local) (hij : i ≠ j) (tk : Takes X W)
    (inner : ∀ (W1 : WX) (pn : List (Addr × Obj)) (xe : Value → Shared → Prop), Takes (X.tr pn xe) W1 → PassesOwn (model X.prog X.w) X.A X.env xe → MSs (X.tr pn xe) W1 body b) (clauses : AsOk X n (h0 :: hds) l) (along : Along X.K X.mg i j cl l)
    (ex : ∀ c ∈ cl.map (·.1), ∀ c' ∈ cl.map (·.1), ∀ C C', X.mg c = some (.ref C) → X.mg c' = some (.ref C') → PySem.W.exmOne X.K (.ref C) (.ref C') = some (decide (c = c'))) :
    MS1 X W (.Try body (h0 :: hds) [] [] pos) (mTryM cl i j b) := by
  refine weakS (ps_tryAs hs hf hN hi isl tk (tb := fun W1 => tS X.K X.mg W1 b) inner clauses) fun σ H Z hh => ?_
  obtain ⟨pi, m, rho, rm, rs, post⟩ := hh
  refine ⟨pi, m, rho, rm, rs, ?_⟩
  have post : PostS X.K X.mg W Z H pi (match b rho m with
    | .er x rho m => (match pickC x cl with
      | some d => if i < rho.length then .nx ((rho.set j (some d)).set i none) m else .bad
      | none => .bad)
    | r => r) := post
  cases hb : b rho m with
  | er x rho1 m1 =>
    simp only [hb] at post
    cases hp : pickC x cl with
    | none =>
      simp only [hp] at post
      exact post.elim
    | some d =>
      simp only [hp] at post
      by_cases low : i < rho1.length
      · rw [if_pos low] at post
        intro c dx τ G pi1 st1 rm1 rs1 rx
        have whole := rx
        obtain ⟨Cx, memx, rfl, _⟩ := whole
        have known : x.cls ∈ cl.map (·.1) := by
          exact pick_mem hp
        exact wish_of hij low memx rm1 rs1 rx (PostS.from st1 post) along (fun c hc C mem => ex x.cls known c hc Cx C memx mem) hp
      · rw [if_neg low] at post
        exact post.elim
  | nx _ _ => rw [hb] at post; exact post
  | rt _ _ => rw [hb] at post; exact post
  | bk _ _ => rw [hb] at post; exact post
  | ct _ _ => rw [hb] at post; exact post
  | bad => rw [hb] at post; exact post
end
end Mi
namespace Mi
open PySem PySem.Spec L2 PyProof.Rows

/-! ### a tuple once: the tuple itself -/
theorem tuple_once (l : Addr) (items : Array Value) (n : Nat) (dd : Option Addr) (sl : Array (Option Value)) (u : Tok) :
    Meets (Builtin.«tuple.__mul__» ⟨[.ref l, .int 1 u], []⟩) (fun _ R s => s.heap.get? l = some { cls := .type "tuple", dict := dd, data := .seq items n, slots := sl } ∧ R (.ok (.ret (Value.ref l))) s) :=
  .of_wp fun prog w A R s both => by
    rcases s with ⟨hp, g, d, tk, os⟩
    rcases both with ⟨at_, won⟩
    have small1 : (decide ((1 : Int) < -(2 ^ 63)) || decide ((1 : Int) ≥ 2 ^ 63)) = false := by decide
    have once : (items.isEmpty || (1 : Int) == 1) = true := by rw [show ((1 : Int) == 1) = true from rfl, Bool.or_true]
    have f1 := AutoSeq1.idx_int
    wp_walk using wpAny_loadPart' at_
    repeat (first
      | (refine wpAny_ite_false (decide_eq_false (by rw [small1]; exact Bool.false_ne_true)) ?_; wp_walk using wpAny_loadPart' at_)
      | (refine wpAny_ite_true (decide_eq_true once) ?_; wp_walk using wpAny_loadPart' at_))
    exact ⟨_, rfl, won⟩
def rOnce (K : PySem.W.Frag) : R2 := fun x y H Q => ∃ l xs, x = .ref l ∧ y = .int 1 ∧ SqT K H l xs ∧ Q (.ref l) H
section
variable {X : Cx}
theorem op_once : OpR X (binaryOp .Mult) (rOnce X.K) := by
  rintro pins s σ H x y v u Q inv relx rely ⟨l, xs, rfl, rfl, seq, won⟩
  cases relx
  obtain ⟨t, rfl⟩ := rely
  obtain ⟨its, rel, ⟨⟨cls, dd, data, sl⟩, ato, hc, n, hd⟩, _⟩ := inv.tuple seq
  dsimp only at hc hd
  cases hc
  cases hd
  have isT : s.TypeIs (.ref l) "tuple" := ⟨_, ato, rfl⟩
  have num := typeIs_int s 1 t
  have last := call_meets (A := X.A) (E := X.xe) F.slot_tuple_mul isT F.entry_tuple_mul (F.args_tuple_mul_2 _ _) (tuple_once l its.toArray n dd sl t) (prog := X.prog) (w := X.w) (Q := EP X pins σ Q) ⟨ato, .ref l, H, inv, rfl, won⟩
  refine wpAny_binaryOp_repeat_ref (T := "tuple") (U := "int") (by decide) isT (fun s2 => typeIs_int s2 1 t) noFill_tuple_mul F.fills_int_mul F.slot_int_rmul repeat_tuple F.slot_int_index.lookup ?_
  apply call_meets F.slot_int_rmul num F.entry_int_rmul (F.args_int_rmul_2 _ _) (int_rmul_tuple 1 t l its.toArray n dd sl)
  exact ⟨ato, rfl, isT, last⟩
def gOnce : G2 := fun _ x y => match x, y with
  | .tup xs, .int k => if k = 1 then some (.tup xs) else none
  | _, _ => none
theorem o_once : OpM X (binaryOp .Mult) gOnce := opm_of op_once fun pi m dx dy d x y H Q hm hx hy e q => by
  unfold gOnce at e
  split at e
  · rename_i xs k
    by_cases h : k = 1
    · rw [if_pos h] at e
      cases e
      have whole := hx
      simp only [Rep] at hx hy
      obtain ⟨l, vs, rfl, seq, _⟩ := hx
      exact ⟨l, vs, rfl, by rw [hy, h], seq, q _ H Stp.refl hm whole⟩
    · rw [if_neg h] at e
      cases e
  · cases e
/-- * of a tuple once or more, of numbers -/
def gMul' : G2 := fun m x y => match x, y with
  | .tup xs, .int k => if k = 1 then some (.tup xs) else gMul m (.tup xs) (.int k)
  | x, y => gMul m x y
theorem o_mul' : OpM X (binaryOp .Mult) gMul' := opm_or o_once o_mul fun m x y d h => by
  unfold gMul' at h
  split at h
  · rename_i xs k
    by_cases h1 : k = 1
    · rw [if_pos h1] at h
      exact .inl ((if_pos h1).trans h)
    · rw [if_neg h1] at h
      exact .inr h
  · exact .inr h
end
end Mi
namespace Mi
open PySem PySem.Spec L2 PyProof.Rows

/-! ### a tuple from its end: t[::-1] -/
theorem places_rev (n : Nat) : Builtin.Slice.slicePlaces ((n : Int) - 1) (-1) (-1) = n := by
  rw [Builtin.Slice.slicePlaces, if_neg (by decide)]
  by_cases some_ : (n : Int) - 1 > -1
  · rw [if_pos some_, show (-(-1) : Int) = 1 from rfl, Int.ediv_one]
    omega
  · rw [if_neg some_]
    show 0 = n
    omega
theorem fm_congr {α β : Type} {f g : α → Option β} : ∀ l : List α, (∀ a ∈ l, f a = g a) → l.filterMap f = l.filterMap g
  | [], _ => rfl
  | a :: l, h => by rw [List.filterMap_cons, List.filterMap_cons, h a List.mem_cons_self, fm_congr l fun b hb => h b (List.mem_cons_of_mem _ hb)]
theorem pick_rev (xs : Array Value) : ((List.range xs.size).filterMap fun (k : Nat) => xs[((xs.size : Int) - 1 + (k : Int) * -1).toNat]?).toArray = xs.toList.reverse.toArray := by
  have one : ((List.range xs.size).filterMap fun (k : Nat) => xs[((xs.size : Int) - 1 + (k : Int) * -1).toNat]?) = ((List.range xs.size).map fun k => xs.size - 1 - k).filterMap (xs[·]?) := by
    rw [List.filterMap_map]
    refine fm_congr _ fun k here => ?_
    have low := List.mem_range.mp here
    show xs[((xs.size : Int) - 1 + (k : Int) * -1).toNat]? = xs[xs.size - 1 - k]?
    congr 1
    omega
  rw [one, PySem.W.krv_range, List.filterMap_reverse, PySem.W.krv_all]
section
variable {w : World} {prog : Program} {A : Around} {s : Shared} {E : Value → Shared → Prop}
theorem applied_rev {sl : Addr} {vs : Value} {n : Nat} {Q : Int × Int × Nat → Shared → Prop} (isS : s.heap.IsSliceOf sl .none .none vs) (part : IsPart vs (some (-1))) (won : Q ((n : Int) - 1, -1, n) s) : wpAny (model prog w) A (Builtin.Slice.sliceApplied (.ref sl) (pure (n : Int))) Q E s := by
  have ⟨os, at_, _, sh⟩ := isS
  unfold Builtin.Slice.sliceApplied
  unfold Builtin.Slice.sliceFields
  apply wpAny_bind
  apply wpAny_bind
  refine wpAny_field at_ sh (x := .none) rfl (wpAny_bind (wpAny_field at_ sh (x := .none) rfl (wpAny_bind (wpAny_field at_ sh (x := vs) rfl (wpAny_pure ?_)))))
  refine wpAny_bind (HT.slicePart_ part ?_)
  show wpAny _ _ (if ((-1 : Int) == 0) = true then _ else _) _ _ s
  rw [if_neg (by decide)]
  refine wpAny_bind (HT.slicePart_ .none (wpAny_bind (HT.slicePart_ .none (wpAny_bind (wpAny_pure ?_)))))
  show wpAny _ _ (pure ((n : Int) - 1, (-1 : Int), Builtin.Slice.slicePlaces ((n : Int) - 1) (-1) (-1))) _ _ s
  rw [places_rev]
  exact wpAny_pure won
theorem item_rev {t sl : Addr} {items : Array Value} {vs : Value} {Q : Value → Shared → Prop} (isT : IsTup s.heap t items) (isS : s.heap.IsSliceOf sl .none .none vs) (part : IsPart vs (some (-1)))
    (won : Q (.ref s.heap.objs.size) { s with heap := s.heap.push { cls := .type "tuple", data := .seq items.toList.reverse.toArray } }) (fits : items.size ≤ sizeLine) : wpAny (model prog w) A (getItem (.ref t) (.ref sl)) Q E s := by
  have room : sizeOk (.seq items.toList.reverse.toArray) := by
    show items.toList.reverse.toArray.size ≤ sizeLine
    rw [List.size_toArray, List.length_reverse, Array.length_toList]
    exact fits
  have ⟨os, at_, cls, _⟩ := isS
  unfold getItem
  try with_reducible apply wpAny_holding
  first
    | apply wpAny_bind (wpAny_pure _)
    | skip
  refine wpAny_bind (wpAny_sequenceKey isT.typeIs (by decide) (wpAny_bind (wpAny_callSpecial?_slot (name := Str.ofString "__getitem__") isT.typeIs PyProof.Rows.slot_tuple_getitem (wpAny_call_entry PyProof.Rows.slot_tuple_getitem isT.typeIs entry_tuple_getitem ?_ (args_tuple_getitem _ _)))))
  change wpAny _ _ (Builtin.Tuple.tupleItemsOf (.ref t) >>= _) _ _ s
  refine wpAny_bind (tupleItemsOf_ isT (wpAny_bind (wpAny_typeOf ⟨os, at_, cls⟩ ?_)))
  rw [if_pos (by decide)]
  refine wpAny_bind (applied_rev isS part ?_)
  have part1 : ¬ ((((items.size : Int) - 1) == 0 && (-1 : Int) == 1 && items.size == items.size) = true) := by
    rw [show ((-1 : Int) == 1) = false from rfl, Bool.and_false, Bool.false_and]
    exact Bool.false_ne_true
  show wpAny _ _ (if (((items.size : Int) - 1) == 0 && (-1 : Int) == 1 && items.size == items.size) = true then _ else _) _ _ s
  rw [if_neg part1, pick_rev]
  have made := wpAny_pure (M := model prog w) (A := A) (E := E) won
  first
    | exact wpAny_bind (m := Builtin.Tuple.tupleExact _) (wpAny_newObj_type (wpAny_pure ⟨_, rfl, made⟩) room)
    | exact wpAny_bind (m := Builtin.Tuple.tupleExact _) (wpAny_newObj_type (wpAny_bind (wpAny_pure (wpAny_pure ⟨_, rfl, made⟩))) room)
    | exact wpAny_bind (wpAny_bind (m := Builtin.Tuple.tupleExact _) (wpAny_newObj_type (wpAny_pure (wpAny_pure ⟨_, rfl, made⟩)) room))
    | exact wpAny_bind (wpAny_bind (m := Builtin.Tuple.tupleExact _) (wpAny_newObj_type (wpAny_pure ⟨_, rfl, made⟩) room))
end
def tRevT (K : PySem.W.Frag) (te : TE) : TE := fun σ H Q => te σ H fun x H1 => ∃ a xs, x = .ref a ∧ SqT K H1 a xs ∧ ∀ q, H1 q = none → Q (.ref q) (upd H1 q (.tup xs.reverse))
theorem Reps.reverse {K : PySem.W.Frag} {mg : Str → Option Value} {H : Hp} {pi : List Addr} : ∀ {ds : List D} {vs : List V}, Reps K mg H pi ds vs → Reps K mg H pi ds.reverse vs.reverse
  | [], vs, h => by
    simp only [Reps] at h
    subst h
    exact reps_nil
  | d :: ds, vs, h => by
    simp only [Reps] at h
    obtain ⟨v, r, rfl, here, more⟩ := h
    simp only [List.reverse_cons]
    exact (Reps.reverse more).append (reps_cons here reps_nil)
section
variable {X : Cx} {W : WX} {e : Expr} {pos : Pos}
theorem pe_revT {te : TE} {k : Nat} {p1 p2 p3 : Pos} (he : PE X e te) : PE X (.Subscript e (.Slice none none (some (.UnaryOp .USub (.Constant (.int 1) k p1) p2)) p3) pos) (tRevT X.K te) := by
  constructor
  intro pins s σ H Q inv h
  refine Subscript_ (thn (he.run pins s σ H _ inv h) fun v s1 ⟨x, H1, inv1, relx, a, xs, isr, seq, won⟩ => ?_)
  subst isr
  cases relx
  have minus : PO X (some (.UnaryOp .USub (.Constant (.int 1) k p1) p2)) (tPart (tUn (rU fun i => .int (-i)) (tC (.int 1)))) := po_some (pe_un un_neg pe_int)
  refine wpAny_Slice (thn (po_none.run pins s1 σ H1 (fun o G => o = none ∧ G = H1) inv1 ⟨rfl, rfl⟩) fun vl s2 ⟨lo, G2, inv2, pl, el, e2⟩ => thn (po_none.run pins s2 σ G2 (fun o G => o = none ∧ G = G2) inv2 ⟨rfl, rfl⟩) fun vu s3 ⟨hi, G3, inv3, pu, eu, e3⟩ =>
    thn (minus.run pins s3 σ G3 (fun o G => o = some (-1) ∧ G = G3) inv3 ⟨1, rfl, -1, rfl, rfl, rfl⟩) fun vs s4 ⟨st, G4, inv4, ps, es, e4⟩ => ?_)
  cases el
  cases eu
  cases es
  cases e4
  cases e3
  cases e2
  cases pl
  cases pu
  have inv5 : L2.Inv X pins σ _ { s4 with heap := s4.heap.push { cls := .type "slice", data := .fields #[.none, .none, vs] } } := inv4.kept (t' := s4.toks) fun _ _ q => Heap.get?_push_of_some _ q
  have ⟨its, rel, isT, fits⟩ := inv5.tuple seq
  have many := rel.length
  refine tail_any (ops := [.ref a, .ref s4.heap.objs.size]) isT.typeIs PyProof.Rows.slot_tuple_getitem.lookup ?_ (by with_unfolding_all rfl)
  refine item_rev isT (Heap.IsSliceOf.new _ .none .none vs) ps ⟨.ref _, _, inv5.laid (t' := s4.toks) (o := .tup xs.reverse) (fun _ _ q => Heap.get?_push_of_some _ q) (Nat.le_refl _) ⟨by rw [List.length_reverse]; exact fits, _, rel.reverse, IsTup.new _ _⟩, rfl, won _ (inv5.hok.fresh (Nat.le_refl _))⟩ (by rw [List.size_toArray]; omega)
def mRev (f : ME) : ME := fun rho m => (f rho m).bind fun p => onO (tupOf p.1) fun ds => .ok (.tup ds.reverse, p.2)
theorem m_rev {f : ME} {k : Nat} {p1 p2 p3 : Pos} (he : ME1 X W e f) : ME1 X W (.Subscript e (.Slice none none (some (.UnaryOp .USub (.Constant (.int 1) k p1) p2)) p3) pos) (mRev f) := by
  refine weak (pe_revT he) fun σ H Q hh => ?_
  obtain ⟨pi, m, rho, rm, hs, post⟩ := hh
  refine ⟨pi, m, rho, rm, hs, (PostV.bind post).mono fun x H1 h1 => ?_⟩
  obtain ⟨pi1, m1, d, st1, rm1, rep, p1⟩ := h1
  cases hd : tupOf d with
  | none =>
    simp only [hd] at p1
    exact p1.elim
  | some ds =>
    simp only [hd, onO_some] at p1
    obtain ⟨a, vs, rfl, seq, reps⟩ := rep_tup rep hd
    refine ⟨a, vs, rfl, seq, fun q nq => ?_⟩
    have st : Stp H1 pi1 (upd H1 q (.tup vs.reverse)) pi1 := stp_new nq
    exact p1 _ _ pi1 st (rm1.new nq) (by simp only [Rep]; exact ⟨q, _, rfl, SqT.of upd_same, (Reps.mono st _ _ reps).reverse⟩)
end
end Mi
namespace Mi
open PySem PySem.Spec L2

/-! ### a, b, .. = a list -/
def listAt (m : List O) (d : D) : Option (List D) := match d with
  | .lst ds => some ds
  | .loc l => (match m[l]? with
    | some (.lst ds) => some ds
    | _ => none)
  | _ => none
theorem list_at {K : PySem.W.Frag} {mg : Str → Option Value} {H : Hp} {pi : List Addr} {m : List O} {d : D} {v : V} {ds : List D} (rm : RepM K mg H pi m) (rep : Rep K mg H pi d v) (h : listAt m d = some ds) : ∃ a vs, v = .ref a ∧ SqL K H a vs ∧ Reps K mg H pi ds vs := by
  cases d with
  | lst es =>
    cases h
    simp only [Rep] at rep
    obtain ⟨a, vs, rfl, _, at_, reps⟩ := rep
    exact ⟨a, vs, rfl, .inl (.inl at_), reps⟩
  | loc l =>
    have q : ∃ es, m[l]? = some (.lst es) ∧ es = ds := by
      change (match m[l]? with
        | some (.lst es) => some es
        | _ => none) = some ds at h
      split at h
      · rename_i es e
        cases h
        exact ⟨_, e, rfl⟩
      · cases h
    obtain ⟨es, at_, rfl⟩ := q
    simp only [Rep] at rep
    obtain ⟨a, rfl, here⟩ := rep
    have ⟨vs, e, reps⟩ := rm.at_ l a _ here at_
    exact ⟨a, vs, rfl, .inl (.inl e), reps⟩
  | _ => cases h
def mUnL (n : Nat) (gs : MGs) (f : ME) : MS := fun rho m => onR (f rho m) rho fun d m => match listAt m d with
  | some ds => if ds.length = n then (match gs ds rho with
    | some rho => .nx rho m
    | none => .bad) else .bad
  | none => .bad
section
variable {X : Cx} {W : WX} {e : Expr} {pos : Pos}
theorem s_unL {es : List Expr} {k n : Nat} {p : Pos} {gs : MGs} {f : ME} (calm : X.calm = true) (he : ME1 X W e f) (hg : MG1s X es gs) (many : (assignEach es X.env).length = n := by rfl) (plain : (assignEach es X.env).findIdx? (·.1) = none := by rfl) (sole : swapsWithSole [.Tuple es k p] e pos.line X.env = pure false := by rfl) (stores : swappedStores [.Tuple es k p] e X.env = pure none := by rfl) (one : (assignEach [.Tuple es k p] X.env).map (·.2) = [assign (.Tuple es k p) X.env] := by rfl) :
    MS1 X W (.Assign [.Tuple es k p] e pos) (mUnL n gs f) := by
  refine weakS (ps_asg he (pg_lst calm hg many plain) sole stores one) fun σ H Z hh => ?_
  obtain ⟨pi, m, rho, rm, hs, post⟩ := hh
  refine ⟨pi, m, rho, rm, hs, (post_onV hs post).mono fun v H1 h1 => ?_⟩
  obtain ⟨pi1, m1, d, st1, rm1, rep, p1⟩ := h1
  cases hd : listAt m1 d with
  | none =>
    simp only [hd] at p1
    exact p1.elim
  | some ds =>
    simp only [hd] at p1
    by_cases long : ds.length = n
    · rw [if_pos long] at p1
      cases hq : gs ds rho with
      | none =>
        rw [hq] at p1
        exact p1.elim
      | some rho' =>
        rw [hq] at p1
        obtain ⟨a, vs, rfl, seq, reps⟩ := list_at rm1 rep hd
        exact ⟨a, vs, rfl, seq, reps.length ▸ long, pi1, m1, rho, ds, rho', rm1, hs.mono st1, reps, hq, fun τ rs => p1 τ H1 pi1 Stp.refl rm1 rs⟩
    · rw [if_neg long] at p1
      exact p1.elim
end
end Mi
namespace Mi
open PySem PySem.Spec L2

/-! ### a comprehension over pairs -/
def lcP (L i j : Nat) (ft : MT) (fe : ME) (rho : List (Option D)) : List D → List O → Option (List O)
  | [], m => some m
  | .tup [d1, d2] :: ds, m => match ft ((rho.set i (some d1)).set j (some d2)) m with
    | .ok p => if p.1 = true then (match fe ((rho.set i (some d1)).set j (some d2)) p.2 with
      | .ok q => (match q.2[L]? with
        | some (.lst acc) => if acc.length < small ∧ q.1.fz = true then lcP L i j ft fe rho ds (q.2.set L (.lst (acc ++ [q.1]))) else none
        | _ => none)
      | _ => none) else lcP L i j ft fe rho ds p.2
    | _ => none
  | _ :: _, m => none
def mLcP (i j : Nat) (fi : MA) (ft : MT) (fe : ME) : ME := fun rho m => (fi rho m).bind fun p => match lcP p.2.length i j ft fe rho p.1 (p.2 ++ [.lst []]) with
  | some m' => .ok (.loc p.2.length, m')
  | none => .bad
theorem wipe2_set {σ : L2.St} {i j : Nat} {x y : V} (h : i ≠ j) : ((wipe σ [i, j]).set i (some x)).set j (some y) = (σ.set i (some x)).set j (some y) := by
  apply List.ext_getElem?
  intro k
  simp only [wipe, List.getElem?_set, List.length_set]
  by_cases atj : j = k <;> by_cases ati : i = k <;> simp [atj, ati]
theorem wipe2_again {σ : L2.St} {i j : Nat} {x y : V} (h : i ≠ j) : wipe ((σ.set i (some x)).set j (some y)) [i, j] = wipe σ [i, j] := by
  apply List.ext_getElem?
  intro k
  simp only [wipe, List.getElem?_set, List.length_set]
  by_cases atj : j = k <;> by_cases ati : i = k <;> simp [atj, ati]
theorem lcP_pair {L i j : Nat} {ft : MT} {fe : ME} {rho : List (Option D)} {d : D} {ds : List D} {m m' : List O} (h : lcP L i j ft fe rho (d :: ds) m = some m') : ∃ d1 d2, d = .tup [d1, d2] := by
  cases d with
  | tup es =>
    match es, h with
    | [d1, d2], _ => exact ⟨d1, d2, rfl⟩
    | [], h => simp only [lcP] at h; cases h
    | [_], h => simp only [lcP] at h; cases h
    | _ :: _ :: _ :: _, h => simp only [lcP] at h; cases h
  | _ => simp only [lcP] at h; cases h
theorem lcP_read {K : PySem.W.Frag} {mg : Str → Option Value} {W : WX} {i j : Nat} {fi : MA} {ft : MT} {fe : ME} {σ : L2.St} {H : Hp} {Q : VK} (hij : i ≠ j) (h : tE K mg W (mLcP i j fi ft fe) σ H Q) : tLc (tI K mg W fi) (gTup K 2 (gCons (gName i) (gCons (gName j) gNil))) (tT K mg W0 ft) (tE K mg W0 fe) [i, j] σ H Q := by
  obtain ⟨pi, m, rho, hm, hs, p⟩ := h
  have p : PostV K mg (fun c d H' => W c d σ H') H pi Q ((fi rho m).bind fun p => match lcP p.2.length i j ft fe rho p.1 (p.2 ++ [.lst []]) with
    | some m' => .ok (.loc p.2.length, m')
    | none => .bad) := p
  refine ⟨pi, m, rho, hm, hs, ?_⟩
  cases hf : fi rho m with
  | er x m1 =>
    rw [hf] at p
    exact p
  | bad =>
    rw [hf] at p
    exact p.elim
  | ok q =>
    obtain ⟨ds, m1⟩ := q
    rw [hf, R.bind_ok] at p
    intro J H1 pi1 st1 rm1 wk
    simp only at p
    obtain ⟨G, Y, wk, hG, hY⟩ := wk.ex
    intro Da nD
    obtain ⟨stA, rmA⟩ := rm1.alloc (o := .lst []) (u := .lst []) nD (by rfl) ⟨[], upd_same, reps_nil⟩
    have hL : (pi1 ++ [Da])[m1.length]? = some Da := by
      rw [← rm1.len]
      exact last_get _ _
    cases hl : lcP m1.length i j ft fe rho ds (m1 ++ [.lst []]) with
    | none =>
      rw [hl] at p
      exact p.elim
    | some mE =>
      rw [hl] at p
      refine lc_it wk (fun k H2 => ∃ pi2 m2, Stp (upd H1 Da (.lst [])) (pi1 ++ [Da]) H2 pi2 ∧ RepM K mg H2 pi2 m2 ∧ lcP m1.length i j ft fe rho (ds.drop k) m2 = some mE)
        ⟨pi1 ++ [Da], m1 ++ [.lst []], Stp.refl, rmA, by rw [List.drop_zero]; exact hl⟩ (fun k H2 hk ⟨pi2, m2, s2, r2, _⟩ => hG H2 pi2 m2 (stA.trans s2) r2) (fun k x H2 H3 hk ⟨pi2, m2, s2, r2, e2⟩ hy => ?_) (fun H2 ⟨pi2, m2, s2, r2, e2⟩ => ?_)
      · obtain ⟨d, hd, st3, rm3, rx⟩ := hY k H2 pi2 m2 x H3 (stA.trans s2) r2 hy
        have hdr : ds.drop k = d :: ds.drop (k + 1) := by
          obtain ⟨hl, e⟩ := List.getElem?_eq_some_iff.mp hd
          rw [(List.drop_eq_getElem_cons hl :), e]
        rw [hdr] at e2
        obtain ⟨d1, d2, rfl⟩ := lcP_pair e2
        simp only [lcP] at e2
        simp only [Rep] at rx
        obtain ⟨ax, vx, rfl, sqx, repx⟩ := rx
        obtain ⟨x1, x2, rfl, rx1, rx2⟩ := reps_two repx
        have hsW : RepS K mg H3 pi2 ((rho.set i (some d1)).set j (some d2)) ((σ.set i (some x1)).set j (some x2)) := ((((hs.mono st1).mono (stA.trans s2)).mono st3).set i rx1).set j rx2
        refine ⟨ax, [x1, x2], rfl, sqx, rfl, x1, [x2], rfl, x2, [], rfl, rfl, ?_⟩
        have hw : ((wipe σ [i, j]).set i (some x1)).set j (some x2) = (σ.set i (some x1)).set j (some x2) := wipe2_set hij
        rw [hw]
        refine ⟨wipe2_again hij, pi2, m2, (rho.set i (some d1)).set j (some d2), rm3, hsW, ?_⟩
        cases ht : ft ((rho.set i (some d1)).set j (some d2)) m2 with
        | er y m3 =>
          rw [ht] at e2
          cases e2
        | bad =>
          rw [ht] at e2
          cases e2
        | ok q =>
          obtain ⟨b, m3⟩ := q
          rw [ht] at e2
          simp only at e2
          intro H4 pi4 st4 rm4
          cases b with
          | false =>
            rw [if_neg Bool.false_ne_true] at e2 ⊢
            exact ⟨pi4, m3, (s2.trans st3).trans st4, rm4, e2⟩
          | true =>
            rw [if_pos rfl] at e2 ⊢
            refine ⟨pi4, m3, (rho.set i (some d1)).set j (some d2), rm4, hsW.mono st4, ?_⟩
            cases he : fe ((rho.set i (some d1)).set j (some d2)) m3 with
            | er y m5 =>
              rw [he] at e2
              cases e2
            | bad =>
              rw [he] at e2
              cases e2
            | ok q =>
              obtain ⟨y, m5⟩ := q
              rw [he] at e2
              simp only at e2
              intro v H5 pi5 st5 rm5 ry
              have hL5 : pi5[m1.length]? = some Da := (((s2.trans st3).trans st4).trans st5).get hL
              cases h6 : m5[m1.length]? with
              | none =>
                rw [h6] at e2
                cases e2
              | some o =>
                cases o with
                | ins c ns es =>
                  rw [h6] at e2
                  cases e2
                | dic ks es =>
                  rw [h6] at e2
                  cases e2
                | nst es =>
                  rw [h6] at e2
                  cases e2
                | ndc ks es =>
                  rw [h6] at e2
                  cases e2
                | nin c ns es =>
                  rw [h6] at e2
                  cases e2
                | dead =>
                  rw [h6] at e2
                  cases e2
                | lst acc =>
                  rw [h6] at e2
                  simp only at e2
                  by_cases hc : acc.length < small ∧ y.fz = true
                  · rw [if_pos hc] at e2
                    obtain ⟨vs, eH, rs⟩ := rm5.at_ _ _ _ hL5 h6
                    have hfa := rm5.fz _ _ h6
                    obtain ⟨st6, rm6⟩ := rm5.write (u := .lst (vs ++ [v])) (o' := .lst (acc ++ [y])) hL5 h6 (fzs_app acc [y] hfa (by simp [fzs, hc.2])) fun st => ⟨_, upd_same, (rs.append (reps_cons ry reps_nil)).mono st⟩
                    exact ⟨vs, eH, sz1 (rs.length ▸ hc.1), pi5, _, (((s2.trans st3).trans st4).trans st5).trans st6, rm6, e2⟩
                  · rw [if_neg hc] at e2
                    cases e2
      · rw [List.drop_length] at e2
        simp only [lcP] at e2
        cases e2
        exact p (.ref Da) H2 pi2 ((st1.trans stA).trans s2) r2 (by simp only [Rep]; exact ⟨Da, rfl, s2.get hL⟩)

section
variable {X : Cx} {W : WX} {pos : Pos}
theorem m_lcP {i j : Nat} {elt tg iter : Expr} {ifs : List Expr} {scope : Scope} {x y : Str} {fi : MA} {ft : MT} {fe : ME} (calm : X.calm = true) (hN : X.N.Nodup) (hij : i ≠ j) (hi : MI1 X W tg iter fi) (ok : BlkOk X.N X.env.scope scope [(x, i), (y, j)])
    (target : ∀ (s : Shared) (H : Hp) (C : Addr) (cl : List (Str × Addr)) (fp : List Addr), PG (X.blk s H scope (compEnvC scope cl C X.env) fp) tg (gTup X.K 2 (gCons (gName i) (gCons (gName j) gNil))))
    (test : ∀ (s : Shared) (H : Hp) (C : Addr) (cl : List (Str × Addr)) (fp : List Addr), PTs (X.blk s H scope (compEnvC scope cl C X.env) fp) ifs (tT X.K X.mg W0 ft))
    (item : ∀ (s : Shared) (H : Hp) (C : Addr) (cl : List (Str × Addr)) (fp : List Addr), ME1 (X.blk s H scope (compEnvC scope cl C X.env) fp) W0 elt fe) (fold : ∀ z, foldedSetIterable iter X.env z = pure z := by intro _; rfl) :
    ME1 X W (.ListComp elt [⟨tg, iter, ifs, 0⟩] scope pos) (mLcP i j fi ft fe) :=
  weak (pe_lc (own := [(x, i), (y, j)]) calm hN hi ok target test item fold) fun σ H Q h => lcP_read hij h
end
end Mi
namespace Mi
open PySem PySem.Spec L2

/-! ### a field of an instance, read -/
section
variable {X : Cx} {W : WX} {e : Expr} {pos : Pos}
theorem m_fldI {c0 f : Str} {C : Addr} {fe : ME} (he : ME1 X W e fe) (c : Cls X.K C) (mem : X.mg c0 = some (.ref C)) (own : NoAttr X.K C f) (base : attributeBase e f X.env (eval e X.env) = eval e X.env := by rfl) : ME1 X W (.Attribute e f pos) (mFldI c0 f fe) := by
  refine weak (pe_fld he base) fun σ H Q hh => ?_
  obtain ⟨pi, m, rho, rm, hs, post⟩ := hh
  refine ⟨pi, m, rho, rm, hs, (PostV.bind post).mono fun v H1 h1 => ?_⟩
  obtain ⟨pi1, m1, d, st1, rm1, rep, p1⟩ := h1
  cases hd : insOf c0 d with
  | none =>
    simp only [hd] at p1
    exact p1.elim
  | some q =>
    simp only [hd, onO_some] at p1
    obtain ⟨a, C1, dx, fv, rfl, _, g1, at1, names, reps⟩ := ins_of rep hd
    rw [mem] at g1
    cases g1
    cases hf : fldAt f q.1 q.2 with
    | none =>
      simp only [hf] at p1
      exact p1.elim
    | some y =>
      simp only [hf, onO_some] at p1
      have ⟨w, look, rep2⟩ := fld_of names reps hf
      exact ⟨a, C, dx, fv, w, rfl, at1, c, own, look, p1.here rm1 rep2⟩
end
end Mi
namespace Mi
open PySem PySem.Spec L2
/-! == by an own __eq__, as a test -/
section
variable {X : Cx} {W : WX} {a b : Expr} {pos : Pos}
theorem t_eqI {k : Nat} {c0 : Str} {C f : Addr} {fd : FuncData} {ps : List Str} {G : GF} {fa fb : ME} (def_ : FnOk X.prog X.w X.K X.mg X.base (L2.CX X.prog X.w) k f fd ps (spM X.K X.mg 2 G)) (slot : PySem.W.findIn X.K (.ref C) "__eq__" = some (some (.ref f))) (isF : PySem.W.isFn X.K (.ref f) = true) (noT : PySem.W.subIn X.K (.type "tuple") (.ref C) = some false)
    (bound : Binds X.K fd ps []) (room : Room k X.A) (mem : X.mg c0 = some (.ref C)) (ha : ME1 X W a fa) (hb : ME1 X W b fb) (mark : behindInMarks .Eq b = false := by first | exact nomark _ (by decide) (by decide) | rfl) : MT1 X W (.Compare a [.Eq] [b] pos) (mTst (mEqI c0 G fa fb)) := by
  refine weakT (pt_cmpR (op_own def_ slot isF noT bound room) ha hb mark) fun σ H Q h => ?_
  obtain ⟨pi, m, rho, rm, hs, p⟩ := h
  have p : PostV X.K X.mg (fun c d H' => W c d σ H') H pi (fun x H' => ∃ k, x = .bl k ∧ Q k H') (mEqI c0 G fa fb rho m) := post_tst p
  refine ⟨pi, m, rho, rm, hs, (PostV.bind p).mono fun x H1 h1 => ?_⟩
  obtain ⟨pi1, m1, dx, st1, rm1, rx, p1⟩ := h1
  refine ⟨pi1, m1, rho, rm1, hs.mono st1, (PostV.bind p1).mono fun y H2 h2 => ?_⟩
  obtain ⟨pi2, m2, dy, st2, rm2, ry, p2⟩ := h2
  have rx2 := Rep.mono st2 _ _ rx
  by_cases ok : eqOk c0 dx dy = true
  · simp only [if_pos ok] at p2
    have run : spM X.K X.mg 2 G [x, y] H2 (fun v H3 => (∃ k, v = .bl k) ∧ ∃ k, v = .bl k ∧ Q k H3) (fun _ _ _ => False) := ⟨rfl, pi2, m2, [dx, dy], rm2, reps_cons rx2 (reps_cons ry reps_nil), bl_only p2⟩
    unfold eqOk at ok
    cases dx with
    | ins c ns ds =>
      have ok := (Bool.and_eq_true _ _).mp ok
      have ok1 := of_decide_eq_true ok.1
      have first := rx2
      simp only [Rep] at first
      obtain ⟨a1, C1, d1, fv1, rfl, _, g1, at1, _⟩ := first
      rw [ok1, mem] at g1
      cases g1
      cases dy with
      | ins c' ns' ds' =>
        have second := ry
        simp only [Rep] at second
        obtain ⟨a2, C2, d2, fv2, rfl, _, g2, at2, _⟩ := second
        have same : c' = c0 := by simpa using ok.2
        rw [same, mem] at g2
        cases g2
        exact ⟨a1, a2, d1, fv1, rfl, rfl, at1, .inl ⟨d2, fv2, at2⟩, run⟩
      | tup es =>
        have second := ry
        simp only [Rep] at second
        obtain ⟨a2, vs, rfl, seq, _⟩ := second
        exact ⟨a1, a2, d1, fv1, rfl, rfl, at1, .inr ⟨vs, seq⟩, run⟩
      | _ => simp at ok
    | _ => simp at ok
  · simp only [if_neg ok] at p2
    exact p2.elim
end
end Mi
namespace Mi
open PySem PySem.Spec L2

/-! ### a comprehension over pairs of a list that stands in the store: what stands there is read anew at each turn -/
def lcPV (L l i j : Nat) (ft : MT) (fe : ME) (rho : List (Option D)) : Nat → Nat → List O → Option (List O)
  | 0, _, _ => none
  | n + 1, k, m => match m[l]? with
    | some (.lst ds) => (match ds[k]? with
      | none => some m
      | some (.tup [d1, d2]) => (match ft ((rho.set i (some d1)).set j (some d2)) m with
        | .ok p => if p.1 = true then (match fe ((rho.set i (some d1)).set j (some d2)) p.2 with
          | .ok q => (match q.2[L]? with
            | some (.lst acc) => if acc.length < small ∧ q.1.fz = true then lcPV L l i j ft fe rho n (k + 1) (q.2.set L (.lst (acc ++ [q.1]))) else none
            | _ => none)
          | _ => none) else lcPV L l i j ft fe rho n (k + 1) p.2
        | _ => none)
      | some _ => none)
    | _ => none
def turns : Nat := 5000
def mLcPV (i j : Nat) (f : ME) (ft : MT) (fe : ME) : ME := fun rho m => (f rho m).bind fun p => match p.1 with
  | .loc l => (match lcPV p.2.length l i j ft fe rho turns 0 (p.2 ++ [.lst []]) with
    | some m' => .ok (.loc p.2.length, m')
    | none => .bad)
  | _ => .bad
theorem at_lst {K : PySem.W.Frag} {mg : Str → Option Value} {H : Hp} {pi : List Addr} {m : List O} {l : Nat} {a : Addr} {ds : List D} (rm : RepM K mg H pi m) (ha : pi[l]? = some a) (hm : m[l]? = some (.lst ds)) : ∃ vs, H a = some (.lst vs) ∧ Reps K mg H pi ds vs := rm.at_ l a _ ha hm
theorem sq_lst {K : PySem.W.Frag} {H : Hp} {a : Addr} {vs : List V} (h : H a = some (.lst vs)) : SqL K H a vs := .inl (.inl h)
theorem lcPV_lst {L l i j n k : Nat} {ft : MT} {fe : ME} {rho : List (Option D)} {m m' : List O} (h : lcPV L l i j ft fe rho n k m = some m') : ∃ ds, m[l]? = some (.lst ds) := by
  cases n with
  | zero => simp only [lcPV] at h; cases h
  | succ n =>
    simp only [lcPV] at h
    split at h
    · rename_i ds e
      exact ⟨ds, e⟩
    · cases h
theorem lcPV_read {K : PySem.W.Frag} {mg : Str → Option Value} {W : WX} {i j : Nat} {f : ME} {ft : MT} {fe : ME} {σ : L2.St} {H : Hp} {Q : VK} (hij : i ≠ j) (h : tE K mg W (mLcPV i j f ft fe) σ H Q) : tLc (iList K (tE K mg W f)) (gTup K 2 (gCons (gName i) (gCons (gName j) gNil))) (tT K mg W0 ft) (tE K mg W0 fe) [i, j] σ H Q := by
  obtain ⟨pi, m, rho, hm, hs, p⟩ := h
  refine ⟨pi, m, rho, hm, hs, (PostV.bind p).mono fun v H1 h1 => ?_⟩
  obtain ⟨pi1, m1, d, st1, rm1, r, p1⟩ := h1
  cases d with
  | loc l =>
    simp only at p1
    simp only [Rep] at r
    obtain ⟨a, rfl, hl1⟩ := r
    cases hl : lcPV m1.length l i j ft fe rho turns 0 (m1 ++ [.lst []]) with
    | none =>
      rw [hl] at p1
      exact p1.elim
    | some mE =>
      rw [hl] at p1
      have hlow : l < m1.length := by
        have := (List.getElem?_eq_some_iff.mp hl1).1
        rw [rm1.len] at this
        exact this
      obtain ⟨ds0, hd0⟩ := lcPV_lst hl
      rw [List.getElem?_append_left hlow] at hd0
      obtain ⟨vs0, hv0, _⟩ := at_lst rm1 hl1 hd0
      refine ⟨a, rfl, ⟨vs0, sq_lst hv0⟩, fun Da nD => ?_⟩
      obtain ⟨stA, rmA⟩ := rm1.alloc (o := .lst []) (u := .lst []) nD (by rfl) ⟨[], upd_same, reps_nil⟩
      have hL : (pi1 ++ [Da])[m1.length]? = some Da := by
        rw [← rm1.len]
        exact last_get _ _
      have hl2 := stA.get hl1
      refine ⟨fun k n H2 => ∃ pi2 m2, Stp (upd H1 Da (.lst [])) (pi1 ++ [Da]) H2 pi2 ∧ RepM K mg H2 pi2 m2 ∧ lcPV m1.length l i j ft fe rho n k m2 = some mE,
        ⟨turns, pi1 ++ [Da], m1 ++ [.lst []], Stp.refl, rmA, hl⟩, fun k n H2 ⟨pi2, m2, s2, r2, e2⟩ => ?_⟩
      cases n with
      | zero => simp only [lcPV] at e2; cases e2
      | succ n =>
        obtain ⟨ds, hds⟩ := lcPV_lst e2
        obtain ⟨vs, hvs, rs⟩ := at_lst r2 (s2.get hl2) hds
        simp only [lcPV, hds] at e2
        cases hk : ds[k]? with
        | none =>
          rw [hk] at e2
          cases e2
          refine .inl ⟨⟨vs, sq_lst hvs, ?_⟩, p1 (.ref Da) H2 pi2 (stA.trans s2) r2 (by simp only [Rep]; exact ⟨Da, rfl, s2.get hL⟩)⟩
          rw [← rs.length]
          exact List.getElem?_eq_none_iff.mp hk
        | some d =>
          rw [hk] at e2
          obtain ⟨x, hx, rx⟩ := rs.get hk
          refine .inr ⟨⟨vs, x, sq_lst hvs, hx⟩, (fun H3 => ∃ pi2 m2, Stp (upd H1 Da (.lst [])) (pi1 ++ [Da]) H3 pi2 ∧ RepM K mg H3 pi2 m2 ∧ lcPV m1.length l i j ft fe rho n (k + 1) m2 = some mE), fun H3 q => ⟨n, Nat.lt_succ_self n, q⟩, fun x' H3 hy => ?_⟩
          obtain ⟨rfl, hy⟩ := hy
          have ex : x' = x := by
            have := hy vs (sq_lst hvs)
            rw [hx] at this
            exact (Option.some.inj this |>.symm)
          subst ex
          have two : ∃ d1 d2, d = .tup [d1, d2] := by
            cases d with
            | tup es =>
              match es, e2 with
              | [d1, d2], _ => exact ⟨d1, d2, rfl⟩
              | [], e2 => simp only at e2; cases e2
              | [_], e2 => simp only at e2; cases e2
              | _ :: _ :: _ :: _, e2 => simp only at e2; cases e2
            | _ => simp only at e2; cases e2
          obtain ⟨d1, d2, rfl⟩ := two
          simp only at e2
          simp only [Rep] at rx
          obtain ⟨ax, vx, rfl, sqx, repx⟩ := rx
          obtain ⟨x1, x2, rfl, rx1, rx2⟩ := reps_two repx
          have hsW : RepS K mg H3 pi2 ((rho.set i (some d1)).set j (some d2)) ((σ.set i (some x1)).set j (some x2)) := (((hs.mono st1).mono (stA.trans s2)).set i rx1).set j rx2
          refine ⟨ax, [x1, x2], rfl, sqx, rfl, x1, [x2], rfl, x2, [], rfl, rfl, ?_⟩
          have hw : ((wipe σ [i, j]).set i (some x1)).set j (some x2) = (σ.set i (some x1)).set j (some x2) := wipe2_set hij
          rw [hw]
          refine ⟨wipe2_again hij, pi2, m2, (rho.set i (some d1)).set j (some d2), r2, hsW, ?_⟩
          cases ht : ft ((rho.set i (some d1)).set j (some d2)) m2 with
          | er y m3 =>
            rw [ht] at e2
            cases e2
          | bad =>
            rw [ht] at e2
            cases e2
          | ok q =>
            obtain ⟨b, m3⟩ := q
            rw [ht] at e2
            simp only at e2
            intro H4 pi4 st4 rm4
            cases b with
            | false =>
              rw [if_neg Bool.false_ne_true] at e2 ⊢
              exact ⟨pi4, m3, s2.trans st4, rm4, e2⟩
            | true =>
              rw [if_pos rfl] at e2 ⊢
              refine ⟨pi4, m3, (rho.set i (some d1)).set j (some d2), rm4, hsW.mono st4, ?_⟩
              cases he : fe ((rho.set i (some d1)).set j (some d2)) m3 with
              | er y m5 =>
                rw [he] at e2
                cases e2
              | bad =>
                rw [he] at e2
                cases e2
              | ok q =>
                obtain ⟨y, m5⟩ := q
                rw [he] at e2
                simp only at e2
                intro v H5 pi5 st5 rm5 ry
                have hL5 : pi5[m1.length]? = some Da := ((s2.trans st4).trans st5).get hL
                cases h6 : m5[m1.length]? with
                | none =>
                  rw [h6] at e2
                  cases e2
                | some o =>
                  cases o with
                  | lst acc =>
                    rw [h6] at e2
                    simp only at e2
                    by_cases hc : acc.length < small ∧ y.fz = true
                    · rw [if_pos hc] at e2
                      obtain ⟨vs, eH, rs⟩ := rm5.at_ _ _ _ hL5 h6
                      have hfa := rm5.fz _ _ h6
                      obtain ⟨st6, rm6⟩ := rm5.write (u := .lst (vs ++ [v])) (o' := .lst (acc ++ [y])) hL5 h6 (fzs_app acc [y] hfa (by simp [fzs, hc.2])) fun st => ⟨_, upd_same, (rs.append (reps_cons ry reps_nil)).mono st⟩
                      exact ⟨vs, eH, sz1 (rs.length ▸ hc.1), pi5, _, ((s2.trans st4).trans st5).trans st6, rm6, e2⟩
                    · rw [if_neg hc] at e2
                      cases e2
                  | _ =>
                    rw [h6] at e2
                    cases e2
  | _ => exact p1.elim
section
variable {X : Cx} {W : WX} {pos : Pos}
theorem m_lcPV {i j : Nat} {elt tg iter : Expr} {ifs : List Expr} {scope : Scope} {x y : Str} {f : ME} {ft : MT} {fe : ME} (calm : X.calm = true) (hN : X.N.Nodup) (hij : i ≠ j) (hi : ME1 X W iter f) (ok : BlkOk X.N X.env.scope scope [(x, i), (y, j)])
    (target : ∀ (s : Shared) (H : Hp) (C : Addr) (cl : List (Str × Addr)) (fp : List Addr), PG (X.blk s H scope (compEnvC scope cl C X.env) fp) tg (gTup X.K 2 (gCons (gName i) (gCons (gName j) gNil))))
    (test : ∀ (s : Shared) (H : Hp) (C : Addr) (cl : List (Str × Addr)) (fp : List Addr), PTs (X.blk s H scope (compEnvC scope cl C X.env) fp) ifs (tT X.K X.mg W0 ft))
    (item : ∀ (s : Shared) (H : Hp) (C : Addr) (cl : List (Str × Addr)) (fp : List Addr), ME1 (X.blk s H scope (compEnvC scope cl C X.env) fp) W0 elt fe) (fold : ∀ z, foldedSetIterable iter X.env z = pure z := by intro _; rfl) :
    ME1 X W (.ListComp elt [⟨tg, iter, ifs, 0⟩] scope pos) (mLcPV i j f ft fe) :=
  weak (pe_lc (own := [(x, i), (y, j)]) calm hN (pi_list hi) ok target test item fold) fun σ H Q h => lcPV_read hij h
end
end Mi

namespace SX
open PySem L2

variable {P : Program}
variable {w : World}
variable {A : Around}
variable {E : Value → Shared → Prop}
variable {s : Shared}

/-- What the search over a set's whole numbers answers. -/
def Met (ks : List Int) (k : Int) (i : Nat) : ScanMet → Prop
  | .found j => ∃ m, j = i + m ∧ ks[m]? = some k
  | .absent => k ∉ ks
  | .anew => False

theorem scan_at {a : Addr} {o : Obj} {es : Array (Int × Value)} {ep : Nat} {t : SetTable} {k : Int} {tk : Tok}
    (hg : s.heap.get? a = some o) (hd : o.data = Data.set es ep t) (hf : t.fits es.size = true) :
    ∀ (l : List (Int × Value)) (i : Nat) {Q : ScanMet → Shared → Prop}, (∀ e ∈ l, GoodE e) →
      (∀ r, Met (l.map keyOf) k i r → Q r s) →
      wpAny (model P w) A (setScanFrom a (.int k tk) (hashInt k) false l i) Q E s := by
  intro l
  induction l with
  | nil =>
    intro i Q _ hQ
    rw [setScanFrom.eq_def]
    exact wpAny_pure (hQ _ (by simp [Met]))
  | cons e l ih =>
    intro i Q hG hQ
    obtain ⟨h', y⟩ := e
    have he := hG _ List.mem_cons_self
    obtain ⟨k', tk', rfl, rfl⟩ := he
    have hrest : k' ≠ k → wpAny (model P w) A (setScanFrom a (.int k tk) (hashInt k) false l (i + 1)) Q E s := by
      intro hne
      refine ih (i + 1) (fun e he => hG e (List.mem_cons_of_mem _ he)) (fun r hr => hQ r ?_)
      cases r with
      | found j =>
        obtain ⟨m, rfl, hm⟩ := hr
        exact ⟨m + 1, by omega, by simpa using hm⟩
      | absent =>
        simp only [Met, List.map_cons, List.mem_cons, not_or] at hr ⊢
        exact ⟨fun h => hne (by simpa [keyOf] using h.symm), hr⟩
      | anew => exact hr
    rw [setScanFrom.eq_def]
    simp only []
    by_cases hh : (hashInt k' == hashInt k) = true
    · rw [if_pos hh]
      refine wpAny_bind (wpAny_setEpoch_of hg hd hf (wpAny_bind ((intKind P w).eqBool (a := k') (b := k) (by simp [intKind, Value.isInt]) (by simp [intKind, Value.isInt]) ?_)))
      by_cases hk : k' = k
      · subst hk
        simp only [Bool.false_and, Bool.false_eq_true, if_false, decide_true, if_true]
        refine wpAny_bind (wpAny_setEpoch_of hg hd hf ?_)
        simp only [bne_self_eq_false, Bool.false_eq_true, if_false, bne_self_eq_false]
        exact wpAny_pure (hQ _ ⟨0, by omega, by simp [keyOf]⟩)
      · simp only [Bool.false_and, Bool.false_eq_true, if_false, hk, decide_false]
        refine wpAny_bind (wpAny_setEpoch_of hg hd hf ?_)
        simp only [bne_self_eq_false, Bool.false_eq_true, if_false, bne_self_eq_false]
        exact hrest hk
    · rw [if_neg hh]
      exact hrest (fun h => hh (by simp [h]))

/-- What setFind answers. -/
def Fnd (ks : List Int) (k : Int) : Option Nat → Prop
  | some j => ks[j]? = some k
  | none => k ∉ ks

theorem find_at {a : Addr} {o : Obj} {es : Array (Int × Value)} {ep : Nat} {t : SetTable} {k : Int} {tk : Tok}
    {Q : Option Nat → Shared → Prop}
    (hg : s.heap.get? a = some o) (hd : o.data = Data.set es ep t) (hf : t.fits es.size = true)
    (hG : ∀ e ∈ es.toList, GoodE e) (hn : es.size < scanBound)
    (hQ : ∀ r, Fnd (es.toList.map keyOf) k r → Q r s) :
    wpAny (model P w) A (setFind a (.int k tk) (hashInt k)) Q E s := by
  unfold setFind
  rw [setFindIn.eq_def]
  simp only []
  refine wpAny_bind (wpAny_setState_of hg hd hf ?_)
  have hb : byScan (.int k tk) es = true := by
    unfold byScan
    simp only [Bool.and_eq_true, decide_eq_true_eq, Bool.and_eq_true]
    refine ⟨⟨by simp [Value.scannable], hn⟩, ?_⟩
    rw [Array.all_eq_true]
    intro i hi
    obtain ⟨k', tk', h1, _⟩ := hG es[i] (by simp)
    rw [h1]
    simp [Value.scannable]
  simp only [hb, if_true]
  refine (wpAny_bind (wpAny_rule (wpAny_bind ?_)))
  unfold setScan
  simp only []
  refine scan_at hg hd hf es.toList 0 hG (fun r hr => ?_)
  cases r with
  | found j =>
    obtain ⟨m, rfl, hm⟩ := hr
    exact wpAny_pure (hQ _ (by simpa [Fnd] using hm))
  | absent => exact wpAny_pure (hQ _ (by simpa [Fnd, Met] using hr))
  | anew => exact absurd hr (by simp [Met])

end SX

namespace SX
open PySem L2

variable {P : Program}
variable {w : World}
variable {A : Around}
variable {E : Value → Shared → Prop}
variable {s : Shared}

theorem eraseAt_list {α : Type} (xs : Array α) (i : Nat) : (SetTable.eraseAt xs i).toList = xs.toList.eraseIdx i := by
  unfold SetTable.eraseAt
  rw [Array.toList_append, Array.toList_extract, Array.toList_extract, List.eraseIdx_eq_take_drop_succ]
  simp
  rw [List.take_of_length_le]
  simp

theorem eraseAt_size {α : Type} (xs : Array α) (i : Nat) (h : i < xs.size) : (SetTable.eraseAt xs i).size = xs.size - 1 := by
  rw [← Array.length_toList, eraseAt_list, List.length_eraseIdx]
  simp [h]

theorem insertAt_size {α : Type} (xs : Array α) (i : Nat) (x : α) : (SetTable.insertAt xs i x).size = xs.size + 1 := by
  unfold SetTable.insertAt
  simp only [Array.size_append, Array.size_push, Array.size_extract]
  omega

theorem drop_facts {t : SetTable} {n i : Nat} (hf : t.fits n = true) (hi : i < n) (hR : Ris t.place.toList) :
    (t.drop i).fits (n - 1) = true ∧ Ris (t.drop i).place.toList ∧ (t.drop i).led = t.led := by
  unfold SetTable.fits at hf
  simp only [Bool.and_eq_true, beq_iff_eq, decide_eq_true_eq] at hf
  have hi' : i < t.place.size := by omega
  unfold SetTable.drop
  simp only [Array.getElem?_eq_getElem hi']
  refine ⟨?_, ?_, trivial⟩
  · unfold SetTable.fits SetTable.fill
    simp only [Bool.and_eq_true, beq_iff_eq, decide_eq_true_eq, eraseAt_size _ _ hi', insertAt_size]
    unfold SetTable.fill at hf
    omega
  · simp only [eraseAt_list]
    exact List.Pairwise.sublist (List.eraseIdx_sublist _ _) hR

theorem map_erase {α β : Type} (f : α → β) : ∀ (l : List α) (i : Nat), (l.eraseIdx i).map f = (l.map f).eraseIdx i
  | [], i => by simp
  | x :: l, 0 => by simp
  | x :: l, i + 1 => by simp [map_erase f l i]

theorem mem_eraseIdx {l : List Int} (hn : l.Nodup) {i : Nat} {k : Int} (hi : l[i]? = some k) (j : Int) :
    j ∈ l.eraseIdx i ↔ j ∈ l ∧ j ≠ k := by
  have hp : (k :: l.eraseIdx i).Perm l := erase_perm l i k hi
  have hn' := hp.nodup_iff.mpr hn
  rw [← hp.mem_iff]
  simp only [List.nodup_cons] at hn'
  simp only [List.mem_cons]
  constructor
  · intro h
    exact ⟨.inr h, fun e => hn'.1 (e ▸ h)⟩
  · rintro ⟨h | h, h2⟩
    · exact absurd h h2
    · exact h

theorem discard_at {a : Addr} {S : Int → Bool} {n : Nat} {k : Int} {tk : Tok} {Q : Bool → Shared → Prop}
    (hs : SetR w s.heap a S n)
    (hQ : ∀ h', Heap.SameBut a s.heap h' → SetR w h' a (fun j => S j && decide (j ≠ k)) (if S k = true then n - 1 else n) →
      Q (S k) { heap := h', gens := s.gens, drawn := s.drawn, toks := s.toks, os := s.os }) :
    wpAny (model P w) A (setDiscardHashed a (.int k tk) (hashInt k)) Q E s := by
  obtain ⟨o, es, ep, t, hg, hx, hd, hG, hN, hS, hb, hf, hn, hR, hl⟩ := hs
  unfold setDiscardHashed
  refine wpAny_bind (find_at hg hd hf hG hb (fun r hr => ?_))
  cases r with
  | none =>
    have hk : S k = false := by
      rw [Bool.eq_false_iff]
      intro h
      exact hr ((hS k).mp h)
    refine wpAny_pure ?_
    have := hQ s.heap (Heap.SameBut.refl _ _) ?_
    · rw [hk] at this
      exact this
    · refine ⟨o, es, ep, t, hg, hx, hd, hG, hN, fun j => ?_, hb, hf, ?_, hR, hl⟩
      · rw [← hS j]
        simp only [Bool.and_eq_true, decide_eq_true_eq, Bool.and_eq_true]
        constructor
        · exact fun h => h.1
        · intro h
          refine ⟨h, fun e => ?_⟩
          subst e
          rw [hk] at h
          exact absurd h (by simp)
      · rw [hk]
        simpa using hn
  | some i =>
    have hk : S k = true := (hS k).mpr (List.mem_of_getElem? hr)
    have hr' : (es.toList.map keyOf)[i]? = some k := hr
    have hi : i < es.size := by
      have := (List.getElem?_eq_some_iff.mp hr').1
      simpa using this
    obtain ⟨f1, f2, f3⟩ := drop_facts hf hi hR
    refine wpAny_bind (wpAny_setState_of hg hd hf ?_)
    simp only []
    refine wpAny_bind (wpAny_storeSet_of hg hd (wpAny_bind (wpAny_point (wpAny_pure ?_))) ?_)
    · have := hQ (s.heap.update a (Obj.putSet (SetTable.eraseAt es i) (t.drop i))) ?_ ?_
      · rw [hk] at this
        exact this
      · exact Heap.SameBut.update _ _ _
      · refine ⟨_, _, _, _, store_at hg hd, ?_, rfl, ?_, ?_, ?_, ?_, ?_, ?_, f2, ?_⟩
        · exact hx
        · intro e he
          rw [eraseAt_list] at he
          exact hG e (List.mem_of_mem_eraseIdx he)
        · rw [eraseAt_list, map_erase]
          exact List.Pairwise.sublist (List.eraseIdx_sublist _ _) hN
        · intro j
          rw [eraseAt_list, map_erase, mem_eraseIdx hN hr' j, ← hS j]
          simp
        · rw [eraseAt_size _ _ hi]
          omega
        · rw [eraseAt_size _ _ hi]
          exact f1
        · rw [eraseAt_size _ _ hi, hk]
          simp only [if_true]
          omega
        · rw [f3]
          exact hl
    · show _ ≤ sizeLine
      rw [eraseAt_size _ _ hi]
      unfold scanBound at hb
      unfold sizeLine
      omega

theorem flip_at {a : Addr} {S : Int → Bool} {n : Nat} {k : Int} {tk : Tok} {Q : Unit → Shared → Prop}
    (hs : SetR w s.heap a S n) (hn : n + 1 < scanBound)
    (hQ : ∀ h', Heap.SameBut a s.heap h' → (∃ n', n' ≤ n + 1 ∧ SetR w h' a (fun j => xor (S j) (decide (j = k))) n') →
      Q () { heap := h', gens := s.gens, drawn := s.drawn, toks := s.toks, os := s.os }) :
    wpAny (model P w) A (holding [Value.int k tk] (do
      let r ← setDiscardHashed a (.int k tk) (hashInt k)
      if (!r) = true then do
        let _ ← setAddHashed a (.int k tk) (hashInt k)
        pure ()
      else pure ())) Q E s := by
  refine wpAny_holding (wpAny_bind (discard_at hs (fun h' hb hs' => ?_)))
  cases hk : S k with
  | true =>
    simp only [Bool.not_true, Bool.false_eq_true, if_false, Bool.not_true]
    refine wpAny_pure (hQ h' hb ⟨_, ?_, hs'.congr ?_⟩)
    · rw [hk]
      simp only [if_true]
      omega
    · intro j
      by_cases h : j = k
      · subst h
        simp [hk]
      · simp [h]
  | false =>
    simp only [Bool.not_false, if_true, Bool.not_false]
    rw [hk] at hs'
    simp only [Bool.false_eq_true, if_false] at hs'
    refine wpAny_bind (setR_add_hashed hs' hn (fun h2 hb2 hs2 => ?_))
    refine wpAny_pure (hQ h2 ?_ ⟨_, ?_, hs2.congr ?_⟩)
    · exact hb.trans hb2
    · split <;> omega
    · intro j
      by_cases h : j = k
      · subst h
        simp [hk]
      · simp [h]

end SX

namespace SX
open PySem L2

variable {P : Program}
variable {w : World}
variable {A : Around}
variable {E : Value → Shared → Prop}
variable {s : Shared}

theorem entry_set_xor : entryFor table "set.__xor__" = some Builtin.«frozenset.__xor__» :=
  entryFor_alias (id' := "frozenset.__xor__") (by rfl) (by rfl) (by decide +kernel) (by rfl)

theorem quiet_at : ∀ {l : List Addr} {Q : Bool → Shared → Prop}, (∀ a ∈ l, ∃ S n, SetR w s.heap a S n) → Q true s →
    wpAny (model P w) A (setsQuiet l) Q E s := by
  intro l Q hl hQ
  unfold setsQuiet
  refine wpAny_bind (wpAny_forIn_list _ (fun rest b s' => s' = s ∧ b = (none, ()) ∧ ∀ a ∈ rest, ∃ S n, SetR w s.heap a S n) _ ?_ ?_ l _ ⟨rfl, rfl, hl⟩)
  · rintro a rest b s' ⟨rfl, rfl, hr⟩
    obtain ⟨S, n, o, es, ep, t, hg, hx, hd, hG, hN, hS, hb, hf, hn, hR, hld⟩ := hr a List.mem_cons_self
    refine wpAny_bind (wpAny_setEntries_of hg hd hf ?_)
    refine wpAny_bind (wpAny_forIn_array' _ (fun rest b s2 => s2 = s' ∧ b = (none, ()) ∧ ∀ e ∈ rest, GoodE e) _ ?_ ?_ es _ ⟨rfl, rfl, hG⟩)
    · rintro ⟨h, x⟩ rest2 b s2 ⟨rfl, rfl, hg2⟩
      obtain ⟨k, tk, h1, _⟩ := hg2 _ List.mem_cons_self
      simp only at h1
      subst h1
      exact wpAny_pure ⟨rfl, rfl, fun e he => hg2 e (List.mem_cons_of_mem _ he)⟩
    · rintro b s2 ⟨rfl, rfl, _⟩
      exact wpAny_pure ⟨rfl, rfl, fun a ha => hr a (List.mem_cons_of_mem _ ha)⟩
  · rintro b s' ⟨rfl, rfl, _⟩
    exact wpAny_pure hQ

theorem setWalk_at {b : Addr} {es : Array (Int × Value)} {ep : Nat} {t : SetTable} {o : Obj}
    {Q : Array (Int × Value) → Shared → Prop}
    (hg : s.heap.get? b = some o) (hd : o.data = Data.set es ep t) (hf : t.fits es.size = true)
    (hl : w.params.followText "set-order" = true ∨ (t.led = true ∧ (t.plain = true ∨ es.size ≤ 1)))
    (hQ : ∀ L : Array (Int × Value), L.toList.Perm es.toList → Q L s) :
    wpAny (model P w) A (setWalk b) Q E s := by
  unfold setWalk
  refine wpAny_bind (wpAny_setState_of hg hd hf ?_)
  simp only []
  refine (wpAny_bind (wpAny_byText ?_))
  cases ht : w.params.followText "set-order" with
  | true =>
    simp only [if_true]
    refine wpAny_bind (wpAny_askSetting (wpAny_pure (hQ _ (pick_perm _ _))))
  | false =>
    rw [ht] at hl
    simp only [Bool.false_eq_true, false_or] at hl
    simp only [Bool.false_eq_true, if_false, Bool.false_eq_true]
    have h1 : (!t.plain && decide (es.size > 1)) = false := by
      rcases hl.2 with h | h
      · simp [h]
      · simp only [Bool.and_eq_false_iff, decide_eq_false_iff_not]
        right
        omega
    split
    · next hdr =>
      have hdr' : (!t.plain && decide (es.size > 1)) = true := hdr
      rw [h1] at hdr'
      exact absurd hdr' (by simp)
    refine wpAny_bind ?_
    change wpAny _ _ (if (!t.led && decide (es.size > 1)) = true then unsupported "set:maker-not-led" else pure ()) _ _ _
    rw [if_neg (by simp [hl.1])]
    exact wpAny_pure (wpAny_pure (hQ _ (List.Perm.refl _)))

/-- The entries that a walk of a set of whole numbers hands on. -/
structure Ents (T : Int → Bool) (L : List (Int × Value)) : Prop where
  good : ∀ e ∈ L, GoodE e
  nodup : (L.map keyOf).Nodup
  mem : ∀ k, T k = true ↔ k ∈ L.map keyOf

theorem Ents.perm {T : Int → Bool} {L L' : List (Int × Value)} (h : Ents T L) (p : L'.Perm L) : Ents T L' where
  good := fun e he => h.good e (p.mem_iff.mp he)
  nodup := ((p.map keyOf).nodup_iff).mpr h.nodup
  mem := fun k => (h.mem k).trans ((p.map keyOf).mem_iff).symm

theorem unseen_at {a b : Addr} {S T : Int → Bool} {n m : Nat} {Q : Array (Int × Value) → Shared → Prop}
    (hs : SetR w s.heap a S n) (ho : SetR w s.heap b T m)
    (hQ : ∀ h' L, Heap.SameBut a s.heap h' → SetR w h' a S n → Ents T L.toList → L.size = m →
      Q L { heap := h', gens := s.gens, drawn := s.drawn, toks := s.toks, os := s.os }) :
    wpAny (model P w) A (setWalkUnseen b [a] (some a)) Q E s := by
  have hs0 := hs
  have ho0 := ho
  obtain ⟨o, es, ep, t, hg, hx, hd, hG, hN, hS, hb, hf, hn, hR, hl⟩ := ho
  have hE : Ents T es.toList := ⟨hG, hN, hS⟩
  unfold setWalkUnseen
  refine wpAny_bind (wpAny_setState_of hg hd hf ?_)
  simp only []
  refine (wpAny_bind (wpAny_byText ?_))
  have hsame : ∀ L : Array (Int × Value), L.toList.Perm es.toList → Q L s := fun L hp =>
    hQ s.heap L (Heap.SameBut.refl _ _) hs0 (hE.perm hp) (by rw [← hn, ← Array.length_toList, hp.length_eq, Array.length_toList])
  by_cases hc : (w.params.followText "set-order" || t.led && t.plain || decide (es.size ≤ 1)) = true
  · rw [if_pos hc]
    refine setWalk_at hg hd hf ?_ hsame
    rcases hl with hl | hl
    · exact .inl hl
    · rw [hl] at hc
      simp only [Bool.true_and, Bool.or_eq_true, decide_eq_true_eq] at hc
      rcases hc with (hc | hc) | hc
      · exact .inl hc
      · exact .inr ⟨hl, .inl hc⟩
      · exact .inr ⟨hl, .inr hc⟩
  · rw [if_neg hc]
    have htx : w.params.followText "set-order" = false := by
      rw [Bool.eq_false_iff]
      intro h
      exact hc (by simp [h])
    have hled : t.led = true := by
      rcases hl with hl | hl
      · rw [hl] at htx
        exact absurd htx (by simp)
      · exact hl
    refine wpAny_bind (quiet_at (fun c hc => ?_) ?_)
    · simp only [List.mem_cons, List.not_mem_nil, or_false] at hc
      rcases hc with rfl | rfl
      · exact ⟨_, _, ho0⟩
      · exact ⟨_, _, hs0⟩
    · simp only [Bool.not_true, Bool.false_eq_true, if_false]
      refine (wpAny_bind (wpAny_rule ?_))
      obtain ⟨o2, es2, ep2, t2, hg2, hx2, hd2, hG2, hN2, hS2, hb2, hf2, hn2, hR2, hl2⟩ := hs
      refine wpAny_bind (wpAny_setState_of hg2 hd2 hf2 ?_)
      simp only [hled, Bool.not_true, Bool.and_false, Bool.false_or, Bool.and_true]
      by_cases hp : (t2.plain && !t.plain) = true
      · rw [if_pos hp]
        refine wpAny_bind (wpAny_storeSet_of hg2 hd2 (wpAny_pure ?_) ?_)
        · refine hQ _ es (Heap.SameBut.update _ _ _) ?_ hE hn
          exact ⟨_, _, _, _, store_at hg2 hd2, hx2, rfl, hG2, hN2, hS2, hb2, hf2, hn2, hR2, hl2⟩
        · unfold scanBound at hb2
          unfold sizeLine
          omega
      · rw [if_neg hp]
        exact wpAny_pure (hsame es (List.Perm.refl _))

end SX

namespace SX
open PySem L2

variable {P : Program}
variable {w : World}
variable {A : Around}
variable {E : Value → Shared → Prop}
variable {s : Shared}

theorem setR_typeIs {a : Addr} {S : Int → Bool} {n : Nat} (hs : SetR w s.heap a S n) : s.TypeIs (.ref a) "set" := by
  obtain ⟨o, es, ep, t, hg, hx, _⟩ := hs
  exact ⟨o, hg, hx.1⟩

theorem isAny_at {a : Addr} {S : Int → Bool} {n : Nat} {Q : Bool → Shared → Prop} (hs : SetR w s.heap a S n) (hQ : Q true s) :
    wpAny (model P w) A (Builtin.Frozenset.isAnySet (.ref a)) Q E s := by
  unfold Builtin.Frozenset.isAnySet
  show wpAny (model P w) A (orM _ _) Q E s
  unfold orM
  exact wpAny_bind (wpAny_isInstance (setR_typeIs hs) (b := true) rfl (wpAny_pure hQ))

theorem epoch_at {a : Addr} {S : Int → Bool} {n : Nat} {Q : Nat → Shared → Prop} (hs : SetR w s.heap a S n)
    (hQ : ∀ ep, (∀ (s' : Shared) (E' : Value → Shared → Prop) (A' : Around) (Q' : Nat → Shared → Prop), s'.heap.get? a = s.heap.get? a → Q' ep s' → wpAny (model P w) A' (setEpoch a) Q' E' s') → Q ep s) :
    wpAny (model P w) A (setEpoch a) Q E s := by
  obtain ⟨o, es, ep, t, hg, hx, hd, hG, hN, hS, hb, hf, hn, hR, hl⟩ := hs
  refine wpAny_setEpoch_of hg hd hf (hQ ep ?_)
  intro s' E' A' Q' h q
  exact wpAny_setEpoch_of (h.trans hg) hd hf q

theorem unchanged_at {id : String} {a : Addr} {ep : Nat} {Q : Unit → Shared → Prop}
    (h : ∀ (Q' : Nat → Shared → Prop), Q' ep s → wpAny (model P w) A (setEpoch a) Q' E s) (hQ : Q () s) :
    wpAny (model P w) A (Builtin.Frozenset.unchanged id a ep) Q E s := by
  unfold Builtin.Frozenset.unchanged
  refine wpAny_bind (h _ ?_)
  simp only [bne_self_eq_false, Bool.false_eq_true, if_false, bne_self_eq_false]
  exact wpAny_pure hQ

theorem symUpd_at {id : String} {a b : Addr} {S T : Int → Bool} {n m : Nat} {Q : Unit → Shared → Prop} (hab : b ≠ a)
    (hs : SetR w s.heap a S n) (ho : SetR w s.heap b T m) (hb : n + m < scanBound)
    (hQ : ∀ h', Heap.SameBut a s.heap h' → (∃ n', SetR w h' a (fun j => xor (S j) (T j)) n') →
      Q () { heap := h', gens := s.gens, drawn := s.drawn, toks := s.toks, os := s.os }) :
    wpAny (model P w) A (Builtin.Frozenset.symmetricDifferenceUpdate id a (.ref b)) Q E s := by
  unfold Builtin.Frozenset.symmetricDifferenceUpdate
  have hne : ((Value.ref b == Value.ref a) = true) = False := by
    simp only [eq_iff_iff, iff_false]
    intro h
    simp at h
    exact hab h
  rw [if_neg (by rw [hne]; exact fun h => h)]
  have ho1 := ho
  obtain ⟨o, es, ep, t, hg, hx, hrest⟩ := ho1
  refine wpAny_bind (wpAny_typeOf_ref hg ?_)
  rw [hx.1]
  rw [if_neg (by decide)]
  refine wpAny_bind (isAny_at ho ?_)
  simp only [if_true]
  refine (wpAny_bind (wpAny_pure ?_))
  refine (wpAny_bind (wpAny_pure ?_))
  refine wpAny_bind (epoch_at ho (fun ep' hep => ?_))
  refine wpAny_holding (wpAny_bind (unseen_at hs ho (fun h' L hb' hs' hL hm => ?_)))
  refine wpAny_bind (wpAny_forIn_array' _ (fun rest (_ : PUnit) s' => ∃ h2, s' = { heap := h2, gens := s.gens, drawn := s.drawn, toks := s.toks, os := s.os } ∧ Heap.SameBut a s.heap h2 ∧
      (∀ e ∈ rest, GoodE e) ∧ (rest.map keyOf).Nodup ∧ (∀ k ∈ rest.map keyOf, T k = true) ∧
      ∃ n', n' + rest.length < scanBound ∧ SetR w h2 a (fun j => xor (S j) (T j && decide (j ∉ rest.map keyOf))) n') _ ?_ ?_ L _ ?_)
  · rintro ⟨h0, x⟩ rest _ s' ⟨h2, rfl, hb2, hG2, hN2, hT2, n', hn', hs2⟩
    obtain ⟨k, tk, h1, h3⟩ := hG2 _ List.mem_cons_self
    simp only at h1 h3
    subst h1 h3
    have hkT : T k = true := hT2 k (by simp [keyOf])
    simp only [List.map_cons, List.nodup_cons, keyOf] at hN2
    simp only [List.length_cons] at hn'
    refine wpAny_bind (flip_at hs2 (by omega) (fun h3 hb3 hs3 => ?_))
    obtain ⟨n3, hn3, hs3⟩ := hs3
    refine wpAny_bind (unchanged_at (fun Q' q => hep _ _ _ _ ?_ q) (wpAny_pure ?_))
    · show h3.get? b = _
      rw [hb3.2 b hab]
      exact hb2.2 b hab
    · refine ⟨h3, rfl, hb2.trans hb3, fun e he => hG2 e (List.mem_cons_of_mem _ he), hN2.2, fun j hj => hT2 j (by simp only [List.map_cons, List.mem_cons]; exact .inr hj), n3, by omega, hs3.congr ?_⟩
      intro j
      by_cases hj : j = k
      · subst hj
        simp [keyOf, hkT, hN2.1]
      · have hm : (j ∈ List.map keyOf ((hashInt k, Value.int k tk) :: rest)) = (j ∈ List.map keyOf rest) := by
          simp only [List.map_cons, List.mem_cons, keyOf, hj, false_or]
        simp only [hm, hj, decide_false, Bool.xor_false]
  · rintro _ s' ⟨h2, rfl, hb2, _, _, _, n', _, hs2⟩
    refine wpAny_pure (hQ h2 hb2 ⟨n', hs2.congr ?_⟩)
    intro j
    simp
  · refine ⟨h', rfl, hb', hL.good, hL.nodup, fun k hk => (hL.mem k).mpr hk, n, ?_, hs'.congr ?_⟩
    · rw [Array.length_toList, hm]
      exact hb
    · intro j
      by_cases h : T j = true
      · have := (hL.mem j).mp h
        simp only [h, this, not_true, decide_false, Bool.and_false, Bool.xor_false]
      · simp [h]

end SX

namespace SX
open PySem L2

/-- The places that the search for a free place of a set's table comes to, behind its first turns. -/
def fo (M : Nat) : Nat → Nat → Nat
  | 0, x => x
  | t + 1, x => fo M t ((x * 5 + 1) % (M + 1))

def bts (M : Nat) : Nat → Nat → Nat → Nat
  | 0, _, acc => acc
  | t + 1, x, acc => bts M t ((x * 5 + 1) % (M + 1)) (acc ||| 2 ^ x)

theorem bts_mem (M : Nat) : ∀ (n x acc y : Nat), (bts M n x acc).testBit y = true → acc.testBit y = true ∨ ∃ t, t < n ∧ fo M t x = y := by
  intro n
  induction n with
  | zero => intro x acc y h; exact .inl h
  | succ n ih =>
    intro x acc y h
    rcases ih _ _ _ h with h | ⟨t, ht, hf⟩
    · rw [Nat.testBit_or, Bool.or_eq_true] at h
      rcases h with h | h
      · exact .inl h
      · rw [Nat.testBit_two_pow] at h
        exact .inr ⟨0, by omega, by simpa [fo] using h⟩
    · exact .inr ⟨t + 1, by omega, hf⟩

/-- The places come round. -/
def Cyc (M : Nat) : Prop := bts M (M + 1) 0 0 = 2 ^ (M + 1) - 1 ∧ fo M (M + 1) 0 = 0

theorem fo_add (M : Nat) : ∀ (a b x : Nat), fo M (a + b) x = fo M b (fo M a x) := by
  intro a
  induction a with
  | zero => intro b x; simp [fo]
  | succ a ih =>
    intro b x
    rw [Nat.add_right_comm]
    show fo M (a + b) _ = _
    rw [ih]
    rfl

theorem cyc_any {M : Nat} (h : Cyc M) {x y : Nat} (hx : x < M + 1) (hy : y < M + 1) : ∃ t, t < M + 1 ∧ fo M t x = y := by
  have get : ∀ z, z < M + 1 → ∃ t, t < M + 1 ∧ fo M t 0 = z := by
    intro z hz
    have hb : (bts M (M + 1) 0 0).testBit z = true := by
      rw [h.1, Nat.testBit_two_pow_sub_one]
      simpa using hz
    rcases bts_mem M _ _ _ _ hb with h0 | h0
    · simp at h0
    · exact h0
  obtain ⟨a, ha, rfl⟩ := get x hx
  obtain ⟨b, hb, rfl⟩ := get y hy
  by_cases hab : a ≤ b
  · refine (⟨b - a, by omega, ?_⟩)
    rw [← fo_add]
    congr 1
    omega
  · refine ⟨M + 1 + b - a, by omega, ?_⟩
    rw [← fo_add]
    have : a + (M + 1 + b - a) = M + 1 + b := by omega
    rw [this, fo_add, h.2]

theorem cyc7 : Cyc 7 := by unfold Cyc; decide +kernel
theorem cyc15 : Cyc 15 := by unfold Cyc; decide +kernel
theorem cyc31 : Cyc 31 := by unfold Cyc; decide +kernel
theorem cyc63 : Cyc 63 := by unfold Cyc; decide +kernel
theorem cyc127 : Cyc 127 := by unfold Cyc; decide +kernel
theorem cyc255 : Cyc 255 := by unfold Cyc; decide +kernel
theorem cyc511 : Cyc 511 := by unfold Cyc; decide +kernel
theorem cyc1023 : Cyc 1023 := by unfold Cyc; decide +kernel

def orb (M : Nat) : Nat → Nat × Nat → Nat × Nat
  | 0, x => x
  | t + 1, x => orb M t (SetTable.leap M x.1 x.2)

theorem orb_add (M : Nat) : ∀ (a b : Nat) (x : Nat × Nat), orb M (a + b) x = orb M b (orb M a x) := by
  intro a
  induction a with
  | zero => intro b x; simp [orb]
  | succ a ih =>
    intro b x
    rw [Nat.add_right_comm]
    show orb M (a + b) _ = _
    rw [ih]
    rfl

theorem orb_zero (M : Nat) : ∀ (t x : Nat), orb M t (x, 0) = (fo M t x, 0) := by
  intro t
  induction t with
  | zero => intro x; rfl
  | succ t ih =>
    intro x
    show orb M t ((x * 5 + 1 + 0 / 32) % (M + 1), 0 / 32) = (fo M t ((x * 5 + 1) % (M + 1)), 0)
    exact ih _

theorem orb_snd (M : Nat) : ∀ (t : Nat) (x : Nat × Nat), (orb M t x).2 = x.2 / 32 ^ t := by
  intro t
  induction t with
  | zero => intro x; simp [orb]
  | succ t ih =>
    intro x
    show (orb M t _).2 = _
    rw [ih]
    show x.2 / 32 / 32 ^ t = _
    rw [Nat.div_div_eq_div_mul, Nat.pow_succ, Nat.mul_comm]

theorem orb_fst (M : Nat) : ∀ (t : Nat) (x : Nat × Nat), x.1 < M + 1 → (orb M t x).1 < M + 1 := by
  intro t
  induction t with
  | zero => intro x h; exact h
  | succ t ih =>
    intro x h
    exact ih _ (Nat.mod_lt _ (by omega))

theorem free_some {M : Nat} {ow : Array (Option Nat)} : ∀ (f i p j : Nat), SetTable.layClean.free M ow f i p = some j →
    (ow.getD j (some 0)).isNone = true := by
  intro f
  induction f with
  | zero => intro i p j h; rw [SetTable.layClean.free.eq_1] at h; exact absurd h (by simp)
  | succ f ih =>
    intro i p j h
    rw [SetTable.layClean.free.eq_2] at h
    split at h
    · next k hk =>
      have := List.find?_some hk
      simp only [Option.some.injEq, Option.some.injEq] at h
      subst h
      exact this
    · exact ih _ _ _ h

theorem free_none {M : Nat} {ow : Array (Option Nat)} : ∀ (f i p : Nat), SetTable.layClean.free M ow f i p = none →
    ∀ t, t < f → (ow.getD (orb M t (i, p)).1 (some 0)).isNone = false := by
  intro f
  induction f with
  | zero => intro i p _ t h; omega
  | succ f ih =>
    intro i p h t ht
    rw [SetTable.layClean.free.eq_2] at h
    split at h
    · exact absurd h (by simp)
    · next hk =>
      cases t with
      | zero =>
        rw [List.find?_eq_none] at hk
        have := hk 0 (by
          rw [List.mem_range]
          unfold SetTable.runEnd
          split <;> omega)
        simpa [orb, Option.isSome_iff_ne_none] using this
      | succ t => exact ih _ _ h t (by omega)

theorem all_some : ∀ (l : List (Option Nat)), (∀ i (h : i < l.length), (l[i]).isNone = false) → (l.filterMap id).length = l.length := by
  intro l
  induction l with
  | nil => intro _; rfl
  | cons x l ih =>
    intro h
    have h0 := h 0 (by simp)
    cases x with
    | none => simp at h0
    | some v =>
      simp only [List.filterMap_cons, id_eq, List.length_cons]
      rw [ih (fun i hi => by have := h (i + 1) (by simpa using hi); rw [List.getElem_cons_succ] at this; exact this)]

theorem free_there {M : Nat} (hc : Cyc M) {ow : Array (Option Nat)} (hs : ow.size = M + 1) (hl : (ow.toList.filterMap id).length < M + 1)
    {h : Int} : ∃ j, SetTable.layClean.free M ow (SetTable.turns M) (SetTable.bits h % (M + 1)) (SetTable.bits h) = some j ∧
      j < ow.size ∧ ow.getD j (some 0) = none := by
  cases hf : SetTable.layClean.free M ow (SetTable.turns M) (SetTable.bits h % (M + 1)) (SetTable.bits h) with
  | some j =>
    have := free_some _ _ _ _ hf
    rw [Option.isNone_iff_eq_none] at this
    refine ⟨j, rfl, ?_, this⟩
    rcases Nat.lt_or_ge j ow.size with h1 | h1
    · exact h1
    · rw [Array.getD_eq_getD_getElem?, Array.getElem?_eq_none h1] at this
      simp at this
  | none =>
    exfalso
    have hn := free_none _ _ _ hf
    have hp : (orb M 13 (SetTable.bits h % (M + 1), SetTable.bits h)).2 = 0 := by
      rw [orb_snd]
      apply Nat.div_eq_of_lt
      have : SetTable.bits h < 2 ^ 64 := by
        unfold SetTable.bits
        have h1 := Int.emod_lt_of_pos h (b := 2 ^ 64) (by decide)
        have h2 := Int.emod_nonneg h (b := 2 ^ 64) (by decide)
        omega
      exact Nat.lt_of_lt_of_le this (by decide)
    have hlt := orb_fst M 13 (SetTable.bits h % (M + 1), SetTable.bits h) (Nat.mod_lt _ (by omega))
    have hall := all_some ow.toList (fun i hi => by
      have hi' : i < ow.size := by simpa using hi
      obtain ⟨t, ht, hft⟩ := cyc_any hc hlt (y := i) (by omega)
      have := hn (13 + t) (by unfold SetTable.turns; omega)
      rw [orb_add] at this
      generalize hz : orb M 13 (SetTable.bits h % (M + 1), SetTable.bits h) = z at this hp hft
      obtain ⟨z1, z2⟩ := z
      simp only at hp hft
      subst hp
      rw [orb_zero] at this
      simp only [hft] at this
      rw [Array.getD_eq_getD_getElem?, Array.getElem?_eq_getElem hi'] at this
      simpa using this)
    rw [hall] at hl
    simp at hl
    omega

end SX

namespace SX
open PySem L2

variable {P : Program}
variable {w : World}
variable {A : Around}
variable {E : Value → Shared → Prop}
variable {s : Shared}

theorem set_perm (k : Nat) : ∀ (l : List (Option Nat)) (j : Nat), l[j]? = some none → ((l.set j (some k)).filterMap id).Perm (k :: l.filterMap id) := by
  intro l
  induction l with
  | nil => intro j h; simp at h
  | cons x l ih =>
    intro j h
    cases j with
    | zero =>
      simp only [List.getElem?_cons_zero, Option.some.injEq, List.getElem?_cons_zero] at h
      subst h
      simp
    | succ j =>
      simp only [List.getElem?_cons_succ, List.getElem?_cons_succ] at h
      cases x with
      | none => simpa using ih j h
      | some v =>
        simp only [List.set_cons_succ, List.filterMap_cons, id_eq]
        exact ((ih j h).cons v).trans (List.Perm.swap _ _ _)

def layStep (M : Nat) (acc : Option (Array (Option Nat) × Nat)) (h : Int) : Option (Array (Option Nat) × Nat) :=
  acc.bind fun x => (SetTable.layClean.free M x.1 (SetTable.turns M) (SetTable.bits h % (M + 1)) (SetTable.bits h)).bind fun j =>
    some (x.1.setIfInBounds j (some x.2), x.2 + 1)

theorem lay_eq (M : Nat) (hs : Array Int) : SetTable.layClean M hs = (hs.toList.foldl (layStep M) (some (Array.replicate (M + 1) none, 0))).map (fun x => x.1) := by
  unfold SetTable.layClean
  rw [← Array.foldl_toList]
  rfl

theorem lay_fold {M : Nat} (hc : Cyc M) : ∀ (l : List Int) (ow : Array (Option Nat)) (k : Nat), ow.size = M + 1 →
    (ow.toList.filterMap id).Perm (List.range k) → k + l.length ≤ M →
    ∃ ow', l.foldl (layStep M) (some (ow, k)) = some (ow', k + l.length) ∧ ow'.size = M + 1 ∧
      (ow'.toList.filterMap id).Perm (List.range (k + l.length)) := by
  intro l
  induction l with
  | nil => intro ow k h1 h2 _; exact ⟨ow, rfl, h1, h2⟩
  | cons h l ih =>
    intro ow k h1 h2 h3
    simp only [List.length_cons] at h3
    obtain ⟨j, hj, hlt, hnone⟩ := free_there hc h1 (by rw [h2.length_eq, List.length_range]; omega) (h := h)
    have hstep : layStep M (some (ow, k)) h = some (ow.setIfInBounds j (some k), k + 1) := by
      show (SetTable.layClean.free M ow _ _ _).bind _ = _
      rw [hj]
      rfl
    rw [List.foldl_cons, hstep]
    have hj' : ow.toList[j]? = some none := by
      rw [Array.getElem?_toList, Array.getElem?_eq_getElem hlt]
      rw [Array.getD_eq_getD_getElem?, Array.getElem?_eq_getElem hlt] at hnone
      simpa using hnone
    obtain ⟨ow', e1, e2, e3⟩ := ih (ow.setIfInBounds j (some k)) (k + 1) (by simpa using h1) (by
      rw [Array.toList_setIfInBounds]
      refine (set_perm k _ _ hj').trans ?_
      rw [List.range_succ]
      exact (h2.cons k).trans (List.perm_append_comm (l₁ := [k]))) (by omega)
    refine ⟨ow', ?_, e2, ?_⟩
    · rw [e1, List.length_cons]
      congr 2
      omega
    · rw [List.length_cons]
      have : k + (l.length + 1) = k + 1 + l.length := by omega
      rw [this]
      exact e3

theorem live_fst (ow : Array (Option Nat)) : ∀ (l : List Nat), (l.filterMap (fun j => Option.map (fun x => (j, x)) (ow.getD j none))).map (fun x => x.1) = l.filter (fun j => (ow.getD j none).isSome) := by
  intro l
  induction l with
  | nil => rfl
  | cons a l ih =>
    cases h : ow.getD a none with
    | none => simp only [List.filterMap_cons, h, Option.map_none, List.filter_cons, Option.isSome_none, Bool.false_eq_true, if_false, ih]
    | some v => simp only [List.filterMap_cons, h, Option.map_some, List.filter_cons, Option.isSome_some, if_true, List.map_cons, ih]

theorem live_snd (ow : Array (Option Nat)) : ∀ (l : List Nat), (l.filterMap (fun j => Option.map (fun x => (j, x)) (ow.getD j none))).map (fun x => x.2) = l.filterMap (fun j => ow.getD j none) := by
  intro l
  induction l with
  | nil => rfl
  | cons a l ih =>
    cases h : ow.getD a none with
    | none => simp only [List.filterMap_cons, h, Option.map_none, ih]
    | some v => simp only [List.filterMap_cons, h, Option.map_some, List.map_cons, ih]

theorem range_get {α : Type} (xs : Array α) : (List.range xs.size).filterMap (fun j => xs[j]?) = xs.toList := by
  have : (List.range xs.size).map (fun j => xs[j]?) = xs.toList.map some := by
    apply List.ext_getElem
    · simp
    · intro i h1 h2
      simp only [List.length_map, List.length_range] at h1
      simp [h1]
  calc (List.range xs.size).filterMap (fun j => xs[j]?) = ((List.range xs.size).map (fun j => xs[j]?)).filterMap id := by
        rw [List.filterMap_map]
        rfl
    _ = xs.toList := by
        rw [this, List.filterMap_map]
        simp

theorem range_own (ow : Array (Option Nat)) : (List.range ow.size).filterMap (fun j => ow.getD j none) = ow.toList.filterMap id := by
  have : (List.range ow.size).map (fun j => ow.getD j none) = ow.toList := by
    apply List.ext_getElem
    · simp
    · intro i h1 h2
      simp only [List.length_map, List.length_range] at h1
      simp [h1]
  calc (List.range ow.size).filterMap (fun j => ow.getD j none) = ((List.range ow.size).map (fun j => ow.getD j none)).filterMap id := by
        rw [List.filterMap_map]
        rfl
    _ = _ := by rw [this]

theorem laid_ok {M : Nat} (hc : Cyc M) {finger moves : Nat} {led plain : Bool} {hs : Array Int} (hn : hs.size ≤ M) :
    ∃ t order, SetTable.laid M finger moves led plain hs = some (t, order) ∧ t.mask = M ∧ t.dummies = #[] ∧ t.led = led ∧
      t.place.size = hs.size ∧ Ris t.place.toList ∧ order.toList.Perm (List.range hs.size) := by
  obtain ⟨ow, e1, e2, e3⟩ := lay_fold hc hs.toList (Array.replicate (M + 1) none) 0 (by simp) (by
    rw [Array.toList_replicate]
    have : ∀ n, ((List.replicate n (none : Option Nat)).filterMap id) = [] := by
      intro n
      induction n with
      | zero => rfl
      | succ n ih => rw [List.replicate_succ, List.filterMap_cons]; exact ih
    rw [this]
    exact List.Perm.refl _) (by simpa using hn)
  simp only [Nat.zero_add, Array.length_toList] at e1 e3
  unfold SetTable.laid
  rw [lay_eq, e1]
  refine ⟨_, _, rfl, rfl, rfl, rfl, ?_, ?_, ?_⟩
  · have h1 : ((List.range (M + 1)).filterMap (fun j => Option.map (fun x => (j, x)) (ow.getD j none))).length = hs.size := by
      rw [← List.length_map (f := fun x => x.2), live_snd, ← e2, range_own, e3.length_eq, List.length_range]
    simpa using h1
  · show Ris (List.map (fun x => x.1) ((List.range (M + 1)).filterMap (fun j => Option.map (fun x => (j, x)) (ow.getD j none))))
    rw [live_fst]
    exact List.Pairwise.filter _ List.pairwise_lt_range
  · show (List.map (fun x => x.2) ((List.range (M + 1)).filterMap (fun j => Option.map (fun x => (j, x)) (ow.getD j none)))).Perm _
    rw [live_snd, ← e2, range_own]
    exact e3

theorem reordered_ok {es : Array (Int × Value)} {t : SetTable} {order : Array Nat} {F : Sem (Array (Int × Value) × SetTable)} {Q : Array (Int × Value) × SetTable → Shared → Prop}
    (hF : F = if ((Array.filterMap (fun x => es[x]?) order).size != es.size) = true then (do
      let _ ← (unsupported "internal:set-table-lost-an-element" : Sem Unit)
      pure (Array.filterMap (fun x => es[x]?) order, t)) else pure (Array.filterMap (fun x => es[x]?) order, t))
    (hp : order.toList.Perm (List.range es.size))
    (hQ : ∀ es', es'.toList.Perm es.toList → Q (es', t) s) :
    wpAny (model P w) A F Q E s := by
  have hq : (Array.filterMap (fun x => es[x]?) order).toList.Perm es.toList := by
    rw [Array.toList_filterMap]
    have := hp.filterMap (fun x => es[x]?)
    rw [range_get] at this
    exact this
  have hsz : (Array.filterMap (fun x => es[x]?) order).size = es.size := by
    rw [← Array.length_toList, hq.length_eq, Array.length_toList]
  rw [hF, if_neg (by rw [hsz]; simp)]
  exact wpAny_pure (hQ _ hq)

end SX

namespace SX
open PySem L2

variable {P : Program}
variable {w : World}
variable {A : Around}
variable {E : Value → Shared → Prop}
variable {s : Shared}

theorem above_dec : ∀ c : Nat, c < 401 → (SetTable.sizeAbove (c * 2) ∈ [8, 16, 32, 64, 128, 256, 512, 1024] ∧ c < SetTable.sizeAbove (c * 2)) := by
  decide +kernel

theorem above {c : Nat} (h : c ≤ 400) : Cyc (SetTable.sizeAbove (c * 2) - 1) ∧ c ≤ SetTable.sizeAbove (c * 2) - 1 ∧ SetTable.sizeAbove (c * 2) ≤ sizeLine := by
  obtain ⟨h1, h2⟩ := above_dec c (by omega)
  simp only [List.mem_cons, List.not_mem_nil, or_false] at h1
  refine ⟨?_, by omega, ?_⟩
  · rcases h1 with h | h | h | h | h | h | h | h <;> rw [h]
    · exact cyc7
    · exact cyc15
    · exact cyc31
    · exact cyc63
    · exact cyc127
    · exact cyc255
    · exact cyc511
    · exact cyc1023
  · unfold sizeLine
    omega

theorem setR_perm {a : Addr} {h : Heap} {T : Int → Bool} {m : Nat} {o : Obj} {es es' : Array (Int × Value)} {ep : Nat} {t : SetTable}
    (hg : h.get? a = some o) (hx : o.ExactSet) (hd : o.data = Data.set es' ep t)
    (hE : Ents T es.toList) (hp : es'.toList.Perm es.toList) (hb : es.size < scanBound) (hm : es.size = m)
    (hf : t.fits es.size = true) (hR : Ris t.place.toList) (hl : w.params.followText "set-order" = true ∨ t.led = true) :
    SetR w h a T m := by
  have hE' := hE.perm hp
  have hs : es'.size = es.size := by rw [← Array.length_toList, hp.length_eq, Array.length_toList]
  exact ⟨o, es', ep, t, hg, hx, hd, hE'.good, hE'.nodup, hE'.mem, by omega, by rw [hs]; exact hf, by omega, hR, hl⟩

/-- A set that has no entry yet, with a table of whole size. -/
structure Bare (w : World) (h : Heap) (a : Addr) (M : Nat) : Prop where
  ex : ∃ o ep t, h.get? a = some o ∧ o.ExactSet ∧ o.data = Data.set #[] ep t ∧ t.mask = M ∧ t.place = #[] ∧ t.dummies = #[] ∧
    (w.params.followText "set-order" = true ∨ t.led = true)

theorem room_at {a : Addr} {c : Nat} {o : Obj} {ep : Nat} {led : Bool} {Q : Unit → Shared → Prop}
    (hg : s.heap.get? a = some o) (hx : o.ExactSet) (hd : o.data = Data.set #[] ep (SetTable.fresh 0 0 led))
    (hl : w.params.followText "set-order" = true ∨ led = true) (hc : c ≤ 400)
    (hQ : ∀ h' M, Heap.SameBut a s.heap h' → Bare w h' a M → Cyc M → c ≤ M → Q () { heap := h', gens := s.gens, drawn := s.drawn, toks := s.toks, os := s.os }) :
    wpAny (model P w) A (setRoomFor a c) Q E s := by
  have hf : (SetTable.fresh 0 0 led).fits (#[] : Array (Int × Value)).size = true := by cases led <;> decide
  unfold setRoomFor
  refine wpAny_bind (wpAny_setState_of hg hd hf ?_)
  simp only []
  unfold SetTable.roomFor
  have hfill : (SetTable.fresh 0 0 led).fill = 0 := by cases led <;> rfl
  by_cases h5 : ((SetTable.fresh 0 0 led).fill + c) * 5 ≥ (SetTable.fresh 0 0 led).mask * 3
  · rw [if_pos h5]
    simp only []
    have hw : ((SetTable.fresh 0 0 led).place.size + c) * 2 = c * 2 := by
      show (0 + c) * 2 = _
      omega
    rw [hw]
    obtain ⟨hcy, hle, hsl⟩ := above hc
    unfold setRelay
    refine wpAny_bind (wpAny_setState_of hg hd hf ?_)
    simp only []
    rw [if_neg (by omega)]
    unfold SetTable.relaid
    obtain ⟨t, order, e1, e2, e3, e4, e5, e6, e7⟩ := laid_ok hcy (finger := (SetTable.fresh 0 0 led).finger) (moves := (SetTable.fresh 0 0 led).movedTo (SetTable.sizeAbove (c * 2) - 1)) (led := (SetTable.fresh 0 0 led).led) (plain := (SetTable.fresh 0 0 led).plain) (hs := Array.map (fun x : Int × Value => x.1) #[]) (by simp)
    rw [e1]
    refine wpAny_bind (reordered_ok (t := t) (order := order) rfl (by simpa using e7) (fun es' hp => ?_))
    simp only []
    have hes : es' = #[] := by
      have := hp.length_eq
      simpa using this
    subst hes
    refine wpAny_storeSet_of hg hd (hQ _ _ (Heap.SameBut.update _ _ _) ⟨⟨_, _, _, store_at hg hd, hx, rfl, e2, ?_, e3, ?_⟩⟩ hcy hle) (by decide)
    · simpa using e5
    · rw [e4]
      exact hl
  · rw [if_neg h5]
    simp only []
    rw [hfill] at h5
    have : (SetTable.fresh 0 0 led).mask = 7 := rfl
    rw [this] at h5
    exact wpAny_pure (hQ s.heap 7 (Heap.SameBut.refl _ _) ⟨⟨o, ep, _, hg, hx, hd, rfl, rfl, rfl, hl⟩⟩ cyc7 (by omega))

theorem merge_at {a b : Addr} {T : Int → Bool} {m : Nat} {o : Obj} {ep : Nat} {led : Bool} {each : Sem Unit} {Q : Unit → Shared → Prop}
    (hab : b ≠ a) (hg : s.heap.get? a = some o) (hx : o.ExactSet) (hd : o.data = Data.set #[] ep (SetTable.fresh 0 0 led))
    (hl : w.params.followText "set-order" = true ∨ led = true) (ho : SetR w s.heap b T m) (hm : m ≤ 400)
    (hQ : ∀ h', Heap.SameBut a s.heap h' → SetR w h' a T m → Q () { heap := h', gens := s.gens, drawn := s.drawn, toks := s.toks, os := s.os }) :
    wpAny (model P w) A (setMerge a b each) Q E s := by
  have ho1 := ho
  obtain ⟨o2, es2, ep2, t2, hg2, hx2, hd2, hG2, hN2, hS2, hb2, hf2, hn2, hR2, hl2⟩ := ho1
  unfold setMerge
  rw [if_neg (by simpa using fun h => hab h.symm)]
  refine wpAny_bind (wpAny_setState_of hg2 hd2 hf2 ?_)
  simp only []
  by_cases he : es2.isEmpty = true
  · rw [if_pos he]
    have he' : es2 = #[] := by simpa using he
    refine wpAny_pure (hQ s.heap (Heap.SameBut.refl _ _) ?_)
    subst he'
    refine ⟨o, #[], ep, _, hg, hx, hd, by simp, by simp, ?_, by decide, by cases led <;> decide, hn2, by simp [SetTable.fresh, Ris], hl⟩
    intro k
    rw [hS2 k]
  · rw [if_neg he]
    refine wpAny_bind (room_at hg hx hd hl (c := es2.size) (by omega) (fun h' M hb' hbare hcy hle => ?_))
    obtain ⟨o3, ep3, t3, hg3, hx3, hd3, hM3, hp3, hu3, hl3⟩ := hbare
    have hf3 : t3.fits (#[] : Array (Int × Value)).size = true := by
      unfold SetTable.fits SetTable.fill at ⊢
      rw [hp3, hu3]
      simp
    refine wpAny_bind (wpAny_setState_of hg3 hd3 hf3 ?_)
    simp only []
    have hfill3 : t3.fill = 0 := by
      unfold SetTable.fill
      rw [hp3, hu3]
      rfl
    have hroad : t3.road t2 = SetTable.Road.slotForSlot ∨ t3.road t2 = SetTable.Road.clean := by
      unfold SetTable.road
      rw [hfill3]
      simp only [bne_self_eq_false, Bool.false_eq_true, if_false, bne_self_eq_false]
      split
      · exact .inl rfl
      · exact .inr rfl
    have hled : w.params.followText "set-order" = true ∨ (t3.led && t2.led) = true := by
      rcases hl3 with h | h
      · exact .inl h
      · rcases hl2 with h2 | h2
        · exact .inl h2
        · exact .inr (by simp [h, h2])
    have hsame : ∀ {h2 : Heap}, Heap.SameBut a h' h2 → Heap.SameBut a s.heap h2 := fun h => hb'.trans h
    rcases hroad with hr | hr
    · rw [hr]
      simp only []
      refine wpAny_storeSet_of hg3 hd3 (hQ _ (hsame (Heap.SameBut.update _ _ _)) ?_) ?_
      · exact setR_perm (store_at hg3 hd3) hx3 rfl ⟨hG2, hN2, hS2⟩ (List.Perm.refl _) hb2 hn2 hf2 hR2 hled
      · unfold scanBound at hb2
        unfold sizeLine
        omega
    · rw [hr]
      simp only []
      rw [hM3]
      obtain ⟨t, order, e1, e2, e3, e4, e5, e6, e7⟩ := laid_ok hcy (finger := t3.finger) (moves := t3.moves) (led := t3.led && t2.led) (plain := t3.plain && t2.plain) (hs := Array.map (fun x : Int × Value => x.1) es2) (by simpa using hle)
      rw [e1]
      refine wpAny_bind (reordered_ok (t := t) (order := order) rfl (by simpa using e7) (fun es' hp => ?_))
      simp only []
      refine wpAny_storeSet_of hg3 hd3 (hQ _ (hsame (Heap.SameBut.update _ _ _)) ?_) ?_
      · refine setR_perm (store_at hg3 hd3) hx3 rfl ⟨hG2, hN2, hS2⟩ hp hb2 hn2 ?_ e6 (by rw [e4]; exact hled)
        unfold SetTable.fits SetTable.fill at ⊢
        rw [e3, e2, e5]
        simp only [Array.size_map, beq_self_eq_true, Bool.true_and, decide_eq_true_eq, Array.size_empty]
        omega
      · have : es'.size = es2.size := by rw [← Array.length_toList, hp.length_eq, Array.length_toList]
        unfold scanBound at hb2
        unfold sizeLine
        omega

end SX

namespace SX
open PySem L2

variable {P : Program}
variable {w : World}
variable {A : Around}
variable {E : Value → Shared → Prop}
variable {s : Shared}

theorem newSet_at {Q : Value → Shared → Prop}
    (hQ : Q (.ref s.heap.objs.size) { heap := s.heap.push { cls := Value.type "set", data := Data.set #[] 0 (SetTable.fresh 0 0 !w.params.followText "set-order") }, gens := s.gens, drawn := s.drawn, toks := s.toks, os := s.os }) :
    wpAny (model P w) A (newSet (.type "set")) Q E s
      := by
  unfold newSet
  refine (wpAny_bind (wpAny_byText ?_))
  simp only []
  exact wpAny_newObj_type hQ

/-- the union without what both have, step by step -/
def symD (id : String) (a : Addr) (v : Value) : Sem Value := do
  let c ← Builtin.Frozenset.baseOf a
  let result ← Builtin.Frozenset.newFrom id c v
  let r ← Builtin.Frozenset.addrOf result
  holding [result] (Builtin.Frozenset.symmetricDifferenceUpdate id r (.ref a))
  pure result

theorem symDiff_at {id : String} {a b : Addr} {S T : Int → Bool} {n m : Nat} {Q : Value → Shared → Prop}
    (ha : SetR w s.heap a S n) (hb : SetR w s.heap b T m) (hn : n ≤ 400) (hm : m ≤ 400)
    (hQ : ∀ h' n', (∀ c o, s.heap.get? c = some o → h'.get? c = some o) → s.heap.objs.size ≤ h'.objs.size →
      SetR w h' s.heap.objs.size (fun j => xor (S j) (T j)) n' →
      Q (.ref s.heap.objs.size) { heap := h', gens := s.gens, drawn := s.drawn, toks := s.toks, os := s.os }) :
    wpAny (model P w) A (symD id a (.ref b)) Q E s := by
  unfold symD
  have haT := setR_typeIs ha
  refine wpAny_bind ?_
  unfold Builtin.Frozenset.baseOf
  refine wpAny_bind (wpAny_isInstance haT (b := true) rfl (wpAny_pure ?_))
  simp only [if_true]
  refine wpAny_bind ?_
  unfold Builtin.Frozenset.newFrom
  refine wpAny_bind (newSet_at ?_)
  refine (wpAny_bind (wpAny_pure ?_))
  have hla := ha.lt
  have hlb := hb.lt
  generalize hh1 : s.heap.push { cls := Value.type "set", data := Data.set #[] 0 (SetTable.fresh 0 0 !w.params.followText "set-order") } = h1
  have old1 : ∀ c o, s.heap.get? c = some o → h1.get? c = some o := by
    intro c o hc
    rw [← hh1]
    exact Heap.get?_push_of_some _ hc
  have hsz1 : h1.objs.size = s.heap.objs.size + 1 := by rw [← hh1]; simp [Heap.push]
  have hb1 : SetR w h1 b T m := hb.at (fun o ho => old1 _ _ ho)
  have ha1 : SetR w h1 a S n := ha.at (fun o ho => old1 _ _ ho)
  have hget : h1.get? s.heap.objs.size = some { cls := Value.type "set", data := Data.set #[] 0 (SetTable.fresh 0 0 !w.params.followText "set-order") } := by
    rw [← hh1]
    simp [Heap.get?, Heap.push]
  refine (wpAny_bind (wpAny_holding ?_))
  unfold Builtin.Frozenset.updateFrom
  refine wpAny_bind (isAny_at hb1 ?_)
  simp only [if_true]
  refine (wpAny_bind (wpAny_pure ?_))
  unfold Builtin.Frozenset.merge
  refine wpAny_bind (epoch_at hb1 (fun ep hep => ?_))
  have hled : w.params.followText "set-order" = true ∨ (!w.params.followText "set-order") = true := by
    cases w.params.followText "set-order" <;> simp
  have hnb : b ≠ s.heap.objs.size := Nat.ne_of_lt hlb
  have hna : a ≠ s.heap.objs.size := Nat.ne_of_lt hla
  refine merge_at hnb hget ⟨rfl, rfl, rfl⟩ rfl hled hb1 hm (fun h2 hs2 hr2 => ?_)
  refine wpAny_pure ?_
  refine (wpAny_bind (wpAny_pure ?_))
  refine (wpAny_bind (wpAny_holding ?_))
  have old2 : ∀ c o, c ≠ s.heap.objs.size → h1.get? c = some o → h2.get? c = some o := by
    intro c o hc h
    rw [hs2.2 c hc]
    exact h
  have ha2 : SetR w h2 a S n := ha1.at (fun o ho => old2 _ _ hna ho)
  refine symUpd_at hna hr2 ha2 (by unfold scanBound; omega) (fun h3 hs3 hr3 => ?_)
  obtain ⟨n', hr3⟩ := hr3
  refine wpAny_pure (hQ h3 n' ?_ ?_ (hr3.congr ?_))
  · intro c o hc
    have hlt : c ≠ s.heap.objs.size := by
      intro e
      subst e
      have : s.heap.get? s.heap.objs.size = none := by simp [Heap.get?]
      rw [this] at hc
      exact absurd hc (by simp)
    rw [hs3.2 c hlt]
    exact old2 c o hlt (old1 c o hc)
  · have e1 := hs2.1
    have e2 := hs3.1
    simp only at e1 e2
    omega
  · intro j
    exact (Bool.xor_comm _ _)

theorem xor_at {a b : Addr} {S T : Int → Bool} {n m : Nat} {Q : Value → Shared → Prop}
    (ha : SetR w s.heap a S n) (hb : SetR w s.heap b T m) (hn : n ≤ 400) (hm : m ≤ 400)
    (hQ : ∀ h' n', (∀ c o, s.heap.get? c = some o → h'.get? c = some o) → s.heap.objs.size ≤ h'.objs.size →
      SetR w h' s.heap.objs.size (fun j => xor (S j) (T j)) n' →
      Q (.ref s.heap.objs.size) { heap := h', gens := s.gens, drawn := s.drawn, toks := s.toks, os := s.os }) :
    wpAny (model P w) A (binaryOp .BitXor (.ref a) (.ref b)) Q E s := by
  refine wpAny_binaryOp_same (setR_typeIs ha) (setR_typeIs hb) F.fills_set_xor F.slot_set_xor ?_
  refine wpAny_call_entry F.slot_set_xor (setR_typeIs ha) entry_set_xor ?_ (F.args_set_xor_2 _ _)
  show wpAny (model P w) A.in1 (do
    let __x ← Builtin.Frozenset.slot1 "__xor__" { pos := [.ref a, .ref b] }
    match __x with
    | (self, other) =>
      match if false = true then (other, self) else (self, other) with
      | (l, r) => do
        let c ← Builtin.Frozenset.isAnySet l <&&> Builtin.Frozenset.isAnySet r
        if (!c) = true then do
            rule (toString "frozenset." ++ toString "__xor__" ++ toString ".declined")
            ret Value.notImplemented
          else do
            let d ← Builtin.Frozenset.addrOf l
            let v ← symD (toString "frozenset." ++ toString "__xor__") d r
            ret v) _ _ _
  refine wpAny_bind (wpAny_pure (a := (Value.ref a, Value.ref b)) ?_)
  simp only [Bool.false_eq_true, if_false, Bool.false_eq_true]
  refine wpAny_bind ?_
  show wpAny (model P w) A.in1 (andM _ _) _ _ _
  unfold andM
  refine wpAny_bind (isAny_at ha ?_)
  refine isAny_at hb ?_
  simp only [Bool.not_true, Bool.false_eq_true, if_false, Bool.not_true]
  refine (wpAny_bind (wpAny_pure ?_))
  refine wpAny_bind (symDiff_at ha hb hn hm (fun h' n' h1 h2 h3 => ?_))
  exact wpAny_pure ⟨_, rfl, by simp, hQ h' n' h1 h2 h3⟩

end SX

namespace SX
open PySem L2

variable {P : Program}
variable {w : World}
variable {A : Around}
variable {E : Value → Shared → Prop}
variable {s : Shared}

theorem check_init1 {self b : Value} {Q : Unit → Shared → Prop} (ht : s.TypeIs self "set") (hQ : Q () s) :
    wpAny (model P w) A (checkBuiltinCall "set.__init__" { pos := [self, b] }) Q E s := by
  unfold checkBuiltinCall
  simp only [kind_set_init, split_set_init, sig_set_init]
  refine wpAny_bind (wpAny_isInstance ht (b := true) rfl ?_)
  simp only [Bool.not_true, Bool.false_eq_true, if_false, Bool.not_true]
  unfold Bind.checkArgs
  simp only [show (Manifest.Receiver.self == Manifest.Receiver.none) = false from rfl, Bool.false_eq_true, if_false, List.head?_cons, List.map_nil]
  refine wpAny_bind ?_
  refine (wpAny_pure ?_ : wpAny (model P w) A (Bind.printed "set" true _ _) _ E s)
  refine wpAny_bind ?_
  show wpAny (model P w) A (do
    let t ← typeOf self
    let tp ← typeNameWhole t
    pure (if false = true then tp else Bind.lastOf tp)) _ E s
  refine wpAny_bind (wpAny_typeOf ht ?_)
  refine wpAny_bind ?_
  refine (wpAny_pure ?_ : wpAny (model P w) A (typeNameWhole (.type "set")) _ E s)
  refine wpAny_pure ?_
  refine wpAny_onRaise ?_
  change wpAny (model P w) A (pure ()) Q _ s
  exact wpAny_pure hQ

/-- What the keys of a list's whole numbers are behind the first so many. -/
def upTo (vs : List Value) (i : Nat) (j : Int) : Bool := (vs.take i).any fun v => v.isInt j

theorem upTo_succ {vs : List Value} {i : Nat} {k : Int} {tk : Tok} (h : vs[i]? = some (.int k tk)) (j : Int) :
    upTo vs (i + 1) j = (upTo vs i j || decide (j = k)) := by
  unfold upTo
  rw [List.take_add_one, h]
  simp only [Option.toList_some, List.any_append, List.any_cons, List.any_nil, Bool.or_false]
  congr 1
  simp only [Value.isInt]
  by_cases hjk : j = k
  · subst hjk; simp
  · simp [hjk, Ne.symm hjk]

theorem loop_at {c I l : Addr} {vs : List Value} (hA : A.handled = none) (hI : l ≠ I) (hcI : c ≠ I) (hcl : c ≠ l)
    (hv : ∀ v ∈ vs, ∃ k tk, v = Value.int k tk) (hb : vs.length + 1 < scanBound) :
    ∀ (k i : Nat) {s : Shared} {R : Result → Shared → Prop}, vs.length - i = k → i ≤ vs.length → s.heap.IsListIter I l i → s.heap.IsList l vs.toArray →
      (∃ n, n ≤ i ∧ SetR w s.heap c (upTo vs i) n) →
      (∀ h' tk, (∀ b, b ≠ I → b ≠ c → ∀ o, s.heap.get? b = some o → h'.get? b = some o) → (∃ n, n ≤ vs.length ∧ SetR w h' c (upTo vs vs.length) n) →
        R (.ok (.ret .none)) { heap := h', gens := s.gens, drawn := s.drawn, toks := tk, os := s.os }) →
      codeAny (model P w) A (Code.builtin "set.update.loop" { pos := [.ref c, .ref I] }) R s := by
  intro k
  induction k with
  | zero =>
    intro i s R hk hi hit hl hs hR
    have : i = vs.length := by omega
    subst this
    refine (codeAny_builtin PyProof.Rows.F.entry_set_update_loop ?_)
    unfold Builtin.«set.update.loop»
    simp only []
    have W := Walks.list (prog := P) (w := w) (A := A.under (Code.builtin "set.update.loop" { pos := [.ref c, .ref I] })) hA I l hI vs.toArray
    refine wpAny_bind (W.done s _ _ ⟨by simpa using hit, hl⟩ (fun h' tk hold => ?_))
    simp only []
    refine wpAny_pure (hR h' tk (fun b hbI _ o ho => hold b o (by simpa using hbI) ho) ?_)
    obtain ⟨n, hn, hs⟩ := hs
    exact ⟨n, hn, hs.at (fun o ho => hold c o (by simpa using hcI) ho)⟩
  | succ k ih =>
    intro i s R hk hi hit hl hs hR
    refine (codeAny_builtin PyProof.Rows.F.entry_set_update_loop ?_)
    unfold Builtin.«set.update.loop»
    simp only []
    have W := Walks.list (prog := P) (w := w) (A := A.under (Code.builtin "set.update.loop" { pos := [.ref c, .ref I] })) hA I l hI vs.toArray
    refine wpAny_bind (W.item i s _ _ (by simpa using (by omega : i < vs.length)) ⟨hit, hl⟩ (fun v h' tk hv1 hst hold => ?_))
    simp only []
    have hv2 : vs[i]? = some v := by simpa using hv1
    obtain ⟨k', tk', rfl⟩ := hv v (List.mem_of_getElem? hv2)
    obtain ⟨n, hn, hs⟩ := hs
    have hs1 : SetR w h' c (upTo vs i) n := hs.at (fun o ho => hold c o (by simpa using hcI) ho)
    refine (wpAny_bind (wpAny_holding ?_))
    unfold setAdd
    refine wpAny_holding ?_
    refine wpAny_bind ((intKind P w).pyHash (k := k') (by simp [intKind, Value.isInt]) ?_)
    refine setR_add_hashed (P := P) hs1 (by omega) (fun h2 hb2 hs2 => ?_)
    refine wpAny_pure ⟨Code.quiet_builtin _ (by decide +kernel), ?_⟩
    refine ih (i + 1) (by omega) (by omega) ?_ ?_ ⟨_, ?_, hs2.congr ?_⟩ ?_
    · exact hst.1.at (fun o ho => by rw [hb2.2 I (Ne.symm hcI)]; exact ho)
    · exact hst.2.at (fun o ho => by rw [hb2.2 l (Ne.symm hcl)]; exact ho)
    · split <;> omega
    · exact fun j => upTo_succ hv2 j
    · intro h3 tk3 hold3 hs3
      refine hR h3 tk3 (fun b hbI hbc o ho => hold3 b hbI hbc o ?_) hs3
      show h2.get? b = some o
      rw [hb2.2 b hbc]
      exact hold b o (by simpa using hbI) ho

theorem upTo_zero (vs : List Value) (j : Int) : upTo vs 0 j = false := by
  unfold upTo
  simp

theorem init_at {c l : Addr} {vs : List Value} {R : Result → Shared → Prop} (hA : A.handled = none) (hcl : c ≠ l)
    (hv : ∀ v ∈ vs, ∃ k tk, v = Value.int k tk) (hb : vs.length + 1 < scanBound)
    (hl : s.heap.IsList l vs.toArray) (hc : c < s.heap.objs.size)
    (hg : s.heap.get? c = some { cls := Value.type "set", data := Data.set #[] 0 (SetTable.fresh 0 0 !w.params.followText "set-order") })
    (hR : ∀ h' tk, (∀ b, b ≠ c → ∀ o, s.heap.get? b = some o → h'.get? b = some o) → (∃ n, n ≤ vs.length ∧ SetR w h' c (upTo vs vs.length) n) →
        R (.ok (.ret .none)) { heap := h', gens := s.gens, drawn := s.drawn, toks := tk, os := s.os }) :
    codeAny (model P w) A (Code.builtin "set.__init__" { pos := [.ref c, .ref l] }) R s := by
  refine codeAny_builtin F.entry_set_init ?_
  unfold Builtin.«set.__init__»
  simp only []
  refine wpAny_bind ?_
  change wpAny _ _ (pure ()) _ _ _
  refine wpAny_pure ?_
  have hled : w.params.followText "set-order" = true ∨ (!w.params.followText "set-order") = true := by
    cases w.params.followText "set-order" <;> simp
  have hf : (SetTable.fresh 0 0 !w.params.followText "set-order").fits (#[] : Array (Int × Value)).size = true := by
    cases w.params.followText "set-order" <;> decide
  have hs : SetR w s.heap c (fun _ => false) 0 :=
    ⟨_, #[], 0, _, hg, ⟨rfl, rfl, rfl⟩, rfl, by simp, by simp, by simp, by decide, hf, rfl, by simp [SetTable.fresh, Ris], hled⟩
  refine wpAny_bind ?_
  unfold typeNameOfCut
  refine wpAny_bind ?_
  unfold shownTypeOf
  refine wpAny_bind (wpAny_typeOf_ref hg ?_)
  simp only []
  rw [if_neg (by decide)]
  refine wpAny_pure ?_
  change wpAny _ _ (pure "set") _ _ _
  refine wpAny_pure ?_
  refine wpAny_bind ?_
  change wpAny _ _ (pure ()) _ _ _
  refine wpAny_pure ?_
  refine wpAny_bind ?_
  change wpAny _ _ (pure c) _ _ _
  refine wpAny_pure ?_
  refine wpAny_bind ?_
  unfold setUsed
  refine wpAny_bind (wpAny_setState_of hg rfl hf (wpAny_pure ?_))
  simp only []
  rw [if_neg (by cases w.params.followText "set-order" <;> decide)]
  refine wpAny_bind ?_
  unfold Builtin.Frozenset.updateFrom
  refine wpAny_bind ?_
  unfold Builtin.Frozenset.isAnySet
  show wpAny (model P w) _ (orM _ _) _ _ _
  unfold orM
  have hty : s.TypeIs (.ref l) "list" := hl.typeIs
  refine wpAny_bind (wpAny_isInstance hty (b := false) rfl ?_)
  simp only [ToBool.toBool]
  refine wpAny_isInstance hty (b := false) rfl ?_
  simp only [Bool.false_eq_true, if_false, Bool.false_eq_true]
  refine wpAny_bind (wpAny_typeOf hty ?_)
  rw [if_neg (by decide)]
  refine wpAny_bind (iter_any hl (fun s2 e2 hit hne => ?_))
  refine (wpAny_bind (wpAny_runValue ?_))
  have hcI : c ≠ s.heap.objs.size := Nat.ne_of_lt hc
  have hold2 : ∀ b o, s.heap.get? b = some o → s2.heap.get? b = some o := by
    intro b o ho
    rw [e2]
    exact (Heap.get?_push_of_some _ ho)
  have hA' : (A.under (Code.builtin "set.__init__" { pos := [.ref c, .ref l] })).handled = none := hA
  refine loop_at hA' hne hcI hcl hv hb vs.length 0 (by omega) (by omega) hit.1 hit.2 ⟨0, by omega, ?_⟩ ?_
  · exact (hs.at (fun o ho => hold2 c o ho)).congr (fun j => upTo_zero vs j)
  · intro h' tk hold hs'
    simp only []
    refine wpAny_pure ?_
    refine wpAny_pure ?_
    subst e2
    refine hR h' tk (fun b hbc o ho => hold b ?_ hbc o (hold2 b o ho)) hs'
    intro e
    subst e
    have : s.heap.get? s.heap.objs.size = none := by simp [Heap.get?]
    rw [this] at ho
    exact absurd ho (by simp)

theorem new_at {a : Value} {Q : Value → Shared → Prop}
    (hQ : Q (.ref s.heap.objs.size) { heap := s.heap.push { cls := Value.type "set", data := Data.set #[] 0 (SetTable.fresh 0 0 !w.params.followText "set-order") }, gens := s.gens, drawn := s.drawn, toks := s.toks, os := s.os }) :
    wpAny (model P w) A (call (.builtin "set.__new__") [.type "set", a]) Q E s := by
  refine wpAny_call (codeAny_call_builtin_code (Code.quiet_builtin _ (by decide +kernel)) ?_)
  rw [F.newCall_set_1]
  refine wpAny_pure (codeAny_builtin F.entry_set_new ?_)
  unfold Builtin.«set.__new__»
  refine wpAny_bind ?_
  change wpAny _ _ (pure (Value.type "set", [a])) _ _ _
  refine wpAny_pure ?_
  refine wpAny_bind (newSet_at ?_)
  exact wpAny_pure hQ

/-- set(xs) of a list of whole numbers. -/
theorem ofList_at {l : Addr} {vs : List Value} {Q : Value → Shared → Prop} (hA : A.handled = none)
    (hv : ∀ v ∈ vs, ∃ k tk, v = Value.int k tk) (hb : vs.length + 1 < scanBound) (hl : s.heap.IsList l vs.toArray)
    (hQ : ∀ h' tk, (∀ b o, s.heap.get? b = some o → h'.get? b = some o) → (∃ n, n ≤ vs.length ∧ SetR w h' s.heap.objs.size (upTo vs vs.length) n) →
        Q (.ref s.heap.objs.size) { heap := h', gens := s.gens, drawn := s.drawn, toks := tk, os := s.os }) :
    wpAny (model P w) A (call (.type "set") [.ref l]) Q E s
      := by
  refine (wpAny_call (codeAny_of_tree ?_))
  change wpAny _ _ (pure (Fin.again (Code.builtin "type.__call__" { pos := [.type "set", .ref l] }))) _ _ _
  refine wpAny_pure ⟨Code.quiet_builtin _ (by decide +kernel), ?_⟩
  refine codeAny_builtin F.entry_type_call ?_
  unfold Builtin.«type.__call__» at ⊢
  simp only []
  rw [if_neg (by decide)]
  rw [if_neg (by rw [F.called_set.canCreate]; decide)]
  rw [F.typeCall_set_1]
  refine (wpAny_bind (wpAny_pure ?_))
  rw [F.mro_set]
  refine (wpAny_bind (wpAny_pure ?_))
  rw [if_neg (by decide)]
  rw [F.called_set.made]
  refine (wpAny_bind (wpAny_pure ?_))
  simp only []
  refine (wpAny_bind (wpAny_pure ?_))
  have hlt : l < s.heap.objs.size := by
    obtain ⟨o, hg, _⟩ := hl
    rcases Nat.lt_or_ge l s.heap.objs.size with h | h
    · exact h
    · have : s.heap.get? l = none := by simp [Heap.get?, Array.getElem?_eq_none h]
      rw [this] at hg
      exact absurd hg (by simp)
  have hget : (s.heap.push { cls := Value.type "set", data := Data.set #[] 0 (SetTable.fresh 0 0 !w.params.followText "set-order") }).get? s.heap.objs.size = some { cls := Value.type "set", data := Data.set #[] 0 (SetTable.fresh 0 0 !w.params.followText "set-order") } := by
    simp [Heap.get?, Heap.push]
  refine wpAny_bind (wpAny_holding (new_at ?_))
  have hty : Shared.TypeIs { heap := s.heap.push { cls := Value.type "set", data := Data.set #[] 0 (SetTable.fresh 0 0 !w.params.followText "set-order") }, gens := s.gens, drawn := s.drawn, toks := s.toks, os := s.os } (.ref s.heap.objs.size) "set" := ⟨_, hget, rfl⟩
  refine wpAny_bind (wpAny_isInstance hty (b := true) rfl ?_)
  rw [if_neg (by decide)]
  refine wpAny_bind (wpAny_holding (wpAny_callSpecial?_slot hty F.called_set.init ?_))
  refine wpAny_call (codeAny_call_builtin_code (Code.quiet_builtin _ (by decide +kernel)) ?_)
  refine check_init1 hty ?_
  refine init_at hA (Nat.ne_of_gt hlt) hv hb ?_ ?_ hget (fun h' tk hold hs => ?_)
  · exact hl.at (fun o ho => Heap.get?_push_of_some _ ho)
  · show s.heap.objs.size < (s.heap.push _).objs.size
    simp [Heap.push]
  · simp only []
    rw [if_neg (by decide)]
    refine wpAny_pure (hQ h' tk (fun b o ho => hold b ?_ o (Heap.get?_push_of_some _ ho)) hs)
    intro e
    subst e
    have : s.heap.get? s.heap.objs.size = none := by simp [Heap.get?]
    rw [this] at ho
    exact absurd ho (by simp)

end SX
namespace Mi
open PySem PySem.Spec L2

/-- the whole numbers of a list of data -/
def intsL : List D → Option (List Int)
  | [] => some []
  | .int i :: ds => (intsL ds).map (i :: ·)
  | _ :: _ => none
theorem intsL_reps {K : PySem.W.Frag} {mg : Str → Option Value} {H : Hp} {pi : List Addr} : ∀ {ds : List D} {vs : List V} {xs : List Int}, Reps K mg H pi ds vs → intsL ds = some xs → vs = xs.map V.int
  | [], vs, xs, r, e => by
    simp only [Reps] at r
    cases e
    rw [r]
    rfl
  | d :: ds, vs, xs, r, e => by
    simp only [Reps] at r
    obtain ⟨v, w, rfl, r1, r2⟩ := r
    cases d with
    | int i =>
      simp only [intsL] at e
      cases h : intsL ds with
      | none =>
        rw [h] at e
        cases e
      | some ys =>
        rw [h] at e
        cases e
        simp only [Rep] at r1
        have := intsL_reps r2 h
        rw [r1, this]
        rfl
    | _ => cases e

/-- a set of whole numbers, as it stands on the heap -/
def SetE (w : World) (a : Addr) (S : Int → Bool) (n : Nat) : HO := .ext fun h => SetR w h a S n
theorem setE_ok {P : Program} {w : World} {H : Hp} {h : Heap} {a : Addr} {S : Int → Bool} {n : Nat} (hs : SetR w h a S n) : ObjOk P w H h a (SetE w a S n) := by
  unfold SetE
  simp only [ObjOk]
  refine ⟨hs, ?_, fun h1 h2 hs1 hk => hs1.at hk⟩
  obtain ⟨o, es, ep, t, hg, _⟩ := hs
  exact ⟨o, hg⟩
theorem setE_at {P : Program} {w : World} {H : Hp} {h : Heap} {a : Addr} {S : Int → Bool} {n : Nat} (ho : HOk P w H h) (e : H a = some (SetE w a S n)) : SetR w h a S n := by
  have := ho a _ e
  unfold SetE at this
  simp only [ObjOk] at this
  exact this.1

theorem len_setR {X : Cx} : CallR X (.builtin "len") fun xs H Q => ∃ p S n, xs = [.ref p] ∧ H p = some (SetE X.w p S n) ∧ Q (.int (n : Nat)) H := by
  intro pins s σ
  intro H xs us Q I r h
  obtain ⟨p, S, n, rfl, hp, q⟩ := h
  cases r with
  | cons h t =>
  cases t
  cases h
  have ok : SetR X.w s.heap p S n := setE_at I.hok hp
  obtain ⟨o, es, ep, t, hg, hx, hd, hG, hN, hS, hb, hf, hn, hR, hl⟩ := ok
  refine call_len_set hg hx hd hf ?_ ?_
  · unfold scanBound at hb
    omega
  · refine ⟨.int n, H, ?_, ⟨_, by rw [hn]⟩, q⟩
    exact I.turnedL (h' := s.heap) (t' := s.toks + 1 + 1) (ch := []) (fun b o _ h => h) (fun b h => by cases h)

theorem vals_ints : ∀ {xs : List Int} {us : List Value}, Vals (xs.map V.int) us → (∀ v ∈ us, ∃ k tk, v = Value.int k tk) ∧ us.length = xs.length ∧ ∀ j, SX.upTo us us.length j = decide (j ∈ xs)
  | [], us, r => by
    cases r
    exact ⟨fun v h => (by cases h), rfl, fun j => (by simp [SX.upTo])⟩
  | x :: xs, us, r => by
    cases r with
    | cons h t =>
      obtain ⟨a, b, c⟩ := vals_ints t
      obtain ⟨tk, rfl⟩ := h
      refine ⟨fun v hv => ?_, by simp [b], fun j => ?_⟩
      · rcases List.mem_cons.mp hv with rfl | hv
        · exact ⟨_, _, rfl⟩
        · exact a v hv
      · have c' := c j
        unfold SX.upTo at c' ⊢
        rw [List.take_length] at c' ⊢
        rw [List.any_cons, c']
        simp only [Value.isInt, List.mem_cons]
        by_cases hj : j = x
        · subst hj; simp
        · simp [hj, Ne.symm hj]

theorem call_set_of {X : Cx} (hc : X.calm = true) : CallR X (.type "set") fun xs H Q => ∃ (p : Addr) (ys : List Int), xs = [.ref p] ∧ H p = some (.lst (ys.map V.int)) ∧ ys.length ≤ 400 ∧
    ∀ t n, H t = none → n ≤ ys.length → Q (.ref t) (upd H t (SetE X.w t (fun j => decide (j ∈ ys)) n)) := by
  intro pins s σ
  intro H xs us Q I r h
  obtain ⟨p, ys, rfl, hp, hlen, q⟩ := h
  cases r with
  | cons h t =>
  cases t
  cases h
  obtain ⟨its, hl, hv⟩ : ∃ its : List Value, s.heap.IsList p its.toArray ∧ Vals (ys.map V.int) its := by
    have ok := I.hok p _ hp
    simp only [ObjOk] at ok
    obtain ⟨_, its, n, hv, hg⟩ := ok
    exact ⟨its, ⟨_, hg, rfl, ⟨n, rfl⟩⟩, hv⟩
  obtain ⟨a, b, c⟩ := vals_ints hv
  refine SX.ofList_at (I.ok.hd hc) a (by rw [b]; unfold scanBound; omega) hl (fun h' tk hold hs => ?_)
  obtain ⟨n, hn, hs⟩ := hs
  have hnone : H s.heap.objs.size = none := I.hok.fresh (Nat.le_refl _)
  refine ⟨.ref s.heap.objs.size, _, ?_, rfl, q s.heap.objs.size n hnone (by omega)⟩
  exact I.laid hold (Nat.le_refl _) (setE_ok (hs.congr fun j => (c j).symm))

theorem op_xorS {X : Cx} : OpR X (binaryOp .BitXor) fun x y H Q => ∃ a b S T n m, x = .ref a ∧ y = .ref b ∧ H a = some (SetE X.w a S n) ∧ H b = some (SetE X.w b T m) ∧ n ≤ 400 ∧ m ≤ 400 ∧
    ∀ t k, H t = none → Q (.ref t) (upd H t (SetE X.w t (fun j => xor (S j) (T j)) k)) := by
  intro pins s σ
  intro H x y v u Q I rx ry h
  obtain ⟨a, b, S, T, n, m, rfl, rfl, ha, hb, hn, hm, q⟩ := h
  cases rx
  cases ry
  refine SX.xor_at (setE_at I.hok ha) (setE_at I.hok hb) hn hm (fun h' k hold _ hs => ?_)
  have hnone : H s.heap.objs.size = none := I.hok.fresh (Nat.le_refl _)
  refine ⟨.ref s.heap.objs.size, _, ?_, rfl, q s.heap.objs.size k hnone⟩
  exact I.laid hold (Nat.le_refl _) (setE_ok hs)

end Mi
namespace Mi
open PySem PySem.Spec L2

/-- what stands in just one of two lists -/
def xsym (xs ys : List Int) : List Int := xs.filter (fun k => decide (k ∉ ys)) ++ ys.filter (fun k => decide (k ∉ xs))
theorem xsym_mem (xs ys : List Int) (k : Int) : k ∈ xsym xs ys ↔ (xor (decide (k ∈ xs)) (decide (k ∈ ys))) = true := by
  unfold xsym
  simp only [List.mem_append, List.mem_filter, decide_eq_true_eq]
  by_cases h1 : k ∈ xs <;> by_cases h2 : k ∈ ys <;> simp [h1, h2]
theorem xsym_nodup {xs ys : List Int} (hx : xs.Nodup) (hy : ys.Nodup) : (xsym xs ys).Nodup := by
  unfold xsym
  rw [List.nodup_append]
  refine ⟨hx.filter _, hy.filter _, fun a ha b hb e => ?_⟩
  subst e
  simp only [List.mem_filter, decide_eq_true_eq] at ha hb
  exact ha.2 hb.1
theorem setR_len {w : World} {h : Heap} {a : Addr} {S : Int → Bool} {n : Nat} (hs : SetR w h a S n) {l : List Int} (hl : l.Nodup) (hm : ∀ k, k ∈ l ↔ S k = true) : n = l.length := by
  obtain ⟨o, es, ep, t, hg, hx, hd, hG, hN, hS, hb, hf, hn, hR, hld⟩ := hs
  have hp : (es.toList.map keyOf).Perm l := (List.perm_ext_iff_of_nodup hN hl).mpr fun k => by rw [hm k, hS k]
  have := hp.length_eq
  rw [List.length_map, Array.length_toList, hn] at this
  exact this

def mXl (f g : ME) : ME := fun rho m => (f rho m).bind fun p => onO ((lstOf (deref p.2 p.1)).bind intsL) fun xs =>
  if xs.length ≤ 400 ∧ xs.Nodup then (g rho p.2).bind fun q => onO ((lstOf (deref q.2 q.1)).bind intsL) fun ys =>
    if ys.length ≤ 400 ∧ ys.Nodup then .ok (.int (xsym xs ys).length, q.2) else .bad
  else .bad

/-- the length of such a set is known from its entries -/
theorem op_xorL {X : Cx} : OpR X (binaryOp .BitXor) fun x y H Q => ∃ a b xs ys n m, x = .ref a ∧ y = .ref b ∧ H a = some (SetE X.w a (fun j => decide (j ∈ xs)) n) ∧ H b = some (SetE X.w b (fun j => decide (j ∈ ys)) m) ∧ n ≤ 400 ∧ m ≤ 400 ∧ xs.Nodup ∧ ys.Nodup ∧
    ∀ t S, H t = none → Q (.ref t) (upd H t (SetE X.w t S (xsym xs ys).length)) := by
  intro pins s σ
  intro H x y v u Q I rx ry h
  obtain ⟨a, b, xs, ys, n, m, rfl, rfl, ha, hb, hn, hm, hx, hy, q⟩ := h
  cases rx
  cases ry
  refine SX.xor_at (setE_at I.hok ha) (setE_at I.hok hb) hn hm (fun h' k hold _ hs => ?_)
  have hnone : H s.heap.objs.size = none := I.hok.fresh (Nat.le_refl _)
  have hk : k = (xsym xs ys).length := setR_len hs (xsym_nodup hx hy) (xsym_mem xs ys)
  subst hk
  refine ⟨.ref s.heap.objs.size, _, ?_, rfl, q s.heap.objs.size (fun j => xor (decide (j ∈ xs)) (decide (j ∈ ys))) hnone⟩
  exact I.laid hold (Nat.le_refl _) (setE_ok hs)

section
variable {X : Cx} {W : WX} {a b : Expr} {f g : ME} {pos p0 p1 p2 p3 p4 p5 : Pos}
theorem m_xl (hc : X.calm = true) (hgl : Gl X "len") (hml : X.mg "len" = none) (hgs : Gl X "set") (hms : X.mg "set" = none) (ha : ME1 X W a f) (hb : ME1 X W b g)
    (he0 : ∀ e : Expr, starEach [.BinOp (.Call (.Name "set" p1) [a] [] p2) .BitXor (.Call (.Name "set" p3) [b] [] p4) p5] X.env = (false, eval (.BinOp (.Call (.Name "set" p1) [a] [] p2) .BitXor (.Call (.Name "set" p3) [b] [] p4) p5) X.env) :: starEach [] X.env := by exact fun _ => rfl)
    (he1 : starEach [a] X.env = (false, eval a X.env) :: starEach [] X.env := by rfl) (he2 : starEach [b] X.env = (false, eval b X.env) :: starEach [] X.env := by rfl)
    (hpl0 : (backTo pos (starEach [] X.env)).any (·.1) = false := by rfl) (hpl1 : (backTo p2 (starEach [] X.env)).any (·.1) = false := by rfl) (hpl2 : (backTo p4 (starEach [] X.env)).any (·.1) = false := by rfl) :
    ME1 X W (.Call (.Name "len" p0) [.BinOp (.Call (.Name "set" p1) [a] [] p2) .BitXor (.Call (.Name "set" p3) [b] [] p4) p5] [] pos) (mXl f g) := by
  refine weak (pe_callB len_setR hgl hml (by decide +kernel) (pa_cons (pe_op op_xorL (pe_callTy (call_set_of hc) hgs hms (by decide +kernel) (pa_cons ha pa_nil he1) (by decide) (by decide) he1 hpl1) (pe_callTy (call_set_of hc) hgs hms (by decide +kernel) (pa_cons hb pa_nil he2) (by decide) (by decide) he2 hpl2)) pa_nil (he0 a)) (by decide) (by decide) (he0 a) hpl0) fun σ H Q hh => ?_
  obtain ⟨pi, m, rho, hm, hs, p⟩ := hh
  refine ⟨pi, m, rho, hm, hs, (PostV.bind p).mono fun x H1 h1 => ?_⟩
  obtain ⟨pi1, m1, dx, st1, rm1, rx, q1⟩ := h1
  simp only at q1
  cases h3 : lstOf (deref m1 dx) with
  | none =>
    simp only [h3, Option.bind_none, onO_none] at q1
    exact q1.elim
  | some ds =>
    cases h4 : intsL ds with
    | none =>
      simp only [h3, h4, Option.bind_some, onO_none] at q1
      exact q1.elim
    | some xs =>
      simp only [h3, h4, Option.bind_some, onO_some] at q1
      obtain ⟨v, vs, rfl, hv, rs⟩ := lst_at rm1 rx h3
      have := intsL_reps rs h4
      subst this
      by_cases hx : xs.length ≤ 400 ∧ xs.Nodup
      · rw [if_pos hx] at q1
        refine ⟨v, xs, rfl, hv, hx.1, fun t n hn hle => ?_⟩
        have st2 : Stp H1 pi1 (upd H1 t (SetE X.w t (fun j => decide (j ∈ xs)) n)) pi1 := stp_new hn
        refine ⟨pi1, m1, rho, rm1.new hn, (hs.mono st1).mono st2, (PostV.bind (PostV.from st2 q1)).mono fun y H2 h2 => ?_⟩
        obtain ⟨pi2, m2, dy, st3, rm2, ry, q2⟩ := h2
        simp only at q2
        cases h5 : lstOf (deref m2 dy) with
        | none =>
          simp only [h5, Option.bind_none, onO_none] at q2
          exact q2.elim
        | some es =>
          cases h6 : intsL es with
          | none =>
            simp only [h5, h6, Option.bind_some, onO_none] at q2
            exact q2.elim
          | some ys =>
            simp only [h5, h6, Option.bind_some, onO_some] at q2
            obtain ⟨v2, vs2, rfl, hv2, rs2⟩ := lst_at rm2 ry h5
            have := intsL_reps rs2 h6
            subst this
            by_cases hy : ys.length ≤ 400 ∧ ys.Nodup
            · rw [if_pos hy] at q2
              refine ⟨v2, ys, rfl, hv2, hy.1, fun t2 n2 hn2 hle2 => ?_⟩
              have ht : H2 t = some (SetE X.w t (fun j => decide (j ∈ xs)) n) := st3.keep _ _ upd_same (rm1.fresh hn)
              have hne : t ≠ t2 := by
                intro e
                subst e
                rw [hn2] at ht
                cases ht
              refine ⟨t, t2, xs, ys, n, n2, rfl, rfl, ?_, upd_same, by omega, by omega, hx.2, hy.2, fun t3 S hn3 => ?_⟩
              · rw [upd_ne hne]
                exact ht
              · have st4 : Stp H2 pi2 (upd H2 t2 (SetE X.w t2 (fun j => decide (j ∈ ys)) n2)) pi2 := stp_new hn2
                have st5 := stp_new (pi := pi2) (o := SetE X.w t3 S (xsym xs ys).length) hn3
                refine ⟨t3, S, _, rfl, upd_same, ?_⟩
                exact q2 _ _ pi2 (st4.trans st5) ((rm2.new hn2).new hn3) (by simp only [Rep])
            · rw [if_neg hy] at q2
              exact q2.elim
      · rw [if_neg hx] at q1
        exact q1.elim
end
end Mi
namespace Mi
open PySem PySem.Spec L2
section
variable {X : Cx} {W : WX} {e a b c : Expr} {pos : Pos}
/-! ### not in a list of data -/
def ninP (m : List O) (x y : D) : Option Bool := (toPyM m x).bind fun p => match toPyM m y with
  | some (.list ds) => if SeqAt.shaped p = true ∧ SeqAt.shaped (.list ds) = true then some (!(ds.any fun z => PyData.eqv z p)) else none
  | _ => none
def gNIn : G2 := fun m x y => (ninP m x y).map .bl
theorem o_nin (hu : X.A.units + 65 < cLine) : OpM X (compareOp .NotIn) gNIn := opm_of (op_notInD hu) fun pi m dx dy d x y H Q hm hx hy e q => by
  unfold gNIn at e
  cases h : ninP m dx dy with
  | none =>
    rw [h] at e
    cases e
  | some k =>
    rw [h] at e
    cases e
    unfold ninP at h
    cases h1 : toPyM m dx with
    | none =>
      rw [h1] at h
      cases h
    | some p =>
      rw [h1, Option.bind_some] at h
      cases h2 : toPyM m dy with
      | none =>
        rw [h2] at h
        cases h
      | some r =>
        rw [h2] at h
        cases r with
        | list ds =>
          simp only at h
          by_cases hs : SeqAt.shaped p = true ∧ SeqAt.shaped (.list ds) = true
          · rw [if_pos hs] at h
            cases h
            exact ⟨p, ds, dpM_of hm hx h1, dpM_of hm hy h2, hs.1, hs.2, q _ H Stp.refl hm (by simp only [Rep])⟩
          · rw [if_neg hs] at h
            cases h
        | _ => cases h
def bMax : GB := fun _ ds => (two ds).bind fun p => (intOf p.1).bind fun i => (intOf p.2).map fun j => .int (if j > i then j else i)
theorem c_max (hc : X.calm = true) : CallM X (.builtin "max") bMax := fun pins s σ H xs us Q I r h => by
  obtain ⟨pi, m, ds, d, hm, hx, e, q⟩ := h
  unfold bMax at e
  cases h1 : two ds with
  | none =>
    rw [h1] at e
    cases e
  | some p =>
    obtain ⟨d1, d2⟩ := p
    rw [h1, Option.bind_some] at e
    have := two_of h1
    subst this
    obtain ⟨v, w, rfl, r1, r2⟩ := reps_two hx
    simp only at e
    cases h2 : intOf d1 with
    | none =>
      rw [h2] at e
      cases e
    | some i =>
      cases h3 : intOf d2 with
      | none =>
        rw [h2, h3] at e
        cases e
      | some j =>
        rw [h2, h3] at e
        cases e
        obtain rfl := rep_int r1 h2
        obtain rfl := rep_int r2 h3
        exact call_max2 hc pins s σ H _ us Q I r ⟨i, j, rfl, q _ H Stp.refl hm (by simp only [Rep])⟩
end
end Mi
namespace Mi
open PySem PySem.Spec L2
section
variable {X : Cx} {W : WX} {a b c : Expr} {pos : Pos}
/-! ### x, y, z = a, b, c -/
def mPar3 (i j k : Nat) (f : MA) : MS := fun rho m => onR (f rho m) rho fun ds m => match ds with
  | [d, d', d2] => .nx (((rho.set i (some d)).set j (some d')).set k (some d2)) m
  | _ => .bad
theorem s_par3 {i j k : Nat} {x y z : Str} {f : MA} {px py pz pt : Pos} {kt k2 pt2} (hc : X.calm = true) (hN : X.N.Nodup) (hi : X.N[i]? = some x) (hj : X.N[j]? = some y) (hk : X.N[k]? = some z) (hij : i ≠ j) (hik : i ≠ k) (hjk : j ≠ k)
    (hx : X.env.scope.names.lookup x = some .local) (hy : X.env.scope.names.lookup y = some .local) (hz : X.env.scope.names.lookup z = some .local) (ha : MA1 X W [a, b, c] f) (hw : swappedStores [.Tuple [.Name x px, .Name y py, .Name z pz] kt pt] (.Tuple [a, b, c] k2 pt2) X.env = pure (some [x, y, z]))
    (hsw : swapsWithSole [.Tuple [.Name x px, .Name y py, .Name z pz] kt pt] (.Tuple [a, b, c] k2 pt2) pos.line X.env = pure false := by rfl) :
    MS1 X W (.Assign [.Tuple [.Name x px, .Name y py, .Name z pz] kt pt] (.Tuple [a, b, c] k2 pt2) pos) (mPar3 i j k f) := by
  refine weakS (ps_par3 hc hN hi hj hk hij hik hjk hx hy hz ha hw hsw) fun σ H Z hh => ?_
  obtain ⟨pi, m, rho, hm, hs, p⟩ := hh
  refine ⟨pi, m, rho, hm, hs, (post_onA hs p).mono fun vs H1 h1 => ?_⟩
  obtain ⟨pi1, m1, ds, st1, rm1, r, p1⟩ := h1
  match ds, r, p1 with
  | [d, d', d2], r, p1 =>
    simp only [Reps] at r
    obtain ⟨v, r1', rfl, q1, w, r2', rfl, q2, u, r3', rfl, q3, rfl⟩ := r
    exact ⟨v, w, u, rfl, p1 _ H1 pi1 Stp.refl rm1 ((((hs.mono st1).set i q1).set j q2).set k q3)⟩
  | [], r, p1 => exact p1.elim
  | [_], r, p1 => exact p1.elim
  | [_, _], r, p1 => exact p1.elim
  | _ :: _ :: _ :: _ :: _, r, p1 => exact p1.elim
def kPar3 (i j k : Nat) (rho : List (Option D)) (ds : List D) (m : List O) : Fl := match ds with
  | [d, d', d2] => .nx (((rho.set i (some d)).set j (some d')).set k (some d2)) m
  | _ => .bad
theorem mPar3_e {i j k : Nat} {fa : MA} {rho : List (Option D)} {m : List O} : mPar3 i j k fa rho m = onR (fa rho m) rho (kPar3 i j k rho) := rfl
theorem kPar3_e {i j k : Nat} {d e g : D} {rho : List (Option D)} {m : List O} : kPar3 i j k rho [d, e, g] m = .nx (((rho.set i (some d)).set j (some e)).set k (some g)) m := rfl

/-! ### in a list of data -/
def inLP (m : List O) (x y : D) : Option Bool := (toPyM m x).bind fun p => match toPyM m y with
  | some (.list ds) => if SeqAt.shaped p = true ∧ SeqAt.shaped (.list ds) = true then some (ds.any fun z => PyData.eqv z p) else none
  | _ => none
def gInL : G2 := fun m x y => (inLP m x y).map .bl
theorem o_inL (hu : X.A.units + 65 < cLine) : OpM X (compareOp .In) gInL := opm_of (op_inD hu) fun pi m dx dy d x y H Q hm hx hy e q => by
  unfold gInL at e
  cases h : inLP m dx dy with
  | none =>
    rw [h] at e
    cases e
  | some k =>
    rw [h] at e
    cases e
    unfold inLP at h
    cases h1 : toPyM m dx with
    | none =>
      rw [h1] at h
      cases h
    | some p =>
      rw [h1, Option.bind_some] at h
      cases h2 : toPyM m dy with
      | none =>
        rw [h2] at h
        cases h
      | some r =>
        rw [h2] at h
        cases r with
        | list ds =>
          simp only at h
          by_cases hs : SeqAt.shaped p = true ∧ SeqAt.shaped (.list ds) = true
          · rw [if_pos hs] at h
            cases h
            exact ⟨p, ds, dpM_of hm hx h1, dpM_of hm hy h2, hs.1, hs.2, q _ H Stp.refl hm (by simp only [Rep])⟩
          · rw [if_neg hs] at h
            cases h
        | _ => cases h
end
end Mi
namespace Mi
open PySem PySem.Spec L2 PyProof.Rows
def strOf : D → Option Str
  | .str s => some s
  | _ => none
def strsOf : List D → Option (List Str)
  | [] => some []
  | d :: ds => (strOf d).bind fun s => (strsOf ds).map fun ss => s :: ss
section
variable {K : PySem.W.Frag} {mg : Str → Option Value} {H : Hp} {pi : List Addr}
theorem rep_str {d : D} {v : V} {s : Str} (r : Rep K mg H pi d v) (e : strOf d = some s) : v = .str s := by
  cases d with
  | str x =>
    simp only [Rep] at r
    cases e
    exact r
  | _ => cases e
theorem reps_str : ∀ {ds : List D} {vs : List V} {ss : List Str}, Reps K mg H pi ds vs → strsOf ds = some ss → vs = ss.map V.str
  | [], vs, ss, r, e => by
    simp only [Reps] at r
    cases e
    exact r
  | d :: ds, vs, ss, r, e => by
    simp only [Reps] at r
    obtain ⟨v, w, rfl, r1, r2⟩ := r
    simp only [strsOf] at e
    cases h1 : strOf d with
    | none => rw [h1] at e; cases e
    | some s =>
      rw [h1] at e
      cases h2 : strsOf ds with
      | none => rw [h2] at e; cases e
      | some ss' =>
        rw [h2] at e
        cases e
        rw [List.map_cons, rep_str r1 h1, reps_str r2 h2]
theorem str_reps : ∀ ss : List Str, Reps K mg H pi (ss.map D.str) (ss.map V.str)
  | [] => reps_nil
  | s :: ss => reps_cons (by simp only [Rep]) (str_reps ss)
end
section
variable {X : Cx} {W : WX} {e a b c o : Expr} {pos : Pos}
/-! ### str(i), int(x) -/
def bStr : GB := fun _ ds => (one ds).bind fun d => (intOf d).bind fun i => if i.natAbs.log2 < 1920 then some (.str (toString i)) else none
theorem c_str : CallM X (.type "str") bStr := fun pins s σ H xs us Q I r h => by
  obtain ⟨pi, m, ds, d, hm, hx, e, q⟩ := h
  unfold bStr at e
  cases h1 : one ds with
  | none => rw [h1] at e; cases e
  | some d1 =>
    rw [h1, Option.bind_some] at e
    cases h2 : intOf d1 with
    | none => rw [h2] at e; cases e
    | some i =>
      rw [h2, Option.bind_some] at e
      by_cases hl : i.natAbs.log2 < 1920
      · rw [if_pos hl] at e
        cases e
        have := one_of h1
        subst this
        obtain ⟨v, rfl, r1⟩ := reps_one hx
        obtain rfl := rep_int r1 h2
        exact call_str_int pins s σ H _ us Q I r ⟨i, rfl, hl, q _ H Stp.refl hm (by simp only [Rep])⟩
      · rw [if_neg hl] at e
        cases e
def bIntA : GB := fun m ds => (one ds).bind fun d => match d with
  | .str s => if s.length ≤ 640 then (PySem.intText? s).map .int else none
  | d => bInt m [d]
theorem c_intA : CallM X (.type "int") bIntA := fun pins s σ H xs us Q I r h => by
  obtain ⟨pi, m, ds, d, hm, hx, e, q⟩ := h
  unfold bIntA at e
  cases h1 : one ds with
  | none => rw [h1] at e; cases e
  | some d1 =>
    rw [h1, Option.bind_some] at e
    have := one_of h1
    subst this
    have old : bInt m [d1] = some d → CallR X (.type "int") (rMB X.K X.mg bInt) → wpAny (model X.prog X.w) X.A (call (.type "int") us) (EP X pins σ Q) X.xe s := fun e' f => f pins s σ H xs us Q I r ⟨pi, m, [d1], d, hm, hx, e', q⟩
    cases d1 with
    | str z =>
      simp only at e
      by_cases hl : z.length ≤ 640
      · rw [if_pos hl] at e
        cases h2 : PySem.intText? z with
        | none => rw [h2] at e; cases e
        | some n =>
          rw [h2] at e
          cases e
          obtain ⟨v, rfl, r1⟩ := reps_one hx
          simp only [Rep] at r1
          subst r1
          exact call_int_str pins s σ H _ us Q I r ⟨z, n, rfl, h2, hl, q _ H Stp.refl hm (by simp only [Rep])⟩
      · rw [if_neg hl] at e
        cases e
    | _ => exact old e c_int
/-! ### texts one behind the other -/
def gAddS : G2 := fun _ x y => match x, y with
  | .str s, .str t => if s.length + t.length ≤ small then some (.str (s ++ t)) else none
  | _, _ => none
theorem o_addS : OpM X (binaryOp .Add) gAddS := opm_of op_add_str fun pi m dx dy d x y H Q hm hx hy e q => by
  unfold gAddS at e
  split at e
  · rename_i s t
    by_cases h : s.length + t.length ≤ small
    · rw [if_pos h] at e
      cases e
      simp only [Rep] at hx hy
      exact ⟨s, t, hx, hy, sz h, q _ H Stp.refl hm (by simp only [Rep])⟩
    · rw [if_neg h] at e
      cases e
  · cases e
def gAddX : G2 := fun m x y => match x, y with
  | .str s, .str t => gAddS m (.str s) (.str t)
  | x, y => gAdd m x y
theorem o_addX (ha : OpM X (binaryOp .Add) gAdd) : OpM X (binaryOp .Add) gAddX := opm_or o_addS ha fun m x y d h => by
  unfold gAddX at h
  split at h
  · exact .inl h
  · exact .inr h
/-! ### sep.join(list), text.split(sep) -/
def mJoin (fo fe : ME) : ME := fun rho m => (fo rho m).bind fun p => onO (strOf p.1) fun sep => (fe rho p.2).bind fun q => onO ((lstOf (deref q.2 q.1)).bind strsOf) fun ys =>
  if (ys.map (·.length)).sum + ys.length * sep.length ≤ 16777216 then .ok (.str (Txt.join sep ys), q.2) else .bad
theorem m_join {fo fe : ME} {apos : Pos} (ho : ME1 X W o fo) (he : ME1 X W e fe) (hs : starEach [e] X.env = [(false, eval e X.env)] := by rfl) (hbase : attributeBase o "join" X.env (eval o X.env) = eval o X.env := by rfl) (hline : (apos.endLine == pos.line) = true := by rfl) :
    ME1 X W (.Call (.Attribute o "join" apos) [e] [] pos) (mJoin fo fe) := by
  refine weak (pe_join ho he hs hbase hline) fun σ H Q hh => ?_
  obtain ⟨pi, m, rho, hm, hs, p⟩ := hh
  refine ⟨pi, m, rho, hm, hs, (PostV.bind p).mono fun x H1 h1 => ?_⟩
  obtain ⟨pi1, m1, d, st1, rm1, r, p1⟩ := h1
  cases hz : strOf d with
  | none =>
    simp only [hz] at p1
    exact p1.elim
  | some sep =>
    simp only [hz, onO_some] at p1
    refine ⟨⟨sep, rep_str r hz⟩, pi1, m1, rho, rm1, hs.mono st1, (PostV.bind p1).mono fun y H2 h2 => ?_⟩
    obtain ⟨pi2, m2, dy, st2, rm2, ry, p2⟩ := h2
    cases hy : lstOf (deref m2 dy) with
    | none =>
      simp only [hy, Option.bind_none] at p2
      exact p2.elim
    | some ds =>
      cases hq : strsOf ds with
      | none =>
        simp only [hy, Option.bind_some, hq] at p2
        exact p2.elim
      | some ys =>
        simp only [hy, Option.bind_some, hq, onO_some] at p2
        by_cases hc : (ys.map (·.length)).sum + ys.length * sep.length ≤ 16777216
        · rw [if_pos hc] at p2
          obtain ⟨ad, vs, rfl, hH, rs⟩ := lst_at rm2 ry hy
          have := reps_str rs hq
          subst this
          exact ⟨sep, ad, ys, rep_str r hz, rfl, .inl (.inl (.inl hH)), hc, p2.here rm2 (by simp only [Rep])⟩
        · rw [if_neg hc] at p2
          exact p2.elim
def mSplit (fo fe : ME) : ME := fun rho m => (fo rho m).bind fun p => onO (strOf p.1) fun z => (fe rho p.2).bind fun q => onO (strOf q.1) fun sep =>
  if (sep.length == 0) = false ∧ z.length ≤ small then .ok (.lst ((Txt.split z sep).map D.str), q.2) else .bad
theorem m_split {fo fe : ME} {apos : Pos} (ho : ME1 X W o fo) (he : ME1 X W e fe) (hs : starEach [e] X.env = [(false, eval e X.env)] := by rfl) (hbase : attributeBase o "split" X.env (eval o X.env) = eval o X.env := by rfl) (hline : (apos.endLine == pos.line) = true := by rfl) :
    ME1 X W (.Call (.Attribute o "split" apos) [e] [] pos) (mSplit fo fe) := by
  refine weak (pe_split ho he hs hbase hline) fun σ H Q hh => ?_
  obtain ⟨pi, m, rho, hm, hs, p⟩ := hh
  refine ⟨pi, m, rho, hm, hs, (PostV.bind p).mono fun x H1 h1 => ?_⟩
  obtain ⟨pi1, m1, d, st1, rm1, r, p1⟩ := h1
  cases hz : strOf d with
  | none =>
    simp only [hz] at p1
    exact p1.elim
  | some z =>
    simp only [hz, onO_some] at p1
    refine ⟨⟨z, rep_str r hz⟩, pi1, m1, rho, rm1, hs.mono st1, (PostV.bind p1).mono fun y H2 h2 => ?_⟩
    obtain ⟨pi2, m2, dy, st2, rm2, ry, p2⟩ := h2
    cases hy : strOf dy with
    | none =>
      simp only [hy] at p2
      exact p2.elim
    | some sep =>
      simp only [hy, onO_some] at p2
      by_cases hc : (sep.length == 0) = false ∧ z.length ≤ small
      · rw [if_pos hc] at p2
        refine ⟨z, sep, rep_str r hz, by rw [rep_str ry hy], hc.1, ?_, fun q n => ?_⟩
        · have : small + 2 ≤ sizeLine := by decide
          have := hc.2
          omega
        · exact p2 (.ref q) _ pi2 (stp_new n) (rm2.new n) (by simp only [Rep]; exact ⟨q, _, rfl, rm2.fresh n, upd_same, str_reps _⟩)
      · rw [if_neg hc] at p2
        exact p2.elim
/-! ### f'..' -/
def mFmt (f : ME) : ME := fun rho m => (f rho m).bind fun p => match p.1 with
  | .str y => if y.length ≤ small then .ok (.str y, p.2) else .bad
  | .int i => if i.natAbs.log2 < 1920 then .ok (.str (toString i), p.2) else .bad
  | _ => .bad
theorem m_fmt {f : ME} (he : ME1 X W e f) : ME1 X W (.FormattedValue e (-1) none pos) (mFmt f) := by
  refine weak (pe_fmt he) fun σ H Q hh => ?_
  obtain ⟨pi, m, rho, hm, hs, p⟩ := hh
  refine ⟨pi, m, rho, hm, hs, (PostV.bind p).mono fun x H1 h1 => ?_⟩
  obtain ⟨pi1, m1, d, st1, rm1, r, p1⟩ := h1
  cases d with
  | str y =>
    simp only at p1
    by_cases hl : y.length ≤ small
    · rw [if_pos hl] at p1
      simp only [Rep] at r
      exact .inl ⟨y, r, sz hl, p1.here rm1 (by simp only [Rep])⟩
    · rw [if_neg hl] at p1
      exact p1.elim
  | int i =>
    simp only at p1
    by_cases hl : i.natAbs.log2 < 1920
    · rw [if_pos hl] at p1
      simp only [Rep] at r
      exact .inr ⟨i, r, hl, p1.here rm1 (by simp only [Rep])⟩
    · rw [if_neg hl] at p1
      exact p1.elim
  | _ => exact p1.elim
def mJs : List ME → Str → ME
  | [], acc => fun _ m => .ok (.str acc, m)
  | f :: fs, acc => fun rho m => (f rho m).bind fun p => onO (strOf p.1) fun y => if (acc ++ y).length ≤ small then mJs fs (acc ++ y) rho p.2 else .bad
def MJ1 (X : Cx) (W : WX) (es : List Expr) (fs : List ME) : Prop := ∃ ts, PJ X es ts ∧ ∀ (acc : Str) (σ : L2.St) (H : Hp) (Q : Str → Hp → Prop), tE X.K X.mg W (mJs fs acc) σ H (fun v H1 => ∃ out, v = .str out ∧ Q out H1) → tJs ts acc σ H Q
theorem j_nil : MJ1 X W [] [] := ⟨[], .nil, fun acc σ H Q h => by
  obtain ⟨pi, m, rho, hm, hs, p⟩ := h
  obtain ⟨out, e, q⟩ := p (.str acc) H pi Stp.refl hm (by simp only [Rep])
  cases e
  exact q⟩
theorem j_cons {es : List Expr} {f : ME} {fs : List ME} (he : ME1 X W e f) (hr : MJ1 X W es fs) : MJ1 X W (e :: es) (f :: fs) := by
  obtain ⟨ts, pj, q⟩ := hr
  refine ⟨_ :: ts, .cons he pj, fun acc σ H Q h => ?_⟩
  obtain ⟨pi, m, rho, hm, hs, p⟩ := h
  have p : PostV X.K X.mg (fun c d H' => W c d σ H') H pi (fun v H1 => ∃ out, v = .str out ∧ Q out H1) ((f rho m).bind fun p => onO (strOf p.1) fun y => if (acc ++ y).length ≤ small then mJs fs (acc ++ y) rho p.2 else .bad) := p
  refine ⟨pi, m, rho, hm, hs, (PostV.bind p).mono fun x H1 h1 => ?_⟩
  obtain ⟨pi1, m1, d, st1, rm1, r, p1⟩ := h1
  cases hz : strOf d with
  | none =>
    simp only [hz] at p1
    exact p1.elim
  | some y =>
    simp only [hz, onO_some] at p1
    by_cases hl : (acc ++ y).length ≤ small
    · rw [if_pos hl] at p1
      exact ⟨y, rep_str r hz, sz hl, q _ σ H1 Q ⟨pi1, m1, rho, rm1, hs.mono st1, p1⟩⟩
    · rw [if_neg hl] at p1
      exact p1.elim
theorem m_joined {v1 v2 : Expr} {rest : List Expr} {fs : List ME} (h : MJ1 X W (v1 :: v2 :: rest) fs) : ME1 X W (.JoinedStr (v1 :: v2 :: rest) pos) (mJs fs Str.empty) := by
  obtain ⟨ts, pj, q⟩ := h
  refine weak (pe_joined pj) fun σ H Q hh => ?_
  refine q Str.empty σ H _ ?_
  obtain ⟨pi, m, rho, hm, hs, p⟩ := hh
  have only : ∀ {r : RE}, (∀ d m', r = .ok (d, m') → ∃ s, d = .str s) → PostV X.K X.mg (fun c d H' => W c d σ H') H pi Q r → PostV X.K X.mg (fun c d H' => W c d σ H') H pi (fun v H1 => ∃ out, v = .str out ∧ Q (.str out) H1) r := fun {r} hr pr => by
    match r, hr, pr with
    | .ok (d, m'), hr, pr =>
      obtain ⟨s, rfl⟩ := hr d m' rfl
      intro v H' pi' st rm rv
      have rv' := rv
      simp only [Rep] at rv'
      subst rv'
      exact ⟨s, rfl, pr _ H' pi' st rm rv⟩
    | .er x m', hr, pr => exact pr
  have shape : ∀ (fs : List ME) (acc : Str) (rho : List (Option D)) (m : List O) (d : D) (m' : List O), mJs fs acc rho m = .ok (d, m') → ∃ s, d = .str s := fun fs => by
    induction fs with
    | nil =>
      intro acc rho m d m' e
      cases e
      exact ⟨acc, rfl⟩
    | cons f fs ih =>
      intro acc rho m d m' e
      unfold mJs at e
      cases hf : f rho m with
      | er x m1 => rw [hf] at e; cases e
      | bad => rw [hf] at e; cases e
      | ok q =>
        rw [hf, R.bind_ok] at e
        cases hz : strOf q.1 with
        | none => rw [hz] at e; cases e
        | some y =>
          rw [hz, onO_some] at e
          by_cases hl : (acc ++ y).length ≤ small
          · rw [if_pos hl] at e
            exact ih _ _ _ _ _ e
          · rw [if_neg hl] at e
            cases e
  exact ⟨pi, m, rho, hm, hs, only (shape fs Str.empty rho m) p⟩
/-! ### list * int: a new list -/
def mRepL (f g : ME) : ME := fun rho m => (f rho m).bind fun p => (g rho p.2).bind fun q => onO (lstOf (deref q.2 p.1)) fun xs => onO (intOf q.1) fun k =>
  if k ≤ 1000 ∧ xs.length ≤ 1000 ∧ -1000 ≤ k ∧ xs.length * k.toNat ≤ small ∧ fzs xs = true then .ok (.loc q.2.length, q.2 ++ [.lst (List.replicate k.toNat xs).flatten]) else .bad
theorem fzs_flat : ∀ (n : Nat) (xs : List D), fzs xs = true → fzs (List.replicate n xs).flatten = true
  | 0, xs, _ => rfl
  | n + 1, xs, h => by
    rw [(List.replicate_succ), List.flatten_cons]
    exact fzs_app xs _ h (fzs_flat n xs h)
theorem Reps.flat {K : PySem.W.Frag} {mg : Str → Option Value} {H : Hp} {pi : List Addr} {xs : List D} {vs : List V} (r : Reps K mg H pi xs vs) : ∀ n : Nat, Reps K mg H pi (List.replicate n xs).flatten (List.replicate n vs).flatten
  | 0 => reps_nil
  | n + 1 => by
    rw [List.replicate_succ, List.flatten_cons, List.replicate_succ, List.flatten_cons]
    exact r.append (Reps.flat r n)
theorem m_repL {f g : ME} (ha : ME1 X W a f) (hb : ME1 X W b g) : ME1 X W (.BinOp a .Mult b pos) (mRepL f g) := by
  refine weak (pe_op op_rep ha hb) fun σ H Q h => ?_
  obtain ⟨pi, m, rho, hm, hs, p⟩ := h
  refine ⟨pi, m, rho, hm, hs, (PostV.bind p).mono fun x H1 h1 => ?_⟩
  obtain ⟨pi1, m1, dx, st1, rm1, rx, p1⟩ := h1
  refine ⟨pi1, m1, rho, rm1, hs.mono st1, (PostV.bind p1).mono fun y H2 h2 => ?_⟩
  obtain ⟨pi2, m2, dy, st2, rm2, ry, p2⟩ := h2
  simp only at p2
  cases h3 : lstOf (deref m2 dx) with
  | none =>
    simp only [h3] at p2
    exact p2.elim
  | some xs =>
    cases h4 : intOf dy with
    | none =>
      simp only [h3, h4, onO_some] at p2
      exact p2.elim
    | some k =>
      simp only [h3, h4, onO_some] at p2
      by_cases hc : k ≤ 1000 ∧ xs.length ≤ 1000 ∧ -1000 ≤ k ∧ xs.length * k.toNat ≤ small ∧ fzs xs = true
      · rw [if_pos hc] at p2
        obtain ⟨a1, vs, rfl, q1, rs⟩ := lst_at rm2 (Rep.mono st2 _ _ rx) h3
        obtain rfl := rep_int ry h4
        refine ⟨a1, k, vs, rfl, rfl, q1, by omega, by omega, sz (by rw [← rs.length]; exact hc.2.2.2.1), fun t n => ?_⟩
        obtain ⟨st, rm⟩ := rm2.alloc (o := .lst (List.replicate k.toNat vs).flatten) (u := .lst (List.replicate k.toNat xs).flatten) n (fzs_flat _ _ hc.2.2.2.2) ⟨_, upd_same, (Reps.flat rs _).mono (stp_alloc n)⟩
        exact p2 (.ref t) _ _ st rm (by simp only [Rep]; exact ⟨t, rfl, by rw [← rm2.len]; exact last_get _ _⟩)
      · rw [if_neg hc] at p2
        exact p2.elim
/-! ### a list's slice: a new list that nothing changes -/
def mSlL (f : ME) (fl fh : MO) : ME := fun rho m => (f rho m).bind fun p => (fl rho p.2).bind fun q => (fh rho q.2).bind fun r => onO (lstOf (deref r.2 p.1)) fun ds => .ok (.lst (cutD ds q.1 r.1), r.2)
end
end Mi
namespace Mi
open PySem PySem.Spec L2 PyProof.Rows
section
variable {X : Cx} {W : WX} {e a b c : Expr} {pos : Pos}
/-! ### enumerate(list, start = k) -/
def IteL (K : PySem.W.Frag) (a : Addr) (c : Int) : It :=
  ⟨fun i H => ∃ (xs : List V) (x : V), SqL K H a xs ∧ xs[i]? = some x, fun i H v H' => ∃ T x, v = .ref T ∧ H T = none ∧ H' = upd H T (.tup [.int (c + (i : Nat)), x]) ∧ ∀ xs, SqL K H a xs → xs[i]? = some x, fun i H => ∃ xs : List V, SqL K H a xs ∧ xs.length = i⟩
/-- the enumerate object e stands over the tuple's iterator it: i pairs have been drawn -/
structure EnL (a e it : Addr) (c : Int) (i : Nat) (h : Heap) : Prop where
  own : ∃ w, IsEnum h e it (c + (i : Nat)) w
  under : h.IsListIter it a i
  two : e ≠ it
section
variable {a e it : Addr} {c : Int} {i : Nat} {h : Heap} {items : Array Value}
theorem EnL.either (t : EnL a e it c i h) : (∃ o, h.get? e = some o ∧ ∀ v, o.data ≠ .cell v) ∧ ∃ o, h.get? it = some o ∧ ∀ v, o.data ≠ .cell v := by
  have ⟨w, own⟩ := t.own
  have ⟨cell, at_, _, shape⟩ := t.under
  exact ⟨⟨_, own, fun _ no => by cases no⟩, cell, at_, fun _ no => by
    rw [shape] at no
    cases no⟩
theorem EnL.later {h' : Heap} (t : EnL a e it c i h) (ke : ∀ o, h.get? e = some o → h'.get? e = some o) (ki : ∀ o, h.get? it = some o → h'.get? it = some o) : EnL a e it c i h' :=
  ⟨t.own.imp fun _ own => ke _ own, t.under.at ki, t.two⟩
theorem EnL.lt (t : EnL a e it c i h) : e < h.objs.size ∧ it < h.objs.size := by
  have ⟨_, own⟩ := t.own
  have ⟨_, at_, _⟩ := t.under
  exact ⟨Heap.lt_size own, Heap.lt_size at_⟩
/-- what is a tuple is neither of the two -/
theorem EnL.apart (t : EnL a e it c i h) (isT : h.IsList a items) : e ≠ a ∧ a ≠ it := by
  have ⟨_, own⟩ := t.own
  have ⟨_, at_, cls, _⟩ := t.under
  have ⟨_, atT, clsT, _⟩ := isT
  constructor <;> intro same
  · rw [← same, own] at atT
    cases atT
    revert clsT
    intro no
    injection no with no
    revert no
    decide
  · rw [same, at_] at atT
    cases atT
    rw [cls] at clsT
    injection clsT with no
    revert no
    decide
end
theorem turn_enumL {P : Program} {w : World} {K : PySem.W.Frag} {elts : List Expr} {kk : Nat} {tpos : Pos} (a e it : Addr) (c : Int) :
    Turn P w K (.Tuple elts kk tpos) (IteL K a c) [e, it] e (EnL a e it c) where
  mem := List.mem_cons_self
  obj := fun i h t b here => by
    simp only [List.mem_cons, List.not_mem_nil, or_false] at here
    rcases here with rfl | rfl
    · exact t.either.1
    · exact t.either.2
  keep := fun i h h' t same => t.later (same e List.mem_cons_self) (same it (List.mem_cons_of_mem _ List.mem_cons_self))
  item := by
    intro X eP ew eK calm i pins s σ H E inv frame t ⟨xs, x, seq, atx⟩
    cases eP
    cases ew
    cases eK
    have ⟨items, vals, plain, _⟩ := inv.list seq
    have isT := plain.isList
    have ⟨val, atv, rel⟩ := vals.get atx
    have ⟨ae, ai⟩ := t.apart isT
    have ⟨_, own⟩ := t.own
    have inside : i < items.toArray.size := by
      rw [List.size_toArray]
      exact (List.getElem?_eq_some_iff.mp atv).choose
    have quiet : X.A.in1.handled = none := inv.ok.hd calm
    refine wpAny_pyNext_enum_itemC (Draws.list quiet it a ai items.toArray) own ⟨t.under, isT⟩ inside t.two (by simp only [List.mem_cons, List.not_mem_nil, or_false, not_or]; exact ⟨t.two, ae⟩) fun y mid tk drawn out stands pair grown rest => ?_
    have ey : y = val := by
      have d1 : items.toArray[i]? = some y := drawn
      rw [List.getElem?_toArray, atv] at d1
      exact (Option.some.inj d1).symm
    rw [ey] at out pair
    refine ⟨_, rfl, wpAny_letOwnedTupleGo_enum (s := { s with heap := mid, toks := tk + 1 }) (ey ▸ out) fun last own2 but => ?_⟩
    have pair2 := (but.2 _ (Nat.ne_of_gt t.lt.1)).trans pair
    have fresh : ObjOk X.prog X.w (upd H s.heap.objs.size (.tup [.int (c + (i : Nat)), x])) last s.heap.objs.size (.tup [.int (c + (i : Nat)), x]) :=
      ⟨(by decide : 2 ≤ sizeLine), _, .cons ⟨_, rfl⟩ (.cons rel .nil), _, pair2, rfl, _, rfl⟩
    have inv2 : Inv X pins σ (upd H s.heap.objs.size (.tup [.int (c + (i : Nat)), x])) { s with heap := last, toks := tk + 1 } := by
      refine inv.turnedNew (ch := [e, it]) (fun b o far at_ => ?_) frame (Nat.le_refl _) fresh
      have be : b ≠ e := fun z => far (z ▸ List.mem_cons_self)
      have bi : b ≠ it := fun z => far (z ▸ List.mem_cons_of_mem _ List.mem_cons_self)
      exact (but.2 b be).trans (rest b o be bi at_)
    refine ⟨.ref s.heap.objs.size, _, inv2, rfl, ⟨_, x, rfl, inv.hok.fresh (Nat.le_refl _), rfl, fun zs seq2 => inv.list_inj seq2 seq ▸ atx⟩, ⟨⟨val, ?_⟩, stands.1.at fun o q => (but.2 it (Ne.symm t.two)).trans q, t.two⟩, fun b here => ?_⟩
    · rw [show c + ((i + 1 : Nat) : Int) = c + (i : Int) + 1 by omega]
      exact ey ▸ own2
    · have low : b < s.heap.objs.size := by
        simp only [List.mem_cons, List.not_mem_nil, or_false] at here
        rcases here with rfl | rfl
        · exact t.lt.1
        · exact t.lt.2
      exact (upd_ne (Nat.ne_of_lt low)).trans (frame b here).1
  done := by
    intro X eP ew eK calm i pins s σ H E inv frame t ⟨xs, seq, long⟩
    cases eP
    cases ew
    cases eK
    have ⟨items, vals, plain, _⟩ := inv.list seq
    have isT := plain.isList
    have ⟨g0, g1, _, g3, g4, g5⟩ := frame it (List.mem_cons_of_mem _ List.mem_cons_self)
    have ⟨_, own⟩ := t.own
    have all : items.toArray.size = i := by rw [List.size_toArray, ← vals.length, long]
    have quiet : X.A.in1.handled = none := inv.ok.hd calm
    exact wpAny_pyNext_enum_endD (Draws.list quiet it a (t.apart isT).2 items.toArray) own ⟨all.symm ▸ t.under, isT⟩ fun h' but => ⟨rfl, inv.turned (t' := s.toks) (fun b o far at_ => but b o far at_) g0 g1 g3 g4 g5⟩
  self := fun A i s Q E t won => by
    have ⟨_, own⟩ := t.own
    exact wpAny_pyIter_enum own won
/-- the iterator has come -/
theorem enum_comeL {pins : List (Addr × Obj)} {s : Shared} {σ : L2.St} {H : Hp} {R : It → Hp → Prop} {elts : List Expr} {kk : Nat} {tpos : Pos} {a : Addr} {c : Int} {hp : Heap} (inv : Inv X pins σ H s)
    (own : IsEnum hp (s.heap.objs.size + 1) s.heap.objs.size c .none) (under : hp.IsListIter s.heap.objs.size a 0) (old : ∀ b o, s.heap.get? b = some o → hp.get? b = some o) (won : R (IteL X.K a c) H) :
    wpAny (model X.prog X.w) X.A (pyIter (.ref (s.heap.objs.size + 1))) (PIE X pins σ (.Tuple elts kk tpos) R) X.xe { s with heap := hp } := by
  have t : EnL a (s.heap.objs.size + 1) s.heap.objs.size c 0 hp := ⟨⟨.none, by rw [show c + ((0 : Nat) : Int) = c by omega]; exact own⟩, under, Nat.succ_ne_self _⟩
  have high : ∀ b ∈ [s.heap.objs.size + 1, s.heap.objs.size], s.heap.objs.size ≤ b := fun b here => by
    simp only [List.mem_cons, List.not_mem_nil, or_false] at here
    omega
  exact wpAny_pyIter_enum own ⟨s.heap.objs.size + 1, [s.heap.objs.size + 1, s.heap.objs.size], _, _, H, rfl, inv.kept (t' := s.toks) old, turn_enumL a (s.heap.objs.size + 1) s.heap.objs.size c, t, fun b here => inv.fpOk (high b here) (inv.hok.fresh (high b here)), won⟩
theorem pi_enumLK {ta : TE} {p tpos ip kp : Pos} {j : Nat} {c : Int} {elts : List Expr} {kk : Nat} (hg : Gl X "enumerate") (hm : X.mg "enumerate" = none) (ha : PE X e ta) (hc0 : -(2 ^ 62) ≤ c) (hc1 : c < 2 ^ 62)
    (hs2 : starEach [e] X.env = (false, eval e X.env) :: starEach [] X.env := by rfl) (he : backTo pos (starEach [e] X.env) = (false, eval e X.env) :: backTo pos (starEach [] X.env) := by rfl) (hplain : (backTo pos (starEach [e] X.env)).any (·.1) = false := by rfl)
    (hall : (backToKw pos (keywordEach [⟨some (Str.ofString "start"), .Constant (.int c) j ip, kp⟩] X.env)).all (·.1.isSome) = true := by rfl)
    (hkw : (backToKw pos (keywordEach [⟨some (Str.ofString "start"), .Constant (.int c) j ip, kp⟩] X.env)).any (·.1.isNone) = false := by rfl)
    (hnm : (backToKw pos (keywordEach [⟨some (Str.ofString "start"), .Constant (.int c) j ip, kp⟩] X.env)).filterMap (·.1) = [Str.ofString "start"] := by rfl) :
    PI X (.Tuple elts kk tpos) (.Call (.Name "enumerate" p) [e] [⟨some (Str.ofString "start"), .Constant (.int c) j ip, kp⟩] pos) (fun σ H R => ta σ H fun v H1 => ∃ a xs, [v] = [V.ref a] ∧ SqL X.K H1 a xs ∧ R (IteL X.K a c) H1) := by
  refine ⟨?_⟩
  intro pins s σ H R I h
  refine wpAny_Call_Name_kw (ld_blt I hg hm PyProof.Rows.boot_enumerate ?_ (by decide) (by decide))
  refine callWith_type_kwB hplain hkw ?_
  rw [he]
  refine PyProof.Rows.evalArgs_kwB hall ?_
  rw [← he]
  refine thn ((pa_cons ha pa_nil hs2).run pos pins s σ H (fun vs H1 => ∃ a xs, vs = [.ref a] ∧ SqL X.K H1 a xs ∧ R (IteL X.K a c) H1) I ?_) fun us s1 hh => ?_
  · exact h
  · obtain ⟨vs, H1, I1, r1, a, xs, ev, sq, q⟩ := hh
    subst ev
    cases r1 with
    | cons r rr =>
      cases rr
      cases r
      rw [hnm]
      refine PyProof.Rows.kws_cons (wpAny_Constant_int (PyProof.Rows.kws_nil ?_))
      have I2 := I1.tok (s1.toks + 1)
      obtain ⟨its, rv, p', hz⟩ := I2.list sq
      refine enum_begins_start (begins_list a its.toArray) p'.isList (by omega) (by omega) fun h' he' hit hsz hk => ?_
      exact enum_comeL I2 he' ⟨_, hit, rfl, rfl⟩ hk q
theorem pi_enumL0 {ta : TE} {p tpos : Pos} {elts : List Expr} {kk : Nat} (hg : Gl X "enumerate") (hm : X.mg "enumerate" = none) (ha : PE X e ta) (hs : starEach [e] X.env = [(false, eval e X.env)] := by rfl) (hs2 : starEach [e] X.env = (false, eval e X.env) :: starEach [] X.env := by rfl) :
    PI X (.Tuple elts kk tpos) (.Call (.Name "enumerate" p) [e] [] pos) (fun σ H R => ta σ H fun v H1 => ∃ a xs, [v] = [V.ref a] ∧ SqL X.K H1 a xs ∧ R (IteL X.K a 0) H1) := by
  refine ⟨?_⟩
  intro pins s σ H R I h
  refine PyProof.Rows.Call_ (ld_blt I hg hm PyProof.Rows.boot_enumerate (PyProof.Rows.callWith_type1 (thn ((pa_cons ha pa_nil hs2).run pos pins s σ H (fun vs H1 => ∃ a xs, vs = [.ref a] ∧ SqL X.K H1 a xs ∧ R (IteL X.K a 0) H1) I h) fun us s1 hh => ?_) hs rfl))
  obtain ⟨vs, H1, I1, r1, a, xs, ev, sq, q⟩ := hh
  subst ev
  cases r1 with
  | cons r rr =>
    cases rr
    cases r
    obtain ⟨its, rv, p', hz⟩ := I1.list sq
    refine enum_begins0 (begins_list a its.toArray) p'.isList fun h' he' hit hsz hk => ?_
    exact enum_comeL I1 he' ⟨_, hit, rfl, rfl⟩ hk q

theorem walk_enL {K : PySem.W.Frag} {mg : Str → Option Value} {H : Hp} {pi : List Addr} {a : Addr} {vs : List V} {ds : List D} (c : Int) (na : a ∉ pi) (q : H a = some (.lst vs)) (rs : Reps K mg H pi ds vs) : WalkM K mg (IteL K a c) (enD c ds) H pi := by
  refine ⟨fun H => SqL K H a vs, fun i H v H' => i < ds.length ∧ ∃ T x, v = .ref T ∧ H T = none ∧ H' = upd H T (.tup [.int (c + (i : Nat)), x]) ∧ vs[i]? = some x, ?_, fun H2 pi2 m2 s2 r2 => .inl (.inl (s2.keep a _ q na)), fun i H2 pi2 m2 x H3 s2 r2 y => ?_⟩
  · rw [enD_length, rs.length]
    exact ⟨fun i H hi q => ⟨vs, vs[i], q, by simp [hi]⟩, fun H q => ⟨vs, q, rfl⟩, fun i H x H' hi q y => by
      obtain ⟨T, x', h1, h2, h3, h4⟩ := y
      exact ⟨hi, T, x', h1, h2, h3, h4 vs q⟩⟩
  · obtain ⟨hi, T, x', rfl, n, rfl, hx⟩ := y
    obtain ⟨d, hd, r⟩ := rs.geto hx
    refine ⟨.tup [.int (c + i), d], ?_, stp_new n, r2.new n, ?_⟩
    · unfold enD
      rw [List.getElem?_map, List.getElem?_range hi]
      show some (D.tup [.int (c + i), ds.getD i .non]) = _
      rw [List.getD_eq_getElem?_getD, hd]
      rfl
    · simp only [Rep]
      exact ⟨T, _, rfl, SqT.of upd_same, reps_cons (by simp only [Rep]) (reps_cons (Rep.mono (s2.trans (stp_new n)) _ _ r) reps_nil)⟩
def mEnL (c : Int) (f : ME) : MA := fun rho m => (f rho m).bind fun p => onO (lstOf p.1) fun ds => .ok (enD c ds, p.2)
theorem i_enL_read {K : PySem.W.Frag} {mg : Str → Option Value} {f : ME} {c : Int} {σ : L2.St} {H : Hp} {R : It → Hp → Prop} (hh : tI K mg W (mEnL c f) σ H R) : tE K mg W f σ H (fun v H1 => ∃ a xs, [v] = [V.ref a] ∧ SqL K H1 a xs ∧ R (IteL K a c) H1) := by
  obtain ⟨pi, m, rho, hm, hs, p⟩ := hh
  refine ⟨pi, m, rho, hm, hs, (PostV.bindI p).mono fun v H1 h1 => ?_⟩
  obtain ⟨pi1, m1, d, st1, rm1, r, p1⟩ := h1
  cases d with
  | lst ds =>
    simp only [lstOf, onO_some] at p1
    simp only [Rep] at r
    obtain ⟨a, vs, rfl, na, q, rs⟩ := r
    exact ⟨a, vs, rfl, .inl (.inl q), p1 _ H1 pi1 Stp.refl rm1 (walk_enL c na q rs)⟩
  | _ => exact p1.elim
theorem i_enLK {f : ME} {p tpos ip kp : Pos} {j : Nat} {c : Int} {elts : List Expr} {kk : Nat} (hg : Gl X "enumerate") (hm : X.mg "enumerate" = none) (ha : ME1 X W e f) (hc0 : -(2 ^ 62) ≤ c) (hc1 : c < 2 ^ 62)
    (hs2 : starEach [e] X.env = (false, eval e X.env) :: starEach [] X.env := by rfl) (he : backTo pos (starEach [e] X.env) = (false, eval e X.env) :: backTo pos (starEach [] X.env) := by rfl) (hplain : (backTo pos (starEach [e] X.env)).any (·.1) = false := by rfl)
    (hall : (backToKw pos (keywordEach [⟨some (Str.ofString "start"), .Constant (.int c) j ip, kp⟩] X.env)).all (·.1.isSome) = true := by rfl)
    (hkw : (backToKw pos (keywordEach [⟨some (Str.ofString "start"), .Constant (.int c) j ip, kp⟩] X.env)).any (·.1.isNone) = false := by rfl)
    (hnm : (backToKw pos (keywordEach [⟨some (Str.ofString "start"), .Constant (.int c) j ip, kp⟩] X.env)).filterMap (·.1) = [Str.ofString "start"] := by rfl) :
    MI1 X W (.Tuple elts kk tpos) (.Call (.Name "enumerate" p) [e] [⟨some (Str.ofString "start"), .Constant (.int c) j ip, kp⟩] pos) (mEnL c f) := weakI (pi_enumLK hg hm ha hc0 hc1 hs2 he hplain hall hkw hnm) fun σ H R h => i_enL_read h
end
end Mi
namespace Mi
open PySem PySem.Spec L2 PyProof.Rows
/-! ### for over a list that stands in the store: what stands there is read anew at each turn; as long as it was at first -/
def enP (c : Int) (i : Nat) (d : D) : D := .tup [.int (c + i), d]
def plP (_ : Nat) (d : D) : D := d
def mForVL (g : MG) (pk : Nat → D → D) (b : MS) (l n : Nat) : Nat → MS
  | 0, rho, m => match m[l]? with
    | some (.lst ds) => if ds.length = n then .nx rho m else .bad
    | _ => .bad
  | r + 1, rho, m => match m[l]? with
    | some (.lst ds) => if ds.length = n then (match ds[n - (r + 1)]? with
      | none => .bad
      | some d => match g (pk (n - (r + 1)) d) rho with
        | none => .bad
        | some rho => match b rho m with
          | .nx rho m => mForVL g pk b l n r rho m
          | .ct rho m => mForVL g pk b l n r rho m
          | .bk rho m => .nx rho m
          | .rt d m => .rt d m
          | .er x rho m => .er x rho m
          | .bad => .bad) else .bad
    | _ => .bad
def mForV (g : MG) (pk : Nat → D → D) (fe : ME) (b : MS) : MS := fun rho m => onR (fe rho m) rho fun d m => match d with
  | .loc l => (match m[l]? with
    | some (.lst ds) => mForVL g pk b l ds.length ds.length rho m
    | _ => .bad)
  | _ => .bad
def liveG (a : Addr) (n : Nat) (H : Hp) : Prop := ∃ vs : List V, H a = some (.lst vs) ∧ vs.length = n
theorem sq_live {K : PySem.W.Frag} {H : Hp} {a : Addr} {vs : List V} (h : H a = some (.lst vs)) : SqL K H a vs := .inl (.inl h)
theorem walk_live {K : PySem.W.Frag} {a : Addr} {n : Nat} : Walk (Itl K a) n (liveG a n) (fun i H x H' => H' = H ∧ ∃ vs, H a = some (.lst vs) ∧ vs[i]? = some x) :=
  ⟨fun i H hi ⟨vs, e, hl⟩ => ⟨vs, vs[i]'(by omega), sq_live e, by simp [hl, hi]⟩, fun H ⟨vs, e, hl⟩ => ⟨vs, sq_live e, by omega⟩, fun i H x H' hi ⟨vs, e, hl⟩ y => ⟨y.1, vs, e, y.2 vs (sq_live e)⟩⟩
theorem walk_liveE {K : PySem.W.Frag} {a : Addr} {n : Nat} (c : Int) : Walk (IteL K a c) n (liveG a n) (fun i H x H' => ∃ vs T y, x = .ref T ∧ H T = none ∧ H' = upd H T (.tup [.int (c + (i : Nat)), y]) ∧ H a = some (.lst vs) ∧ vs[i]? = some y) :=
  ⟨fun i H hi ⟨vs, e, hl⟩ => ⟨vs, vs[i]'(by omega), sq_live e, by simp [hl, hi]⟩, fun H ⟨vs, e, hl⟩ => ⟨vs, sq_live e, by omega⟩, fun i H x H' hi ⟨vs, e, hl⟩ y => by
    obtain ⟨T, z, h1, h2, h3, h4⟩ := y
    exact ⟨vs, T, z, h1, h2, h3, e, h4 vs (sq_live e)⟩⟩
section
variable {X : Cx} {W : WX} {e a b c : Expr} {pos : Pos}
/-- both kinds of walks at once: how an item comes of what stands there -/
theorem forV_go {J : Addr → It} {Y : Addr → Nat → Hp → V → Hp → Prop} {pk : Nat → D → D} (wk : ∀ a n, Walk (J a) n (liveG a n) (Y a))
    (hY : ∀ (K : PySem.W.Frag) (mg : Str → Option Value) (a : Addr) (i : Nat) (H2 H3 : Hp) (pi2 : List Addr) (m2 : List O) (x : V) (ds : List D) (vs : List V), RepM K mg H2 pi2 m2 → H2 a = some (.lst vs) → Reps K mg H2 pi2 ds vs → Y a i H2 x H3 → ∃ d, ds[i]? = some d ∧ Stp H2 pi2 H3 pi2 ∧ RepM K mg H3 pi2 m2 ∧ Rep K mg H3 pi2 (pk i d) x)
    {tg : Expr} {body : List Stmt} {g : MG} {fe : ME} {f : MS} {te : TI} {iter : Expr} (hp : PassesOwn (model X.prog X.w) X.A X.env X.xe) (hc : X.calm = true) (hi : PI X tg iter te) (hg : MG1 X tg g) (hb : MSs X W body f)
    (ht : ∀ σ H R, tE X.K X.mg W fe σ H (fun v H1 => ∃ a xs, v = V.ref a ∧ SqL X.K H1 a xs ∧ R (J a) H1) → te σ H R) (hf : ∀ x, foldedSetIterable iter X.env x = pure x) : MS1 X W (.For tg iter body [] pos) (mForV g pk fe f) := by
  refine weakS (ps_for hp hc hi hg hb hf) fun σ H Z hh => ?_
  obtain ⟨pi, m, rho, hm, hs, p⟩ := hh
  refine ht σ H _ ⟨pi, m, rho, hm, hs, (post_onV hs p).mono fun v H1 h1 => ?_⟩
  obtain ⟨pi1, m1, d, st1, rm1, r, p1⟩ := h1
  cases d with
  | loc l =>
    simp only at p1
    cases hl : m1[l]? with
    | none =>
      rw [hl] at p1
      exact p1.elim
    | some o =>
      cases o with
      | lst ds0 =>
        rw [hl] at p1
        simp only at p1
        obtain ⟨a, vs0, rfl, ha, hH, rs0, hfz⟩ := rm1.loc r hl
        refine ⟨a, vs0, rfl, sq_live hH, ?_⟩
        have n0 : vs0.length = ds0.length := rs0.length.symm
        have at_ : ∀ (k : Nat) (rho2 : List (Option D)) (m2 : List O) (pi2 : List Addr) (H2 : Hp), Stp H1 pi1 H2 pi2 → RepM X.K X.mg H2 pi2 m2 → PostS X.K X.mg W Z H2 pi2 (mForVL g pk f l ds0.length k rho2 m2) → ∃ ds vs, m2[l]? = some (.lst ds) ∧ ds.length = ds0.length ∧ H2 a = some (.lst vs) ∧ Reps X.K X.mg H2 pi2 ds vs := fun k rho2 m2 pi2 H2 s2 r2 p2 => by
          have ex : ∃ ds, m2[l]? = some (.lst ds) ∧ ds.length = ds0.length := by
            cases k with
            | zero =>
              simp only [mForVL] at p2
              split at p2
              · rename_i ds e
                by_cases hn : ds.length = ds0.length
                · exact ⟨ds, e, hn⟩
                · rw [if_neg hn] at p2
                  exact p2.elim
              · exact p2.elim
            | succ k =>
              simp only [mForVL] at p2
              split at p2
              · rename_i ds e
                by_cases hn : ds.length = ds0.length
                · exact ⟨ds, e, hn⟩
                · rw [if_neg hn] at p2
                  exact p2.elim
              · exact p2.elim
          obtain ⟨ds, e, hn⟩ := ex
          obtain ⟨vs, e2, rs⟩ := r2.at_ l a _ (s2.get ha) e
          exact ⟨ds, vs, e, hn, e2, rs⟩
        refine for_it (wk a ds0.length) (fun i σ2 H2 => ∃ pi2 m2 rho2, Stp H1 pi1 H2 pi2 ∧ RepM X.K X.mg H2 pi2 m2 ∧ RepS X.K X.mg H2 pi2 rho2 σ2 ∧ PostS X.K X.mg W Z H2 pi2 (mForVL g pk f l ds0.length (ds0.length - i) rho2 m2))
          ⟨pi1, m1, rho, Stp.refl, rm1, hs.mono st1, by rw [Nat.sub_zero]; exact p1⟩ (fun i σ2 H2 hi ⟨pi2, m2, rho2, s2, r2, _, p2⟩ => by
            obtain ⟨ds, vs, e, hn, e2, rs⟩ := at_ _ _ _ _ _ s2 r2 p2
            exact ⟨vs, e2, by rw [← rs.length, hn]⟩) (fun i x σ2 H2 H3 hi ⟨pi2, m2, rho2, s2, r2, e2, p2⟩ hy => ?_) (fun σ2 H2 ⟨pi2, m2, rho2, s2, r2, e2, p2⟩ => ?_)
        · obtain ⟨ds, vs, em, hn, eH, rs⟩ := at_ _ _ _ _ _ s2 r2 p2
          obtain ⟨d, hd, st3, rm3, rx⟩ := hY _ _ a i H2 H3 pi2 m2 x ds vs r2 eH rs hy
          have hk : ds0.length - i = (ds0.length - (i + 1)) + 1 := by omega
          have hix : ds0.length - (ds0.length - (i + 1) + 1) = i := by omega
          rw [hk] at p2
          simp only [mForVL, em, if_pos hn, hix, hd] at p2
          cases hgd : g (pk i d) rho2 with
          | none =>
            rw [hgd] at p2
            exact p2.elim
          | some rho3 =>
            rw [hgd] at p2
            simp only at p2
            refine ⟨pi2, m2, rho2, pk i d, rho3, rm3, e2.mono st3, rx, hgd, fun σ' hs' => ⟨pi2, m2, rho3, rm3, hs', ?_⟩⟩
            have p3 := PostS.from st3 p2
            cases hb2 : f rho3 m2 with
            | nx rho4 m4 =>
              rw [hb2] at p3
              exact fun σ4 H4 pi4 s4 r4 e4 => ⟨pi4, m4, rho4, (s2.trans st3).trans s4, r4, e4, PostS.from s4 p3⟩
            | ct rho4 m4 =>
              rw [hb2] at p3
              exact fun σ4 H4 pi4 s4 r4 e4 => ⟨pi4, m4, rho4, (s2.trans st3).trans s4, r4, e4, PostS.from s4 p3⟩
            | bk rho4 m4 =>
              rw [hb2] at p3
              exact p3
            | rt d4 m4 =>
              rw [hb2] at p3
              exact p3
            | er x4 rho4 m4 =>
              rw [hb2] at p3
              exact p3
            | bad =>
              rw [hb2] at p3
              exact p3
        · obtain ⟨ds, vs, em, hn, eH, rs⟩ := at_ _ _ _ _ _ s2 r2 p2
          rw [Nat.sub_self] at p2
          simp only [mForVL, em, if_pos hn] at p2
          exact p2 σ2 H2 pi2 Stp.refl r2 e2
      | _ =>
        rw [hl] at p1
        exact p1.elim
  | _ => exact p1.elim
theorem s_forV {tg : Expr} {body : List Stmt} {g : MG} {fe : ME} {f : MS} (hp : PassesOwn (model X.prog X.w) X.A X.env X.xe) (hc : X.calm = true) (he : ME1 X W e fe) (hg : MG1 X tg g) (hb : MSs X W body f) (hf : ∀ x, foldedSetIterable e X.env x = pure x := by intro _; rfl) :
    MS1 X W (.For tg e body [] pos) (mForV g plP fe f) :=
  forV_go (J := Itl X.K) (Y := fun a i H x H' => H' = H ∧ ∃ vs, H a = some (.lst vs) ∧ vs[i]? = some x) (fun a n => walk_live) (fun K mg a i H2 H3 pi2 m2 x ds vs r2 eH rs hy => by
    obtain ⟨rfl, vs', e', hx⟩ := hy
    rw [eH] at e'
    cases e'
    obtain ⟨d, hd, r⟩ := rs.geto hx
    exact ⟨d, hd, Stp.refl, r2, r⟩) hp hc (pi_list he) hg hb (fun σ H R h => by
    obtain ⟨pi, m, rho, hm, hs, p⟩ := h
    exact ⟨pi, m, rho, hm, hs, p.mono fun v H1 h1 => by
      obtain ⟨a, xs, e1, e2, e3⟩ := h1
      exact ⟨a, e1, ⟨xs, e2⟩, e3⟩⟩) hf
theorem enV_item (c : Int) (K : PySem.W.Frag) (mg : Str → Option Value) (a : Addr) (i : Nat) (H2 H3 : Hp) (pi2 : List Addr) (m2 : List O) (x : V) (ds : List D) (vs : List V) (r2 : RepM K mg H2 pi2 m2) (eH : H2 a = some (.lst vs)) (rs : Reps K mg H2 pi2 ds vs) (hy : ∃ vs T y, x = .ref T ∧ H2 T = none ∧ H3 = upd H2 T (.tup [.int (c + (i : Nat)), y]) ∧ H2 a = some (.lst vs) ∧ vs[i]? = some y) :
    ∃ d, ds[i]? = some d ∧ Stp H2 pi2 H3 pi2 ∧ RepM K mg H3 pi2 m2 ∧ Rep K mg H3 pi2 (enP c i d) x := by
  obtain ⟨vs', T, y, rfl, n, rfl, e', hx⟩ := hy
  rw [eH] at e'
  cases e'
  obtain ⟨d, hd, r⟩ := rs.geto hx
  refine ⟨d, hd, stp_new n, r2.new n, ?_⟩
  unfold enP
  simp only [Rep]
  exact ⟨T, _, rfl, SqT.of upd_same, reps_cons (by simp only [Rep]) (reps_cons (Rep.mono (stp_new n) _ _ r) reps_nil)⟩
theorem s_forVE {body : List Stmt} {g : MG} {fe : ME} {f : MS} {p tpos cpos : Pos} {elts : List Expr} {kk : Nat} (hp : PassesOwn (model X.prog X.w) X.A X.env X.xe) (hc : X.calm = true) (hgl : Gl X "enumerate") (hm : X.mg "enumerate" = none) (he : ME1 X W e fe) (hg : MG1 X (.Tuple elts kk tpos) g) (hb : MSs X W body f)
    (hs : starEach [e] X.env = [(false, eval e X.env)] := by rfl) (hs2 : starEach [e] X.env = (false, eval e X.env) :: starEach [] X.env := by rfl) (hf : ∀ x, foldedSetIterable (.Call (.Name "enumerate" p) [e] [] cpos) X.env x = pure x := by intro _; rfl) :
    MS1 X W (.For (.Tuple elts kk tpos) (.Call (.Name "enumerate" p) [e] [] cpos) body [] pos) (mForV g (enP 0) fe f) :=
  forV_go (J := fun a => IteL X.K a 0) (Y := fun a i H x H' => ∃ vs T y, x = .ref T ∧ H T = none ∧ H' = upd H T (.tup [.int (0 + (i : Nat)), y]) ∧ H a = some (.lst vs) ∧ vs[i]? = some y) (fun a n => walk_liveE 0) (enV_item 0) hp hc (pi_enumL0 hgl hm he hs hs2) hg hb (fun σ H R h => by
    obtain ⟨pi, m, rho, hm, hs, p⟩ := h
    exact ⟨pi, m, rho, hm, hs, p.mono fun v H1 h1 => by
      obtain ⟨a, xs, e1, e2, e3⟩ := h1
      exact ⟨a, xs, by rw [e1], e2, e3⟩⟩) hf
/-! ### a list's slice -/
theorem m_slL {lo hi : Option Expr} {p2 : Pos} {f : ME} {fl fh : MO} (he : ME1 X W e f) (hl : MO1 X W lo fl) (hu : MO1 X W hi fh) : ME1 X W (.Subscript e (.Slice lo hi none p2) pos) (mSlL f fl fh) := by
  refine weak (pe_slice sl_list he hl hu) fun σ H Q hh => ?_
  obtain ⟨pi, m, rho, hm, hs, p⟩ := hh
  refine ⟨pi, m, rho, hm, hs, (PostV.bind p).mono fun x H1 h1 => ?_⟩
  obtain ⟨pi1, m1, d, st1, rm1, r, p1⟩ := h1
  refine ⟨pi1, m1, rho, rm1, hs.mono st1, (PostO.bindV p1).mono fun l H2 h2 => ?_⟩
  obtain ⟨pi2, m2, st2, rm2, p2⟩ := h2
  refine ⟨pi2, m2, rho, rm2, (hs.mono st1).mono st2, (PostO.bindV p2).mono fun u H3 h3 => ?_⟩
  obtain ⟨pi3, m3, st3, rm3, p3⟩ := h3
  simp only at p3
  cases hd : lstOf (deref m3 d) with
  | none =>
    simp only [hd] at p3
    exact p3.elim
  | some ds =>
    simp only [hd, onO_some] at p3
    obtain ⟨a, vs, rfl, hH, rs⟩ := lst_at rm3 (Rep.mono (st2.trans st3) _ _ r) hd
    have hc : Reps X.K X.mg H3 pi3 (cutD ds l u) (cutV vs l u) := by
      unfold cutD cutV
      rw [rs.length]
      exact (rs.drop _).take _
    exact ⟨a, vs, rfl, sq_live hH, fun t n => p3 _ _ pi3 (stp_new n) (rm3.new n) (by simp only [Rep]; exact ⟨t, _, rfl, rm3.fresh n, upd_same, hc.mono (stp_new n)⟩)⟩
end
end Mi
namespace Mi
open PySem PySem.Spec L2 PyProof.Rows

/-! ### x != y, where the class of x has its own __eq__ and no __ne__ -/
section
variable {prog : Program} {w : World} {A : Around} {E : Value → Shared → Prop} {s : Shared} {K : PySem.W.Frag} {x C : Addr} {ox : Obj} {od : Option Obj}
theorem ifBound_objNe {M : Model} {args : List Value} {Q : Option Value → Shared → Prop} (X : K.In s.heap) (I : PySem.W.InstAt s.heap x ox C od) (hs : PySem.W.findIn K (.ref C) "__ne__" = some (some (.builtin "object.__ne__")))
    (h : wpAny M A (call (.builtin "object.__ne__") (.ref x :: args)) (fun v => Q (some v)) E s) : wpAny M A (callSpecialIfBound? (.ref x) "__ne__" args) Q E s := by
  simp only [callSpecialIfBound?, bindSpecialIfBound?, callSpecialIfBound?]
  refine (wpAny_holding (wpAny_bind (wpAny_bind (wpAny_bind (I.type.here ((PySem.W.looks_findIn X hs).here ?_))))))
  refine (wpAny_bind (wpAny_askSetting (wpAny_ite ?_)))
  have fin : wpAny M A (call (.builtin "object.__ne__") ([.ref x] ++ args) >>= fun v => pure (some v)) Q E s := wpAny_bind (wpAny_mono h (fun v s' h' => wpAny_pure h') fun _ _ h' => h')
  split
  · exact wpAny_bind (wpAny_of_eq (F.cmp_object.ne.bind _) (wpAny_pure (by exact fin)))
  · exact wpAny_tryCatch (wpAny_bind (wpAny_of_eq (F.cmp_object.ne.bind _) (wpAny_pure (by exact fin))))
/-- the body of object.__ne__ -/
theorem ne_body {b : Value} {f : Addr} {Q : Bool → Shared → Prop} (hu : A.units < cLine) (X : K.In s.heap) (I : PySem.W.InstAt s.heap x ox C od) (hs : PySem.W.findIn K (.ref C) "__eq__" = some (some (.ref f))) (hf : PySem.W.isFn K (.ref f) = true)
    (h : wpAny (model prog w) A (call (.ref f) [.ref x, b]) (fun v s' => ∃ k, v = .bool k ∧ Q (!k) s') E s) :
    wpAny (model prog w) A (Builtin.«object.__ne__» ⟨[.ref x, b], []⟩) (fun fin s' => ∃ k, fin = .done (.ret (.bool k)) ∧ Q k s') E s := by
  unfold Builtin.«object.__ne__» at ⊢
  refine (wpAny_bind (wpAny_pure ?_))
  refine (wpAny_bind (wpAny_cRoomFor hu ?_))
  refine wpAny_bind (PySem.W.ifBound_K X I hs hf (wpAny_mono h (fun v s' hv => ?_) fun _ _ e => e))
  obtain ⟨k, rfl, q⟩ := hv
  exact wpAny_bind (wpAny_truthy_bool (wpAny_pure ⟨!k, rfl, q⟩))
theorem call_objNe {b : Value} {f : Addr} {Q : Bool → Shared → Prop} (hu : A.in1.units < cLine) (X : K.In s.heap) (I : PySem.W.InstAt s.heap x ox C od) (hm : PySem.W.mroIn K C (.type "object") = some true) (hs : PySem.W.findIn K (.ref C) "__eq__" = some (some (.ref f))) (hf : PySem.W.isFn K (.ref f) = true)
    (h : wpAny (model prog w) A.in1 (call (.ref f) [.ref x, b]) (fun v s' => ∃ k, v = .bool k ∧ Q (!k) s') E s) :
    wpAny (model prog w) A (call (.builtin "object.__ne__") [.ref x, b]) (fun v s' => ∃ k, v = .bool k ∧ Q k s') E s :=
  wpAny_call (codeAny_call_builtin F.cmp_object.ne.plain F.cmpEntry_ne (PySem.W.check_slot F.cmpKind_ne F.cmpSplit_ne (I.type.andThen (PySem.W.looks_mroIn X hm)) (F.cmpArgs_ne _ _)
    (wpAny_mono (ne_body hu X I hs hf h) (fun fin s' hh => by
      obtain ⟨k, rfl, q⟩ := hh
      exact ⟨k, rfl, q⟩) fun _ _ e => e)))
end
def rOwnNe (K : PySem.W.Frag) (C : Addr) (sp : Sp) : R2 := fun x y H Q => ∃ a b dx fs, x = .ref a ∧ y = .ref b ∧ H a = some (.ins C dx fs) ∧ ((∃ dy gs, H b = some (.ins C dy gs)) ∨ ∃ xs, SqT K H b xs) ∧
  sp [x, y] H (fun v H2 => ∃ k, v = .bl k ∧ Q (.bl (!k)) H2) fun _ _ _ => False
section
variable {X : Cx} {k : Nat} {C f : Addr} {fd : FuncData} {ps : List Str} {sp : Sp}
theorem op_ownNe (def_ : FnOk X.prog X.w X.K X.mg X.base (L2.CX X.prog X.w) k f fd ps sp) (slot : PySem.W.findIn X.K (.ref C) "__eq__" = some (some (.ref f))) (isF : PySem.W.isFn X.K (.ref f) = true) (noT : PySem.W.subIn X.K (.type "tuple") (.ref C) = some false)
    (ne : PySem.W.findIn X.K (.ref C) "__ne__" = some (some (.builtin "object.__ne__"))) (mro : PySem.W.mroIn X.K C (.type "object") = some true) (bound : Binds X.K fd ps []) (room : Room (k + 2) X.A) : OpR X (compareOp .NotEq) (rOwnNe X.K C sp) := by
  rintro pins s σ H x y v u Q inv relx rely ⟨a, b, dx, fs, rfl, rfl, ata, kind, run⟩
  cases relx
  cases rely
  have ⟨mA, J, _⟩ := ins_get inv.hok ata
  have ⟨od, J, _⟩ := J.look
  have ⟨m, frees⟩ := inv.fr
  have XK := inv.ok.mod.kin.keeps frees.keep
  have back : wpAny (model X.prog X.w) X.A.in1 (call (.ref f) [.ref a, .ref b]) (fun v s' => ∃ k, v = .bool k ∧ EP X pins σ Q (.bool (!k)) s') X.xe s := by
    have many := def_.len _ _ _ _ run
    have rels : Vals [V.ref a, V.ref b] [Value.ref a, Value.ref b] := .cons rfl (.cons rfl .nil)
    have bind2 := bound s [.ref a, .ref b] inv.kIn (by simpa using many)
    refine wpAny_call (codeAny_mono (def_.run X.A.in1 X.stack s H ⟨[.ref a, .ref b], []⟩ [.ref a, .ref b] [.ref a, .ref b] _ (fun _ _ _ => False) ((room.in1).mono (by omega)) inv.env0.in1 (by simpa using bind2) rels run) fun out s1 got => ?_)
    match out, got with
    | .error e, got => exact passL pins σ H s e s1 inv got
    | .ok (.ret w), got =>
      have ⟨z, H1, inv1, relz, k, isb, q⟩ := inv.after got
      subst isb
      cases relz
      exact ⟨k, rfl, .bl (!k), H1, inv1, rfl, q⟩
  have one : wpAny (model X.prog X.w) X.A (tryCompare (.ref a) "__ne__" (.ref b)) (fun r s' => ∃ k, r = some (.bool k) ∧ EP X pins σ Q (.bool k) s') X.xe s := by
    unfold tryCompare
    refine wpAny_bind (ifBound_objNe XK J ne (wpAny_mono (call_objNe (Q := fun k s' => EP X pins σ Q (.bool k) s') (room.in1.units0) XK J mro slot isF back) (fun v s' hv => ?_) fun _ _ e => e))
    obtain ⟨k, rfl, q⟩ := hv
    exact wpAny_pure ⟨k, rfl, q⟩
  have go : ∀ tb : Value, PySem.W.Looks (model X.prog X.w) s.heap (typeOf (.ref b)) tb → PySem.W.notFirst X.K C tb = true → wpAny (model X.prog X.w) X.A (richCompare .NotEq (.ref a) (.ref b)) (EP X pins σ Q) X.xe s := fun tb look first => by
    simp only [richCompare, cmpInfo_NotEq, oneThing_ref, richCompare]
    refine wpAny_holding (wpAny_bind (wpAny_cRoomFor room.units0 ?_))
    refine wpAny_bind (J.type.here (wpAny_bind (look.here ?_)))
    split
    · rename_i q
      have e : PySem.W.subIn X.K tb (.ref C) = some false := by
        rcases Bool.or_eq_true_iff.mp first with e | e
        · rw [(beq_iff_eq.mp e)] at q; simp at q
        · exact beq_iff_eq.mp e
      refine wpAny_bind ((PySem.W.looks_subIn XK e).here ?_)
      simp only [Bool.false_eq_true, if_false, Bool.false_eq_true]
      refine (wpAny_bind (wpAny_mono one (fun r s' z => ?_) fun _ _ e => e))
      obtain ⟨v, rfl, hq⟩ := z
      exact wpAny_pure hq
    · refine (wpAny_bind (wpAny_pure ?_))
      simp only [Bool.false_eq_true, if_false, Bool.false_eq_true]
      refine (wpAny_bind (wpAny_mono one (fun r s' z => ?_) fun _ _ e => e))
      obtain ⟨v, rfl, hq⟩ := z
      exact wpAny_pure hq
  show wpAny (model X.prog X.w) X.A (richCompare .NotEq (.ref a) (.ref b)) (EP X pins σ Q) X.xe s
  rcases kind with ⟨dy, gs, atb⟩ | ⟨xs, seq⟩
  · have ⟨mB, J2, _⟩ := ins_get inv.hok atb
    have ⟨od2, J2, _⟩ := J2.look
    exact go (.ref C) J2.type (by simp [PySem.W.notFirst])
  · have ⟨its, rels, ⟨o, ato, cls, _⟩, _⟩ := inv.tuple seq
    exact go (.type "tuple") (fun A Q E s2 keeps won => wpAny_typeOf_ref (keeps _ _ ato) (cls.symm ▸ won)) (by simp [PySem.W.notFirst, noT])
end
def mNeI (c0 : Str) (G : GF) (fa fb : ME) : ME := fun rho m => (mEqI c0 G fa fb rho m).bind fun p => onBl (blOf p.1) fun k => .ok (.bl (!k), p.2)
theorem post_ne {K : PySem.W.Frag} {mg : Str → Option Value} {E : XK} {H : Hp} {pi : List Addr} {Q : VK} {r : RE} (p : PostV K mg E H pi Q ((blOnly r).bind fun p => onBl (blOf p.1) fun k => .ok (.bl (!k), p.2))) : PostV K mg (fun _ _ _ => False) H pi (fun v H2 => ∃ k, v = .bl k ∧ Q (.bl (!k)) H2) r := by
  match r, p with
  | .ok (.bl k, m), p => exact fun v G pi1 st rm rep => ⟨k, by simpa only [Rep] using rep, p (.bl (!k)) G pi1 st rm (by simp only [Rep])⟩
section
variable {X : Cx} {W : WX} {a b : Expr} {pos : Pos}
theorem ne_run {c0 : Str} {C : Addr} {G : GF} {fa fb : ME} {σ : L2.St} {H : Hp} {Q : VK} (mem : X.mg c0 = some (.ref C)) (h : tE X.K X.mg W (mNeI c0 G fa fb) σ H Q) : tOp (rOwnNe X.K C (spM X.K X.mg 2 G)) (tE X.K X.mg W fa) (tE X.K X.mg W fb) σ H Q := by
  obtain ⟨pi, m, rho, rm, hs, p⟩ := h
  unfold mNeI mEqI at p
  have p : PostV X.K X.mg (fun c d H' => W c d σ H') H pi Q ((fa rho m).bind fun p => ((fb rho p.2).bind fun q => ((if eqOk c0 p.1 q.1 = true then blOnly (G [p.1, q.1] q.2) else .bad).bind fun p => onBl (blOf p.1) fun k => .ok (.bl (!k), p.2)))) := by
    cases hf : fa rho m with
    | ok p0 =>
      rw [hf] at p
      rw [R.bind_ok] at p ⊢
      cases hg : fb rho p0.2 with
      | ok q0 =>
        rw [hg] at p
        exact p
      | er x m1 =>
        rw [hg] at p
        exact p
      | bad =>
        rw [hg] at p
        exact p
    | er x m1 =>
      rw [hf] at p
      exact p
    | bad =>
      rw [hf] at p
      exact p
  refine ⟨pi, m, rho, rm, hs, (PostV.bind p).mono fun x H1 h1 => ?_⟩
  obtain ⟨pi1, m1, dx, st1, rm1, rx, p1⟩ := h1
  refine ⟨pi1, m1, rho, rm1, hs.mono st1, (PostV.bind p1).mono fun y H2 h2 => ?_⟩
  obtain ⟨pi2, m2, dy, st2, rm2, ry, p2⟩ := h2
  have rx2 := Rep.mono st2 _ _ rx
  by_cases ok : eqOk c0 dx dy = true
  · simp only [if_pos ok] at p2
    have run : spM X.K X.mg 2 G [x, y] H2 (fun v H3 => ∃ k, v = .bl k ∧ Q (.bl (!k)) H3) (fun _ _ _ => False) := ⟨rfl, pi2, m2, [dx, dy], rm2, reps_cons rx2 (reps_cons ry reps_nil), post_ne p2⟩
    unfold eqOk at ok
    cases dx with
    | ins c ns ds =>
      have ok := (Bool.and_eq_true _ _).mp ok
      have ok1 := of_decide_eq_true ok.1
      have first := rx2
      simp only [Rep] at first
      obtain ⟨a1, C1, d1, fv1, rfl, _, g1, at1, _⟩ := first
      rw [ok1, mem] at g1
      cases g1
      cases dy with
      | ins c' ns' ds' =>
        have second := ry
        simp only [Rep] at second
        obtain ⟨a2, C2, d2, fv2, rfl, _, g2, at2, _⟩ := second
        have same : c' = c0 := by simpa using ok.2
        rw [same, mem] at g2
        cases g2
        exact ⟨a1, a2, d1, fv1, rfl, rfl, at1, .inl ⟨d2, fv2, at2⟩, run⟩
      | tup es =>
        have second := ry
        simp only [Rep] at second
        obtain ⟨a2, vs, rfl, seq, _⟩ := second
        exact ⟨a1, a2, d1, fv1, rfl, rfl, at1, .inr ⟨vs, seq⟩, run⟩
      | _ => simp at ok
    | _ => simp at ok
  · simp only [if_neg ok, R.bind_bad] at p2
    exact p2.elim
theorem m_neI {k : Nat} {c0 : Str} {C f : Addr} {fd : FuncData} {ps : List Str} {G : GF} {fa fb : ME} (def_ : FnOk X.prog X.w X.K X.mg X.base (L2.CX X.prog X.w) k f fd ps (spM X.K X.mg 2 G)) (slot : PySem.W.findIn X.K (.ref C) "__eq__" = some (some (.ref f))) (isF : PySem.W.isFn X.K (.ref f) = true) (noT : PySem.W.subIn X.K (.type "tuple") (.ref C) = some false)
    (ne : PySem.W.findIn X.K (.ref C) "__ne__" = some (some (.builtin "object.__ne__"))) (mro : PySem.W.mroIn X.K C (.type "object") = some true) (bound : Binds X.K fd ps []) (room : Room (k + 2) X.A) (mem : X.mg c0 = some (.ref C)) (ha : ME1 X W a fa) (hb : ME1 X W b fb) (mark : behindInMarks .NotEq b = false := by first | exact nomark _ (by decide) (by decide) | rfl) :
    ME1 X W (.Compare a [.NotEq] [b] pos) (mNeI c0 G fa fb) := weak (pe_cmpR (op_ownNe def_ slot isF noT ne mro bound room) ha hb mark) fun σ H Q h => ne_run mem h
theorem tst_ne {K : PySem.W.Frag} {mg : Str → Option Value} {c0 : Str} {G : GF} {fa fb : ME} {σ : L2.St} {H : Hp} {Q : Bool → Hp → Prop} (h : tT K mg W (mTst (mNeI c0 G fa fb)) σ H Q) : tE K mg W (mNeI c0 G fa fb) σ H (fun x H' => ∃ k, x = .bl k ∧ Q k H') := by
  obtain ⟨pi, m, rho, hm, hs, p⟩ := h
  exact ⟨pi, m, rho, hm, hs, post_tst p⟩
theorem t_neI {k : Nat} {c0 : Str} {C f : Addr} {fd : FuncData} {ps : List Str} {G : GF} {fa fb : ME} (def_ : FnOk X.prog X.w X.K X.mg X.base (L2.CX X.prog X.w) k f fd ps (spM X.K X.mg 2 G)) (slot : PySem.W.findIn X.K (.ref C) "__eq__" = some (some (.ref f))) (isF : PySem.W.isFn X.K (.ref f) = true) (noT : PySem.W.subIn X.K (.type "tuple") (.ref C) = some false)
    (ne : PySem.W.findIn X.K (.ref C) "__ne__" = some (some (.builtin "object.__ne__"))) (mro : PySem.W.mroIn X.K C (.type "object") = some true) (bound : Binds X.K fd ps []) (room : Room (k + 2) X.A) (mem : X.mg c0 = some (.ref C)) (ha : ME1 X W a fa) (hb : ME1 X W b fb) (mark : behindInMarks .NotEq b = false := by first | exact nomark _ (by decide) (by decide) | rfl) :
    MT1 X W (.Compare a [.NotEq] [b] pos) (mTst (mNeI c0 G fa fb)) := weakT (pt_cmpR (op_ownNe def_ slot isF noT ne mro bound room) ha hb mark) fun σ H Q h => ne_run mem (tst_ne h)
end
/-! ### text * int -/
def repS (s : Str) (k : Int) : Str := if k < 1 then Str.empty else if (k == 1 || s.length == 0) = true then s else ⟨(List.replicate k.toNat s.cps).foldl (· ++ ·) #[]⟩
def gMulS : G2 := fun _ x y => match x, y with
  | .str s, .int k => if 0 ≤ k ∧ k ≤ 1000 ∧ s.length ≤ 10 then some (.str (repS s k)) else none
  | _, _ => none
section
variable {X : Cx}
theorem op_mulS : OpR X (binaryOp .Mult) (fun x y H Q => ∃ s k, x = .str s ∧ y = .int k ∧ 0 ≤ k ∧ k ≤ 1000 ∧ s.length ≤ 10 ∧ Q (.str (repS s k)) H) := by
  intro pins s σ
  intro H x y v u Q I rx ry h
  obtain ⟨z, k, rfl, rfl, h0, h1, h2, q⟩ := h
  obtain ⟨t, rfl⟩ := rx
  obtain ⟨t', rfl⟩ := ry
  have size : z.length * k.toNat ≤ 10000 := Nat.le_trans (Nat.mul_le_mul h2 (show k.toNat ≤ 1000 by omega)) (by decide)
  refine P.mul_str (by
    have e1 : ¬ k < -(2 ^ 63 : Int) := by omega
    have e2 : ¬ k ≥ 2 ^ 63 := by omega
    rw [decide_eq_false e1, decide_eq_false e2]; rfl) (fun hk _ => ?_) (fun hk _ => ?_) ?_
  · have hk2 : (1000 : Int) ≤ (2 ^ 63 - 1) / k := by
      rw [Int.le_ediv_iff_mul_le (by omega)]
      have : (1000 : Int) * k ≤ 1000 * 1000 := by omega
      omega
    omega
  · show decide (_ > sizeLine) = false
    rw [decide_eq_false]
    have : (10000 : Nat) ≤ sizeLine := by decide
    omega
  · unfold repS at q
    by_cases e1 : k < 1
    · rw [if_pos e1] at q ⊢
      exact ⟨by decide, .str _, H, I.tok _, ⟨_, rfl⟩, q⟩
    · rw [if_neg e1] at q ⊢
      by_cases e2 : (k == 1 || z.length == 0) = true
      · rw [if_pos e2] at q ⊢
        exact ⟨.str _, H, I, ⟨_, rfl⟩, q⟩
      · rw [if_neg e2] at q ⊢
        refine ⟨?_, .str _, H, I.tok _, ⟨_, rfl⟩, q⟩
        have e : ∀ (n : Nat) (acc : Array Nat), ((List.replicate n z.cps).foldl (· ++ ·) acc).size = acc.size + z.cps.size * n := fun n => by
          induction n with
          | zero => intro acc; simp
          | succ n ih =>
            intro acc
            rw [List.replicate_succ, List.foldl_cons, ih, Array.size_append, Nat.mul_succ]
            omega
        show ((List.replicate k.toNat z.cps).foldl (· ++ ·) #[]).size ≤ sizeLine
        rw [e]
        have : (10000 : Nat) ≤ sizeLine := by decide
        have : z.cps.size * k.toNat ≤ 10000 := size
        simp
        omega
theorem o_mulS : OpM X (binaryOp .Mult) gMulS := opm_of op_mulS fun pi m dx dy d x y H Q hm hx hy e q => by
  unfold gMulS at e
  split at e
  · rename_i s k
    by_cases h : 0 ≤ k ∧ k ≤ 1000 ∧ s.length ≤ 10
    · rw [if_pos h] at e
      cases e
      simp only [Rep] at hx hy
      exact ⟨s, k, hx, hy, h.1, h.2.1, h.2.2, q _ H Stp.refl hm (by simp only [Rep])⟩
    · rw [if_neg h] at e
      cases e
  · cases e
def gMulX : G2 := fun m x y => match x, y with
  | .str s, .int k => gMulS m (.str s) (.int k)
  | x, y => gMul m x y
theorem o_mulX : OpM X (binaryOp .Mult) gMulX := opm_or o_mulS o_mul fun m x y d h => by
  unfold gMulX at h
  split at h
  · exact .inl h
  · exact .inr h
end
end Mi
namespace Mi
open PySem PySem.Spec L2
section
variable {m : List O} {i j : Int}
theorem gAddX_i : gAddX m (.int i) (.int j) = some (.int (i + j)) := rfl
theorem gAddX_t {xs ys : List D} (h : xs.length + ys.length ≤ small) : gAddX m (.tup xs) (.tup ys) = some (.tup (xs ++ ys)) := gAdd_t (m := m) h
theorem gAddX_s {s t : Str} (h : s.length + t.length ≤ small) : gAddX m (.str s) (.str t) = some (.str (s ++ t)) := if_pos h
theorem gMulX_i (h : cMul i j = true) : gMulX m (.int i) (.int j) = some (.int (i * j)) := gMul_i (m := m) h
theorem gMulX_s {s : Str} (h : 0 ≤ i ∧ i ≤ 1000 ∧ s.length ≤ 10) : gMulX m (.str s) (.int i) = some (.str (repS s i)) := if_pos h
theorem bIntA_i : bIntA m [.int i] = some (.int i) := rfl
theorem bIntA_b {k : Bool} : bIntA m [.bl k] = some (.int (if k then 1 else 0)) := rfl
theorem bIntA_s {s : Str} (h : s.length ≤ 640) (e : PySem.intText? s = some i) : bIntA m [.str s] = some (.int i) := by
  show (if s.length ≤ 640 then (PySem.intText? s).map D.int else none) = _
  rw [if_pos h, e]
  rfl
theorem bStr_i (h : i.natAbs.log2 < 1920) : bStr m [.int i] = some (.str (toString i)) := if_pos h
end
end Mi
namespace Mi
open PySem PySem.Spec L2

/-! ### a comprehension with two for -/
def lc2L (L i j : Nat) (fi1 : MA) (fe : ME) (rho : List (Option D)) : List D → List O → Option (List O)
  | [], m => some m
  | d :: ds, m => match fi1 (rho.set i (some d)) m with
    | .ok p => (match lcL L j mYes fe (rho.set i (some d)) p.1 p.2 with
      | some m' => lc2L L i j fi1 fe rho ds m'
      | none => none)
    | _ => none
def mLc2 (i j : Nat) (fi fi1 : MA) (fe : ME) : ME := fun rho m => (fi rho m).bind fun p => match lc2L p.2.length i j fi1 fe (rho.set j none) p.1 (p.2 ++ [.lst []]) with
  | some m' => .ok (.loc p.2.length, m')
  | none => .bad
section
variable {K : PySem.W.Frag} {mg : Str → Option Value}
/-- the walk of the second for: what it leaves is the list, longer -/
theorem lc2_in {W1 : WX} {J : It} {L j : Nat} {fe : ME} {rho : List (Option D)} {σ : L2.St} {ds : List D} {H1 : Hp} {pi1 : List Addr} {m1 mE : List O} {Da : Addr} {Nx : Hp → Prop} (wk : WalkM K mg J ds H1 pi1) (rm1 : RepM K mg H1 pi1 m1) (hs : RepS K mg H1 pi1 rho σ)
    (hL : pi1[L]? = some Da) (hl : lcL L j mYes fe rho ds m1 = some mE) (end_ : ∀ H2 pi2, Stp H1 pi1 H2 pi2 → RepM K mg H2 pi2 mE → Nx H2) :
    ∃ W : Nat → Nat → Hp → Prop, (∃ m, W 0 m H1) ∧ ∀ i m H, W i m H → (J.stop i H ∧ Nx H) ∨ (J.go i H ∧ ∃ Nx1 : Hp → Prop, (∀ H', Nx1 H' → ∃ m', m' < m ∧ W (i + 1) m' H') ∧ ∀ x H', J.yld i H x H' → gName j x (wipe σ [j]) H' fun σ3 H5 => wipe σ3 [j] = wipe σ [j] ∧ tYes σ3 H5 fun b H6 =>
        if b = true then tE K mg W0 fe σ3 H6 fun y H7 => ∃ acc, H7 Da = some (.lst acc) ∧ acc.length < sizeLine ∧ Nx1 (upd H7 Da (.lst (acc ++ [y]))) else Nx1 H6) := by
  obtain ⟨G, Y, wk, hG, hY⟩ := wk.ex
  refine ⟨fun k n H2 => n = ds.length - k ∧ k ≤ ds.length ∧ ∃ pi2 m2, Stp H1 pi1 H2 pi2 ∧ RepM K mg H2 pi2 m2 ∧ lcL L j mYes fe rho (ds.drop k) m2 = some mE, ⟨ds.length, by simp, Nat.zero_le _, pi1, m1, Stp.refl, rm1, by rw [List.drop_zero]; exact hl⟩, ?_⟩
  rintro k n H2 ⟨rfl, hk, pi2, m2, s2, r2, e2⟩
  by_cases hlt : k < ds.length
  · refine .inr ⟨wk.goes k H2 hlt (hG H2 pi2 m2 s2 r2), fun H3 => ∃ pi2 m2, Stp H1 pi1 H3 pi2 ∧ RepM K mg H3 pi2 m2 ∧ lcL L j mYes fe rho (ds.drop (k + 1)) m2 = some mE, fun H' p' => ⟨ds.length - (k + 1), by omega, rfl, hlt, p'⟩, fun x H3 y => ?_⟩
    obtain ⟨d, hd, st3, rm3, rx⟩ := hY k H2 pi2 m2 x H3 s2 r2 (wk.yields k H2 x H3 hlt (hG H2 pi2 m2 s2 r2) y)
    have hdr : ds.drop k = d :: ds.drop (k + 1) := by
      obtain ⟨hl, e⟩ := List.getElem?_eq_some_iff.mp hd
      rw [(List.drop_eq_getElem_cons hl :), e]
    rw [hdr] at e2
    simp only [lcL, mYes, if_true] at e2
    have hsW : RepS K mg H3 pi2 (rho.set j (some d)) (σ.set j (some x)) := ((hs.mono s2).mono st3).set j rx
    show (((wipe σ [j]).set j (some x)) |> fun σ2 => wipe σ2 [j] = wipe σ [j] ∧ _)
    have hw : (wipe σ [j]).set j (some x) = σ.set j (some x) := by
      show (σ.set j none).set j (some x) = _
      rw [List.set_set]
    rw [hw]
    refine ⟨by show (σ.set j (some x)).set j none = σ.set j none; rw [List.set_set], ?_⟩
    unfold tYes
    dsimp only
    rw [if_pos rfl]
    refine ⟨pi2, m2, rho.set j (some d), rm3, hsW, ?_⟩
    cases he : fe (rho.set j (some d)) m2 with
    | er y m5 =>
      rw [he] at e2
      cases e2
    | bad =>
      rw [he] at e2
      cases e2
    | ok q =>
      obtain ⟨y, m5⟩ := q
      rw [he] at e2
      simp only at e2
      intro v H5 pi5 st5 rm5 ry
      have hL5 : pi5[L]? = some Da := ((s2.trans st3).trans st5).get hL
      cases h6 : m5[L]? with
      | none =>
        rw [h6] at e2
        cases e2
      | some o =>
        cases o with
        | lst acc =>
          rw [h6] at e2
          simp only at e2
          by_cases hc : acc.length < small ∧ y.fz = true
          · rw [if_pos hc] at e2
            obtain ⟨vs, eH, rs⟩ := rm5.at_ _ _ _ hL5 h6
            have hfa := rm5.fz _ _ h6
            obtain ⟨st6, rm6⟩ := rm5.write (u := .lst (vs ++ [v])) (o' := .lst (acc ++ [y])) hL5 h6 (fzs_app acc [y] hfa (by simp [fzs, hc.2])) fun st => ⟨_, upd_same, (rs.append (reps_cons ry reps_nil)).mono st⟩
            exact ⟨vs, eH, sz1 (rs.length ▸ hc.1), pi5, _, ((s2.trans st3).trans st5).trans st6, rm6, e2⟩
          · rw [if_neg hc] at e2
            cases e2
        | _ =>
          rw [h6] at e2
          cases e2
  · have e : k = ds.length := by omega
    subst e
    rw [List.drop_length] at e2
    simp only [lcL] at e2
    cases e2
    exact .inl ⟨wk.stops H2 (hG H2 pi2 _ s2 r2), end_ H2 pi2 s2 r2⟩
theorem lc2_read {W : WX} {i j : Nat} {fi fi1 : MA} {fe : ME} {σ : L2.St} {H : Hp} {Q : VK} (hij : i ≠ j) (h : tE K mg W (mLc2 i j fi fi1 fe) σ H Q) : tLc2 (tI K mg W fi) (gName i) tYes (tI K mg W0 fi1) (gName j) tYes (tE K mg W0 fe) [i, j] [j] σ H Q := by
  obtain ⟨pi, m, rho, hm, hs, p⟩ := h
  have p : PostV K mg (fun c d H' => W c d σ H') H pi Q ((fi rho m).bind fun p => match lc2L p.2.length i j fi1 fe (rho.set j none) p.1 (p.2 ++ [.lst []]) with
    | some m' => .ok (.loc p.2.length, m')
    | none => .bad) := p
  refine ⟨pi, m, rho, hm, hs, ?_⟩
  cases hf : fi rho m with
  | er x m1 =>
    rw [hf] at p
    exact p
  | bad =>
    rw [hf] at p
    exact p.elim
  | ok q =>
    obtain ⟨ds, m1⟩ := q
    rw [hf, R.bind_ok] at p
    intro J H1 pi1 st1 rm1 wk
    simp only at p
    obtain ⟨G, Y, wk, hG, hY⟩ := wk.ex
    intro Da nD
    obtain ⟨stA, rmA⟩ := rm1.alloc (o := .lst []) (u := .lst []) nD (by rfl) ⟨[], upd_same, reps_nil⟩
    have hL : (pi1 ++ [Da])[m1.length]? = some Da := by
      rw [← rm1.len]
      exact last_get _ _
    cases hl : lc2L m1.length i j fi1 fe (rho.set j none) ds (m1 ++ [.lst []]) with
    | none =>
      rw [hl] at p
      exact p.elim
    | some mE =>
      rw [hl] at p
      refine ⟨fun k n H2 => n = ds.length - k ∧ k ≤ ds.length ∧ ∃ pi2 m2, Stp (upd H1 Da (.lst [])) (pi1 ++ [Da]) H2 pi2 ∧ RepM K mg H2 pi2 m2 ∧ lc2L m1.length i j fi1 fe (rho.set j none) (ds.drop k) m2 = some mE,
        ⟨ds.length, by simp, Nat.zero_le _, pi1 ++ [Da], m1 ++ [.lst []], Stp.refl, rmA, by rw [List.drop_zero]; exact hl⟩, ?_⟩
      rintro k n H2 ⟨rfl, hk, pi2, m2, s2, r2, e2⟩
      have g2 := hG H2 pi2 m2 (stA.trans s2) r2
      by_cases hlt : k < ds.length
      · refine .inr ⟨wk.goes k H2 hlt g2, fun H3 => ∃ pi2 m2, Stp (upd H1 Da (.lst [])) (pi1 ++ [Da]) H3 pi2 ∧ RepM K mg H3 pi2 m2 ∧ lc2L m1.length i j fi1 fe (rho.set j none) (ds.drop (k + 1)) m2 = some mE, fun H' p' => ⟨ds.length - (k + 1), by omega, rfl, hlt, p'⟩, fun x H3 y => ?_⟩
        obtain ⟨d, hd, st3, rm3, rx⟩ := hY k H2 pi2 m2 x H3 (stA.trans s2) r2 (wk.yields k H2 x H3 hlt g2 y)
        have hdr : ds.drop k = d :: ds.drop (k + 1) := by
          obtain ⟨hl, e⟩ := List.getElem?_eq_some_iff.mp hd
          rw [(List.drop_eq_getElem_cons hl :), e]
        rw [hdr] at e2
        simp only [lc2L] at e2
        have hs3 := ((hs.mono st1).mono (stA.trans s2)).mono st3
        have hsW : RepS K mg H3 pi2 ((rho.set j none).set i (some d)) ((σ.set j none).set i (some x)) := (hs3.wipe j).set i rx
        show (((wipe σ [i, j]).set i (some x)) |> fun σ2 => wipe σ2 [i, j] = wipe σ [i, j] ∧ _)
        have hw : (wipe σ [i, j]).set i (some x) = (σ.set j none).set i (some x) := by
          show ((σ.set j none).set i none).set i (some x) = _
          rw [List.set_set]
        rw [hw]
        refine ⟨?_, ?_⟩
        · show (((σ.set j none).set i (some x)).set j none).set i none = (σ.set j none).set i none
          rw [List.set_comm _ _ hij, List.set_set, List.set_set]
        unfold tYes
        dsimp only
        rw [if_pos rfl]
        refine ⟨pi2, m2, (rho.set j none).set i (some d), rm3, hsW, ?_⟩
        cases ht : fi1 ((rho.set j none).set i (some d)) m2 with
        | er y m3 =>
          rw [ht] at e2
          cases e2
        | bad =>
          rw [ht] at e2
          cases e2
        | ok q =>
          obtain ⟨es, m3⟩ := q
          rw [ht] at e2
          simp only at e2
          intro J1 H4 pi4 st4 rm4 wk4
          cases hin : lcL m1.length j mYes fe ((rho.set j none).set i (some d)) es m3 with
          | none =>
            rw [hin] at e2
            cases e2
          | some m5 =>
            rw [hin] at e2
            exact lc2_in (W1 := W0) wk4 rm4 (hsW.mono st4) (((s2.trans st3).trans st4).get hL) hin fun H5 pi5 st5 rm5 => ⟨pi5, m5, ((s2.trans st3).trans st4).trans st5, rm5, e2⟩
      · have e : k = ds.length := by omega
        subst e
        rw [List.drop_length] at e2
        simp only [lc2L] at e2
        cases e2
        exact .inl ⟨wk.stops H2 g2, p (.ref Da) H2 pi2 ((st1.trans stA).trans s2) r2 (by simp only [Rep]; exact ⟨Da, rfl, s2.get hL⟩)⟩
end
section
variable {X : Cx} {W : WX} {pos : Pos}
theorem m_lc2 {i j : Nat} {elt tg iter tg1 iter1 : Expr} {scope : Scope} {x y : Str} {fi fi1 : MA} {fe : ME} (hc : X.calm = true) (hN : X.N.Nodup) (hij : i ≠ j) (hi : MI1 X W tg iter fi) (ok : BlkOk X.N X.env.scope scope [(x, i), (y, j)])
    (hg : ∀ (s : Shared) (H : Hp) (C : Addr) (cl : List (Str × Addr)) (fp : List Addr), PG (X.blk s H scope (compEnvC scope cl C X.env) fp) tg (gName i))
    (hi1 : ∀ (s : Shared) (H : Hp) (C : Addr) (cl : List (Str × Addr)) (fp : List Addr), MI1 (X.blk s H scope (compEnvC scope cl C X.env) fp) W0 tg1 iter1 fi1)
    (hg1 : ∀ (s : Shared) (H : Hp) (C : Addr) (cl : List (Str × Addr)) (fp : List Addr), PG (X.blk s H scope (compEnvC scope cl C X.env) fp) tg1 (gName j))
    (he : ∀ (s : Shared) (H : Hp) (C : Addr) (cl : List (Str × Addr)) (fp : List Addr), ME1 (X.blk s H scope (compEnvC scope cl C X.env) fp) W0 elt fe) (hs : ∀ x, foldedSetIterable iter X.env x = pure x := by intro _; rfl) (hs1 : ∀ env x, foldedSetIterable iter1 env x = pure x := by intro _ _; rfl) :
    ME1 X W (.ListComp elt [⟨tg, iter, [], 0⟩, ⟨tg1, iter1, [], 0⟩] scope pos) (mLc2 i j fi fi1 fe) :=
  weak (pe_lc2 (own := [(x, i), (y, j)]) (vs1 := [j]) hc hN hi ok (by simp) hg (fun _ _ _ _ _ => pts_nil) hi1 hg1 (fun _ _ _ _ _ => pts_nil) he hs hs1) fun σ H Q h => lc2_read hij h
theorem s_setLc2 {i j k : Nat} {z : Str} {py spos : Pos} {elt tg iter tg1 iter1 : Expr} {scope : Scope} {x y : Str} {fi fi1 : MA} {fe : ME} (hc : X.calm = true) (hN : X.N.Nodup) (hz : X.N[k]? = some z) (hzl : X.env.scope.names.lookup z = some .local)
    (hsw : swapsWith (.ListComp elt [⟨tg, iter, [], 0⟩, ⟨tg1, iter1, [], 0⟩] scope pos) (some (.Name z py)) spos.line X.env = pure true) (hij : i ≠ j) (hi : MI1 X W tg iter fi) (ok : BlkOk X.N X.env.scope scope [(x, i), (y, j)])
    (hg : ∀ (s : Shared) (H : Hp) (C : Addr) (cl : List (Str × Addr)) (fp : List Addr), PG (X.blk s H scope (compEnvC scope cl C X.env) fp) tg (gName i))
    (hi1 : ∀ (s : Shared) (H : Hp) (C : Addr) (cl : List (Str × Addr)) (fp : List Addr), MI1 (X.blk s H scope (compEnvC scope cl C X.env) fp) W0 tg1 iter1 fi1)
    (hg1 : ∀ (s : Shared) (H : Hp) (C : Addr) (cl : List (Str × Addr)) (fp : List Addr), PG (X.blk s H scope (compEnvC scope cl C X.env) fp) tg1 (gName j))
    (he : ∀ (s : Shared) (H : Hp) (C : Addr) (cl : List (Str × Addr)) (fp : List Addr), ME1 (X.blk s H scope (compEnvC scope cl C X.env) fp) W0 elt fe) {f : ME} (hr : ∀ σ H Q, tE X.K X.mg W f σ H Q → tE X.K X.mg W (mLc2 i j fi fi1 fe) σ H Q) (hs : ∀ x, foldedSetIterable iter X.env x = pure x := by intro _; rfl) (hs1 : ∀ env x, foldedSetIterable iter1 env x = pure x := by intro _ _; rfl) :
    MS1 X W (.Assign [.Name z py] (.ListComp elt [⟨tg, iter, [], 0⟩, ⟨tg1, iter1, [], 0⟩] scope pos) spos) (mSet k f) :=
  weakS (ps_setLc2 (own := [(x, i), (y, j)]) (vs1 := [j]) hc hN hz hzl hsw hi ok (by simp) hg (fun _ _ _ _ _ => pts_nil) hi1 hg1 (fun _ _ _ _ _ => pts_nil) he hs hs1) fun σ H Z hh => by
    obtain ⟨pi, m, rho, hm, hs, p⟩ := hh
    have p : PostS X.K X.mg W Z H pi (onR (f rho m) rho fun d m => .nx (rho.set k (some d)) m) := p
    refine lc2_read hij (hr σ H _ ⟨pi, m, rho, hm, hs, (post_onV hs p).mono fun v H1 h1 => ?_⟩)
    obtain ⟨pi1, m1, d, st1, rm1, r, p1⟩ := h1
    exact p1 _ H1 pi1 Stp.refl rm1 ((hs.mono st1).set k r)
end
end Mi
namespace Mi
open PySem PySem.Spec L2

/-! ### an exception that is kept as a value -/
theorem exV_ok {P : Program} {w : World} {H : Hp} {h : Heap} {a : Addr} {cls : Value} {d : Option Addr} {oe : Obj} (at_ : h.get? a = some oe) (z : Zc cls d oe) (f : ∃ vs, oe.data = .fields vs) : ObjOk P w H h a (ExV cls d a) := by
  obtain ⟨vs, sh⟩ := f
  exact ⟨⟨oe, vs, at_, z, sh⟩, ⟨oe, at_⟩, fun _ _ ⟨o, v, q, r⟩ k => ⟨o, v, k o q, r⟩⟩
theorem exV_at {P : Program} {w : World} {H : Hp} {h : Heap} {a : Addr} {cls : Value} {d : Option Addr} (hok : HOk P w H h) (e : H a = some (ExV cls d a)) : ∃ (oe : Obj) (vs : Array Value), h.get? a = some oe ∧ Zc cls d oe ∧ oe.data = .fields vs := by
  have x : ObjOk P w H h a (.ext fun h => ∃ (oe : Obj) (vs : Array Value), h.get? a = some oe ∧ Zc cls d oe ∧ oe.data = .fields vs) := hok a _ e
  exact x.1
section
variable {X : Cx}
variable {pins : List (Addr × Obj)}
variable {σ : L2.St}
variable {H : Hp}
variable {s : Shared}
/-- from here on it is tracked -/
theorem _root_.L2.Inv.keepV {a : Addr} {oe : Obj} {cls : Value} {d : Option Addr} (I : Inv X pins σ H s) (at_ : s.heap.get? a = some oe) (z : Zc cls d oe) (f : ∃ vs, oe.data = .fields vs) (na : H a = none) (nL : a ≠ X.env.locals) (young : X.s_0.heap.get? a = none) (apart : ∀ p ∈ X.pn ++ pins, p.1 ≠ a) : Inv X pins σ (upd H a (ExV cls d a)) s := by
  have old : ∀ b o, X.s_0.heap.get? b = some o → b ≠ a := fun b o e z => by
    rw [z, young] at e
    cases e
  have cells : ∀ x c, X.env.cells.lookup x = some c → c ≠ a := fun x c e q => by
    obtain ⟨v, o, ho, hd⟩ := (I.cell x c e)
    obtain ⟨vs, sh⟩ := f
    rw [q, at_] at ho
    cases ho
    rw [sh] at hd
    cases hd
  refine ⟨I.ok, I.os, I.bare, ⟨I.base.keep, I.base.slot, fun b o e n hb => ?_, I.base.there, fun b xs e => ?_, fun b o u e => ?_, fun b ps e => ?_⟩, I.loc, I.cell, ?_, fun x c e => ?_, fun p hp => ?_, fun b u e => ?_, I.len⟩
  · rw [upd_ne (old b o e)]
    exact I.base.free b o e n hb
  · have still := I.base.tups b xs e
    rw [upd_ne (ne_of_none still na)]
    exact still
  · have still := I.base.frzs b o u e
    rw [upd_ne (ne_of_none still na)]
    exact still
  · obtain ⟨more, q⟩ := I.base.tbls b ps e
    exact ⟨more, by rw [upd_ne (ne_of_none q na)]; exact q⟩
  · rw [upd_ne nL.symm]
    exact I.free
  · rw [upd_ne (cells x c e)]
    exact I.freeC x c e
  · obtain ⟨e, n, ne, nf, q⟩ := I.pin p hp
    exact ⟨e, by rw [upd_ne (apart p hp)]; exact n, ne, nf, q⟩
  · by_cases hb : b = a
    · subst hb
      rw [upd_same] at e
      cases e
      exact exV_ok at_ z f
    · rw [upd_ne hb] at e
      exact (I.hok b u e).stay (fun c v _ q => q) (fun c q => by rw [upd_ne (ne_of_none q na)]; exact q) fun c xs q => by rw [upd_ne (ne_of_none q na)]; exact q
end
/-- behind the clause -/
def wipedV (i : Nat) (cls : Value) (d : Option Addr) (a : Addr) (D : Ends) : Ends := { nx := fun τ G => D.nx (τ.set i none) (upd G a (ExV cls d a)), rt := D.rt, bk := fun τ G => D.bk (τ.set i none) G, ct := fun τ G => D.ct (τ.set i none) G }
def wAsV (K : PySem.W.Frag) (i : Nat) (c : Value) (ts : Addr → Value → Option Addr → TS) (D : Ends) : WX := fun cls d σ H => PySem.W.exmOne K cls c = some true ∧ ∀ a, H a = none → ts a cls d (wipedV i cls d a D) (σ.set i (some (.ref a))) H
section
variable {X : Cx} {n x : Str} {c : Value} {i : Nat} {body : List Stmt} {b0 : Stmt} {rest : List Stmt} {np ps pos : Pos} {tb : WX → TS} {ts : Addr → Value → Option Addr → TS}
theorem ps_tryV (noex : X.ex = []) (hs : X.stack = X.env :: X.outer) (hf : X.env.frame = some X.env.locals) (hN : X.N.Nodup) (hi : X.N[i]? = some n) (isl : X.env.kindOf n = some .local) (name : Names X x c)
    (inner : ∀ (W1 : WX) (pn : List (Addr × Obj)) (xe : Value → Shared → Prop), Takes (X.tr pn xe) W1 → PassesOwn (model X.prog X.w) X.A X.env xe → PSs (X.tr pn xe) body (tb W1))
    (does : ∀ (a : Addr) (o : Obj) (cls : Value) (d : Option Addr) (pn : List (Addr × Obj)), Zc cls d o → (∃ vs, o.data = .fields vs) → PSs (X.suite a ((a, o) :: pn)) (b0 :: rest) (ts a cls d)) :
    PS X (.Try body [.ExceptHandler (some (.Name x np)) (some n) (b0 :: rest) ps] [] [] pos) (fun D σ H => tb (wAsV X.K i c ts D) D σ H) := by
  constructor
  intro pins s σ H D inv h
  have ok := inv.ok
  have frames : X.A.frames = some (X.env :: X.outer) := ok.frames.trans (congrArg some hs)
  refine wpAny_Try_except (wpAny_mono ((inner (wAsV X.K i c ts D) (X.pn ++ pins) (fun e s1 => wpAny (model X.prog X.w) X.A (noteFrame e X.env) (fun _ s2 => wpAny (model X.prog X.w) X.A (setFlight e none) (fun _ s3 => wpAny (model X.prog X.w) X.A (handleBy e X.env [.ExceptHandler (some (.Name x np)) (some n) (b0 :: rest) ps]) (SP X pins D) X.xe s3) X.xe s2) X.xe s1)
    (fun u s1 thrown => ?caught) PassesOwn.looking).run [] s σ H D (inv.toTry _) h) (fun f s1 over => ?over) fun _ _ lost => lost)
  case over =>
    match f, over with
    | .next, ⟨τ, G, inv1, q⟩ => exact wpAny_execs_nil ⟨τ, G, inv1.ofTry ok, q⟩
    | .brk, ⟨τ, G, inv1, q⟩ => exact ⟨τ, G, inv1.ofTry ok, q⟩
    | .cont, ⟨τ, G, inv1, q⟩ => exact ⟨τ, G, inv1.ofTry ok, q⟩
    | .ret u, ⟨v, τ, G, inv1, rel, q⟩ => exact ⟨v, τ, G, inv1.ofTry ok, rel, q⟩
  case caught =>
    obtain ⟨a, B, s0, pins1, τ, G, cls, d, rfl, inv0, below, up1, sky, gone, same, agree, want⟩ := thrown
    have inv1 : Inv X pins τ G s0 := inv0.ofTry ok
    have over : Sky B (X.env :: X.outer) a (Zc cls d) X.env.locals s1.heap := hs ▸ sky
    have noB : B.get? a = none := by
      rcases over with q | q | q
      · exact q.2.1
      · exact q.2.1
      · exact q.2.1
    change wpAny (model X.prog X.w) X.A (noteFrame (.ref a) X.env) _ _ _
    refine Sky.land Zc.steady frames hf over fun h3 down up3 => ?_
    have inv3 : Inv X pins τ G { s1 with heap := h3 } := inv1.landed below down.1 (up1.trans up3) same agree
    have ⟨o3, v3, at3, z3, sh3⟩ := down.there
    have alien : a ∉ L2.frs (X.env :: X.outer) := fun mem => by
      have ⟨_, o, at_, no⟩ := down.2.2.1.mem mem
      cases at_.symm.trans at3
      exact no _ sh3
    have notLoc : a ≠ X.env.locals := fun z => alien (List.mem_filterMap.mpr ⟨X.env, List.mem_cons_self, hf.trans (congrArg some z.symm)⟩)
    have notFs : a ∉ X.fs := fun mem => by
      have ⟨E, memE, q⟩ := List.mem_filterMap.mp mem
      exact alien (List.mem_filterMap.mpr ⟨E, List.mem_cons_of_mem _ memE, q⟩)
    have no0 : s0.heap.get? a = none := by
      cases e : s0.heap.get? a with
      | none => rfl
      | some o =>
        have q := below a o e (hs ▸ alien)
        rw [noB] at q
        cases q
    have young : X.s_0.heap.get? a = none := by
      cases there : X.s_0.heap.get? a with
      | none => rfl
      | some o =>
        have hx : a ∉ X.ex := by
          rw [noex]
          exact fun z => nomatch z
        obtain ⟨o', q⟩ := inv1.base.there a o there hx
        rw [no0] at q
        cases q
    have apart : ∀ p ∈ X.pn ++ pins, p.1 ≠ a := fun p hp z => by
      have q := (inv1.pin p hp).1
      rw [z, no0] at q
      cases q
    have inS := inv3.suite at3 sh3 gone notLoc notFs
    obtain ⟨asked, yes⟩ := want
    apply wpAny_handleBy_cons _ (fun z => by cases z)
    apply codeAny_handlers_test
    have look : PySem.W.Looks (model X.prog X.w) h3 (typeOf (.ref a)) cls := fun A Q E s2 keeps won => wpAny_typeOf_ref (keeps _ _ at3) (z3.1.symm ▸ won)
    have answer := PySem.W.exm_one (M := model X.prog X.w) inv3.kIn look asked
    have named : ∀ {Q E : Value → Shared → Prop}, Q c { s1 with heap := h3 } → wpAny (model X.prog X.w) (X.A.mark (some (.ref a))) (eval (.Name x np) X.env) Q E { s1 with heap := h3 } := fun {Q E} won => by
      rcases name with ⟨glob, dbg, mem | ⟨mem, boot, nn⟩⟩
      · exact ld_glob (X := X.suite a ((a, o3) :: (X.pn ++ pins))) inS glob mem won dbg
      · exact ld_blt (X := X.suite a ((a, o3) :: (X.pn ++ pins))) inS glob mem boot won nn dbg
    refine named (answer.here ?_)
    apply codeAny_handlers_suite_as
    refine HandSPX.lands_againZ down fun h4 down4 up4 => ?_
    have inv4 : Inv X pins τ G { s1 with heap := h4 } := inv1.landed below down4.1 ((up1.trans up3).trans up4) same agree
    have ⟨o4, v4, at4, z4, sh4⟩ := down4.there
    refine store_ok (X := X.suite a ((a, o4) :: (X.pn ++ pins))) (v := .ref a) (inv4.suite at4 sh4 gone notLoc notFs) hN hi (.inl isl) rfl (fun s5 in5 => ?_) (.inr isl)
    refine wpAny_mono ((does a o4 cls d (X.pn ++ pins) z4 ⟨_, sh4⟩).run [] s5 _ G _ in5 (yes a gone)) (fun f s6 over => ?_) fun _ _ z => z.elim
    have leave : ∀ {τ6 : L2.St} {G6 : Hp} {Q : Shared → Prop}, Inv (X.suite a ((a, o4) :: (X.pn ++ pins))) [] τ6 G6 s6 → (∀ s7, Inv X pins (τ6.set i none) G6 s7 → Q s7) →
        wpAny (model X.prog X.w) X.A (do bindName X.env n .none; unbindBehindTheSuite X.env n ps) (fun _ s7 => Q s7) X.xe s6 := fun in6 won => gone_ok (in6.unsuite ok) hN hi isl won
    match f, over with
    | .next, ⟨τ6, G6, in6, q6⟩ =>
      obtain ⟨at6, n6, _⟩ := in6.pin (a, o4) (List.mem_append_left _ List.mem_cons_self)
      have in7 := (in6.unsuite ok).keepV at6 z4 ⟨_, sh4⟩ n6 notLoc young apart
      exact gone_ok in7 hN hi isl fun s7 in8 => ⟨_, _, in8, q6⟩
    | .brk, ⟨τ6, G6, in6, q6⟩ => exact leave in6 fun s7 in7 => ⟨_, _, in7, q6⟩
    | .cont, ⟨τ6, G6, in6, q6⟩ => exact leave in6 fun s7 in7 => ⟨_, _, in7, q6⟩
    | .ret u, ⟨v, τ6, G6, in6, rel, q6⟩ => exact leave in6 fun s7 in7 => ⟨_, _, _, in7, rel, q6⟩
end
end Mi
namespace Mi
open PySem PySem.Spec L2

/-! ### try: .. except C as n: y = n, over the store -/
def excD (x : Xn) : D := .exc x.cls (x.fs.reverse.map (·.1)) (x.fs.reverse.map (·.2))
def mTryV (cl : List Str) (i j : Nat) (body : MS) : MS := fun rho m => match body rho m with
  | .er x rho m => if x.cls ∈ cl ∧ i < rho.length then .nx ((rho.set j (some (excD x))).set i none) m else .bad
  | r => r
def clVar (i j : Nat) : Addr → Value → Option Addr → TS := fun a _ _ Z σ H => σ[i]? = some (some (.ref a)) ∧ Z.nx (σ.set j (some (.ref a))) H
section
variable {X : Cx} {W : WX} {e : Expr} {pos : Pos}
theorem cl_var {n y : Str} {i j : Nat} {p2 p8 p9 : Pos} (hN : X.N.Nodup) (hi : X.N[i]? = some n) (hj : X.N[j]? = some y) (isl : X.env.kindOf y = some .local) (see : Vis X.env.scope n) (dbgN : (n == ("__debug__" : Str)) = false) (clN : (n == ("__classdict__" : Str)) = false)
    (sw : ∀ a pn, swapsWith (.Name n p2) (some (.Name y p8)) p9.line (X.suite a pn).env = pure false) (a : Addr) (o : Obj) (cls : Value) (d : Option Addr) (pn : List (Addr × Obj)) : PSs (X.suite a ((a, o) :: pn)) [.Assign [.Name y p8] (.Name n p2) p9] (clVar i j a cls d) :=
  weakSs (pss_one (ps_set (i := j) hN hj (.inl isl) (pe_var (i := i) hi see dbgN clN) (sw a _) (.inr isl))) fun σ H Z h => ⟨.ref a, h.1, h.2⟩
theorem exc_rep {K : PySem.W.Frag} {mg : Str → Option Value} {H : Hp} {pi : List Addr} {m : List O} {x : Xn} {C : Addr} {dx : Option Addr} {a : Addr} (rm : RepM K mg H pi m) (rx : RepX K mg H pi x (.ref C) dx) (na : H a = none) : Rep K mg (upd H a (ExV (.ref C) dx a)) pi (excD x) (.ref a) := by
  obtain ⟨C', g, e, kind⟩ := rx
  cases e
  have st : Stp H pi (upd H a (ExV (.ref C) dx a)) pi := stp_new na
  simp only [excD, Rep]
  rcases kind with ⟨q, q2⟩ | ⟨f, y, b, v, q, q2, at_, out, whole, rep⟩ | ⟨f, y, f2, z, b, v, u, q, q2, at_, out, whole, rep, rep2⟩
  · exact ⟨a, C, dx, [], rfl, rm.fresh na, g, upd_same, .inl ⟨q2, rfl⟩, by rw [q]; rfl, by rw [q]; exact reps_nil⟩
  · refine ⟨a, C, dx, [(f, v)], rfl, rm.fresh na, g, upd_same, .inr ⟨b, q2, out, by rw [upd_ne (ne_of_none at_ na)]; exact at_⟩, by rw [q]; rfl, ?_⟩
    rw [q]
    exact reps_cons (Rep.mono st _ _ rep) reps_nil
  · refine ⟨a, C, dx, [(f2, u), (f, v)], rfl, rm.fresh na, g, upd_same, .inr ⟨b, q2, out, by rw [upd_ne (ne_of_none at_ na)]; exact at_⟩, by rw [q]; rfl, ?_⟩
    rw [q]
    exact reps_cons (Rep.mono st _ _ rep2) (reps_cons (Rep.mono st _ _ rep) reps_nil)
theorem s_tryV {cn n y : Str} {C0 : Addr} {cl : List Str} {i j : Nat} {body : List Stmt} {b : MS} {np p2 p8 p9 ps : Pos} (noex : X.ex = []) (hs : X.stack = X.env :: X.outer) (hf : X.env.frame = some X.env.locals) (hN : X.N.Nodup) (hi : X.N[i]? = some n) (isl : X.env.kindOf n = some .local) (hij : i ≠ j)
    (glob : Gl X cn) (mem : X.mg cn = some (.ref C0)) (inner : ∀ (W1 : WX) (pn : List (Addr × Obj)) (xe : Value → Shared → Prop), Takes (X.tr pn xe) W1 → PassesOwn (model X.prog X.w) X.A X.env xe → MSs (X.tr pn xe) W1 body b)
    (hj : X.N[j]? = some y) (islj : X.env.kindOf y = some .local) (see : Vis X.env.scope n) (sw : ∀ a pn, swapsWith (.Name n p2) (some (.Name y p8)) p9.line (X.suite a pn).env = pure false)
    (ex : ∀ c ∈ cl, ∀ C, X.mg c = some (.ref C) → PySem.W.exmOne X.K (.ref C) (.ref C0) = some true) (dbg : (cn == ("__debug__" : Str)) = false := by decide) (dbgN : (n == ("__debug__" : Str)) = false := by decide) (clN : (n == ("__classdict__" : Str)) = false := by decide) :
    MS1 X W (.Try body [.ExceptHandler (some (.Name cn np)) (some n) [.Assign [.Name y p8] (.Name n p2) p9] ps] [] [] pos) (mTryV cl i j b) := by
  refine weakS (ps_tryV noex hs hf hN hi isl ⟨glob, dbg, .inl mem⟩ (tb := fun W1 => tS X.K X.mg W1 b) inner (fun a o cls d pn _ _ => cl_var hN hi hj islj see dbgN clN sw a o cls d pn)) fun σ H Z hh => ?_
  obtain ⟨pi, m, rho, rm, rs, post⟩ := hh
  refine ⟨pi, m, rho, rm, rs, ?_⟩
  have post : PostS X.K X.mg W Z H pi (match b rho m with
    | .er x rho m => if x.cls ∈ cl ∧ i < rho.length then .nx ((rho.set j (some (excD x))).set i none) m else .bad
    | r => r) := post
  cases hb : b rho m with
  | er x rho1 m1 =>
    simp only [hb] at post
    by_cases fits : x.cls ∈ cl ∧ i < rho1.length
    · rw [if_pos fits] at post
      intro c dx σ1 H1 pi1 st rm1 rs1 rx
      have whole := rx
      obtain ⟨C, g, rfl, _⟩ := rx
      refine ⟨ex _ fits.1 C g, fun a na => ⟨List.getElem?_set_self (rs1.len ▸ fits.2), ?_⟩⟩
      show Z.nx (((σ1.set i (some (.ref a))).set j (some (.ref a))).set i none) (upd H1 a (ExV (.ref C) dx a))
      rw [List.set_comm _ _ hij, List.set_set]
      have st2 : Stp H1 pi1 (upd H1 a (ExV (.ref C) dx a)) pi1 := stp_new na
      exact post _ _ pi1 (st.trans st2) (rm1.new na) (((rs1.mono st2).set j (exc_rep rm1 whole na)).wipe i)
    · rw [if_neg fits] at post
      exact post.elim
  | nx rho1 m1 =>
    simp only [hb] at post
    exact post
  | ct rho1 m1 =>
    simp only [hb] at post
    exact post
  | bk rho1 m1 =>
    simp only [hb] at post
    exact post
  | rt d1 m1 =>
    simp only [hb] at post
    exact post
  | bad =>
    simp only [hb] at post
    exact post.elim
end
/-! ### isinstance(e, C) and e.f, e an exception as a value -/
def rIsV (K : PySem.W.Frag) : List V → Hp → VK → Prop := fun us H Q => ∃ (a C : Addr) (d : Option Addr) (c : V) (cv : Value) (k : Bool), us = [.ref a, c] ∧ ExcC K C ∧ H a = some (ExV (.ref C) d a) ∧ (d = none ∨ ∃ b fs, d = some b ∧ H b = some (.xd fs)) ∧ (∀ u, RelV c u → u = cv) ∧ PySem.W.kitOne K (.ref C) cv = some k ∧ Q (.bl k) H
theorem call_isV {X : Cx} : CallR X (.builtin "isinstance") (rIsV X.K) := by
  rintro pins s σ H us ws Q inv rel ⟨a, C, d, c, cv, k, rfl, T, ata, dict, is, ans, won⟩
  cases rel with
  | cons r1 rr =>
    cases rr with
    | cons r2 rr =>
      cases rr
      cases r1
      have same := is _ r2
      subst same
      obtain ⟨oe, vs, at_, hz, sh⟩ := exV_at inv.hok ata
      have known : (PySem.W.clsIn X.K C).isSome = true := by
        obtain ⟨cd, hcd, _⟩ := PySem.W.any_some T.hd
        rw [hcd]
        rfl
      have plain : PySem.W.notCls oe := by
        unfold PySem.W.notCls
        rw [sh]
      have goes : ∀ od, PySem.W.InstAt s.heap a oe C od → wpAny (model X.prog X.w) X.A (call (.builtin "isinstance") [.ref a, _]) (EP X pins σ Q) X.xe s := fun od J =>
        PySem.W.kia_one (PySem.W.kitx_exc (od := od) known T.hg T.hk T.hs T.ha T.hn T.ht T.hm) inv.kIn J ans (fun z => nomatch z) fun tk => ⟨.bl k, H, inv.kept (t' := tk) fun _ _ z => z, rfl, won⟩
      rcases dict with rfl | ⟨b, fs, rfl, atb⟩
      · exact goes none ⟨at_, hz.1, plain, by rw [hz.2]; trivial⟩
      · have ⟨mA, hns, _⟩ := (show ObjOk X.prog X.w H s.heap b (.xd fs) from inv.hok b _ atb)
        have ⟨od, ho, _⟩ := lookIn_ns hns
        exact goes (some od) ⟨at_, hz.1, plain, by rw [hz.2]; exact ho⟩
def isE (cl : List Str) (b : Str → Bool) (d : D) : Option Bool := match d with
  | .exc c _ _ => if c ∈ cl then some (b c) else none
  | _ => none
def mIsiE (cl : List Str) (b : Str → Bool) (f : ME) : ME := fun rho m => (f rho m).bind fun p => onO (isE cl b p.1) fun k => .ok (.bl k, p.2)
def tXv (K : PySem.W.Frag) (f : Str) (te : TE) : TE := fun σ H Q => te σ H fun x H1 => ∃ (a C b : Addr) (fs : List (Str × V)) (v : V), x = .ref a ∧ XfC K C ∧ PySem.W.findIn K (.ref C) f = some none ∧ H1 a = some (ExV (.ref C) (some b) a) ∧ H1 b = some (.xd fs) ∧ fs.lookup f = some v ∧ Q v H1
theorem pe_xv {X : Cx} {e : Expr} {te : TE} {pos : Pos} {f : Str} (part : PE X e te) (ab : attributeBase e f X.env (eval e X.env) = eval e X.env) : PE X (.Attribute e f pos) (tXv X.K f te) := by
  constructor
  intro pins s σ H Q inv h
  refine attr_of ab (thn (part.run pins s σ H _ inv h) fun w s1 got => ?_)
  obtain ⟨x, G, inv1, rx, a, C, b, fs, v, rfl, T, own, ata, atb, look, won⟩ := got
  obtain rfl : w = Value.ref a := (rx)
  obtain ⟨oe, vs, at_, hz, sh⟩ := exV_at inv1.hok ata
  have dict : ObjOk X.prog X.w G s1.heap b (.xd fs) := inv1.hok b _ atb
  obtain ⟨mA, hns, rel⟩ := dict
  obtain ⟨od, ho, hl⟩ := (lookIn_ns hns)
  obtain ⟨u, hu, ru⟩ := RelO.some_of (v := v) (o := mA f) (by rw [← look]; exact rel f)
  have inst : PySem.W.InstAt s1.heap a oe C (some od) := ⟨at_, hz.1, by unfold PySem.W.notCls; rw [sh] <;> rfl, by rw [hz.2]; exact ho⟩
  exact HandSPX.exc_get inv1.kIn inst T.ga T.gg T.exC (PySem.W.findObj_own T.hdC own rfl (by rw [hl, hu])) (handed_of ru) ⟨v, G, inv1.tok _, ru, won⟩
def excOf (cl : List Str) (d : D) : Option (List Str × List D) := match d with
  | .exc c ns ds => if c ∈ cl then some (ns, ds) else none
  | _ => none
def mFldX (cl : List Str) (f : Str) (fe : ME) : ME := fun rho m => (fe rho m).bind fun p => onO (excOf cl p.1) fun q => onO (fldAt f q.1 q.2) fun d => .ok (d, p.2)
/-! ### {k: v, l: w}[e] -/
def mDix (l : List (Int × Int)) (f : ME) : ME := fun rho m => (f rho m).bind fun p => onO (intOf p.1) fun i => onO (l.lookup i) fun v => .ok (.int v, p.2)
section
variable {X : Cx} {W : WX} {e : Expr} {pos : Pos}
theorem isE_reads {cl : List Str} {b : Str → Bool} {f : ME} {C0 : Value} {c0 : V} (is : ∀ u, RelV c0 u → u = C0) (ec : ∀ c ∈ cl, ∀ C, X.mg c = some (.ref C) → ExcC X.K C) (kit : ∀ c ∈ cl, ∀ C, X.mg c = some (.ref C) → PySem.W.kitOne X.K (.ref C) C0 = some (b c)) {σ : L2.St} {H : Hp} {Q : VK} (hh : tE X.K X.mg W (mIsiE cl b f) σ H Q) :
    tE X.K X.mg W f σ H fun x H1 => rIsV X.K [x, c0] H1 Q := by
  obtain ⟨pi, m, rho, rm, hs, post⟩ := hh
  refine ⟨pi, m, rho, rm, hs, (PostV.bind post).mono fun x H1 h1 => ?_⟩
  obtain ⟨pi1, m1, d, st1, rm1, rep, p1⟩ := h1
  cases hd : isE cl b d with
  | none =>
    simp only [hd] at p1
    exact p1.elim
  | some k =>
    simp only [hd, onO_some] at p1
    have won := p1.here (v := .bl k) rm1 (by simp only [Rep])
    cases d with
    | exc c ns ds =>
      simp only [Rep] at rep
      obtain ⟨a, C, dx, fv, rfl, _, g, at1, dict, _⟩ := rep
      change (if c ∈ cl then some (b c) else none) = some k at hd
      by_cases here : c ∈ cl
      · rw [if_pos here] at hd
        cases hd
        exact ⟨a, C, dx, c0, C0, b c, rfl, ec c here C g, at1, dict.elim (fun z => .inl z.1) (fun ⟨y, e1, _, e2⟩ => .inr ⟨y, fv, e1, e2⟩), is, kit c here C g, won⟩
      · rw [if_neg here] at hd
        cases hd
    | _ => cases hd
theorem m_isiE {c0 : Str} {C0 : Addr} {cl : List Str} {b : Str → Bool} {f : ME} {p q : Pos} (hg : Gl X "isinstance") (hm : X.mg "isinstance" = none) (glob : Gl X c0) (mem : X.mg c0 = some (.ref C0)) (ec : ∀ c ∈ cl, ∀ C, X.mg c = some (.ref C) → ExcC X.K C) (kit : ∀ c ∈ cl, ∀ C, X.mg c = some (.ref C) → PySem.W.kitOne X.K (.ref C) (.ref C0) = some (b c)) (ha : ME1 X W e f)
    (dbg : (c0 == ("__debug__" : Str)) = false := by decide) (one : starEach [e, .Name c0 q] X.env = (false, eval e X.env) :: starEach [.Name c0 q] X.env := by rfl) (two : starEach [.Name c0 q] X.env = (false, eval (.Name c0 q) X.env) :: starEach [] X.env := by rfl) (plain : (backTo pos (starEach [.Name c0 q] X.env)).any (·.1) = false := by rfl) :
    ME1 X W (.Call (.Name "isinstance" p) [e, .Name c0 q] [] pos) (mIsiE cl b f) :=
  weak (pe_callB call_isV hg hm (by decide +kernel) (pa_cons ha (pa_cons (pe_glob (v := .ref C0) glob mem rfl dbg) pa_nil two) one) (by decide) (by decide) one plain) fun σ H Q hh => isE_reads (C0 := .ref C0) (c0 := .ref C0) (fun _ z => z) ec kit hh
theorem m_isiB {c0 : Str} {t : String} {cl : List Str} {b : Str → Bool} {f : ME} {p q : Pos} (hg : Gl X "isinstance") (hm : X.mg "isinstance" = none) (glob : Gl X c0) (mem : X.mg c0 = none) (boot : bootBuiltins c0 = some (.type t)) (ec : ∀ c ∈ cl, ∀ C, X.mg c = some (.ref C) → ExcC X.K C) (kit : ∀ c ∈ cl, ∀ C, X.mg c = some (.ref C) → PySem.W.kitOne X.K (.ref C) (.type t) = some (b c)) (ha : ME1 X W e f)
    (nn : c0 ≠ "__name__" := by decide) (dbg : (c0 == ("__debug__" : Str)) = false := by decide) (one : starEach [e, .Name c0 q] X.env = (false, eval e X.env) :: starEach [.Name c0 q] X.env := by rfl) (two : starEach [.Name c0 q] X.env = (false, eval (.Name c0 q) X.env) :: starEach [] X.env := by rfl) (plain : (backTo pos (starEach [.Name c0 q] X.env)).any (·.1) = false := by rfl) :
    ME1 X W (.Call (.Name "isinstance" p) [e, .Name c0 q] [] pos) (mIsiE cl b f) :=
  weak (pe_callB call_isV hg hm (by decide +kernel) (pa_cons ha (pa_cons (pe_bltn (v := .ty t) glob mem boot rfl nn dbg) pa_nil two) one) (by decide) (by decide) one plain) fun σ H Q hh => isE_reads (C0 := .type t) (c0 := .ty t) (fun _ z => z) ec kit hh
theorem m_fldX {cl : List Str} {f : Str} {fe : ME} (he : ME1 X W e fe) (xf : ∀ c ∈ cl, ∀ C, X.mg c = some (.ref C) → XfC X.K C ∧ PySem.W.findIn X.K (.ref C) f = some none) (ab : attributeBase e f X.env (eval e X.env) = eval e X.env := by rfl) : ME1 X W (.Attribute e f pos) (mFldX cl f fe) := by
  refine weak (pe_xv he ab) fun σ H Q hh => ?_
  obtain ⟨pi, m, rho, rm, hs, post⟩ := hh
  refine ⟨pi, m, rho, rm, hs, (PostV.bind post).mono fun x H1 h1 => ?_⟩
  obtain ⟨pi1, m1, d, st1, rm1, rep, p1⟩ := h1
  cases hd : excOf cl d with
  | none =>
    simp only [hd] at p1
    exact p1.elim
  | some q =>
    simp only [hd, onO_some] at p1
    cases hf : fldAt f q.1 q.2 with
    | none =>
      simp only [hf] at p1
      exact p1.elim
    | some y =>
      simp only [hf, onO_some] at p1
      cases d with
      | exc c ns ds =>
        simp only [Rep] at rep
        obtain ⟨a, C, dx, fv, rfl, _, g, at1, dict, en, rs⟩ := rep
        change (if c ∈ cl then some (ns, ds) else none) = some q at hd
        by_cases here : c ∈ cl
        · rw [if_pos here] at hd
          cases hd
          obtain ⟨w, e2, r2⟩ := fld_of en rs hf
          rcases dict with ⟨_, rfl⟩ | ⟨b, rfl, _, atb⟩
          · cases e2
          · exact ⟨a, C, b, fv, w, rfl, (xf c here C g).1, (xf c here C g).2, at1, atb, e2, p1.here rm1 r2⟩
        · rw [if_neg here] at hd
          cases hd
      | _ => cases hd
theorem m_dix {k v l w : Int} {f : ME} {j1 j2 j3 j4 : Nat} {p1 p2 p3 p4 pd : Pos} (hu : X.A.units + 1 < cLine) (he : ME1 X W e f) (other : k ≠ l := by decide) (plain : NoSl e := by exact fun _ _ => rfl) :
    ME1 X W (.Subscript (.Dict [some (.Constant (.int k) j1 p1), some (.Constant (.int l) j2 p2)] [.Constant (.int v) j3 p3, .Constant (.int w) j4 p4] pd) e pos) (mDix [(k, v), (l, w)] f) := by
  refine weak (pe_dget hu (pe_disp (pps_cons pe_int pe_int (pps_cons pe_int pe_int pps_nil)) rfl rfl (by simp) (by simp)) he plain) fun σ H Q hh => ?_
  obtain ⟨pi, m, rho, rm, hs, post⟩ := hh
  intro p np
  refine ⟨upd_same, [(.inl k, .int v), (.inl l, .int w)], rfl, by simp, ?_⟩
  rw [upd_upd]
  have st : Stp H pi (upd H p (.dK (mergeK [] [(.inl k, .int v), (.inl l, .int w)]))) pi := stp_new np
  refine ⟨pi, m, rho, rm.new np, hs.mono st, (PostV.bind (PostV.from st post)).mono fun x H1 h1 => ?_⟩
  obtain ⟨pi1, m1, d, st1, rm1, rep, p1⟩ := h1
  cases d with
  | int i =>
    simp only [Rep] at rep
    subst rep
    simp only [intOf, onO_some] at p1
    have at_ := st1.keep p _ upd_same (rm.fresh np)
    have row : mergeK [] [((.inl k : Key), V.int v), (.inl l, .int w)] = [(.inl k, .int v), (.inl l, .int w)] := by
      have : ¬ ((.inl k : Key) = .inl l) := fun z => other (Sum.inl.inj z)
      simp [mergeK, putK, this]
    rw [row] at at_
    cases hl : List.lookup i [(k, v), (l, w)] with
    | none =>
      rw [hl] at p1
      exact p1.elim
    | some z =>
      rw [hl] at p1
      refine ⟨p, .int z, rfl, .inl ⟨_, .inl i, .inl at_, rfl, ?_⟩, p1.here rm1 (by simp only [Rep])⟩
      by_cases h1 : i = k
      · subst h1
        simp [List.lookup] at hl
        simp [valV, hl]
      · have e1 : (i == k) = false := beq_eq_false_iff_ne.mpr h1
        by_cases h2 : i = l
        · subst h2
          simp [List.lookup, e1] at hl
          have : ¬ (k = i) := fun z => h1 z.symm
          simp [valV, this, hl]
        · have e2 : (i == l) = false := beq_eq_false_iff_ne.mpr h2
          simp [List.lookup, e1, e2] at hl
  | _ => exact p1.elim
end
end Mi
namespace Mi
open PySem PySem.Spec L2

section
variable {X : Cx} {W : WX} {e : Expr} {pos : Pos}
theorem i_enL0 {f : ME} {p tpos : Pos} {elts : List Expr} {kk : Nat} (hg : Gl X "enumerate") (hm : X.mg "enumerate" = none) (ha : ME1 X W e f) (one : starEach [e] X.env = [(false, eval e X.env)] := by rfl) (two : starEach [e] X.env = (false, eval e X.env) :: starEach [] X.env := by rfl) :
    MI1 X W (.Tuple elts kk tpos) (.Call (.Name "enumerate" p) [e] [] pos) (mEnL 0 f) := weakI (pi_enumL0 hg hm ha one two) fun σ H R h => i_enL_read h
/-! ### isinstance(x, (T, U)) -/
def isi2 (t u : String) (d : D) : Option Bool := (tyN d).bind fun n => (kitB n t).bind fun b => if b = true then some true else kitB n u
def mIsi2 (t u : String) (f : ME) : ME := fun rho m => (f rho m).bind fun p => onO (isi2 t u p.1) fun k => .ok (.bl k, p.2)
theorem m_isi2 {x y : Str} {t u : String} {f : ME} {kk : Nat} {p q1 q2 pt : Pos} (hg : Gl X "isinstance") (hm : X.mg "isinstance" = none) (g1 : Gl X x) (m1 : X.mg x = none) (v1 : bootBuiltins x = some (.type t)) (g2 : Gl X y) (m2 : X.mg y = none) (v2 : bootBuiltins y = some (.type u)) (ha : ME1 X W e f)
    (n1 : x ≠ "__name__" := by decide) (n2 : y ≠ "__name__" := by decide) (d1 : (x == ("__debug__" : Str)) = false := by decide) (d2 : (y == ("__debug__" : Str)) = false := by decide)
    (s1 : starEach [.Name x q1, .Name y q2] X.env = (false, eval (.Name x q1) X.env) :: starEach [.Name y q2] X.env := by rfl) (s2 : starEach [.Name y q2] X.env = (false, eval (.Name y q2) X.env) :: starEach [] X.env := by rfl)
    (one : starEach [e, .Tuple [.Name x q1, .Name y q2] kk pt] X.env = (false, eval e X.env) :: starEach [.Tuple [.Name x q1, .Name y q2] kk pt] X.env := by rfl) (two : starEach [.Tuple [.Name x q1, .Name y q2] kk pt] X.env = (false, eval (.Tuple [.Name x q1, .Name y q2] kk pt) X.env) :: starEach [] X.env := by rfl) (plain : (backTo pos (starEach [.Tuple [.Name x q1, .Name y q2] kk pt] X.env)).any (·.1) = false := by rfl) :
    ME1 X W (.Call (.Name "isinstance" p) [e, .Tuple [.Name x q1, .Name y q2] kk pt] [] pos) (mIsi2 t u f) := by
  refine weak (pe_callB call_isiT hg hm (by decide +kernel) (pa_cons ha (pa_cons (pe_tup (pa_cons (pe_bltn (v := .ty t) g1 m1 v1 rfl n1 d1) (pa_cons (pe_bltn (v := .ty u) g2 m2 v2 rfl n2 d2) pa_nil s2) s1)) pa_nil two) one) (by decide) (by decide) one plain) fun σ H Q hh => ?_
  obtain ⟨pi, m, rho, rm, hs, post⟩ := hh
  refine ⟨pi, m, rho, rm, hs, (PostV.bind post).mono fun v H1 h1 => ?_⟩
  obtain ⟨pi1, m2, d, st1, rm1, rep, p1⟩ := h1
  refine ⟨by show 2 ≤ sizeLine; decide, fun tp np => ?_⟩
  have st2 : Stp H1 pi1 (upd H1 tp (.tup [.ty t, .ty u])) pi1 := stp_new np
  have p2 := PostV.from st2 p1
  cases hd : isi2 t u d with
  | none =>
    simp only [hd] at p2
    exact p2.elim
  | some k =>
    simp only [hd, onO_some] at p2
    have won := p2.here (v := .bl k) (rm1.new np) (by simp only [Rep])
    unfold isi2 at hd
    cases ht : tyN d with
    | none =>
      rw [ht] at hd
      cases hd
    | some n =>
      rw [ht, Option.bind_some] at hd
      cases h1 : kitB n t with
      | none =>
        rw [h1] at hd
        cases hd
      | some b =>
        rw [h1, Option.bind_some] at hd
        refine ⟨v, tp, [.ty t, .ty u], .type n, [.type t, .type u], k, rfl, upd_same, .cons (.ty t) (.cons (.ty u) .nil), tyx_of (Rep.mono st2 _ _ rep) ht, kitAny_cons (kit_ty h1) (fun z => ?_) (fun z => ?_), won⟩
        · rw [z, if_neg Bool.false_ne_true] at hd
          exact kitAny_cons (kit_ty hd) (fun z2 => by rw [z2]; rfl) (fun z2 => z2)
        · rw [z, if_pos rfl] at hd
          exact (Option.some.inj hd).symm
end
end Mi
namespace Ge
open PySem PySem.Spec L2 Mi
/-! ### the text -/
def topS (i : Nat) : Stmt := PySem.Challenge.pw_cutsagain_k19_errors_apart.main.body.getD i (.Pass ⟨0, 0, 0, 0⟩)
abbrev st__law_draws : Stmt := topS 78
abbrev N__law_draws : List Str := ["_law_script"]
theorem sc__law_draws : FnScope N__law_draws ["_law_script"] (defScope st__law_draws) := ⟨rfl, rfl, rfl, by decide +kernel, rfl, by decide +kernel, by decide +kernel⟩
abbrev st__law_kinds : Stmt := topS 81
abbrev N__law_kinds : List Str := ["_law_e", "_law_found"]
theorem sc__law_kinds : FnScope N__law_kinds ["_law_e"] (defScope st__law_kinds) := ⟨rfl, rfl, rfl, by decide +kernel, rfl, by decide +kernel, by decide +kernel⟩
abbrev st__law_pick : Stmt := topS 79
abbrev N__law_pick : List Str := ["_law_row", "_law_many", "_law_cell", "_law_found"]
theorem sc__law_pick : FnScope N__law_pick ["_law_row", "_law_many"] (defScope st__law_pick) := ⟨rfl, rfl, rfl, by decide +kernel, rfl, by decide +kernel, by decide +kernel⟩
abbrev st_is_number : Stmt := topS 15
abbrev N_is_number : List Str := ["value", "low", "high"]
theorem sc_is_number : FnScope N_is_number ["value", "low", "high"] (defScope st_is_number) := ⟨rfl, rfl, rfl, by decide +kernel, rfl, by decide +kernel, by decide +kernel⟩
abbrev st_check_lengths : Stmt := topS 21
abbrev N_check_lengths : List Str := ["least", "most"]
theorem sc_check_lengths : FnScope N_check_lengths ["least", "most"] (defScope st_check_lengths) := ⟨rfl, rfl, rfl, by decide +kernel, rfl, by decide +kernel, by decide +kernel⟩
abbrev st_check_signs : Stmt := topS 18
abbrev N_check_signs : List Str := ["signs"]
theorem sc_check_signs : FnScope N_check_signs ["signs"] (defScope st_check_signs) := ⟨rfl, rfl, rfl, by decide +kernel, rfl, by decide +kernel, by decide +kernel⟩
abbrev st_check_window : Stmt := topS 19
abbrev N_check_window : List Str := ["window"]
theorem sc_check_window : FnScope N_check_window ["window"] (defScope st_check_window) := ⟨rfl, rfl, rfl, by decide +kernel, rfl, by decide +kernel, by decide +kernel⟩
abbrev st_are_signs : Stmt := topS 16
abbrev N_are_signs : List Str := ["value", "signs", "sign"]
theorem sc_are_signs : FnScope N_are_signs ["value", "signs"] (defScope st_are_signs) := ⟨rfl, rfl, rfl, by decide +kernel, rfl, by decide +kernel, by decide +kernel⟩
abbrev st_check_words : Stmt := topS 20
abbrev N_check_words : List Str := ["words", "signs", "window", "index", "word"]
theorem sc_check_words : FnScope N_check_words ["words", "signs", "window"] (defScope st_check_words) := ⟨rfl, rfl, rfl, by decide +kernel, rfl, by decide +kernel, by decide +kernel⟩
abbrev st_Rule___init__ : Stmt := inClass (topS 40) 0
abbrev N_Rule___init__ : List Str := ["self", "signs", "window", "words", "least", "most"]
theorem sc_Rule___init__ : FnScope N_Rule___init__ ["self", "signs", "window", "words", "least", "most"] (defScope st_Rule___init__) := ⟨rfl, rfl, rfl, by decide +kernel, rfl, by decide +kernel, by decide +kernel⟩
abbrev st_check_like : Stmt := topS 24
abbrev N_check_like : List Str := ["one", "other"]
theorem sc_check_like : FnScope N_check_like ["one", "other"] (defScope st_check_like) := ⟨rfl, rfl, rfl, by decide +kernel, rfl, by decide +kernel, by decide +kernel⟩
abbrev st_parting : Stmt := topS 58
abbrev N_parting : List Str := ["one", "other"]
theorem sc_parting : FnScope N_parting ["one", "other"] (defScope st_parting) := ⟨rfl, rfl, rfl, by decide +kernel, rfl, by decide +kernel, by decide +kernel⟩
abbrev st_alike : Stmt := topS 59
abbrev N_alike : List Str := ["one", "other"]
theorem sc_alike : FnScope N_alike ["one", "other"] (defScope st_alike) := ⟨rfl, rfl, rfl, by decide +kernel, rfl, by decide +kernel, by decide +kernel⟩
abbrev st_is_text : Stmt := topS 17
abbrev N_is_text : List Str := ["value", "signs"]
theorem sc_is_text : FnScope N_is_text ["value", "signs"] (defScope st_is_text) := ⟨rfl, rfl, rfl, by decide +kernel, rfl, by decide +kernel, by decide +kernel⟩
abbrev st_check_text : Stmt := topS 22
abbrev N_check_text : List Str := ["value", "signs"]
theorem sc_check_text : FnScope N_check_text ["value", "signs"] (defScope st_check_text) := ⟨rfl, rfl, rfl, by decide +kernel, rfl, by decide +kernel, by decide +kernel⟩
abbrev st_cuts : Stmt := topS 41
abbrev N_cuts : List Str := ["rule", "text", "_", "places"]
theorem sc_cuts : FnScope N_cuts ["rule", "text"] (defScope st_cuts) := ⟨rfl, rfl, rfl, by decide +kernel, rfl, by decide +kernel, by decide +kernel⟩
abbrev st_all_words : Stmt := topS 53
abbrev N_all_words : List Str := ["signs", "window", "words", "_", "word", "sign"]
theorem sc_all_words : FnScope N_all_words ["signs", "window"] (defScope st_all_words) := ⟨rfl, rfl, rfl, by decide +kernel, rfl, by decide +kernel, by decide +kernel⟩
abbrev st_check_few_words : Stmt := topS 54
abbrev N_check_few_words : List Str := ["signs", "window"]
theorem sc_check_few_words : FnScope N_check_few_words ["signs", "window"] (defScope st_check_few_words) := ⟨rfl, rfl, rfl, by decide +kernel, rfl, by decide +kernel, by decide +kernel⟩
abbrev st_check_number : Stmt := topS 23
abbrev N_check_number : List Str := ["value", "low", "high"]
theorem sc_check_number : FnScope N_check_number ["value", "low", "high"] (defScope st_check_number) := ⟨rfl, rfl, rfl, by decide +kernel, rfl, by decide +kernel, by decide +kernel⟩
abbrev st_fewest_words : Stmt := topS 60
abbrev N_fewest_words : List Str := ["rule", "goal", "most", "further", "many", "found", "word", "words"]
theorem sc_fewest_words : FnScope N_fewest_words ["rule", "goal", "most"] (defScope st_fewest_words) := ⟨rfl, rfl, rfl, by decide +kernel, rfl, by decide +kernel, by decide +kernel⟩
abbrev st_first_cuts : Stmt := topS 38
abbrev N_first_cuts : List Str := ["rule", "places", "_", "rows", "found", "uncut", "further", "ended", "stand", "texts", "after", "is_cut"]
theorem sc_first_cuts : FnScope N_first_cuts ["rule", "places"] (defScope st_first_cuts) := ⟨rfl, rfl, rfl, by decide +kernel, rfl, by decide +kernel, by decide +kernel⟩
abbrev st_is_seen : Stmt := topS 76
abbrev N_is_seen : List Str := ["thing", "signs", "text", "places", "ahead", "place"]
theorem sc_is_seen : FnScope N_is_seen ["thing", "signs"] (defScope st_is_seen) := ⟨rfl, rfl, rfl, by decide +kernel, rfl, by decide +kernel, by decide +kernel⟩
abbrev st_check_seen : Stmt := topS 75
abbrev N_check_seen : List Str := ["seen", "signs", "index", "thing"]
theorem sc_check_seen : FnScope N_check_seen ["seen", "signs"] (defScope st_check_seen) := ⟨rfl, rfl, rfl, by decide +kernel, rfl, by decide +kernel, by decide +kernel⟩
abbrev st_fitting : Stmt := topS 73
abbrev N_fitting : List Str := ["signs", "window", "least", "most", "seen", "told", "text", "places", "verdicts", "word", "is_cut", "words", "sure", "possible"]
theorem sc_fitting : FnScope N_fitting ["signs", "window", "least", "most", "seen"] (defScope st_fitting) := ⟨rfl, rfl, rfl, by decide +kernel, rfl, by decide +kernel, by decide +kernel⟩
abbrev st_check_end : Stmt := topS 70
abbrev N_check_end : List Str := ["line", "parts", "choices"]
theorem sc_check_end : FnScope N_check_end ["line", "parts", "choices"] (defScope st_check_end) := ⟨rfl, rfl, rfl, by decide +kernel, rfl, by decide +kernel, by decide +kernel⟩
abbrev st_check_parts : Stmt := topS 69
abbrev N_check_parts : List Str := ["line", "parts", "choices", "at", "right"]
theorem sc_check_parts : FnScope N_check_parts ["line", "parts", "choices"] (defScope st_check_parts) := ⟨rfl, rfl, rfl, by decide +kernel, rfl, by decide +kernel, by decide +kernel⟩
abbrev st_digits : Stmt := topS 68
abbrev N_digits : List Str := ["low", "high", "number"]
theorem sc_digits : FnScope N_digits ["low", "high"] (defScope st_digits) := ⟨rfl, rfl, rfl, by decide +kernel, rfl, by decide +kernel, by decide +kernel⟩
abbrev st_read_numbers : Stmt := topS 66
abbrev N_read_numbers : List Str := ["parts", "choices", "least", "most"]
theorem sc_read_numbers : FnScope N_read_numbers ["parts"] (defScope st_read_numbers) := ⟨rfl, rfl, rfl, by decide +kernel, rfl, by decide +kernel, by decide +kernel⟩
abbrev st_read : Stmt := topS 65
abbrev N_read : List Str := ["text", "lines", "signs", "window", "least", "most", "words", "line", "parts", "word", "row", "part"]
theorem sc_read : FnScope N_read ["text"] (defScope st_read) := ⟨rfl, rfl, rfl, by decide +kernel, rfl, by decide +kernel, by decide +kernel⟩
abbrev st__law_raised : Stmt := topS 80
abbrev N__law_raised : List Str := ["_law_k", "_law_rule", "_law_found", "_law_e"]
theorem sc__law_raised : FnScope N__law_raised ["_law_k"] (defScope st__law_raised) := ⟨rfl, rfl, rfl, by decide +kernel, rfl, by decide +kernel, by decide +kernel⟩
abbrev st_law : Stmt := topS 82
abbrev N_law : List Str := ["_law_script", "_law_row", "_law_k", "_law_found", "_law_j"]
theorem sc_law : FnScope N_law ["_law_script"] (defScope st_law) := ⟨rfl, rfl, rfl, by decide +kernel, rfl, by decide +kernel, by decide +kernel⟩
abbrev st_BadLine___init__ : Stmt := inClass (topS 12) 0
theorem sc_BadLine___init__ : FnScope ["self", "line", "word"] ["self", "line", "word"] (defScope st_BadLine___init__) := ⟨rfl, rfl, rfl, by decide +kernel, rfl, by decide +kernel, by decide +kernel⟩
abbrev st_BadSeen___init__ : Stmt := inClass (topS 11) 0
theorem sc_BadSeen___init__ : FnScope ["self", "index"] ["self", "index"] (defScope st_BadSeen___init__) := ⟨rfl, rfl, rfl, by decide +kernel, rfl, by decide +kernel, by decide +kernel⟩
abbrev st_BadWords___init__ : Stmt := inClass (topS 10) 0
theorem sc_BadWords___init__ : FnScope ["self", "index"] ["self", "index"] (defScope st_BadWords___init__) := ⟨rfl, rfl, rfl, by decide +kernel, rfl, by decide +kernel, by decide +kernel⟩
/-! ### the meanings -/
def EXS : List Str := ["BadSigns", "BadWindow", "BadLengths", "BadText", "BadNumber", "Unlike", "TooMany", "BadWords", "BadSeen", "BadLine"]
def K_GREATEST_GOAL : D := (.int 12)
def K_LONGEST_TEXT : D := (.int 400)
def K_MOST_FURTHER_WORDS : D := (.int 3)
def K_MOST_PLACES : D := (.int 30)
def K_MOST_SEEN : D := (.int 12)
def K_MOST_WORDS : D := (.int 9)
def K_NO_MOST : D := (.str "none")
def b__law_draws : MS :=
  (mRet (mNew (mCons (mFrz (mList (mVar 0))) (mCons (mVal (.int 0)) (mCons (mVal (.int 0)) (mCons (mVal (.int 7)) mNil))))))
def G__law_draws : GF := fun ds m => outRaw (b__law_draws (startD 1 ds) m)
def b__law_kinds : MS :=
  (mSeq (mSet 1 (mFrz (mNew (mCons (mIsiE EXS (fun c => decide (c = "BadSigns")) (mVar 0)) (mCons (mIsiE EXS (fun c => decide (c = "BadWindow")) (mVar 0)) (mCons (mIsiE EXS (fun c => decide (c = "BadLengths")) (mVar 0)) (mCons (mIsiE EXS (fun c => decide (c = "BadText")) (mVar 0)) mNil))))))) (mSeq (mSet 1 (mFrz (mCat (mVar 1) (mFrz (mNew (mCons (mIsiE EXS (fun c => decide (c = "BadNumber")) (mVar 0)) (mCons (mIsiE EXS (fun c => decide (c = "Unlike")) (mVar 0)) (mCons (mIsiE EXS (fun c => decide (c = "TooMany")) (mVar 0)) mNil)))))))) (mRet (mFrz (mCat (mVar 1) (mFrz (mNew (mCons (mIsiE EXS (fun c => decide (c = "BadWords")) (mVar 0)) (mCons (mIsiE EXS (fun c => decide (c = "BadSeen")) (mVar 0)) (mCons (mIsiE EXS (fun c => decide (c = "BadLine")) (mVar 0)) mNil))))))))))
def G__law_kinds : GF := fun ds m => outCut m (b__law_kinds (startD 2 ds) m)
def b__law_pick : MS :=
  (mSeq (mIfS (mTst (mBin gEq (mBin gIx (mVar 0) (mVal (.int 2))) (mVal (.int 0)))) (mIfS (mTst (mBin gLt (mBin gIx (mVar 0) (mVal (.int 1))) (mB bLen (mCons (mBin gIx (mVar 0) (mVal (.int 0))) mNil)))) (mSeq (mSet 2 (mBin gIx (mBin gIx (mVar 0) (mVal (.int 0))) (mBin gIx (mVar 0) (mVal (.int 1))))) (mSeq (mSetIx (mBin gAddX (mBin gIx (mVar 0) (mVal (.int 1))) (mVal (.int 1))) (mVar 0) (mVal (.int 1))) (mIfS (mTst (mBin gGe (mVar 2) (mBin gPow (mVal (.int 10)) (mVal (.int 18))))) (mSetIx (mVar 2) (mVar 0) (mVal (.int 2))) (mSetIx (mBin gMod (mB bIntA (mCons (mBin gAddX (mBin gAddX (mBin gMulX (mBin gIx (mVar 0) (mVal (.int 3))) (mVal (.int 48271))) (mBin gMulX (mVar 2) (mVal (.int 69621)))) (mVal (.int 11))) mNil)) (mVal (.int 2147483647))) (mVar 0) (mVal (.int 3)))))) (mSetIx (mBin gMod (mB bIntA (mCons (mBin gAddX (mBin gMulX (mBin gIx (mVar 0) (mVal (.int 3))) (mVal (.int 48271))) (mVal (.int 7))) mNil)) (mVal (.int 2147483647))) (mVar 0) (mVal (.int 3)))) mSkip) (mSeq (mIfS (mTst (mBin gGt (mBin gIx (mVar 0) (mVal (.int 2))) (mVal (.int 0)))) (mSeq (mSet 3 (mBin gMod (mB bIntA (mCons (mBin gIx (mVar 0) (mVal (.int 2))) mNil)) (mVar 1))) (mSeq (mSetIx (mBin gDiv (mBin gIx (mVar 0) (mVal (.int 2))) (mVar 1)) (mVar 0) (mVal (.int 2))) (mRet (mVar 3)))) mSkip) (mRet (mBin gMod (mBin gMod (mB bIntA (mCons (mBin gMulX (mBin gIx (mVar 0) (mVal (.int 3))) (mVal (.int 16807))) mNil)) (mVal (.int 2147483629))) (mVar 1)))))
def G__law_pick : GF := fun ds m => outCut m (b__law_pick (startD 4 ds) m)
def b_is_number : MS :=
  (mSeq (mIfS (mOr (mTst (mIsi "bool" (mVar 0))) (mNot (mTst (mIsi "int" (mVar 0))))) (mRet (mVal (.bl false))) mSkip) (mRet (mChain gLeA gLeA (mVar 1) (mVar 0) (mVar 2))))
def G_is_number : GF := fun ds m => outCut m (b_is_number (startD 3 ds) m)
def b_check_lengths : MS :=
  (mSeq (mIfS (mNot (mTst (mCall G_is_number (mCons (mVar 0) (mCons (mVal (.int 1)) (mCons (mVal (.int 6)) mNil)))))) (mRaise "BadLengths") mSkip) (mIfS (mAnd (mTst (mBin (gIs true) (mVar 1) (mVal .non))) (mNot (mTst (mCall G_is_number (mCons (mVar 1) (mCons (mVar 0) (mCons (mVal (.int 8)) mNil))))))) (mRaise "BadLengths") mSkip))
def G_check_lengths : GF := fun ds m => outCut m (b_check_lengths (startD 2 ds) m)
def b_check_signs : MS :=
  (mIfS (mNot (mTst (mCall G_is_number (mCons (mVar 0) (mCons (mVal (.int 2)) (mCons (mVal (.int 3)) mNil)))))) (mRaise "BadSigns") mSkip)
def G_check_signs : GF := fun ds m => outCut m (b_check_signs (startD 1 ds) m)
def b_check_window : MS :=
  (mIfS (mNot (mTst (mCall G_is_number (mCons (mVar 0) (mCons (mVal (.int 1)) (mCons (mVal (.int 3)) mNil)))))) (mRaise "BadWindow") mSkip)
def G_check_window : GF := fun ds m => outCut m (b_check_window (startD 1 ds) m)
def b_are_signs : MS :=
  (mSeq (mIfS (mNot (mTst (mIsi "tuple" (mVar 0)))) (mRet (mVal (.bl false))) mSkip) (mSeq (mFor (gSet 2) (mItT (mVar 0)) (mIfS (mNot (mTst (mCall G_is_number (mCons (mVar 2) (mCons (mVal (.int 0)) (mCons (mBin gSub (mVar 1) (mVal (.int 1))) mNil)))))) (mRet (mVal (.bl false))) mSkip)) (mRet (mVal (.bl true)))))
def G_are_signs : GF := fun ds m => outCut m (b_are_signs (startD 3 ds) m)
def b_check_words : MS :=
  (mSeq (mIfS (mNot (mTst (mIsi "tuple" (mVar 0)))) (mRaiseF "BadWords" "index" (mVal .non)) mSkip) (mFor (gUnp 2 (gsCons (gSet 3) (gsCons (gSet 4) gsNil))) (mEn 0 (mVar 0)) (mSeq (mIfS (mOr (mNot (mTst (mCall G_are_signs (mCons (mVar 4) (mCons (mVar 1) mNil))))) (mTst (mBin gNe (mB bLen (mCons (mVar 4) mNil)) (mVar 2)))) (mRaiseF "BadWords" "index" (mVar 3)) mSkip) (mIfS (mAnd (mTst (mBin gGt (mVar 3) (mVal (.int 0)))) (mTst (mBin gLeA (mVar 4) (mBin gIx (mVar 0) (mBin gSub (mVar 3) (mVal (.int 1))))))) (mRaiseF "BadWords" "index" (mVar 3)) mSkip))))
def G_check_words : GF := fun ds m => outCut m (b_check_words (startD 5 ds) m)
def b_Rule___init__ : MS :=
  (mSeq (mDo (mCall G_check_signs (mCons (mVar 1) mNil))) (mSeq (mDo (mCall G_check_window (mCons (mVar 2) mNil))) (mSeq (mDo (mCall G_check_words (mCons (mVar 3) (mCons (mVar 1) (mCons (mVar 2) mNil))))) (mSeq (mDo (mCall G_check_lengths (mCons (mVar 4) (mCons (mVar 5) mNil)))) (mSeq (mSetF "Rule" "_signs" (mVar 1) (mVar 0)) (mSeq (mSetF "Rule" "_window" (mVar 2) (mVar 0)) (mSeq (mSetF "Rule" "_words" (mVar 3) (mVar 0)) (mSeq (mSetF "Rule" "_least" (mVar 4) (mVar 0)) (mSetF "Rule" "_most" (mVar 5) (mVar 0))))))))))
def G_Rule___init__ : GF := fun ds m => outRaw (b_Rule___init__ (startD 6 ds) m)
def b_check_like : MS :=
  (mIfS (mTst (mBin gNe (mFldI "Rule" "_signs" (mVar 0)) (mFldI "Rule" "_signs" (mVar 1)))) (mRaise "Unlike") mSkip)
def G_check_like : GF := fun ds m => outCut m (b_check_like (startD 2 ds) m)
def b_parting : MS :=
  (mSeq (mDo (mCall G_check_like (mCons (mVar 0) (mCons (mVar 1) mNil)))) mBad)
def G_parting : GF := fun ds m => outCut m (b_parting (startD 2 ds) m)
def b_alike : MS :=
  (mRet (mBin (gIs false) (mCall G_parting (mCons (mVar 0) (mCons (mVar 1) mNil))) (mVal .non)))
def G_alike : GF := fun ds m => outCut m (b_alike (startD 2 ds) m)
def b_is_text : MS :=
  (mRet (mAndV (mCall G_are_signs (mCons (mVar 0) (mCons (mVar 1) mNil))) (mBin gLeA (mB bLen (mCons (mVar 0) mNil)) (mVal K_LONGEST_TEXT))))
def G_is_text : GF := fun ds m => outCut m (b_is_text (startD 2 ds) m)
def b_check_text : MS :=
  (mIfS (mNot (mTst (mCall G_is_text (mCons (mVar 0) (mCons (mVar 1) mNil))))) (mRaise "BadText") mSkip)
def G_check_text : GF := fun ds m => outCut m (b_check_text (startD 2 ds) m)
def b_cuts : MS :=
  (mSeq (mDo (mCall G_check_text (mCons (mVar 1) (mCons (mFldI "Rule" "_signs" (mVar 0)) mNil)))) mBad)
def G_cuts : GF := fun ds m => outCut m (b_cuts (startD 4 ds) m)
def b_all_words : MS :=
  (mSeq (mSet 2 (mFrz (mNew (mCons (mTup mNil) mNil)))) (mSeq (mFor (gSet 3) (mRng1 (mVar 1)) (mSet 2 (mFrz (mLc2 4 5 (mItL (mVar 2)) (mRng1 (mVar 0)) (mBin gAddX (mVar 4) (mTup (mCons (mVar 5) mNil))))))) (mRet (mVar 2))))
def G_all_words : GF := fun ds m => outCut m (b_all_words (startD 6 ds) m)
def b_check_few_words : MS :=
  (mIfS (mTst (mBin gGt (mB bLen (mCons (mCall G_all_words (mCons (mVar 0) (mCons (mVar 1) mNil))) mNil)) (mVal K_MOST_WORDS))) (mRaise "TooMany") mSkip)
def G_check_few_words : GF := fun ds m => outCut m (b_check_few_words (startD 2 ds) m)
def b_check_number : MS :=
  (mIfS (mNot (mTst (mCall G_is_number (mCons (mVar 0) (mCons (mVar 1) (mCons (mVar 2) mNil)))))) (mRaise "BadNumber") mSkip)
def G_check_number : GF := fun ds m => outCut m (b_check_number (startD 3 ds) m)
def b_fewest_words : MS :=
  (mSeq (mDo (mCall G_check_few_words (mCons (mFldI "Rule" "_signs" (mVar 0)) (mCons (mFldI "Rule" "_window" (mVar 0)) mNil)))) (mSeq (mDo (mCall G_check_number (mCons (mVar 1) (mCons (mVal (.int 1)) (mCons (mVal K_GREATEST_GOAL) mNil))))) (mSeq (mDo (mCall G_check_number (mCons (mVar 2) (mCons (mVal (.int 0)) (mCons (mVal K_MOST_FURTHER_WORDS) mNil))))) mBad)))
def G_fewest_words : GF := fun ds m => outCut m (b_fewest_words (startD 8 ds) m)
def b_first_cuts : MS :=
  (mSeq (mDo (mCall G_check_number (mCons (mVar 1) (mCons (mVal (.int 0)) (mCons (mVal K_MOST_PLACES) mNil))))) mBad)
def G_first_cuts : GF := fun ds m => outCut m (b_first_cuts (startD 12 ds) m)
def b_is_seen : MS :=
  (mSeq (mIfS (mOr (mNot (mTst (mIsi "tuple" (mVar 0)))) (mTst (mBin gNe (mB bLen (mCons (mVar 0) mNil)) (mVal (.int 2))))) (mRet (mVal (.bl false))) mSkip) (mSeq (mAsg (gUnp 2 (gsCons (gSet 2) (gsCons (gSet 3) gsNil))) (mVar 0)) (mSeq (mIfS (mOr (mNot (mTst (mCall G_is_text (mCons (mVar 2) (mCons (mVar 1) mNil))))) (mNot (mTst (mIsi "tuple" (mVar 3))))) (mRet (mVal (.bl false))) mSkip) (mSeq (mSet 4 (mVal (.int 0))) (mSeq (mFor (gSet 5) (mItT (mVar 3)) (mSeq (mIfS (mNot (mTst (mCall G_is_number (mCons (mVar 5) (mCons (mBin gAddX (mVar 4) (mVal (.int 1))) (mCons (mB bLen (mCons (mVar 2) mNil)) mNil)))))) (mRet (mVal (.bl false))) mSkip) (mSet 4 (mVar 5)))) (mRet (mVal (.bl true))))))))
def G_is_seen : GF := fun ds m => outCut m (b_is_seen (startD 6 ds) m)
def b_check_seen : MS :=
  (mSeq (mIfS (mOr (mNot (mTst (mIsi2 "list" "tuple" (mVar 0)))) (mTst (mBin gGt (mB bLen (mCons (mVar 0) mNil)) (mVal K_MOST_SEEN)))) (mRaiseF "BadSeen" "index" (mVal .non)) mSkip) (mFor (gUnp 2 (gsCons (gSet 2) (gsCons (gSet 3) gsNil))) (mEnL 0 (mVar 0)) (mIfS (mNot (mTst (mCall G_is_seen (mCons (mVar 3) (mCons (mVar 1) mNil))))) (mRaiseF "BadSeen" "index" (mVar 2)) mSkip)))
def G_check_seen : GF := fun ds m => outCut m (b_check_seen (startD 4 ds) m)
def b_fitting : MS :=
  (mSeq (mDo (mCall G_check_signs (mCons (mVar 0) mNil))) (mSeq (mDo (mCall G_check_window (mCons (mVar 1) mNil))) (mSeq (mDo (mCall G_check_lengths (mCons (mVar 2) (mCons (mVar 3) mNil)))) (mSeq (mDo (mCall G_check_few_words (mCons (mVar 0) (mCons (mVar 1) mNil)))) (mSeq (mDo (mCall G_check_seen (mCons (mVar 4) (mCons (mVar 0) mNil)))) mBad)))))
def G_fitting : GF := fun ds m => outCut m (b_fitting (startD 14 ds) m)
def b_check_end : MS :=
  (mIfS (mTst (mBin gGt (mB bLen (mCons (mVar 1) mNil)) (mB bLen (mCons (mVar 2) mNil)))) (mRaiseF2 "BadLine" "line" "word" (mVar 0) (mBin gAddX (mB bLen (mCons (mVar 2) mNil)) (mVal (.int 1)))) mSkip)
def G_check_end : GF := fun ds m => outCut m (b_check_end (startD 3 ds) m)
def b_check_parts : MS :=
  (mForV (gUnp 2 (gsCons (gSet 3) (gsCons (gSet 4) gsNil))) (enP 0) (mVar 2) (mIfS (mOr (mTst (mBin gGe (mVar 3) (mB bLen (mCons (mVar 1) mNil)))) (mTst (mBin gNIn (mBin gIx (mVar 1) (mVar 3)) (mVar 4)))) (mRaiseF2 "BadLine" "line" "word" (mVar 0) (mBin gAddX (mVar 3) (mVal (.int 1)))) mSkip))
def G_check_parts : GF := fun ds m => outCut m (b_check_parts (startD 5 ds) m)
def b_digits : MS :=
  (mRet (mFrz (mLc 2 (mRng2 (mVar 0) (mBin gAddX (mVar 1) (mVal (.int 1)))) mYes (mB bStr (mCons (mVar 2) mNil)))))
def G_digits : GF := fun ds m => outCut m (b_digits (startD 3 ds) m)
def b_read_numbers : MS :=
  (mSeq (mSet 1 (mNew (mCons (mFrz (mNew (mCons (mVal (.str "rule")) mNil))) (mCons (mCall G_digits (mCons (mVal (.int 2)) (mCons (mVal (.int 3)) mNil))) (mCons (mCall G_digits (mCons (mVal (.int 1)) (mCons (mVal (.int 3)) mNil))) (mCons (mCall G_digits (mCons (mVal (.int 1)) (mCons (mVal (.int 6)) mNil))) mNil)))))) (mSeq (mDo (mCall G_check_parts (mCons (mVal (.int 1)) (mCons (mVar 0) (mCons (mVar 1) mNil))))) (mSeq (mSet 2 (mB bIntA (mCons (mBin gIx (mVar 0) (mVal (.int 3))) mNil))) (mSeq (mDo (mApp (mLoc (mVar 1)) (mFrz (mCat (mCall G_digits (mCons (mVar 2) (mCons (mVal (.int 8)) mNil))) (mFrz (mNew (mCons (mVal K_NO_MOST) mNil))))))) (mSeq (mDo (mCall G_check_parts (mCons (mVal (.int 1)) (mCons (mVar 0) (mCons (mVar 1) mNil))))) (mSeq (mDo (mCall G_check_end (mCons (mVal (.int 1)) (mCons (mVar 0) (mCons (mVar 1) mNil))))) (mSeq (mSet 3 (mIf (mTst (mBin gEq (mBin gIx (mVar 0) (mVal (.int 4))) (mVal K_NO_MOST))) (mVal .non) (mB bIntA (mCons (mBin gIx (mVar 0) (mVal (.int 4))) mNil)))) (mRet (mTup (mCons (mB bIntA (mCons (mBin gIx (mVar 0) (mVal (.int 1))) mNil)) (mCons (mB bIntA (mCons (mBin gIx (mVar 0) (mVal (.int 2))) mNil)) (mCons (mVar 2) (mCons (mVar 3) mNil)))))))))))))
def G_read_numbers : GF := fun ds m => outCut m (b_read_numbers (startD 4 ds) m)
def b_read : MS :=
  (mSeq (mSet 1 (mFrz (mLc 10 (mItL (mSplit (mVar 0) (mVal (.str "\n")))) mYes (mFrz (mLc 11 (mItL (mSplit (mVar 10) (mVal (.str " ")))) (mTst (mBin gNe (mVar 11) (mVal (.str "")))) (mVar 11)))))) (mSeq (mAsg (gUnp 4 (gsCons (gSet 2) (gsCons (gSet 3) (gsCons (gSet 4) (gsCons (gSet 5) gsNil))))) (mCall G_read_numbers (mCons (mBin gIx (mVar 1) (mVal (.int 0))) mNil))) mBad))
def G_read : GF := fun ds m => outCut m (b_read (startD 12 ds) m)
def b__law_raised : MS :=
  (mSeq (mPar 1 2 (mCons (mFrz (mMakeX "Rule" G_Rule___init__ (mCons (mVal (.int 2)) (mCons (mVal (.int 1)) (mCons (mTup (mCons (mTup (mCons (mVal (.int 1)) mNil)) mNil)) (mCons (mVal (.int 1)) (mCons (mVal .non) mNil))))))) (mCons (mVal .non) mNil))) (mSeq (mTryV EXS 3 2 (mIfS (mTst (mBin gEq (mVar 0) (mVal (.int 0)))) (mDo (mFrz (mMakeX "Rule" G_Rule___init__ (mCons (mVal (.int 4)) (mCons (mVal (.int 1)) (mCons (mTup mNil) (mCons (mVal (.int 1)) (mCons (mVal .non) mNil)))))))) (mIfS (mTst (mBin gEq (mVar 0) (mVal (.int 1)))) (mDo (mFrz (mMakeX "Rule" G_Rule___init__ (mCons (mVal (.int 2)) (mCons (mVal (.int 4)) (mCons (mTup mNil) (mCons (mVal (.int 1)) (mCons (mVal .non) mNil)))))))) (mIfS (mTst (mBin gEq (mVar 0) (mVal (.int 2)))) (mDo (mFrz (mMakeX "Rule" G_Rule___init__ (mCons (mVal (.int 2)) (mCons (mVal (.int 1)) (mCons (mTup mNil) (mCons (mVal (.int 3)) (mCons (mVal (.int 2)) mNil)))))))) (mIfS (mTst (mBin gEq (mVar 0) (mVal (.int 3)))) (mDo (mCall G_cuts (mCons (mVar 1) (mCons (mTup (mCons (mVal (.int 2)) mNil)) mNil)))) (mIfS (mTst (mBin gEq (mVar 0) (mVal (.int 4)))) (mDo (mCall G_first_cuts (mCons (mVar 1) (mCons (mVal (.int 31)) mNil)))) (mIfS (mTst (mBin gEq (mVar 0) (mVal (.int 5)))) (mDo (mCall G_alike (mCons (mVar 1) (mCons (mFrz (mMakeX "Rule" G_Rule___init__ (mCons (mVal (.int 3)) (mCons (mVal (.int 1)) (mCons (mTup mNil) (mCons (mVal (.int 1)) (mCons (mVal .non) mNil))))))) mNil)))) (mIfS (mTst (mBin gEq (mVar 0) (mVal (.int 6)))) (mDo (mCall G_fewest_words (mCons (mFrz (mMakeX "Rule" G_Rule___init__ (mCons (mVal (.int 3)) (mCons (mVal (.int 3)) (mCons (mTup mNil) (mCons (mVal (.int 1)) (mCons (mVal .non) mNil))))))) (mCons (mVal (.int 3)) (mCons (mVal (.int 1)) mNil))))) (mIfS (mTst (mBin gEq (mVar 0) (mVal (.int 7)))) (mDo (mFrz (mMakeX "Rule" G_Rule___init__ (mCons (mVal (.int 2)) (mCons (mVal (.int 1)) (mCons (mTup (mCons (mTup (mCons (mVal (.int 0)) mNil)) (mCons (mTup (mCons (mVal (.int 1)) mNil)) (mCons (mTup (mCons (mVal (.int 1)) mNil)) mNil)))) (mCons (mVal (.int 1)) (mCons (mVal .non) mNil)))))))) (mIfS (mTst (mBin gEq (mVar 0) (mVal (.int 8)))) (mDo (mCall G_fitting (mCons (mVal (.int 2)) (mCons (mVal (.int 1)) (mCons (mVal (.int 1)) (mCons (mVal .non) (mCons (mFrz (mNew (mCons (mTup (mCons (mTup (mCons (mVal (.int 0)) mNil)) (mCons (mTup mNil) mNil))) (mCons (mTup (mCons (mTup (mCons (mVal (.int 0)) mNil)) (mCons (mTup (mCons (mVal (.int 2)) mNil)) mNil))) mNil)))) mNil))))))) (mDo (mCall G_read (mCons (mVal (.str "rule 2 1 1 none 5")) mNil))))))))))))) (mRet (mVar 2))))
def G__law_raised : GF := fun ds m => outCut m (b__law_raised (startD 4 ds) m)
def b_law : MS :=
  (mSeq (mSet 1 (mCall G__law_draws (mCons (mVar 0) mNil))) (mSeq (mSet 2 (mCall G__law_pick (mCons (mVar 1) (mCons (mVal (.int 10)) mNil)))) (mSeq (mSet 3 (mCall G__law_raised (mCons (mVar 2) mNil))) (mSeq (mIfS (mOr (mNot (mTst (mIsiE EXS (fun _ => true) (mVar 3)))) (mTst (mBin gNe (mCall G__law_kinds (mCons (mVar 3) mNil)) (mFrz (mLc 4 (mRng1 (mVal (.int 10))) mYes (mBin gEq (mVar 2) (mVar 4))))))) (mRet (mVal (.bl false))) mSkip) (mSeq (mIfS (mAnd (mTst (mBin gInL (mVar 2) (mFrz (mNew (mCons (mVal (.int 7)) (mCons (mVal (.int 8)) mNil)))))) (mTst (mBin gNe (mFldX ["BadWords", "BadSeen"] "index" (mVar 3)) (mDix [(7, 2), (8, 1)] (mVar 2))))) (mRet (mVal (.bl false))) mSkip) (mRet (mOrV (mBin gNe (mVar 2) (mVal (.int 9))) (mBin gEq (mTup (mCons (mFldX ["BadLine"] "line" (mVar 3)) (mCons (mFldX ["BadLine"] "word" (mVar 3)) mNil))) (mTup (mCons (mVal (.int 1)) (mCons (mVal (.int 6)) mNil)))))))))))
def G_law : GF := fun ds m => outCut m (b_law (startD 5 ds) m)
/-! ### what the top leaves -/
structure Tx (K : PySem.W.Frag) (mg : Str → Option Value) where
  f__law_draws : Addr
  fd__law_draws : FuncData
  F__law_draws : Fun K "_law_draws" "_law_draws" st__law_draws f__law_draws fd__law_draws
  b__law_draws : Binds K fd__law_draws ["_law_script"] []
  g__law_draws : mg "_law_draws" = some (.ref f__law_draws)
  f__law_kinds : Addr
  fd__law_kinds : FuncData
  F__law_kinds : Fun K "_law_kinds" "_law_kinds" st__law_kinds f__law_kinds fd__law_kinds
  b__law_kinds : Binds K fd__law_kinds ["_law_e"] []
  g__law_kinds : mg "_law_kinds" = some (.ref f__law_kinds)
  f__law_pick : Addr
  fd__law_pick : FuncData
  F__law_pick : Fun K "_law_pick" "_law_pick" st__law_pick f__law_pick fd__law_pick
  b__law_pick : Binds K fd__law_pick ["_law_row", "_law_many"] []
  g__law_pick : mg "_law_pick" = some (.ref f__law_pick)
  f_is_number : Addr
  fd_is_number : FuncData
  F_is_number : Fun K "is_number" "is_number" st_is_number f_is_number fd_is_number
  b_is_number : Binds K fd_is_number ["value", "low", "high"] []
  g_is_number : mg "is_number" = some (.ref f_is_number)
  f_check_lengths : Addr
  fd_check_lengths : FuncData
  F_check_lengths : Fun K "check_lengths" "check_lengths" st_check_lengths f_check_lengths fd_check_lengths
  b_check_lengths : Binds K fd_check_lengths ["least", "most"] []
  g_check_lengths : mg "check_lengths" = some (.ref f_check_lengths)
  f_check_signs : Addr
  fd_check_signs : FuncData
  F_check_signs : Fun K "check_signs" "check_signs" st_check_signs f_check_signs fd_check_signs
  b_check_signs : Binds K fd_check_signs ["signs"] []
  g_check_signs : mg "check_signs" = some (.ref f_check_signs)
  f_check_window : Addr
  fd_check_window : FuncData
  F_check_window : Fun K "check_window" "check_window" st_check_window f_check_window fd_check_window
  b_check_window : Binds K fd_check_window ["window"] []
  g_check_window : mg "check_window" = some (.ref f_check_window)
  f_are_signs : Addr
  fd_are_signs : FuncData
  F_are_signs : Fun K "are_signs" "are_signs" st_are_signs f_are_signs fd_are_signs
  b_are_signs : Binds K fd_are_signs ["value", "signs"] []
  g_are_signs : mg "are_signs" = some (.ref f_are_signs)
  f_check_words : Addr
  fd_check_words : FuncData
  F_check_words : Fun K "check_words" "check_words" st_check_words f_check_words fd_check_words
  b_check_words : Binds K fd_check_words ["words", "signs", "window"] []
  g_check_words : mg "check_words" = some (.ref f_check_words)
  f_Rule___init__ : Addr
  fd_Rule___init__ : FuncData
  F_Rule___init__ : Fun K "__init__" "Rule.__init__" st_Rule___init__ f_Rule___init__ fd_Rule___init__
  b_Rule___init__ : Binds K fd_Rule___init__ ["self", "signs", "window", "words", "least", "most"] []
  f_check_like : Addr
  fd_check_like : FuncData
  F_check_like : Fun K "check_like" "check_like" st_check_like f_check_like fd_check_like
  b_check_like : Binds K fd_check_like ["one", "other"] []
  g_check_like : mg "check_like" = some (.ref f_check_like)
  f_parting : Addr
  fd_parting : FuncData
  F_parting : Fun K "parting" "parting" st_parting f_parting fd_parting
  b_parting : Binds K fd_parting ["one", "other"] []
  g_parting : mg "parting" = some (.ref f_parting)
  f_alike : Addr
  fd_alike : FuncData
  F_alike : Fun K "alike" "alike" st_alike f_alike fd_alike
  b_alike : Binds K fd_alike ["one", "other"] []
  g_alike : mg "alike" = some (.ref f_alike)
  f_is_text : Addr
  fd_is_text : FuncData
  F_is_text : Fun K "is_text" "is_text" st_is_text f_is_text fd_is_text
  b_is_text : Binds K fd_is_text ["value", "signs"] []
  g_is_text : mg "is_text" = some (.ref f_is_text)
  f_check_text : Addr
  fd_check_text : FuncData
  F_check_text : Fun K "check_text" "check_text" st_check_text f_check_text fd_check_text
  b_check_text : Binds K fd_check_text ["value", "signs"] []
  g_check_text : mg "check_text" = some (.ref f_check_text)
  f_cuts : Addr
  fd_cuts : FuncData
  F_cuts : Fun K "cuts" "cuts" st_cuts f_cuts fd_cuts
  b_cuts : Binds K fd_cuts ["rule", "text"] []
  g_cuts : mg "cuts" = some (.ref f_cuts)
  f_all_words : Addr
  fd_all_words : FuncData
  F_all_words : Fun K "all_words" "all_words" st_all_words f_all_words fd_all_words
  b_all_words : Binds K fd_all_words ["signs", "window"] []
  g_all_words : mg "all_words" = some (.ref f_all_words)
  f_check_few_words : Addr
  fd_check_few_words : FuncData
  F_check_few_words : Fun K "check_few_words" "check_few_words" st_check_few_words f_check_few_words fd_check_few_words
  b_check_few_words : Binds K fd_check_few_words ["signs", "window"] []
  g_check_few_words : mg "check_few_words" = some (.ref f_check_few_words)
  f_check_number : Addr
  fd_check_number : FuncData
  F_check_number : Fun K "check_number" "check_number" st_check_number f_check_number fd_check_number
  b_check_number : Binds K fd_check_number ["value", "low", "high"] []
  g_check_number : mg "check_number" = some (.ref f_check_number)
  f_fewest_words : Addr
  fd_fewest_words : FuncData
  F_fewest_words : Fun K "fewest_words" "fewest_words" st_fewest_words f_fewest_words fd_fewest_words
  b_fewest_words : Binds K fd_fewest_words ["rule", "goal", "most"] []
  g_fewest_words : mg "fewest_words" = some (.ref f_fewest_words)
  f_first_cuts : Addr
  fd_first_cuts : FuncData
  F_first_cuts : Fun K "first_cuts" "first_cuts" st_first_cuts f_first_cuts fd_first_cuts
  b_first_cuts : Binds K fd_first_cuts ["rule", "places"] []
  g_first_cuts : mg "first_cuts" = some (.ref f_first_cuts)
  f_is_seen : Addr
  fd_is_seen : FuncData
  F_is_seen : Fun K "is_seen" "is_seen" st_is_seen f_is_seen fd_is_seen
  b_is_seen : Binds K fd_is_seen ["thing", "signs"] []
  g_is_seen : mg "is_seen" = some (.ref f_is_seen)
  f_check_seen : Addr
  fd_check_seen : FuncData
  F_check_seen : Fun K "check_seen" "check_seen" st_check_seen f_check_seen fd_check_seen
  b_check_seen : Binds K fd_check_seen ["seen", "signs"] []
  g_check_seen : mg "check_seen" = some (.ref f_check_seen)
  f_fitting : Addr
  fd_fitting : FuncData
  F_fitting : Fun K "fitting" "fitting" st_fitting f_fitting fd_fitting
  b_fitting : Binds K fd_fitting ["signs", "window", "least", "most", "seen"] []
  g_fitting : mg "fitting" = some (.ref f_fitting)
  f_check_end : Addr
  fd_check_end : FuncData
  F_check_end : Fun K "check_end" "check_end" st_check_end f_check_end fd_check_end
  b_check_end : Binds K fd_check_end ["line", "parts", "choices"] []
  g_check_end : mg "check_end" = some (.ref f_check_end)
  f_check_parts : Addr
  fd_check_parts : FuncData
  F_check_parts : Fun K "check_parts" "check_parts" st_check_parts f_check_parts fd_check_parts
  b_check_parts : Binds K fd_check_parts ["line", "parts", "choices"] []
  g_check_parts : mg "check_parts" = some (.ref f_check_parts)
  f_digits : Addr
  fd_digits : FuncData
  F_digits : Fun K "digits" "digits" st_digits f_digits fd_digits
  b_digits : Binds K fd_digits ["low", "high"] []
  g_digits : mg "digits" = some (.ref f_digits)
  f_read_numbers : Addr
  fd_read_numbers : FuncData
  F_read_numbers : Fun K "read_numbers" "read_numbers" st_read_numbers f_read_numbers fd_read_numbers
  b_read_numbers : Binds K fd_read_numbers ["parts"] []
  g_read_numbers : mg "read_numbers" = some (.ref f_read_numbers)
  f_read : Addr
  fd_read : FuncData
  F_read : Fun K "read" "read" st_read f_read fd_read
  b_read : Binds K fd_read ["text"] []
  g_read : mg "read" = some (.ref f_read)
  f__law_raised : Addr
  fd__law_raised : FuncData
  F__law_raised : Fun K "_law_raised" "_law_raised" st__law_raised f__law_raised fd__law_raised
  b__law_raised : Binds K fd__law_raised ["_law_k"] []
  g__law_raised : mg "_law_raised" = some (.ref f__law_raised)
  f_law : Addr
  fd_law : FuncData
  F_law : Fun K "law" "law" st_law f_law fd_law
  b_law : Binds K fd_law ["_law_script"] []
  g_law : mg "law" = some (.ref f_law)
  z_ValueError : mg "ValueError" = none
  z_bool : mg "bool" = none
  z_enumerate : mg "enumerate" = none
  z_int : mg "int" = none
  z_isinstance : mg "isinstance" = none
  z_len : mg "len" = none
  z_list : mg "list" = none
  z_range : mg "range" = none
  z_str : mg "str" = none
  z_tuple : mg "tuple" = none
  C_Rule : Addr
  c_Rule : Cls K C_Rule
  g_Rule : mg "Rule" = some (.ref C_Rule)
  mk_Rule : Mk K C_Rule f_Rule___init__
  n__signs : NoAttr K C_Rule "_signs"
  n__window : NoAttr K C_Rule "_window"
  n__words : NoAttr K C_Rule "_words"
  n__least : NoAttr K C_Rule "_least"
  n__most : NoAttr K C_Rule "_most"
  pp_signs : Addr
  pg_signs : Addr
  pd_signs : FuncData
  p_signs : PropOf K C_Rule "signs" pp_signs pg_signs
  pb_signs : Binds K pd_signs ["self"] []
  ok_signs : ∀ {P : Program} {w : World} {base : Heap}, FnOk P w K mg base CX0 1 pg_signs pd_signs ["self"] (getSp C_Rule "_signs")
  pp_window : Addr
  pg_window : Addr
  pd_window : FuncData
  p_window : PropOf K C_Rule "window" pp_window pg_window
  pb_window : Binds K pd_window ["self"] []
  ok_window : ∀ {P : Program} {w : World} {base : Heap}, FnOk P w K mg base CX0 1 pg_window pd_window ["self"] (getSp C_Rule "_window")
  E_BadLengths : Addr
  g_BadLengths : mg "BadLengths" = some (.ref E_BadLengths)
  x_BadLengths : PySem.W.excIn K E_BadLengths [.type "ValueError", .type "Exception", .type "BaseException", .type "object"] "ValueError.__new__" = true
  k_BadLengths : PySem.W.keepIn K (.ref E_BadLengths) = true
  rs_BadLengths : ∀ {X : Cx}, X.K = K → Raises X (.ref E_BadLengths)
  E_BadLine : Addr
  g_BadLine : mg "BadLine" = some (.ref E_BadLine)
  k_BadLine : PySem.W.keepIn K (.ref E_BadLine) = true
  rs_BadLine : ∀ {X : Cx}, X.K = K → Raises X (.ref E_BadLine)
  E_BadNumber : Addr
  g_BadNumber : mg "BadNumber" = some (.ref E_BadNumber)
  x_BadNumber : PySem.W.excIn K E_BadNumber [.type "ValueError", .type "Exception", .type "BaseException", .type "object"] "ValueError.__new__" = true
  k_BadNumber : PySem.W.keepIn K (.ref E_BadNumber) = true
  rs_BadNumber : ∀ {X : Cx}, X.K = K → Raises X (.ref E_BadNumber)
  E_BadSeen : Addr
  g_BadSeen : mg "BadSeen" = some (.ref E_BadSeen)
  k_BadSeen : PySem.W.keepIn K (.ref E_BadSeen) = true
  rs_BadSeen : ∀ {X : Cx}, X.K = K → Raises X (.ref E_BadSeen)
  E_BadSigns : Addr
  g_BadSigns : mg "BadSigns" = some (.ref E_BadSigns)
  x_BadSigns : PySem.W.excIn K E_BadSigns [.type "ValueError", .type "Exception", .type "BaseException", .type "object"] "ValueError.__new__" = true
  k_BadSigns : PySem.W.keepIn K (.ref E_BadSigns) = true
  rs_BadSigns : ∀ {X : Cx}, X.K = K → Raises X (.ref E_BadSigns)
  E_BadText : Addr
  g_BadText : mg "BadText" = some (.ref E_BadText)
  x_BadText : PySem.W.excIn K E_BadText [.type "ValueError", .type "Exception", .type "BaseException", .type "object"] "ValueError.__new__" = true
  k_BadText : PySem.W.keepIn K (.ref E_BadText) = true
  rs_BadText : ∀ {X : Cx}, X.K = K → Raises X (.ref E_BadText)
  E_BadWindow : Addr
  g_BadWindow : mg "BadWindow" = some (.ref E_BadWindow)
  x_BadWindow : PySem.W.excIn K E_BadWindow [.type "ValueError", .type "Exception", .type "BaseException", .type "object"] "ValueError.__new__" = true
  k_BadWindow : PySem.W.keepIn K (.ref E_BadWindow) = true
  rs_BadWindow : ∀ {X : Cx}, X.K = K → Raises X (.ref E_BadWindow)
  E_BadWords : Addr
  g_BadWords : mg "BadWords" = some (.ref E_BadWords)
  k_BadWords : PySem.W.keepIn K (.ref E_BadWords) = true
  rs_BadWords : ∀ {X : Cx}, X.K = K → Raises X (.ref E_BadWords)
  E_CutError : Addr
  g_CutError : mg "CutError" = some (.ref E_CutError)
  x_CutError : PySem.W.excIn K E_CutError [.type "ValueError", .type "Exception", .type "BaseException", .type "object"] "ValueError.__new__" = true
  k_CutError : PySem.W.keepIn K (.ref E_CutError) = true
  rs_CutError : ∀ {X : Cx}, X.K = K → Raises X (.ref E_CutError)
  E_TooMany : Addr
  g_TooMany : mg "TooMany" = some (.ref E_TooMany)
  x_TooMany : PySem.W.excIn K E_TooMany [.type "ValueError", .type "Exception", .type "BaseException", .type "object"] "ValueError.__new__" = true
  k_TooMany : PySem.W.keepIn K (.ref E_TooMany) = true
  rs_TooMany : ∀ {X : Cx}, X.K = K → Raises X (.ref E_TooMany)
  E_Unlike : Addr
  g_Unlike : mg "Unlike" = some (.ref E_Unlike)
  x_Unlike : PySem.W.excIn K E_Unlike [.type "ValueError", .type "Exception", .type "BaseException", .type "object"] "ValueError.__new__" = true
  k_Unlike : PySem.W.keepIn K (.ref E_Unlike) = true
  rs_Unlike : ∀ {X : Cx}, X.K = K → Raises X (.ref E_Unlike)
  f_BadLine___init__ : Addr
  fd_BadLine___init__ : FuncData
  F_BadLine___init__ : Fun K "__init__" "BadLine.__init__" st_BadLine___init__ f_BadLine___init__ fd_BadLine___init__
  b_BadLine___init__ : Binds K fd_BadLine___init__ ["self", "line", "word"] []
  nf2_BadLine : PySem.W.findIn K (.ref E_BadLine) "word" = some none
  o_BadLine : OexC K E_BadLine
  in_BadLine : PySem.W.findIn K (.ref E_BadLine) "__init__" = some (some (.ref f_BadLine___init__))
  ti_BadLine : PySem.W.typeIn K (.ref f_BadLine___init__) = some (.type "function")
  nf_BadLine : PySem.W.findIn K (.ref E_BadLine) "line" = some none
  xf_BadLine : XfC K E_BadLine
  f_BadSeen___init__ : Addr
  fd_BadSeen___init__ : FuncData
  F_BadSeen___init__ : Fun K "__init__" "BadSeen.__init__" st_BadSeen___init__ f_BadSeen___init__ fd_BadSeen___init__
  b_BadSeen___init__ : Binds K fd_BadSeen___init__ ["self", "index"] []
  o_BadSeen : OexC K E_BadSeen
  in_BadSeen : PySem.W.findIn K (.ref E_BadSeen) "__init__" = some (some (.ref f_BadSeen___init__))
  ti_BadSeen : PySem.W.typeIn K (.ref f_BadSeen___init__) = some (.type "function")
  nf_BadSeen : PySem.W.findIn K (.ref E_BadSeen) "index" = some none
  xf_BadSeen : XfC K E_BadSeen
  f_BadWords___init__ : Addr
  fd_BadWords___init__ : FuncData
  F_BadWords___init__ : Fun K "__init__" "BadWords.__init__" st_BadWords___init__ f_BadWords___init__ fd_BadWords___init__
  b_BadWords___init__ : Binds K fd_BadWords___init__ ["self", "index"] []
  o_BadWords : OexC K E_BadWords
  in_BadWords : PySem.W.findIn K (.ref E_BadWords) "__init__" = some (some (.ref f_BadWords___init__))
  ti_BadWords : PySem.W.typeIn K (.ref f_BadWords___init__) = some (.type "function")
  nf_BadWords : PySem.W.findIn K (.ref E_BadWords) "index" = some none
  xf_BadWords : XfC K E_BadWords
  ecs_all : ∀ c ∈ EXS, ∀ C, mg c = some (.ref C) → ExcC K C
  kv_BadLengths : ∀ c ∈ EXS, ∀ C, mg c = some (.ref C) → PySem.W.kitOne K (.ref C) (.ref E_BadLengths) = some (decide (c = "BadLengths"))
  kv_BadLine : ∀ c ∈ EXS, ∀ C, mg c = some (.ref C) → PySem.W.kitOne K (.ref C) (.ref E_BadLine) = some (decide (c = "BadLine"))
  kv_BadNumber : ∀ c ∈ EXS, ∀ C, mg c = some (.ref C) → PySem.W.kitOne K (.ref C) (.ref E_BadNumber) = some (decide (c = "BadNumber"))
  kv_BadSeen : ∀ c ∈ EXS, ∀ C, mg c = some (.ref C) → PySem.W.kitOne K (.ref C) (.ref E_BadSeen) = some (decide (c = "BadSeen"))
  kv_BadSigns : ∀ c ∈ EXS, ∀ C, mg c = some (.ref C) → PySem.W.kitOne K (.ref C) (.ref E_BadSigns) = some (decide (c = "BadSigns"))
  kv_BadText : ∀ c ∈ EXS, ∀ C, mg c = some (.ref C) → PySem.W.kitOne K (.ref C) (.ref E_BadText) = some (decide (c = "BadText"))
  kv_BadWindow : ∀ c ∈ EXS, ∀ C, mg c = some (.ref C) → PySem.W.kitOne K (.ref C) (.ref E_BadWindow) = some (decide (c = "BadWindow"))
  kv_BadWords : ∀ c ∈ EXS, ∀ C, mg c = some (.ref C) → PySem.W.kitOne K (.ref C) (.ref E_BadWords) = some (decide (c = "BadWords"))
  kv_TooMany : ∀ c ∈ EXS, ∀ C, mg c = some (.ref C) → PySem.W.kitOne K (.ref C) (.ref E_TooMany) = some (decide (c = "TooMany"))
  kv_Unlike : ∀ c ∈ EXS, ∀ C, mg c = some (.ref C) → PySem.W.kitOne K (.ref C) (.ref E_Unlike) = some (decide (c = "Unlike"))
  kv_ValueError : ∀ c ∈ EXS, ∀ C, mg c = some (.ref C) → PySem.W.kitOne K (.ref C) (.type "ValueError") = some true
  emv_CutError : ∀ c ∈ EXS, ∀ C, mg c = some (.ref C) → PySem.W.exmOne K (.ref C) (.ref E_CutError) = some true
  xv_index : ∀ c ∈ (["BadWords", "BadSeen"] : List Str), ∀ C, mg c = some (.ref C) → XfC K C ∧ PySem.W.findIn K (.ref C) "index" = some none
  xv_line : ∀ c ∈ (["BadLine"] : List Str), ∀ C, mg c = some (.ref C) → XfC K C ∧ PySem.W.findIn K (.ref C) "line" = some none
  xv_word : ∀ c ∈ (["BadLine"] : List Str), ∀ C, mg c = some (.ref C) → XfC K C ∧ PySem.W.findIn K (.ref C) "word" = some none
  v_GREATEST_GOAL : V
  u_GREATEST_GOAL : Value
  g_GREATEST_GOAL : mg "GREATEST_GOAL" = some u_GREATEST_GOAL
  r_GREATEST_GOAL : RelV v_GREATEST_GOAL u_GREATEST_GOAL
  d_GREATEST_GOAL : ∀ H pi, Rep K mg H pi K_GREATEST_GOAL v_GREATEST_GOAL
  v_LONGEST_TEXT : V
  u_LONGEST_TEXT : Value
  g_LONGEST_TEXT : mg "LONGEST_TEXT" = some u_LONGEST_TEXT
  r_LONGEST_TEXT : RelV v_LONGEST_TEXT u_LONGEST_TEXT
  d_LONGEST_TEXT : ∀ H pi, Rep K mg H pi K_LONGEST_TEXT v_LONGEST_TEXT
  v_MOST_FURTHER_WORDS : V
  u_MOST_FURTHER_WORDS : Value
  g_MOST_FURTHER_WORDS : mg "MOST_FURTHER_WORDS" = some u_MOST_FURTHER_WORDS
  r_MOST_FURTHER_WORDS : RelV v_MOST_FURTHER_WORDS u_MOST_FURTHER_WORDS
  d_MOST_FURTHER_WORDS : ∀ H pi, Rep K mg H pi K_MOST_FURTHER_WORDS v_MOST_FURTHER_WORDS
  v_MOST_PLACES : V
  u_MOST_PLACES : Value
  g_MOST_PLACES : mg "MOST_PLACES" = some u_MOST_PLACES
  r_MOST_PLACES : RelV v_MOST_PLACES u_MOST_PLACES
  d_MOST_PLACES : ∀ H pi, Rep K mg H pi K_MOST_PLACES v_MOST_PLACES
  v_MOST_SEEN : V
  u_MOST_SEEN : Value
  g_MOST_SEEN : mg "MOST_SEEN" = some u_MOST_SEEN
  r_MOST_SEEN : RelV v_MOST_SEEN u_MOST_SEEN
  d_MOST_SEEN : ∀ H pi, Rep K mg H pi K_MOST_SEEN v_MOST_SEEN
  v_MOST_WORDS : V
  u_MOST_WORDS : Value
  g_MOST_WORDS : mg "MOST_WORDS" = some u_MOST_WORDS
  r_MOST_WORDS : RelV v_MOST_WORDS u_MOST_WORDS
  d_MOST_WORDS : ∀ H pi, Rep K mg H pi K_MOST_WORDS v_MOST_WORDS
  v_NO_MOST : V
  u_NO_MOST : Value
  g_NO_MOST : mg "NO_MOST" = some u_NO_MOST
  r_NO_MOST : RelV v_NO_MOST u_NO_MOST
  d_NO_MOST : ∀ H pi, Rep K mg H pi K_NO_MOST v_NO_MOST
theorem ok_BadLine___init__ {P : Program} {w : World} {K : PySem.W.Frag} {mg : Str → Option Value} {base : Heap} (T : Tx K mg) : FnOk P w K mg base (L2.CX P w) 3 T.f_BadLine___init__ T.fd_BadLine___init__ ["self", "line", "word"] (spExI2 T.E_BadLine "line" "word") := exI2_ok T.F_BadLine___init__ sc_BadLine___init__ rfl (.inl rfl) (.inl rfl) (.inl rfl) T.o_BadLine T.nf_BadLine T.nf2_BadLine
theorem ok_BadSeen___init__ {P : Program} {w : World} {K : PySem.W.Frag} {mg : Str → Option Value} {base : Heap} (T : Tx K mg) : FnOk P w K mg base (L2.CX P w) 3 T.f_BadSeen___init__ T.fd_BadSeen___init__ ["self", "index"] (spExI T.E_BadSeen "index") := exI_ok T.F_BadSeen___init__ sc_BadSeen___init__ rfl (.inl rfl) (.inl rfl) T.o_BadSeen T.nf_BadSeen
theorem ok_BadWords___init__ {P : Program} {w : World} {K : PySem.W.Frag} {mg : Str → Option Value} {base : Heap} (T : Tx K mg) : FnOk P w K mg base (L2.CX P w) 3 T.f_BadWords___init__ T.fd_BadWords___init__ ["self", "index"] (spExI T.E_BadWords "index") := exI_ok T.F_BadWords___init__ sc_BadWords___init__ rfl (.inl rfl) (.inl rfl) T.o_BadWords T.nf_BadWords
section
variable {K : PySem.W.Frag} {mg : Str → Option Value} {P : Program} {w : World} {base : Heap}
theorem ok__law_draws (T : Tx K mg) : FnOk P w K mg base (L2.CX P w) 3 T.f__law_draws T.fd__law_draws ["_law_script"] (spM K mg 1 G__law_draws) :=
  fn_ok (b := b__law_draws) T.F__law_draws sc__law_draws rfl (fun cdv A outer s H E hr => by
    have nd := sc__law_draws.nd
    have tk : Takes (cxOf (L2.CX P w) P w K mg base N__law_draws "_law_draws" (defScope st__law_draws) T.f__law_draws cdv A outer s H E) (fun c d _ H' => E c d H') := takes_of rfl rfl rfl rfl
    have hu := hu_of2 hr
    exact (ss_one (s_ret (m_new (a_cons (m_frz (m_list rfl T.z_list (m_var 0))) (a_cons m_int (a_cons m_int (a_cons m_int a_nil)))))))) (fun ds m h => .inr (.inr rfl))
theorem ok__law_kinds (T : Tx K mg) : FnOk P w K mg base (L2.CX P w) 3 T.f__law_kinds T.fd__law_kinds ["_law_e"] (spM K mg 1 G__law_kinds) :=
  fn_ok (b := b__law_kinds) T.F__law_kinds sc__law_kinds rfl (fun cdv A outer s H E hr => by
    have nd := sc__law_kinds.nd
    have tk : Takes (cxOf (L2.CX P w) P w K mg base N__law_kinds "_law_kinds" (defScope st__law_kinds) T.f__law_kinds cdv A outer s H E) (fun c d _ H' => E c d H') := takes_of rfl rfl rfl rfl
    have hu := hu_of2 hr
    exact (ss_cons (s_set 1 nd (m_frz (m_new (a_cons (m_isiE rfl T.z_isinstance rfl T.g_BadSigns T.ecs_all T.kv_BadSigns (m_var 0)) (a_cons (m_isiE rfl T.z_isinstance rfl T.g_BadWindow T.ecs_all T.kv_BadWindow (m_var 0)) (a_cons (m_isiE rfl T.z_isinstance rfl T.g_BadLengths T.ecs_all T.kv_BadLengths (m_var 0)) (a_cons (m_isiE rfl T.z_isinstance rfl T.g_BadText T.ecs_all T.kv_BadText (m_var 0)) a_nil))))))) (ss_cons (s_set 1 nd (m_frz (m_cat (m_var 1) (m_frz (m_new (a_cons (m_isiE rfl T.z_isinstance rfl T.g_BadNumber T.ecs_all T.kv_BadNumber (m_var 0)) (a_cons (m_isiE rfl T.z_isinstance rfl T.g_Unlike T.ecs_all T.kv_Unlike (m_var 0)) (a_cons (m_isiE rfl T.z_isinstance rfl T.g_TooMany T.ecs_all T.kv_TooMany (m_var 0)) a_nil)))))))) (ss_one (s_ret (m_frz (m_cat (m_var 1) (m_frz (m_new (a_cons (m_isiE rfl T.z_isinstance rfl T.g_BadWords T.ecs_all T.kv_BadWords (m_var 0)) (a_cons (m_isiE rfl T.z_isinstance rfl T.g_BadSeen T.ecs_all T.kv_BadSeen (m_var 0)) (a_cons (m_isiE rfl T.z_isinstance rfl T.g_BadLine T.ecs_all T.kv_BadLine (m_var 0)) a_nil)))))))))))) (fun ds m h => .inr (.inl rfl))
theorem ok__law_pick (T : Tx K mg) : FnOk P w K mg base (L2.CX P w) 3 T.f__law_pick T.fd__law_pick ["_law_row", "_law_many"] (spM K mg 2 G__law_pick) :=
  fn_ok (b := b__law_pick) T.F__law_pick sc__law_pick rfl (fun cdv A outer s H E hr => by
    have nd := sc__law_pick.nd
    have tk : Takes (cxOf (L2.CX P w) P w K mg base N__law_pick "_law_pick" (defScope st__law_pick) T.f__law_pick cdv A outer s H E) (fun c d _ H' => E c d H') := takes_of rfl rfl rfl rfl
    have hu := hu_of2 hr
    exact (ss_cons (s_if (t_cmp (o_eq hu.1) (m_ix (m_var 0) m_int) m_int) (ss_one (s_if (t_cmp o_lt (m_ix (m_var 0) m_int) (m_B c_len rfl T.z_len PySem.boot_len (a_cons (m_ix (m_var 0) m_int) a_nil))) (ss_cons (s_set 2 nd (m_ix (m_ix (m_var 0) m_int) (m_ix (m_var 0) m_int))) (ss_cons (s_setIx' (m_op (o_addX o_add) (m_ix (m_var 0) m_int) m_int) (m_var 0) m_int) (ss_one (s_if (t_cmp o_ge (m_var 2) (m_op o_pow m_int m_int)) (ss_one (s_setIx' (m_var 2) (m_var 0) m_int)) (ss_one (s_setIx' (m_op o_mod (m_Ty c_intA rfl T.z_int (by decide +kernel) (a_cons (m_op (o_addX o_add) (m_op (o_addX o_add) (m_op o_mulX (m_ix (m_var 0) m_int) m_int) (m_op o_mulX (m_var 2) m_int)) m_int) a_nil)) m_int) (m_var 0) m_int)))))) (ss_one (s_setIx' (m_op o_mod (m_Ty c_intA rfl T.z_int (by decide +kernel) (a_cons (m_op (o_addX o_add) (m_op o_mulX (m_ix (m_var 0) m_int) m_int) m_int) a_nil)) m_int) (m_var 0) m_int)))) ss_nil) (ss_cons (s_if (t_cmp o_gt (m_ix (m_var 0) m_int) m_int) (ss_cons (s_set 3 nd (m_op o_mod (m_Ty c_intA rfl T.z_int (by decide +kernel) (a_cons (m_ix (m_var 0) m_int) a_nil)) (m_var 1))) (ss_cons (s_setIx' (m_op o_div (m_ix (m_var 0) m_int) (m_var 1)) (m_var 0) m_int) (ss_one (s_ret (m_var 3))))) ss_nil) (ss_one (s_ret (m_op o_mod (m_op o_mod (m_Ty c_intA rfl T.z_int (by decide +kernel) (a_cons (m_op o_mulX (m_ix (m_var 0) m_int) m_int) a_nil)) m_int) (m_var 1))))))) (fun ds m h => .inr (.inl rfl))
theorem ok_is_number (T : Tx K mg) : FnOk P w K mg base (L2.CX P w) 3 T.f_is_number T.fd_is_number ["value", "low", "high"] (spM K mg 3 G_is_number) :=
  fn_ok (b := b_is_number) T.F_is_number sc_is_number rfl (fun cdv A outer s H E hr => by
    have nd := sc_is_number.nd
    have tk : Takes (cxOf (L2.CX P w) P w K mg base N_is_number "is_number" (defScope st_is_number) T.f_is_number cdv A outer s H E) (fun c d _ H' => E c d H') := takes_of rfl rfl rfl rfl
    have hu := hu_of2 hr
    exact (ss_cons (s_if (t_w (w_or (t_val (m_isi rfl T.z_isinstance rfl T.z_bool (by decide +kernel) (m_var 0))) (w_one_or (t_not (t_val (m_isi rfl T.z_isinstance rfl T.z_int (by decide +kernel) (m_var 0))))))) (ss_one (s_ret m_bl)) ss_nil) (ss_one (s_ret (m_chain (o_leA hu.1) (o_leA hu.1) (m_var 1) (m_var 0) (m_var 2)))))) (fun ds m h => .inr (.inl rfl))
theorem ok_check_lengths (T : Tx K mg) : FnOk P w K mg base (L2.CX P w) 5 T.f_check_lengths T.fd_check_lengths ["least", "most"] (spM K mg 2 G_check_lengths) :=
  fn_ok (b := b_check_lengths) T.F_check_lengths sc_check_lengths rfl (fun cdv A outer s H E hr => by
    have nd := sc_check_lengths.nd
    have tk : Takes (cxOf (L2.CX P w) P w K mg base N_check_lengths "check_lengths" (defScope st_check_lengths) T.f_check_lengths cdv A outer s H E) (fun c d _ H' => E c d H') := takes_of rfl rfl rfl rfl
    have hu := hu_of2 hr
    exact (ss_cons (s_if (t_not (t_val (m_call (ok_is_number T) (hr.mono (by decide)) rfl T.g_is_number T.F_is_number.kp T.b_is_number tk (a_cons (m_var 0) (a_cons m_int (a_cons m_int a_nil))) rfl (len_cons (len_cons (len_cons len_nil)))))) (ss_one (s_raise rfl tk PySem.F.excBase_ValueError T.x_BadLengths T.g_BadLengths T.k_BadLengths (T.rs_BadLengths rfl) rfl)) ss_nil) (ss_one (s_if (t_w (w_and (t_cmp o_isnot (m_var 1) m_non) (w_one_and (t_not (t_val (m_call (ok_is_number T) (hr.mono (by decide)) rfl T.g_is_number T.F_is_number.kp T.b_is_number tk (a_cons (m_var 1) (a_cons (m_var 0) (a_cons m_int a_nil))) rfl (len_cons (len_cons (len_cons len_nil))))))))) (ss_one (s_raise rfl tk PySem.F.excBase_ValueError T.x_BadLengths T.g_BadLengths T.k_BadLengths (T.rs_BadLengths rfl) rfl)) ss_nil)))) (fun ds m h => .inr (.inl rfl))
theorem ok_check_signs (T : Tx K mg) : FnOk P w K mg base (L2.CX P w) 5 T.f_check_signs T.fd_check_signs ["signs"] (spM K mg 1 G_check_signs) :=
  fn_ok (b := b_check_signs) T.F_check_signs sc_check_signs rfl (fun cdv A outer s H E hr => by
    have nd := sc_check_signs.nd
    have tk : Takes (cxOf (L2.CX P w) P w K mg base N_check_signs "check_signs" (defScope st_check_signs) T.f_check_signs cdv A outer s H E) (fun c d _ H' => E c d H') := takes_of rfl rfl rfl rfl
    have hu := hu_of2 hr
    exact (ss_one (s_if (t_not (t_val (m_call (ok_is_number T) (hr.mono (by decide)) rfl T.g_is_number T.F_is_number.kp T.b_is_number tk (a_cons (m_var 0) (a_cons m_int (a_cons m_int a_nil))) rfl (len_cons (len_cons (len_cons len_nil)))))) (ss_one (s_raise rfl tk PySem.F.excBase_ValueError T.x_BadSigns T.g_BadSigns T.k_BadSigns (T.rs_BadSigns rfl) rfl)) ss_nil))) (fun ds m h => .inr (.inl rfl))
theorem ok_check_window (T : Tx K mg) : FnOk P w K mg base (L2.CX P w) 5 T.f_check_window T.fd_check_window ["window"] (spM K mg 1 G_check_window) :=
  fn_ok (b := b_check_window) T.F_check_window sc_check_window rfl (fun cdv A outer s H E hr => by
    have nd := sc_check_window.nd
    have tk : Takes (cxOf (L2.CX P w) P w K mg base N_check_window "check_window" (defScope st_check_window) T.f_check_window cdv A outer s H E) (fun c d _ H' => E c d H') := takes_of rfl rfl rfl rfl
    have hu := hu_of2 hr
    exact (ss_one (s_if (t_not (t_val (m_call (ok_is_number T) (hr.mono (by decide)) rfl T.g_is_number T.F_is_number.kp T.b_is_number tk (a_cons (m_var 0) (a_cons m_int (a_cons m_int a_nil))) rfl (len_cons (len_cons (len_cons len_nil)))))) (ss_one (s_raise rfl tk PySem.F.excBase_ValueError T.x_BadWindow T.g_BadWindow T.k_BadWindow (T.rs_BadWindow rfl) rfl)) ss_nil))) (fun ds m h => .inr (.inl rfl))
theorem ok_are_signs (T : Tx K mg) : FnOk P w K mg base (L2.CX P w) 5 T.f_are_signs T.fd_are_signs ["value", "signs"] (spM K mg 2 G_are_signs) :=
  fn_ok (b := b_are_signs) T.F_are_signs sc_are_signs rfl (fun cdv A outer s H E hr => by
    have nd := sc_are_signs.nd
    have tk : Takes (cxOf (L2.CX P w) P w K mg base N_are_signs "are_signs" (defScope st_are_signs) T.f_are_signs cdv A outer s H E) (fun c d _ H' => E c d H') := takes_of rfl rfl rfl rfl
    have hu := hu_of2 hr
    exact (ss_cons (s_if (t_not (t_val (m_isi rfl T.z_isinstance rfl T.z_tuple (by decide +kernel) (m_var 0)))) (ss_one (s_ret m_bl)) ss_nil) (ss_cons (s_for (passes_of rfl) rfl (i_tup (m_var 0)) (g_name 2 nd) (ss_one (s_if (t_not (t_val (m_call (ok_is_number T) (hr.mono (by decide)) rfl T.g_is_number T.F_is_number.kp T.b_is_number tk (a_cons (m_var 2) (a_cons m_int (a_cons (m_op o_sub (m_var 1) m_int) a_nil))) rfl (len_cons (len_cons (len_cons len_nil)))))) (ss_one (s_ret m_bl)) ss_nil))) (ss_one (s_ret m_bl))))) (fun ds m h => .inr (.inl rfl))
theorem ok_check_words (T : Tx K mg) : FnOk P w K mg base (L2.CX P w) 7 T.f_check_words T.fd_check_words ["words", "signs", "window"] (spM K mg 3 G_check_words) :=
  fn_ok (b := b_check_words) T.F_check_words sc_check_words rfl (fun cdv A outer s H E hr => by
    have nd := sc_check_words.nd
    have tk : Takes (cxOf (L2.CX P w) P w K mg base N_check_words "check_words" (defScope st_check_words) T.f_check_words cdv A outer s H E) (fun c d _ H' => E c d H') := takes_of rfl rfl rfl rfl
    have hu := hu_of2 hr
    exact (ss_cons (s_if (t_not (t_val (m_isi rfl T.z_isinstance rfl T.z_tuple (by decide +kernel) (m_var 0)))) (ss_one (s_raiseF rfl tk T.o_BadWords T.in_BadWords T.ti_BadWords (ok_BadWords___init__ T) (hr.mono (by decide)) T.b_BadWords___init__ rfl T.g_BadWords m_non)) ss_nil) (ss_one (s_for (passes_of rfl) rfl (i_en0 rfl T.z_enumerate (m_var 0)) (g_unp rfl (gs_cons (g_name 3 nd) (gs_cons (g_name 4 nd) gs_nil))) (ss_cons (s_if (t_w (w_or (t_not (t_val (m_call (ok_are_signs T) (hr.mono (by decide)) rfl T.g_are_signs T.F_are_signs.kp T.b_are_signs tk (a_cons (m_var 4) (a_cons (m_var 1) a_nil)) rfl (len_cons (len_cons len_nil))))) (w_one_or (t_cmp (o_ne hu.1) (m_B c_len rfl T.z_len PySem.boot_len (a_cons (m_var 4) a_nil)) (m_var 2))))) (ss_one (s_raiseF rfl tk T.o_BadWords T.in_BadWords T.ti_BadWords (ok_BadWords___init__ T) (hr.mono (by decide)) T.b_BadWords___init__ rfl T.g_BadWords (m_var 3))) ss_nil) (ss_one (s_if (t_w (w_and (t_cmp o_gt (m_var 3) m_int) (w_one_and (t_cmp (o_leA hu.1) (m_var 4) (m_ix (m_var 0) (m_op o_sub (m_var 3) m_int)))))) (ss_one (s_raiseF rfl tk T.o_BadWords T.in_BadWords T.ti_BadWords (ok_BadWords___init__ T) (hr.mono (by decide)) T.b_BadWords___init__ rfl T.g_BadWords (m_var 3))) ss_nil))))))) (fun ds m h => .inr (.inl rfl))
theorem ok_Rule___init__ (T : Tx K mg) : FnOk P w K mg base (L2.CX P w) 9 T.f_Rule___init__ T.fd_Rule___init__ ["self", "signs", "window", "words", "least", "most"] (spM K mg 6 G_Rule___init__) :=
  fn_ok (b := b_Rule___init__) T.F_Rule___init__ sc_Rule___init__ rfl (fun cdv A outer s H E hr => by
    have nd := sc_Rule___init__.nd
    have tk : Takes (cxOf (L2.CX P w) P w K mg base N_Rule___init__ "Rule.__init__" (defScope st_Rule___init__) T.f_Rule___init__ cdv A outer s H E) (fun c d _ H' => E c d H') := takes_of rfl rfl rfl rfl
    have hu := hu_of2 hr
    exact (ss_cons (s_do (m_call (ok_check_signs T) (hr.mono (by decide)) rfl T.g_check_signs T.F_check_signs.kp T.b_check_signs tk (a_cons (m_var 1) a_nil) rfl (len_cons len_nil))) (ss_cons (s_do (m_call (ok_check_window T) (hr.mono (by decide)) rfl T.g_check_window T.F_check_window.kp T.b_check_window tk (a_cons (m_var 2) a_nil) rfl (len_cons len_nil))) (ss_cons (s_do (m_call (ok_check_words T) (hr.mono (by decide)) rfl T.g_check_words T.F_check_words.kp T.b_check_words tk (a_cons (m_var 3) (a_cons (m_var 1) (a_cons (m_var 2) a_nil))) rfl (len_cons (len_cons (len_cons len_nil))))) (ss_cons (s_do (m_call (ok_check_lengths T) (hr.mono (by decide)) rfl T.g_check_lengths T.F_check_lengths.kp T.b_check_lengths tk (a_cons (m_var 4) (a_cons (m_var 5) a_nil)) rfl (len_cons (len_cons len_nil)))) (ss_cons (s_setF (m_var 0) (m_var 1) T.c_Rule T.g_Rule T.n__signs) (ss_cons (s_setF (m_var 0) (m_var 2) T.c_Rule T.g_Rule T.n__window) (ss_cons (s_setF (m_var 0) (m_var 3) T.c_Rule T.g_Rule T.n__words) (ss_cons (s_setF (m_var 0) (m_var 4) T.c_Rule T.g_Rule T.n__least) (ss_one (s_setF (m_var 0) (m_var 5) T.c_Rule T.g_Rule T.n__most))))))))))) (fun ds m h => .inr (.inr rfl))
theorem ok_check_like (T : Tx K mg) : FnOk P w K mg base (L2.CX P w) 3 T.f_check_like T.fd_check_like ["one", "other"] (spM K mg 2 G_check_like) :=
  fn_ok (b := b_check_like) T.F_check_like sc_check_like rfl (fun cdv A outer s H E hr => by
    have nd := sc_check_like.nd
    have tk : Takes (cxOf (L2.CX P w) P w K mg base N_check_like "check_like" (defScope st_check_like) T.f_check_like cdv A outer s H E) (fun c d _ H' => E c d H') := takes_of rfl rfl rfl rfl
    have hu := hu_of2 hr
    exact (ss_one (s_if (t_cmp (o_ne hu.1) (m_prop (m_var 0) T.c_Rule T.g_Rule T.p_signs T.ok_signs (hr.mono (by decide)) T.pb_signs) (m_prop (m_var 1) T.c_Rule T.g_Rule T.p_signs T.ok_signs (hr.mono (by decide)) T.pb_signs)) (ss_one (s_raise rfl tk PySem.F.excBase_ValueError T.x_Unlike T.g_Unlike T.k_Unlike (T.rs_Unlike rfl) rfl)) ss_nil))) (fun ds m h => .inr (.inl rfl))
theorem ok_parting (T : Tx K mg) : FnOk P w K mg base (L2.CX P w) 5 T.f_parting T.fd_parting ["one", "other"] (spM K mg 2 G_parting) :=
  fn_ok (b := b_parting) T.F_parting sc_parting rfl (fun cdv A outer s H E hr => by
    have nd := sc_parting.nd
    have tk : Takes (cxOf (L2.CX P w) P w K mg base N_parting "parting" (defScope st_parting) T.f_parting cdv A outer s H E) (fun c d _ H' => E c d H') := takes_of rfl rfl rfl rfl
    have hu := hu_of2 hr
    exact (ss_cons (s_do (m_call (ok_check_like T) (hr.mono (by decide)) rfl T.g_check_like T.F_check_like.kp T.b_check_like tk (a_cons (m_var 0) (a_cons (m_var 1) a_nil)) rfl (len_cons (len_cons len_nil)))) ss_never)) (fun ds m h => .inr (.inl rfl))
theorem ok_alike (T : Tx K mg) : FnOk P w K mg base (L2.CX P w) 7 T.f_alike T.fd_alike ["one", "other"] (spM K mg 2 G_alike) :=
  fn_ok (b := b_alike) T.F_alike sc_alike rfl (fun cdv A outer s H E hr => by
    have nd := sc_alike.nd
    have tk : Takes (cxOf (L2.CX P w) P w K mg base N_alike "alike" (defScope st_alike) T.f_alike cdv A outer s H E) (fun c d _ H' => E c d H') := takes_of rfl rfl rfl rfl
    have hu := hu_of2 hr
    exact (ss_one (s_ret (m_cmp o_is (m_call (ok_parting T) (hr.mono (by decide)) rfl T.g_parting T.F_parting.kp T.b_parting tk (a_cons (m_var 0) (a_cons (m_var 1) a_nil)) rfl (len_cons (len_cons len_nil))) m_non)))) (fun ds m h => .inr (.inl rfl))
theorem ok_is_text (T : Tx K mg) : FnOk P w K mg base (L2.CX P w) 7 T.f_is_text T.fd_is_text ["value", "signs"] (spM K mg 2 G_is_text) :=
  fn_ok (b := b_is_text) T.F_is_text sc_is_text rfl (fun cdv A outer s H E hr => by
    have nd := sc_is_text.nd
    have tk : Takes (cxOf (L2.CX P w) P w K mg base N_is_text "is_text" (defScope st_is_text) T.f_is_text cdv A outer s H E) (fun c d _ H' => E c d H') := takes_of rfl rfl rfl rfl
    have hu := hu_of2 hr
    exact (ss_one (s_ret (m_and (m_call (ok_are_signs T) (hr.mono (by decide)) rfl T.g_are_signs T.F_are_signs.kp T.b_are_signs tk (a_cons (m_var 0) (a_cons (m_var 1) a_nil)) rfl (len_cons (len_cons len_nil))) (m_one (m_cmp (o_leA hu.1) (m_B c_len rfl T.z_len PySem.boot_len (a_cons (m_var 0) a_nil)) (m_glob rfl T.g_LONGEST_TEXT T.r_LONGEST_TEXT T.d_LONGEST_TEXT))))))) (fun ds m h => .inr (.inl rfl))
theorem ok_check_text (T : Tx K mg) : FnOk P w K mg base (L2.CX P w) 9 T.f_check_text T.fd_check_text ["value", "signs"] (spM K mg 2 G_check_text) :=
  fn_ok (b := b_check_text) T.F_check_text sc_check_text rfl (fun cdv A outer s H E hr => by
    have nd := sc_check_text.nd
    have tk : Takes (cxOf (L2.CX P w) P w K mg base N_check_text "check_text" (defScope st_check_text) T.f_check_text cdv A outer s H E) (fun c d _ H' => E c d H') := takes_of rfl rfl rfl rfl
    have hu := hu_of2 hr
    exact (ss_one (s_if (t_not (t_val (m_call (ok_is_text T) (hr.mono (by decide)) rfl T.g_is_text T.F_is_text.kp T.b_is_text tk (a_cons (m_var 0) (a_cons (m_var 1) a_nil)) rfl (len_cons (len_cons len_nil))))) (ss_one (s_raise rfl tk PySem.F.excBase_ValueError T.x_BadText T.g_BadText T.k_BadText (T.rs_BadText rfl) rfl)) ss_nil))) (fun ds m h => .inr (.inl rfl))
theorem ok_cuts (T : Tx K mg) : FnOk P w K mg base (L2.CX P w) 11 T.f_cuts T.fd_cuts ["rule", "text"] (spM K mg 2 G_cuts) :=
  fn_ok (b := b_cuts) T.F_cuts sc_cuts rfl (fun cdv A outer s H E hr => by
    have nd := sc_cuts.nd
    have tk : Takes (cxOf (L2.CX P w) P w K mg base N_cuts "cuts" (defScope st_cuts) T.f_cuts cdv A outer s H E) (fun c d _ H' => E c d H') := takes_of rfl rfl rfl rfl
    have hu := hu_of2 hr
    exact (ss_cons (s_do (m_call (ok_check_text T) (hr.mono (by decide)) rfl T.g_check_text T.F_check_text.kp T.b_check_text tk (a_cons (m_var 1) (a_cons (m_prop (m_var 0) T.c_Rule T.g_Rule T.p_signs T.ok_signs (hr.mono (by decide)) T.pb_signs) a_nil)) rfl (len_cons (len_cons len_nil)))) ss_never)) (fun ds m h => .inr (.inl rfl))
theorem ok_all_words (T : Tx K mg) : FnOk P w K mg base (L2.CX P w) 3 T.f_all_words T.fd_all_words ["signs", "window"] (spM K mg 2 G_all_words) :=
  fn_ok (b := b_all_words) T.F_all_words sc_all_words rfl (fun cdv A outer s H E hr => by
    have nd := sc_all_words.nd
    have tk : Takes (cxOf (L2.CX P w) P w K mg base N_all_words "all_words" (defScope st_all_words) T.f_all_words cdv A outer s H E) (fun c d _ H' => E c d H') := takes_of rfl rfl rfl rfl
    have hu := hu_of2 hr
    exact (ss_cons (s_set 2 nd (m_frz (m_new (a_cons (m_tup a_nil) a_nil)))) (ss_cons (s_for (passes_of rfl) rfl (i_rng1 rfl T.z_range (m_var 1)) (g_name 3 nd) (ss_one (by refine s_setLc2 (i := 4) (j := 5) (k := 2) (x := "word") (y := "sign") (fi := (mItL (mVar 2))) (fi1 := (mRng1 (mVar 0))) (fe := (mBin gAddX (mVar 4) (mTup (mCons (mVar 5) mNil)))) rfl nd rfl rfl (sw_true rfl rfl rfl (by decide +kernel)) (by decide) ?_ ?_ ?_ ?_ ?_ ?_ (fun _ _ _ h => frz_read h); exact (i_list (m_var 2)); exact (blkOk_by (N := N_all_words) (sc := defScope st_all_words) (by decide +kernel)); exact (fun _ _ _ _ _ => pg_name (i := 4) nd rfl (Or.inl rfl)); exact (fun _ _ _ _ _ => (i_rng1 rfl T.z_range (m_var 0))); exact (fun _ _ _ _ _ => pg_name (i := 5) nd rfl (Or.inl rfl)); exact (fun _ _ _ _ _ => (m_op (o_addX o_add) (m_var 4) (m_tup (a_cons (m_var 5) a_nil))))))) (ss_one (s_ret (m_var 2)))))) (fun ds m h => .inr (.inl rfl))
theorem ok_check_few_words (T : Tx K mg) : FnOk P w K mg base (L2.CX P w) 5 T.f_check_few_words T.fd_check_few_words ["signs", "window"] (spM K mg 2 G_check_few_words) :=
  fn_ok (b := b_check_few_words) T.F_check_few_words sc_check_few_words rfl (fun cdv A outer s H E hr => by
    have nd := sc_check_few_words.nd
    have tk : Takes (cxOf (L2.CX P w) P w K mg base N_check_few_words "check_few_words" (defScope st_check_few_words) T.f_check_few_words cdv A outer s H E) (fun c d _ H' => E c d H') := takes_of rfl rfl rfl rfl
    have hu := hu_of2 hr
    exact (ss_one (s_if (t_cmp o_gt (m_B c_len rfl T.z_len PySem.boot_len (a_cons (m_call (ok_all_words T) (hr.mono (by decide)) rfl T.g_all_words T.F_all_words.kp T.b_all_words tk (a_cons (m_var 0) (a_cons (m_var 1) a_nil)) rfl (len_cons (len_cons len_nil))) a_nil)) (m_glob rfl T.g_MOST_WORDS T.r_MOST_WORDS T.d_MOST_WORDS)) (ss_one (s_raise rfl tk PySem.F.excBase_ValueError T.x_TooMany T.g_TooMany T.k_TooMany (T.rs_TooMany rfl) rfl)) ss_nil))) (fun ds m h => .inr (.inl rfl))
theorem ok_check_number (T : Tx K mg) : FnOk P w K mg base (L2.CX P w) 5 T.f_check_number T.fd_check_number ["value", "low", "high"] (spM K mg 3 G_check_number) :=
  fn_ok (b := b_check_number) T.F_check_number sc_check_number rfl (fun cdv A outer s H E hr => by
    have nd := sc_check_number.nd
    have tk : Takes (cxOf (L2.CX P w) P w K mg base N_check_number "check_number" (defScope st_check_number) T.f_check_number cdv A outer s H E) (fun c d _ H' => E c d H') := takes_of rfl rfl rfl rfl
    have hu := hu_of2 hr
    exact (ss_one (s_if (t_not (t_val (m_call (ok_is_number T) (hr.mono (by decide)) rfl T.g_is_number T.F_is_number.kp T.b_is_number tk (a_cons (m_var 0) (a_cons (m_var 1) (a_cons (m_var 2) a_nil))) rfl (len_cons (len_cons (len_cons len_nil)))))) (ss_one (s_raise rfl tk PySem.F.excBase_ValueError T.x_BadNumber T.g_BadNumber T.k_BadNumber (T.rs_BadNumber rfl) rfl)) ss_nil))) (fun ds m h => .inr (.inl rfl))
theorem ok_fewest_words (T : Tx K mg) : FnOk P w K mg base (L2.CX P w) 7 T.f_fewest_words T.fd_fewest_words ["rule", "goal", "most"] (spM K mg 3 G_fewest_words) :=
  fn_ok (b := b_fewest_words) T.F_fewest_words sc_fewest_words rfl (fun cdv A outer s H E hr => by
    have nd := sc_fewest_words.nd
    have tk : Takes (cxOf (L2.CX P w) P w K mg base N_fewest_words "fewest_words" (defScope st_fewest_words) T.f_fewest_words cdv A outer s H E) (fun c d _ H' => E c d H') := takes_of rfl rfl rfl rfl
    have hu := hu_of2 hr
    exact (ss_cons (s_do (m_call (ok_check_few_words T) (hr.mono (by decide)) rfl T.g_check_few_words T.F_check_few_words.kp T.b_check_few_words tk (a_cons (m_prop (m_var 0) T.c_Rule T.g_Rule T.p_signs T.ok_signs (hr.mono (by decide)) T.pb_signs) (a_cons (m_prop (m_var 0) T.c_Rule T.g_Rule T.p_window T.ok_window (hr.mono (by decide)) T.pb_window) a_nil)) rfl (len_cons (len_cons len_nil)))) (ss_cons (s_do (m_call (ok_check_number T) (hr.mono (by decide)) rfl T.g_check_number T.F_check_number.kp T.b_check_number tk (a_cons (m_var 1) (a_cons m_int (a_cons (m_glob rfl T.g_GREATEST_GOAL T.r_GREATEST_GOAL T.d_GREATEST_GOAL) a_nil))) rfl (len_cons (len_cons (len_cons len_nil))))) (ss_cons (s_do (m_call (ok_check_number T) (hr.mono (by decide)) rfl T.g_check_number T.F_check_number.kp T.b_check_number tk (a_cons (m_var 2) (a_cons m_int (a_cons (m_glob rfl T.g_MOST_FURTHER_WORDS T.r_MOST_FURTHER_WORDS T.d_MOST_FURTHER_WORDS) a_nil))) rfl (len_cons (len_cons (len_cons len_nil))))) ss_never)))) (fun ds m h => .inr (.inl rfl))
theorem ok_first_cuts (T : Tx K mg) : FnOk P w K mg base (L2.CX P w) 7 T.f_first_cuts T.fd_first_cuts ["rule", "places"] (spM K mg 2 G_first_cuts) :=
  fn_ok (b := b_first_cuts) T.F_first_cuts sc_first_cuts rfl (fun cdv A outer s H E hr => by
    have nd := sc_first_cuts.nd
    have tk : Takes (cxOf (L2.CX P w) P w K mg base N_first_cuts "first_cuts" (defScope st_first_cuts) T.f_first_cuts cdv A outer s H E) (fun c d _ H' => E c d H') := takes_of rfl rfl rfl rfl
    have hu := hu_of2 hr
    exact (ss_cons (s_do (m_call (ok_check_number T) (hr.mono (by decide)) rfl T.g_check_number T.F_check_number.kp T.b_check_number tk (a_cons (m_var 1) (a_cons m_int (a_cons (m_glob rfl T.g_MOST_PLACES T.r_MOST_PLACES T.d_MOST_PLACES) a_nil))) rfl (len_cons (len_cons (len_cons len_nil))))) ss_never)) (fun ds m h => .inr (.inl rfl))
theorem ok_is_seen (T : Tx K mg) : FnOk P w K mg base (L2.CX P w) 9 T.f_is_seen T.fd_is_seen ["thing", "signs"] (spM K mg 2 G_is_seen) :=
  fn_ok (b := b_is_seen) T.F_is_seen sc_is_seen rfl (fun cdv A outer s H E hr => by
    have nd := sc_is_seen.nd
    have tk : Takes (cxOf (L2.CX P w) P w K mg base N_is_seen "is_seen" (defScope st_is_seen) T.f_is_seen cdv A outer s H E) (fun c d _ H' => E c d H') := takes_of rfl rfl rfl rfl
    have hu := hu_of2 hr
    exact (ss_cons (s_if (t_w (w_or (t_not (t_val (m_isi rfl T.z_isinstance rfl T.z_tuple (by decide +kernel) (m_var 0)))) (w_one_or (t_cmp (o_ne hu.1) (m_B c_len rfl T.z_len PySem.boot_len (a_cons (m_var 0) a_nil)) m_int)))) (ss_one (s_ret m_bl)) ss_nil) (ss_cons (s_asg (m_var 0) (g_unp rfl (gs_cons (g_name 2 nd) (gs_cons (g_name 3 nd) gs_nil)))) (ss_cons (s_if (t_w (w_or (t_not (t_val (m_call (ok_is_text T) (hr.mono (by decide)) rfl T.g_is_text T.F_is_text.kp T.b_is_text tk (a_cons (m_var 2) (a_cons (m_var 1) a_nil)) rfl (len_cons (len_cons len_nil))))) (w_one_or (t_not (t_val (m_isi rfl T.z_isinstance rfl T.z_tuple (by decide +kernel) (m_var 3))))))) (ss_one (s_ret m_bl)) ss_nil) (ss_cons (s_set 4 nd m_int) (ss_cons (s_for (passes_of rfl) rfl (i_tup (m_var 3)) (g_name 5 nd) (ss_cons (s_if (t_not (t_val (m_call (ok_is_number T) (hr.mono (by decide)) rfl T.g_is_number T.F_is_number.kp T.b_is_number tk (a_cons (m_var 5) (a_cons (m_op (o_addX o_add) (m_var 4) m_int) (a_cons (m_B c_len rfl T.z_len PySem.boot_len (a_cons (m_var 2) a_nil)) a_nil))) rfl (len_cons (len_cons (len_cons len_nil)))))) (ss_one (s_ret m_bl)) ss_nil) (ss_one (s_set 4 nd (m_var 5))))) (ss_one (s_ret m_bl)))))))) (fun ds m h => .inr (.inl rfl))
theorem ok_check_seen (T : Tx K mg) : FnOk P w K mg base (L2.CX P w) 11 T.f_check_seen T.fd_check_seen ["seen", "signs"] (spM K mg 2 G_check_seen) :=
  fn_ok (b := b_check_seen) T.F_check_seen sc_check_seen rfl (fun cdv A outer s H E hr => by
    have nd := sc_check_seen.nd
    have tk : Takes (cxOf (L2.CX P w) P w K mg base N_check_seen "check_seen" (defScope st_check_seen) T.f_check_seen cdv A outer s H E) (fun c d _ H' => E c d H') := takes_of rfl rfl rfl rfl
    have hu := hu_of2 hr
    exact (ss_cons (s_if (t_w (w_or (t_not (t_val (m_isi2 rfl T.z_isinstance rfl T.z_list (by decide +kernel) rfl T.z_tuple (by decide +kernel) (m_var 0)))) (w_one_or (t_cmp o_gt (m_B c_len rfl T.z_len PySem.boot_len (a_cons (m_var 0) a_nil)) (m_glob rfl T.g_MOST_SEEN T.r_MOST_SEEN T.d_MOST_SEEN))))) (ss_one (s_raiseF rfl tk T.o_BadSeen T.in_BadSeen T.ti_BadSeen (ok_BadSeen___init__ T) (hr.mono (by decide)) T.b_BadSeen___init__ rfl T.g_BadSeen m_non)) ss_nil) (ss_one (s_for (passes_of rfl) rfl (i_enL0 rfl T.z_enumerate (m_var 0)) (g_unp rfl (gs_cons (g_name 2 nd) (gs_cons (g_name 3 nd) gs_nil))) (ss_one (s_if (t_not (t_val (m_call (ok_is_seen T) (hr.mono (by decide)) rfl T.g_is_seen T.F_is_seen.kp T.b_is_seen tk (a_cons (m_var 3) (a_cons (m_var 1) a_nil)) rfl (len_cons (len_cons len_nil))))) (ss_one (s_raiseF rfl tk T.o_BadSeen T.in_BadSeen T.ti_BadSeen (ok_BadSeen___init__ T) (hr.mono (by decide)) T.b_BadSeen___init__ rfl T.g_BadSeen (m_var 2))) ss_nil)))))) (fun ds m h => .inr (.inl rfl))
theorem ok_fitting (T : Tx K mg) : FnOk P w K mg base (L2.CX P w) 13 T.f_fitting T.fd_fitting ["signs", "window", "least", "most", "seen"] (spM K mg 5 G_fitting) :=
  fn_ok (b := b_fitting) T.F_fitting sc_fitting rfl (fun cdv A outer s H E hr => by
    have nd := sc_fitting.nd
    have tk : Takes (cxOf (L2.CX P w) P w K mg base N_fitting "fitting" (defScope st_fitting) T.f_fitting cdv A outer s H E) (fun c d _ H' => E c d H') := takes_of rfl rfl rfl rfl
    have hu := hu_of2 hr
    exact (ss_cons (s_do (m_call (ok_check_signs T) (hr.mono (by decide)) rfl T.g_check_signs T.F_check_signs.kp T.b_check_signs tk (a_cons (m_var 0) a_nil) rfl (len_cons len_nil))) (ss_cons (s_do (m_call (ok_check_window T) (hr.mono (by decide)) rfl T.g_check_window T.F_check_window.kp T.b_check_window tk (a_cons (m_var 1) a_nil) rfl (len_cons len_nil))) (ss_cons (s_do (m_call (ok_check_lengths T) (hr.mono (by decide)) rfl T.g_check_lengths T.F_check_lengths.kp T.b_check_lengths tk (a_cons (m_var 2) (a_cons (m_var 3) a_nil)) rfl (len_cons (len_cons len_nil)))) (ss_cons (s_do (m_call (ok_check_few_words T) (hr.mono (by decide)) rfl T.g_check_few_words T.F_check_few_words.kp T.b_check_few_words tk (a_cons (m_var 0) (a_cons (m_var 1) a_nil)) rfl (len_cons (len_cons len_nil)))) (ss_cons (s_do (m_call (ok_check_seen T) (hr.mono (by decide)) rfl T.g_check_seen T.F_check_seen.kp T.b_check_seen tk (a_cons (m_var 4) (a_cons (m_var 0) a_nil)) rfl (len_cons (len_cons len_nil)))) ss_never)))))) (fun ds m h => .inr (.inl rfl))
theorem ok_check_end (T : Tx K mg) : FnOk P w K mg base (L2.CX P w) 5 T.f_check_end T.fd_check_end ["line", "parts", "choices"] (spM K mg 3 G_check_end) :=
  fn_ok (b := b_check_end) T.F_check_end sc_check_end rfl (fun cdv A outer s H E hr => by
    have nd := sc_check_end.nd
    have tk : Takes (cxOf (L2.CX P w) P w K mg base N_check_end "check_end" (defScope st_check_end) T.f_check_end cdv A outer s H E) (fun c d _ H' => E c d H') := takes_of rfl rfl rfl rfl
    have hu := hu_of2 hr
    exact (ss_one (s_if (t_cmp o_gt (m_B c_len rfl T.z_len PySem.boot_len (a_cons (m_var 1) a_nil)) (m_B c_len rfl T.z_len PySem.boot_len (a_cons (m_var 2) a_nil))) (ss_one (s_raiseF2 rfl tk T.o_BadLine T.in_BadLine T.ti_BadLine (ok_BadLine___init__ T) (hr.mono (by decide)) T.b_BadLine___init__ rfl T.g_BadLine (m_var 0) (m_op (o_addX o_add) (m_B c_len rfl T.z_len PySem.boot_len (a_cons (m_var 2) a_nil)) m_int))) ss_nil))) (fun ds m h => .inr (.inl rfl))
theorem ok_check_parts (T : Tx K mg) : FnOk P w K mg base (L2.CX P w) 5 T.f_check_parts T.fd_check_parts ["line", "parts", "choices"] (spM K mg 3 G_check_parts) :=
  fn_ok (b := b_check_parts) T.F_check_parts sc_check_parts rfl (fun cdv A outer s H E hr => by
    have nd := sc_check_parts.nd
    have tk : Takes (cxOf (L2.CX P w) P w K mg base N_check_parts "check_parts" (defScope st_check_parts) T.f_check_parts cdv A outer s H E) (fun c d _ H' => E c d H') := takes_of rfl rfl rfl rfl
    have hu := hu_of2 hr
    exact (ss_one (s_forVE (passes_of rfl) rfl (by rfl) T.z_enumerate (m_var 2) (g_unp rfl (gs_cons (g_name 3 nd) (gs_cons (g_name 4 nd) gs_nil))) (ss_one (s_if (t_w (w_or (t_cmp o_ge (m_var 3) (m_B c_len rfl T.z_len PySem.boot_len (a_cons (m_var 1) a_nil))) (w_one_or (t_cmp (o_nin hu.2) (m_ix (m_var 1) (m_var 3)) (m_var 4))))) (ss_one (s_raiseF2 rfl tk T.o_BadLine T.in_BadLine T.ti_BadLine (ok_BadLine___init__ T) (hr.mono (by decide)) T.b_BadLine___init__ rfl T.g_BadLine (m_var 0) (m_op (o_addX o_add) (m_var 3) m_int))) ss_nil))))) (fun ds m h => .inr (.inl rfl))
theorem ok_digits (T : Tx K mg) : FnOk P w K mg base (L2.CX P w) 3 T.f_digits T.fd_digits ["low", "high"] (spM K mg 2 G_digits) :=
  fn_ok (b := b_digits) T.F_digits sc_digits rfl (fun cdv A outer s H E hr => by
    have nd := sc_digits.nd
    have tk : Takes (cxOf (L2.CX P w) P w K mg base N_digits "digits" (defScope st_digits) T.f_digits cdv A outer s H E) (fun c d _ H' => E c d H') := takes_of rfl rfl rfl rfl
    have hu := hu_of2 hr
    exact (ss_one (s_ret (m_frz (m_lc (x := "number") rfl nd (i_rng2 rfl T.z_range (m_var 0) (m_op (o_addX o_add) (m_var 1) m_int)) (blkOk_by (N := N_digits) (sc := defScope st_digits) (by decide +kernel)) (fun _ _ _ _ _ => pg_name (i := 2) nd rfl (Or.inl rfl)) (fun _ _ _ _ _ => ts_nil) (fun _ _ _ _ _ => (m_Ty c_str rfl T.z_str (by decide +kernel) (a_cons (m_var 2) a_nil)))))))) (fun ds m h => .inr (.inl rfl))
theorem ok_read_numbers (T : Tx K mg) : FnOk P w K mg base (L2.CX P w) 7 T.f_read_numbers T.fd_read_numbers ["parts"] (spM K mg 1 G_read_numbers) :=
  fn_ok (b := b_read_numbers) T.F_read_numbers sc_read_numbers rfl (fun cdv A outer s H E hr => by
    have nd := sc_read_numbers.nd
    have tk : Takes (cxOf (L2.CX P w) P w K mg base N_read_numbers "read_numbers" (defScope st_read_numbers) T.f_read_numbers cdv A outer s H E) (fun c d _ H' => E c d H') := takes_of rfl rfl rfl rfl
    have hu := hu_of2 hr
    exact (ss_cons (s_set 1 nd (m_new (a_cons (m_frz (m_new (a_cons m_str a_nil))) (a_cons (m_call (ok_digits T) (hr.mono (by decide)) rfl T.g_digits T.F_digits.kp T.b_digits tk (a_cons m_int (a_cons m_int a_nil)) rfl (len_cons (len_cons len_nil))) (a_cons (m_call (ok_digits T) (hr.mono (by decide)) rfl T.g_digits T.F_digits.kp T.b_digits tk (a_cons m_int (a_cons m_int a_nil)) rfl (len_cons (len_cons len_nil))) (a_cons (m_call (ok_digits T) (hr.mono (by decide)) rfl T.g_digits T.F_digits.kp T.b_digits tk (a_cons m_int (a_cons m_int a_nil)) rfl (len_cons (len_cons len_nil))) a_nil)))))) (ss_cons (s_do (m_call (ok_check_parts T) (hr.mono (by decide)) rfl T.g_check_parts T.F_check_parts.kp T.b_check_parts tk (a_cons m_int (a_cons (m_var 0) (a_cons (m_var 1) a_nil))) rfl (len_cons (len_cons (len_cons len_nil))))) (ss_cons (s_set 2 nd (m_Ty c_intA rfl T.z_int (by decide +kernel) (a_cons (m_ix (m_var 0) m_int) a_nil))) (ss_cons (s_do (m_app (m_var 1) (m_frz (m_cat (m_call (ok_digits T) (hr.mono (by decide)) rfl T.g_digits T.F_digits.kp T.b_digits tk (a_cons (m_var 2) (a_cons m_int a_nil)) rfl (len_cons (len_cons len_nil))) (m_frz (m_new (a_cons (m_glob rfl T.g_NO_MOST T.r_NO_MOST T.d_NO_MOST) a_nil))))))) (ss_cons (s_do (m_call (ok_check_parts T) (hr.mono (by decide)) rfl T.g_check_parts T.F_check_parts.kp T.b_check_parts tk (a_cons m_int (a_cons (m_var 0) (a_cons (m_var 1) a_nil))) rfl (len_cons (len_cons (len_cons len_nil))))) (ss_cons (s_do (m_call (ok_check_end T) (hr.mono (by decide)) rfl T.g_check_end T.F_check_end.kp T.b_check_end tk (a_cons m_int (a_cons (m_var 0) (a_cons (m_var 1) a_nil))) rfl (len_cons (len_cons (len_cons len_nil))))) (ss_cons (s_set 3 nd (m_if (t_cmp (o_eq hu.1) (m_ix (m_var 0) m_int) (m_glob rfl T.g_NO_MOST T.r_NO_MOST T.d_NO_MOST)) m_non (m_Ty c_intA rfl T.z_int (by decide +kernel) (a_cons (m_ix (m_var 0) m_int) a_nil)))) (ss_one (s_ret (m_tup (a_cons (m_Ty c_intA rfl T.z_int (by decide +kernel) (a_cons (m_ix (m_var 0) m_int) a_nil)) (a_cons (m_Ty c_intA rfl T.z_int (by decide +kernel) (a_cons (m_ix (m_var 0) m_int) a_nil)) (a_cons (m_var 2) (a_cons (m_var 3) a_nil))))))))))))))) (fun ds m h => .inr (.inl rfl))
theorem ok_read (T : Tx K mg) : FnOk P w K mg base (L2.CX P w) 9 T.f_read T.fd_read ["text"] (spM K mg 1 G_read) :=
  fn_ok (b := b_read) T.F_read sc_read rfl (fun cdv A outer s H E hr => by
    have nd := sc_read.nd
    have tk : Takes (cxOf (L2.CX P w) P w K mg base N_read "read" (defScope st_read) T.f_read cdv A outer s H E) (fun c d _ H' => E c d H') := takes_of rfl rfl rfl rfl
    have hu := hu_of2 hr
    exact (ss_cons (by refine s_setLc (i := 10) (j := 1) (x := "row") (fi := (mItL (mSplit (mVar 0) (mVal (.str "\n"))))) (ft := mYes) (fe := (mFrz (mLc 11 (mItL (mSplit (mVar 10) (mVal (.str " ")))) (mTst (mBin gNe (mVar 11) (mVal (.str "")))) (mVar 11)))) rfl nd rfl rfl (sw_true rfl rfl rfl (by decide +kernel)) ?_ ?_ ?_ ?_ ?_ (fun _ _ _ h => frz_read h); exact (i_list (m_split (m_var 0) m_str)); exact (blkOk_by (N := N_read) (sc := defScope st_read) (by decide +kernel)); exact (fun _ _ _ _ _ => pg_name (i := 10) nd rfl (Or.inl rfl)); exact (fun _ _ _ _ _ => ts_nil); exact (fun _ _ _ _ _ => (m_frz (m_lc (x := "part") rfl nd (i_list (m_split (m_var 10) m_str)) (blkOk_by (N := N_read) (sc := { kind := .function, names := [(".0", .local), ("row", .local)], isGenerator := false, isCoroutine := false }) (by decide +kernel)) (fun _ _ _ _ _ => pg_name (i := 11) nd rfl (Or.inl rfl)) (fun _ _ _ _ _ => (ts_one (t_cmp (o_ne hu.1) (m_var 11) m_str))) (fun _ _ _ _ _ => (m_var 11)))))) (ss_cons (s_asg (m_call (ok_read_numbers T) (hr.mono (by decide)) rfl T.g_read_numbers T.F_read_numbers.kp T.b_read_numbers tk (a_cons (m_ix (m_var 1) m_int) a_nil) rfl (len_cons len_nil)) (g_unp rfl (gs_cons (g_name 2 nd) (gs_cons (g_name 3 nd) (gs_cons (g_name 4 nd) (gs_cons (g_name 5 nd) gs_nil)))))) ss_never))) (fun ds m h => .inr (.inl rfl))
theorem ok__law_raised (T : Tx K mg) : FnOk P w K mg base (L2.CX P w) 15 T.f__law_raised T.fd__law_raised ["_law_k"] (spM K mg 1 G__law_raised) :=
  fn_ok (b := b__law_raised) T.F__law_raised sc__law_raised rfl (fun cdv A outer s H E hr => by
    have nd := sc__law_raised.nd
    have tk : Takes (cxOf (L2.CX P w) P w K mg base N__law_raised "_law_raised" (defScope st__law_raised) T.f__law_raised cdv A outer s H E) (fun c d _ H' => E c d H') := takes_of rfl rfl rfl rfl
    have hu := hu_of2 hr
    exact (ss_cons (s_par rfl nd rfl rfl (by decide) rfl rfl (a_cons (m_frz (m_makeX T.mk_Rule (ok_Rule___init__ T) (hr.mono (by decide)) rfl T.g_Rule T.b_Rule___init__ tk (a_cons m_int (a_cons m_int (a_cons (m_tup (a_cons (m_tup (a_cons m_int a_nil)) a_nil)) (a_cons m_int (a_cons m_non a_nil))))) (fun rho m ds m1 h => congrArg (· + 1) ((len_cons (len_cons (len_cons (len_cons (len_cons len_nil))))) rho m ds m1 h)))) (a_cons m_non a_nil)) rfl) (ss_cons (s_tryV (i := 3) (j := 2) rfl rfl rfl nd rfl rfl (by decide) rfl T.g_CutError (fun W' pn xe tk' hp => (ss_one (s_if (t_cmp (o_eq hu.1) (m_var 0) m_int) (ss_one (s_do (m_frz (m_makeX T.mk_Rule (ok_Rule___init__ T) (hr.mono (by decide)) rfl T.g_Rule T.b_Rule___init__ tk' (a_cons m_int (a_cons m_int (a_cons (m_tup a_nil) (a_cons m_int (a_cons m_non a_nil))))) (fun rho m ds m1 h => congrArg (· + 1) ((len_cons (len_cons (len_cons (len_cons (len_cons len_nil))))) rho m ds m1 h)))))) (ss_one (s_if (t_cmp (o_eq hu.1) (m_var 0) m_int) (ss_one (s_do (m_frz (m_makeX T.mk_Rule (ok_Rule___init__ T) (hr.mono (by decide)) rfl T.g_Rule T.b_Rule___init__ tk' (a_cons m_int (a_cons m_int (a_cons (m_tup a_nil) (a_cons m_int (a_cons m_non a_nil))))) (fun rho m ds m1 h => congrArg (· + 1) ((len_cons (len_cons (len_cons (len_cons (len_cons len_nil))))) rho m ds m1 h)))))) (ss_one (s_if (t_cmp (o_eq hu.1) (m_var 0) m_int) (ss_one (s_do (m_frz (m_makeX T.mk_Rule (ok_Rule___init__ T) (hr.mono (by decide)) rfl T.g_Rule T.b_Rule___init__ tk' (a_cons m_int (a_cons m_int (a_cons (m_tup a_nil) (a_cons m_int (a_cons m_int a_nil))))) (fun rho m ds m1 h => congrArg (· + 1) ((len_cons (len_cons (len_cons (len_cons (len_cons len_nil))))) rho m ds m1 h)))))) (ss_one (s_if (t_cmp (o_eq hu.1) (m_var 0) m_int) (ss_one (s_do (m_call (ok_cuts T) (hr.mono (by decide)) rfl T.g_cuts T.F_cuts.kp T.b_cuts tk' (a_cons (m_var 1) (a_cons (m_tup (a_cons m_int a_nil)) a_nil)) rfl (len_cons (len_cons len_nil))))) (ss_one (s_if (t_cmp (o_eq hu.1) (m_var 0) m_int) (ss_one (s_do (m_call (ok_first_cuts T) (hr.mono (by decide)) rfl T.g_first_cuts T.F_first_cuts.kp T.b_first_cuts tk' (a_cons (m_var 1) (a_cons m_int a_nil)) rfl (len_cons (len_cons len_nil))))) (ss_one (s_if (t_cmp (o_eq hu.1) (m_var 0) m_int) (ss_one (s_do (m_call (ok_alike T) (hr.mono (by decide)) rfl T.g_alike T.F_alike.kp T.b_alike tk' (a_cons (m_var 1) (a_cons (m_frz (m_makeX T.mk_Rule (ok_Rule___init__ T) (hr.mono (by decide)) rfl T.g_Rule T.b_Rule___init__ tk' (a_cons m_int (a_cons m_int (a_cons (m_tup a_nil) (a_cons m_int (a_cons m_non a_nil))))) (fun rho m ds m1 h => congrArg (· + 1) ((len_cons (len_cons (len_cons (len_cons (len_cons len_nil))))) rho m ds m1 h)))) a_nil)) rfl (len_cons (len_cons len_nil))))) (ss_one (s_if (t_cmp (o_eq hu.1) (m_var 0) m_int) (ss_one (s_do (m_call (ok_fewest_words T) (hr.mono (by decide)) rfl T.g_fewest_words T.F_fewest_words.kp T.b_fewest_words tk' (a_cons (m_frz (m_makeX T.mk_Rule (ok_Rule___init__ T) (hr.mono (by decide)) rfl T.g_Rule T.b_Rule___init__ tk' (a_cons m_int (a_cons m_int (a_cons (m_tup a_nil) (a_cons m_int (a_cons m_non a_nil))))) (fun rho m ds m1 h => congrArg (· + 1) ((len_cons (len_cons (len_cons (len_cons (len_cons len_nil))))) rho m ds m1 h)))) (a_cons m_int (a_cons m_int a_nil))) rfl (len_cons (len_cons (len_cons len_nil)))))) (ss_one (s_if (t_cmp (o_eq hu.1) (m_var 0) m_int) (ss_one (s_do (m_frz (m_makeX T.mk_Rule (ok_Rule___init__ T) (hr.mono (by decide)) rfl T.g_Rule T.b_Rule___init__ tk' (a_cons m_int (a_cons m_int (a_cons (m_tup (a_cons (m_tup (a_cons m_int a_nil)) (a_cons (m_tup (a_cons m_int a_nil)) (a_cons (m_tup (a_cons m_int a_nil)) a_nil)))) (a_cons m_int (a_cons m_non a_nil))))) (fun rho m ds m1 h => congrArg (· + 1) ((len_cons (len_cons (len_cons (len_cons (len_cons len_nil))))) rho m ds m1 h)))))) (ss_one (s_if (t_cmp (o_eq hu.1) (m_var 0) m_int) (ss_one (s_do (m_call (ok_fitting T) (hr.mono (by decide)) rfl T.g_fitting T.F_fitting.kp T.b_fitting tk' (a_cons m_int (a_cons m_int (a_cons m_int (a_cons m_non (a_cons (m_frz (m_new (a_cons (m_tup (a_cons (m_tup (a_cons m_int a_nil)) (a_cons (m_tup a_nil) a_nil))) (a_cons (m_tup (a_cons (m_tup (a_cons m_int a_nil)) (a_cons (m_tup (a_cons m_int a_nil)) a_nil))) a_nil)))) a_nil))))) rfl (len_cons (len_cons (len_cons (len_cons (len_cons len_nil)))))))) (ss_one (s_do (m_call (ok_read T) (hr.mono (by decide)) rfl T.g_read T.F_read.kp T.b_read tk' (a_cons m_str a_nil) rfl (len_cons len_nil))))))))))))))))))))))) rfl rfl (.inl rfl) (fun _ _ => rfl) T.emv_CutError) (ss_one (s_ret (m_var 2)))))) (fun ds m h => .inr (.inl rfl))
theorem ok_law (T : Tx K mg) : FnOk P w K mg base (L2.CX P w) 17 T.f_law T.fd_law ["_law_script"] (spM K mg 1 G_law) :=
  fn_ok (b := b_law) T.F_law sc_law rfl (fun cdv A outer s H E hr => by
    have nd := sc_law.nd
    have tk : Takes (cxOf (L2.CX P w) P w K mg base N_law "law" (defScope st_law) T.f_law cdv A outer s H E) (fun c d _ H' => E c d H') := takes_of rfl rfl rfl rfl
    have hu := hu_of2 hr
    exact (ss_cons (s_set 1 nd (m_call (ok__law_draws T) (hr.mono (by decide)) rfl T.g__law_draws T.F__law_draws.kp T.b__law_draws tk (a_cons (m_var 0) a_nil) rfl (len_cons len_nil))) (ss_cons (s_set 2 nd (m_call (ok__law_pick T) (hr.mono (by decide)) rfl T.g__law_pick T.F__law_pick.kp T.b__law_pick tk (a_cons (m_var 1) (a_cons m_int a_nil)) rfl (len_cons (len_cons len_nil)))) (ss_cons (s_set 3 nd (m_call (ok__law_raised T) (hr.mono (by decide)) rfl T.g__law_raised T.F__law_raised.kp T.b__law_raised tk (a_cons (m_var 2) a_nil) rfl (len_cons len_nil))) (ss_cons (s_if (t_w (w_or (t_not (t_val (m_isiB rfl T.z_isinstance rfl T.z_ValueError (by decide +kernel) T.ecs_all T.kv_ValueError (m_var 3)))) (w_one_or (t_cmp (o_ne hu.1) (m_call (ok__law_kinds T) (hr.mono (by decide)) rfl T.g__law_kinds T.F__law_kinds.kp T.b__law_kinds tk (a_cons (m_var 3) a_nil) rfl (len_cons len_nil)) (m_frz (m_lc (x := "_law_j") rfl nd (i_rng1 rfl T.z_range m_int) (blkOk_by (N := N_law) (sc := defScope st_law) (by decide +kernel)) (fun _ _ _ _ _ => pg_name (i := 4) nd rfl (Or.inl rfl)) (fun _ _ _ _ _ => ts_nil) (fun _ _ _ _ _ => (m_cmp (o_eq hu.1) (m_var 2) (m_var 4))))))))) (ss_one (s_ret m_bl)) ss_nil) (ss_cons (s_if (t_w (w_and (t_cmp (o_inL hu.2) (m_var 2) (m_frz (m_new (a_cons m_int (a_cons m_int a_nil))))) (w_one_and (t_cmp (o_ne hu.1) (m_fldX (m_var 3) T.xv_index) (m_dix (Nat.lt_of_le_of_lt (Nat.add_le_add_left (by decide : 1 ≤ 64) _) hu.1) (m_var 2)))))) (ss_one (s_ret m_bl)) ss_nil) (ss_one (s_ret (m_or (m_cmp (o_ne hu.1) (m_var 2) m_int) (m_one (m_cmp (o_eq hu.1) (m_tup (a_cons (m_fldX (m_var 3) T.xv_line) (a_cons (m_fldX (m_var 3) T.xv_word) a_nil))) (m_tup (a_cons m_int (a_cons m_int a_nil)))))))))))))) (fun ds m h => .inr (.inl rfl))
end
abbrev sp_signs : Stmt := inClass (topS 40) 1
theorem scp_signs : FnScope ["self"] ["self"] (defScope sp_signs) := ⟨rfl, rfl, rfl, by decide +kernel, rfl, by decide +kernel, by decide +kernel⟩
abbrev sp_window : Stmt := inClass (topS 40) 2
theorem scp_window : FnScope ["self"] ["self"] (defScope sp_window) := ⟨rfl, rfl, rfl, by decide +kernel, rfl, by decide +kernel, by decide +kernel⟩
theorem kit_sub {K : PySem.W.Frag} {t : Value} {C : Addr} (h1 : PySem.W.subIn K t (.ref C) = some true) (h2 : PySem.W.isClsIn K C = true) (h3 : PySem.W.typeIn K (.ref C) = some (.type "type")) : PySem.W.kitOne K t (.ref C) = some true := by
  have e2 : ((PySem.W.clsIn K C).isSome && PySem.W.typeIn K (.ref C) == some (.type "type")) = true := by
    have h2' : (PySem.W.clsIn K C).isSome = true := h2
    rw [h2', h3] <;> rfl
  show (if (t == .ref C) = true then some true else (if ((PySem.W.clsIn K C).isSome && PySem.W.typeIn K (.ref C) == some (.type "type")) = true then PySem.W.subIn K t (.ref C) else none)) = some true
  rw [if_pos e2, h1]
  split <;> rfl
theorem exm_sub {K : PySem.W.Frag} {t : Value} {C : Addr} (h0 : PySem.W.subIn K (.ref C) (.type "BaseException") = some true) (h1 : PySem.W.subIn K t (.ref C) = some true) (h2 : PySem.W.isClsIn K C = true) (h3 : PySem.W.typeIn K (.ref C) = some (.type "type")) : PySem.W.exmOne K t (.ref C) = some true := by
  have e1 : (PySem.W.subIn K (.ref C) (.type "BaseException") == some true) = true := by rw [h0] <;> rfl
  have e2 : ((PySem.W.clsIn K C).isSome && PySem.W.typeIn K (.ref C) == some (.type "type")) = true := by
    have h2' : (PySem.W.clsIn K C).isSome = true := h2
    rw [h2', h3] <;> rfl
  show (if (PySem.W.subIn K (.ref C) (.type "BaseException") == some true) = true then (if ((PySem.W.clsIn K C).isSome && PySem.W.typeIn K (.ref C) == some (.type "type")) = true then PySem.W.subIn K t (.ref C) else none) else none) = some true
  rw [if_pos e1, if_pos e2]
  exact h1
theorem kit_subB {K : PySem.W.Frag} {t : Value} {C : Addr} {b : Bool} (h0 : (t == .ref C) = false) (h1 : PySem.W.subIn K t (.ref C) = some b) (h2 : PySem.W.isClsIn K C = true) (h3 : PySem.W.typeIn K (.ref C) = some (.type "type")) : PySem.W.kitOne K t (.ref C) = some b := by
  have e2 : ((PySem.W.clsIn K C).isSome && PySem.W.typeIn K (.ref C) == some (.type "type")) = true := by
    have h2' : (PySem.W.clsIn K C).isSome = true := h2
    rw [h2', h3] <;> rfl
  show (if (t == .ref C) = true then some true else (if ((PySem.W.clsIn K C).isSome && PySem.W.typeIn K (.ref C) == some (.type "type")) = true then PySem.W.subIn K t (.ref C) else none)) = some b
  rw [h0, if_neg Bool.false_ne_true, if_pos e2, h1]
theorem exm_subB {K : PySem.W.Frag} {t : Value} {C : Addr} {b : Bool} (h0 : PySem.W.subIn K (.ref C) (.type "BaseException") = some true) (h1 : PySem.W.subIn K t (.ref C) = some b) (h2 : PySem.W.isClsIn K C = true) (h3 : PySem.W.typeIn K (.ref C) = some (.type "type")) : PySem.W.exmOne K t (.ref C) = some b := by
  have e1 : (PySem.W.subIn K (.ref C) (.type "BaseException") == some true) = true := by rw [h0] <;> rfl
  have e2 : ((PySem.W.clsIn K C).isSome && PySem.W.typeIn K (.ref C) == some (.type "type")) = true := by
    have h2' : (PySem.W.clsIn K C).isSome = true := h2
    rw [h2', h3] <;> rfl
  show (if (PySem.W.subIn K (.ref C) (.type "BaseException") == some true) = true then (if ((PySem.W.clsIn K C).isSome && PySem.W.typeIn K (.ref C) == some (.type "type")) = true then PySem.W.subIn K t (.ref C) else none) else none) = some b
  rw [if_pos e1, if_pos e2]
  exact h1
theorem kit_subF {K : PySem.W.Frag} {A C : Addr} (h1 : PySem.W.subIn K (.ref A) (.ref C) = some false) (h0 : PySem.W.subIn K (.ref C) (.ref C) = some true) (h2 : PySem.W.isClsIn K C = true) (h3 : PySem.W.typeIn K (.ref C) = some (.type "type")) : PySem.W.kitOne K (.ref A) (.ref C) = some false :=
  kit_subB (beq_eq_false_iff_ne.mpr fun e => by
    cases e
    rw [h1] at h0
    cases h0) h1 h2 h3
theorem kit_ve {K : PySem.W.Frag} {A : Addr} (h : PySem.W.subIn K (.ref A) (.type "ValueError") = some true) : PySem.W.kitOne K (.ref A) (.type "ValueError") = some true := by
  have k : PySem.W.kitMeta "ValueError" = true := by decide +kernel
  have g : (Value.ref A == Value.type "ValueError") = false := rfl
  unfold PySem.W.kitOne PySem.W.kitCls
  rw [g, if_neg Bool.false_ne_true]
  simp only [k, if_true]
  exact h
theorem one_addr {mg : Str → Option Value} {c : Str} {C E : Addr} (h : mg c = some (.ref C)) (g : mg c = some (.ref E)) : C = E := by
  rw [h] at g
  cases g
  rfl
def spLaw (K : PySem.W.Frag) : Sp := fun vs H Q _ => ∃ (a : Addr) (ns : List Int), vs = [.ref a] ∧ SqS K H a (ns.map V.int) ∧ Only H ∧ ns.length ≤ 63 ∧ ∀ H', Q (.bl true) H'
theorem ok_law0 {P : Program} {w : World} {K : PySem.W.Frag} {mg : Str → Option Value} {base : Heap} (hG : ∀ ns : List Int, ns.length ≤ 63 → ∃ m, G_law [.scr (ns.map D.int)] [] = .ok (.bl true, m)) (T : Tx K mg) : FnOk P w K mg base (L2.CX P w) 17 T.f_law T.fd_law ["_law_script"] (spLaw K) :=
  (ok_law T).imp fun vs H Q E h => by
    obtain ⟨a, ns, rfl, hs, hO, hl, q⟩ := h
    obtain ⟨m, hm⟩ := hG ns hl
    refine ⟨rfl, [], [], [.scr (ns.map D.int)], ⟨rfl, List.nodup_nil, fun l o e => (by simp at e), fun l a o e => (by simp at e)⟩, reps_cons (by simp only [Rep]; exact ⟨a, _, rfl, hs, ints_reps ns⟩) reps_nil, ?_⟩
    rw [hm]
    intro v H' pi' st rm r
    simp only [Rep] at r
    rw [r]
    exact q H'
theorem all_mk {l : PySem.W.OpenLaw} {w : World} {K : PySem.W.Frag} {h : Heap} {mg : Str → Option Value} {fa C_Rule f__law_draws f__law_kinds f__law_pick f_is_number f_check_lengths f_check_signs f_check_window f_are_signs f_check_words f_Rule___init__ f_check_like f_parting f_alike f_is_text f_check_text f_cuts f_all_words f_check_few_words f_check_number f_fewest_words f_first_cuts f_is_seen f_check_seen f_fitting f_check_end f_check_parts f_digits f_read_numbers f_read f__law_raised f_law pp_signs pg_signs pp_window pg_window E_BadLengths E_BadLine E_BadNumber E_BadSeen E_BadSigns E_BadText E_BadWindow E_BadWords E_CutError E_TooMany E_Unlike f_BadLine___init__ f_BadSeen___init__ f_BadWords___init__ : Addr} (hG : ∀ ns : List Int, ns.length ≤ 63 → ∃ m, G_law [.scr (ns.map D.int)] [] = .ok (.bl true, m)) (X : K.In h) (G : h.Ns mainGlobals mg) (hfa : mg "law" = some (.ref fa))
    {od__law_draws an__law_draws : Option Addr} {sl__law_draws : Array (Option Value)} {oc__law_draws kV__law_draws dc__law_draws pm__law_draws cd__law_draws ct__law_draws : Value} {od__law_kinds an__law_kinds : Option Addr} {sl__law_kinds : Array (Option Value)} {oc__law_kinds kV__law_kinds dc__law_kinds pm__law_kinds cd__law_kinds ct__law_kinds : Value} {od__law_pick an__law_pick : Option Addr} {sl__law_pick : Array (Option Value)} {oc__law_pick kV__law_pick dc__law_pick pm__law_pick cd__law_pick ct__law_pick : Value} {od_is_number an_is_number : Option Addr} {sl_is_number : Array (Option Value)} {oc_is_number kV_is_number dc_is_number pm_is_number cd_is_number ct_is_number : Value} {od_check_lengths an_check_lengths : Option Addr} {sl_check_lengths : Array (Option Value)} {oc_check_lengths kV_check_lengths dc_check_lengths pm_check_lengths cd_check_lengths ct_check_lengths : Value} {od_check_signs an_check_signs : Option Addr} {sl_check_signs : Array (Option Value)} {oc_check_signs kV_check_signs dc_check_signs pm_check_signs cd_check_signs ct_check_signs : Value} {od_check_window an_check_window : Option Addr} {sl_check_window : Array (Option Value)} {oc_check_window kV_check_window dc_check_window pm_check_window cd_check_window ct_check_window : Value} {od_are_signs an_are_signs : Option Addr} {sl_are_signs : Array (Option Value)} {oc_are_signs kV_are_signs dc_are_signs pm_are_signs cd_are_signs ct_are_signs : Value} {od_check_words an_check_words : Option Addr} {sl_check_words : Array (Option Value)} {oc_check_words kV_check_words dc_check_words pm_check_words cd_check_words ct_check_words : Value} {od_Rule___init__ an_Rule___init__ : Option Addr} {sl_Rule___init__ : Array (Option Value)} {oc_Rule___init__ kV_Rule___init__ dc_Rule___init__ pm_Rule___init__ cd_Rule___init__ ct_Rule___init__ : Value} {od_check_like an_check_like : Option Addr} {sl_check_like : Array (Option Value)} {oc_check_like kV_check_like dc_check_like pm_check_like cd_check_like ct_check_like : Value} {od_parting an_parting : Option Addr} {sl_parting : Array (Option Value)} {oc_parting kV_parting dc_parting pm_parting cd_parting ct_parting : Value} {od_alike an_alike : Option Addr} {sl_alike : Array (Option Value)} {oc_alike kV_alike dc_alike pm_alike cd_alike ct_alike : Value} {od_is_text an_is_text : Option Addr} {sl_is_text : Array (Option Value)} {oc_is_text kV_is_text dc_is_text pm_is_text cd_is_text ct_is_text : Value} {od_check_text an_check_text : Option Addr} {sl_check_text : Array (Option Value)} {oc_check_text kV_check_text dc_check_text pm_check_text cd_check_text ct_check_text : Value} {od_cuts an_cuts : Option Addr} {sl_cuts : Array (Option Value)} {oc_cuts kV_cuts dc_cuts pm_cuts cd_cuts ct_cuts : Value} {od_all_words an_all_words : Option Addr} {sl_all_words : Array (Option Value)} {oc_all_words kV_all_words dc_all_words pm_all_words cd_all_words ct_all_words : Value} {od_check_few_words an_check_few_words : Option Addr} {sl_check_few_words : Array (Option Value)} {oc_check_few_words kV_check_few_words dc_check_few_words pm_check_few_words cd_check_few_words ct_check_few_words : Value} {od_check_number an_check_number : Option Addr} {sl_check_number : Array (Option Value)} {oc_check_number kV_check_number dc_check_number pm_check_number cd_check_number ct_check_number : Value} {od_fewest_words an_fewest_words : Option Addr} {sl_fewest_words : Array (Option Value)} {oc_fewest_words kV_fewest_words dc_fewest_words pm_fewest_words cd_fewest_words ct_fewest_words : Value} {od_first_cuts an_first_cuts : Option Addr} {sl_first_cuts : Array (Option Value)} {oc_first_cuts kV_first_cuts dc_first_cuts pm_first_cuts cd_first_cuts ct_first_cuts : Value} {od_is_seen an_is_seen : Option Addr} {sl_is_seen : Array (Option Value)} {oc_is_seen kV_is_seen dc_is_seen pm_is_seen cd_is_seen ct_is_seen : Value} {od_check_seen an_check_seen : Option Addr} {sl_check_seen : Array (Option Value)} {oc_check_seen kV_check_seen dc_check_seen pm_check_seen cd_check_seen ct_check_seen : Value} {od_fitting an_fitting : Option Addr} {sl_fitting : Array (Option Value)} {oc_fitting kV_fitting dc_fitting pm_fitting cd_fitting ct_fitting : Value} {od_check_end an_check_end : Option Addr} {sl_check_end : Array (Option Value)} {oc_check_end kV_check_end dc_check_end pm_check_end cd_check_end ct_check_end : Value} {od_check_parts an_check_parts : Option Addr} {sl_check_parts : Array (Option Value)} {oc_check_parts kV_check_parts dc_check_parts pm_check_parts cd_check_parts ct_check_parts : Value} {od_digits an_digits : Option Addr} {sl_digits : Array (Option Value)} {oc_digits kV_digits dc_digits pm_digits cd_digits ct_digits : Value} {od_read_numbers an_read_numbers : Option Addr} {sl_read_numbers : Array (Option Value)} {oc_read_numbers kV_read_numbers dc_read_numbers pm_read_numbers cd_read_numbers ct_read_numbers : Value} {od_read an_read : Option Addr} {sl_read : Array (Option Value)} {oc_read kV_read dc_read pm_read cd_read ct_read : Value} {od__law_raised an__law_raised : Option Addr} {sl__law_raised : Array (Option Value)} {oc__law_raised kV__law_raised dc__law_raised pm__law_raised cd__law_raised ct__law_raised : Value} {od_law an_law : Option Addr} {sl_law : Array (Option Value)} {oc_law kV_law dc_law pm_law cd_law ct_law : Value} {re_signs : List Value} {od_p_signs an_p_signs : Option Addr} {sl_p_signs : Array (Option Value)} {oc_p_signs kV_p_signs dc_p_signs pm_p_signs cd_p_signs ct_p_signs : Value} {re_window : List Value} {od_p_window an_p_window : Option Addr} {sl_p_window : Array (Option Value)} {oc_p_window kV_p_window dc_p_window pm_p_window cd_p_window ct_p_window : Value} {nm_BadLine qq_BadLine : Str} {NN_BadLine : Addr} {bs_BadLine su_BadLine : List Value} {sn_BadLine : List Str} {ab_BadLine : Bool} {co_BadLine : Option Bool} {dd_BadLine : Option Addr} {m0_BadLine m1_BadLine m2_BadLine m3_BadLine m5_BadLine : Option Value} {od_BadLine___init__ an_BadLine___init__ : Option Addr} {sl_BadLine___init__ : Array (Option Value)} {oc_BadLine___init__ kV_BadLine___init__ dc_BadLine___init__ pm_BadLine___init__ cd_BadLine___init__ ct_BadLine___init__ : Value} {nm_BadSeen qq_BadSeen : Str} {NN_BadSeen : Addr} {bs_BadSeen su_BadSeen : List Value} {sn_BadSeen : List Str} {ab_BadSeen : Bool} {co_BadSeen : Option Bool} {dd_BadSeen : Option Addr} {m0_BadSeen m1_BadSeen m2_BadSeen m3_BadSeen m5_BadSeen : Option Value} {od_BadSeen___init__ an_BadSeen___init__ : Option Addr} {sl_BadSeen___init__ : Array (Option Value)} {oc_BadSeen___init__ kV_BadSeen___init__ dc_BadSeen___init__ pm_BadSeen___init__ cd_BadSeen___init__ ct_BadSeen___init__ : Value} {nm_BadWords qq_BadWords : Str} {NN_BadWords : Addr} {bs_BadWords su_BadWords : List Value} {sn_BadWords : List Str} {ab_BadWords : Bool} {co_BadWords : Option Bool} {dd_BadWords : Option Addr} {m0_BadWords m1_BadWords m2_BadWords m3_BadWords m5_BadWords : Option Value} {od_BadWords___init__ an_BadWords___init__ : Option Addr} {sl_BadWords___init__ : Array (Option Value)} {oc_BadWords___init__ kV_BadWords___init__ dc_BadWords___init__ pm_BadWords___init__ cd_BadWords___init__ ct_BadWords___init__ : Value} {tk_GREATEST_GOAL : Tok} {tk_LONGEST_TEXT : Tok} {tk_MOST_FURTHER_WORDS : Tok} {tk_MOST_PLACES : Tok} {tk_MOST_SEEN : Tok} {tk_MOST_WORDS : Tok} {tk_NO_MOST : Tok}
    (a_Rule : PySem.W.nsIn K mainGlobals "Rule" = some (some (.ref C_Rule)))
    (pg_Rule : PySem.W.plainGet K C_Rule Str.empty = true)
    (hd_Rule : PySem.W.hasDictIn K C_Rule = true)
    (po_Rule : PySem.W.plainOver K C_Rule = true)
    (sa_Rule : PySem.W.findIn K (.ref C_Rule) "__setattr__" = some (some (.builtin "object.__setattr__")))
    (mm_Rule : PySem.W.makesIn K C_Rule = true)
    (kc_Rule : PySem.W.keepIn K (.ref C_Rule) = true)
    (n__signs : PySem.W.findIn K (.ref C_Rule) "_signs" = some none)
    (n__window : PySem.W.findIn K (.ref C_Rule) "_window" = some none)
    (n__words : PySem.W.findIn K (.ref C_Rule) "_words" = some none)
    (n__least : PySem.W.findIn K (.ref C_Rule) "_least" = some none)
    (n__most : PySem.W.findIn K (.ref C_Rule) "_most" = some none)
    (a__law_draws : PySem.W.nsIn K mainGlobals "_law_draws" = some (some (.ref f__law_draws)))
    (l__law_draws : K.lookup f__law_draws = some ⟨oc__law_draws, od__law_draws, .func (PySem.W.fnOf "_law_draws" "_law_draws" (defArgs st__law_draws) (defBody st__law_draws) (defScope st__law_draws) .none kV__law_draws dc__law_draws pm__law_draws an__law_draws cd__law_draws ct__law_draws), sl__law_draws⟩)
    (c__law_draws : PySem.W.codeIn K cd__law_draws "_law_draws" = true)
    (k__law_draws : PySem.W.keepIn K (.ref f__law_draws) = true)
    (a__law_kinds : PySem.W.nsIn K mainGlobals "_law_kinds" = some (some (.ref f__law_kinds)))
    (l__law_kinds : K.lookup f__law_kinds = some ⟨oc__law_kinds, od__law_kinds, .func (PySem.W.fnOf "_law_kinds" "_law_kinds" (defArgs st__law_kinds) (defBody st__law_kinds) (defScope st__law_kinds) .none kV__law_kinds dc__law_kinds pm__law_kinds an__law_kinds cd__law_kinds ct__law_kinds), sl__law_kinds⟩)
    (c__law_kinds : PySem.W.codeIn K cd__law_kinds "_law_kinds" = true)
    (k__law_kinds : PySem.W.keepIn K (.ref f__law_kinds) = true)
    (a__law_pick : PySem.W.nsIn K mainGlobals "_law_pick" = some (some (.ref f__law_pick)))
    (l__law_pick : K.lookup f__law_pick = some ⟨oc__law_pick, od__law_pick, .func (PySem.W.fnOf "_law_pick" "_law_pick" (defArgs st__law_pick) (defBody st__law_pick) (defScope st__law_pick) .none kV__law_pick dc__law_pick pm__law_pick an__law_pick cd__law_pick ct__law_pick), sl__law_pick⟩)
    (c__law_pick : PySem.W.codeIn K cd__law_pick "_law_pick" = true)
    (k__law_pick : PySem.W.keepIn K (.ref f__law_pick) = true)
    (a_is_number : PySem.W.nsIn K mainGlobals "is_number" = some (some (.ref f_is_number)))
    (l_is_number : K.lookup f_is_number = some ⟨oc_is_number, od_is_number, .func (PySem.W.fnOf "is_number" "is_number" (defArgs st_is_number) (defBody st_is_number) (defScope st_is_number) .none kV_is_number dc_is_number pm_is_number an_is_number cd_is_number ct_is_number), sl_is_number⟩)
    (c_is_number : PySem.W.codeIn K cd_is_number "is_number" = true)
    (k_is_number : PySem.W.keepIn K (.ref f_is_number) = true)
    (a_check_lengths : PySem.W.nsIn K mainGlobals "check_lengths" = some (some (.ref f_check_lengths)))
    (l_check_lengths : K.lookup f_check_lengths = some ⟨oc_check_lengths, od_check_lengths, .func (PySem.W.fnOf "check_lengths" "check_lengths" (defArgs st_check_lengths) (defBody st_check_lengths) (defScope st_check_lengths) .none kV_check_lengths dc_check_lengths pm_check_lengths an_check_lengths cd_check_lengths ct_check_lengths), sl_check_lengths⟩)
    (c_check_lengths : PySem.W.codeIn K cd_check_lengths "check_lengths" = true)
    (k_check_lengths : PySem.W.keepIn K (.ref f_check_lengths) = true)
    (a_check_signs : PySem.W.nsIn K mainGlobals "check_signs" = some (some (.ref f_check_signs)))
    (l_check_signs : K.lookup f_check_signs = some ⟨oc_check_signs, od_check_signs, .func (PySem.W.fnOf "check_signs" "check_signs" (defArgs st_check_signs) (defBody st_check_signs) (defScope st_check_signs) .none kV_check_signs dc_check_signs pm_check_signs an_check_signs cd_check_signs ct_check_signs), sl_check_signs⟩)
    (c_check_signs : PySem.W.codeIn K cd_check_signs "check_signs" = true)
    (k_check_signs : PySem.W.keepIn K (.ref f_check_signs) = true)
    (a_check_window : PySem.W.nsIn K mainGlobals "check_window" = some (some (.ref f_check_window)))
    (l_check_window : K.lookup f_check_window = some ⟨oc_check_window, od_check_window, .func (PySem.W.fnOf "check_window" "check_window" (defArgs st_check_window) (defBody st_check_window) (defScope st_check_window) .none kV_check_window dc_check_window pm_check_window an_check_window cd_check_window ct_check_window), sl_check_window⟩)
    (c_check_window : PySem.W.codeIn K cd_check_window "check_window" = true)
    (k_check_window : PySem.W.keepIn K (.ref f_check_window) = true)
    (a_are_signs : PySem.W.nsIn K mainGlobals "are_signs" = some (some (.ref f_are_signs)))
    (l_are_signs : K.lookup f_are_signs = some ⟨oc_are_signs, od_are_signs, .func (PySem.W.fnOf "are_signs" "are_signs" (defArgs st_are_signs) (defBody st_are_signs) (defScope st_are_signs) .none kV_are_signs dc_are_signs pm_are_signs an_are_signs cd_are_signs ct_are_signs), sl_are_signs⟩)
    (c_are_signs : PySem.W.codeIn K cd_are_signs "are_signs" = true)
    (k_are_signs : PySem.W.keepIn K (.ref f_are_signs) = true)
    (a_check_words : PySem.W.nsIn K mainGlobals "check_words" = some (some (.ref f_check_words)))
    (l_check_words : K.lookup f_check_words = some ⟨oc_check_words, od_check_words, .func (PySem.W.fnOf "check_words" "check_words" (defArgs st_check_words) (defBody st_check_words) (defScope st_check_words) .none kV_check_words dc_check_words pm_check_words an_check_words cd_check_words ct_check_words), sl_check_words⟩)
    (c_check_words : PySem.W.codeIn K cd_check_words "check_words" = true)
    (k_check_words : PySem.W.keepIn K (.ref f_check_words) = true)
    (a_Rule___init__ : PySem.W.findIn K (.ref C_Rule) "__init__" = some (some (.ref f_Rule___init__)))
    (i_Rule___init__ : PySem.W.isFn K (.ref f_Rule___init__) = true)
    (l_Rule___init__ : K.lookup f_Rule___init__ = some ⟨oc_Rule___init__, od_Rule___init__, .func (PySem.W.fnOf "__init__" "Rule.__init__" (defArgs st_Rule___init__) (defBody st_Rule___init__) (defScope st_Rule___init__) .none kV_Rule___init__ dc_Rule___init__ pm_Rule___init__ an_Rule___init__ cd_Rule___init__ ct_Rule___init__), sl_Rule___init__⟩)
    (c_Rule___init__ : PySem.W.codeIn K cd_Rule___init__ "Rule.__init__" = true)
    (k_Rule___init__ : PySem.W.keepIn K (.ref f_Rule___init__) = true)
    (a_check_like : PySem.W.nsIn K mainGlobals "check_like" = some (some (.ref f_check_like)))
    (l_check_like : K.lookup f_check_like = some ⟨oc_check_like, od_check_like, .func (PySem.W.fnOf "check_like" "check_like" (defArgs st_check_like) (defBody st_check_like) (defScope st_check_like) .none kV_check_like dc_check_like pm_check_like an_check_like cd_check_like ct_check_like), sl_check_like⟩)
    (c_check_like : PySem.W.codeIn K cd_check_like "check_like" = true)
    (k_check_like : PySem.W.keepIn K (.ref f_check_like) = true)
    (a_parting : PySem.W.nsIn K mainGlobals "parting" = some (some (.ref f_parting)))
    (l_parting : K.lookup f_parting = some ⟨oc_parting, od_parting, .func (PySem.W.fnOf "parting" "parting" (defArgs st_parting) (defBody st_parting) (defScope st_parting) .none kV_parting dc_parting pm_parting an_parting cd_parting ct_parting), sl_parting⟩)
    (c_parting : PySem.W.codeIn K cd_parting "parting" = true)
    (k_parting : PySem.W.keepIn K (.ref f_parting) = true)
    (a_alike : PySem.W.nsIn K mainGlobals "alike" = some (some (.ref f_alike)))
    (l_alike : K.lookup f_alike = some ⟨oc_alike, od_alike, .func (PySem.W.fnOf "alike" "alike" (defArgs st_alike) (defBody st_alike) (defScope st_alike) .none kV_alike dc_alike pm_alike an_alike cd_alike ct_alike), sl_alike⟩)
    (c_alike : PySem.W.codeIn K cd_alike "alike" = true)
    (k_alike : PySem.W.keepIn K (.ref f_alike) = true)
    (a_is_text : PySem.W.nsIn K mainGlobals "is_text" = some (some (.ref f_is_text)))
    (l_is_text : K.lookup f_is_text = some ⟨oc_is_text, od_is_text, .func (PySem.W.fnOf "is_text" "is_text" (defArgs st_is_text) (defBody st_is_text) (defScope st_is_text) .none kV_is_text dc_is_text pm_is_text an_is_text cd_is_text ct_is_text), sl_is_text⟩)
    (c_is_text : PySem.W.codeIn K cd_is_text "is_text" = true)
    (k_is_text : PySem.W.keepIn K (.ref f_is_text) = true)
    (a_check_text : PySem.W.nsIn K mainGlobals "check_text" = some (some (.ref f_check_text)))
    (l_check_text : K.lookup f_check_text = some ⟨oc_check_text, od_check_text, .func (PySem.W.fnOf "check_text" "check_text" (defArgs st_check_text) (defBody st_check_text) (defScope st_check_text) .none kV_check_text dc_check_text pm_check_text an_check_text cd_check_text ct_check_text), sl_check_text⟩)
    (c_check_text : PySem.W.codeIn K cd_check_text "check_text" = true)
    (k_check_text : PySem.W.keepIn K (.ref f_check_text) = true)
    (a_cuts : PySem.W.nsIn K mainGlobals "cuts" = some (some (.ref f_cuts)))
    (l_cuts : K.lookup f_cuts = some ⟨oc_cuts, od_cuts, .func (PySem.W.fnOf "cuts" "cuts" (defArgs st_cuts) (defBody st_cuts) (defScope st_cuts) .none kV_cuts dc_cuts pm_cuts an_cuts cd_cuts ct_cuts), sl_cuts⟩)
    (c_cuts : PySem.W.codeIn K cd_cuts "cuts" = true)
    (k_cuts : PySem.W.keepIn K (.ref f_cuts) = true)
    (a_all_words : PySem.W.nsIn K mainGlobals "all_words" = some (some (.ref f_all_words)))
    (l_all_words : K.lookup f_all_words = some ⟨oc_all_words, od_all_words, .func (PySem.W.fnOf "all_words" "all_words" (defArgs st_all_words) (defBody st_all_words) (defScope st_all_words) .none kV_all_words dc_all_words pm_all_words an_all_words cd_all_words ct_all_words), sl_all_words⟩)
    (c_all_words : PySem.W.codeIn K cd_all_words "all_words" = true)
    (k_all_words : PySem.W.keepIn K (.ref f_all_words) = true)
    (a_check_few_words : PySem.W.nsIn K mainGlobals "check_few_words" = some (some (.ref f_check_few_words)))
    (l_check_few_words : K.lookup f_check_few_words = some ⟨oc_check_few_words, od_check_few_words, .func (PySem.W.fnOf "check_few_words" "check_few_words" (defArgs st_check_few_words) (defBody st_check_few_words) (defScope st_check_few_words) .none kV_check_few_words dc_check_few_words pm_check_few_words an_check_few_words cd_check_few_words ct_check_few_words), sl_check_few_words⟩)
    (c_check_few_words : PySem.W.codeIn K cd_check_few_words "check_few_words" = true)
    (k_check_few_words : PySem.W.keepIn K (.ref f_check_few_words) = true)
    (a_check_number : PySem.W.nsIn K mainGlobals "check_number" = some (some (.ref f_check_number)))
    (l_check_number : K.lookup f_check_number = some ⟨oc_check_number, od_check_number, .func (PySem.W.fnOf "check_number" "check_number" (defArgs st_check_number) (defBody st_check_number) (defScope st_check_number) .none kV_check_number dc_check_number pm_check_number an_check_number cd_check_number ct_check_number), sl_check_number⟩)
    (c_check_number : PySem.W.codeIn K cd_check_number "check_number" = true)
    (k_check_number : PySem.W.keepIn K (.ref f_check_number) = true)
    (a_fewest_words : PySem.W.nsIn K mainGlobals "fewest_words" = some (some (.ref f_fewest_words)))
    (l_fewest_words : K.lookup f_fewest_words = some ⟨oc_fewest_words, od_fewest_words, .func (PySem.W.fnOf "fewest_words" "fewest_words" (defArgs st_fewest_words) (defBody st_fewest_words) (defScope st_fewest_words) .none kV_fewest_words dc_fewest_words pm_fewest_words an_fewest_words cd_fewest_words ct_fewest_words), sl_fewest_words⟩)
    (c_fewest_words : PySem.W.codeIn K cd_fewest_words "fewest_words" = true)
    (k_fewest_words : PySem.W.keepIn K (.ref f_fewest_words) = true)
    (a_first_cuts : PySem.W.nsIn K mainGlobals "first_cuts" = some (some (.ref f_first_cuts)))
    (l_first_cuts : K.lookup f_first_cuts = some ⟨oc_first_cuts, od_first_cuts, .func (PySem.W.fnOf "first_cuts" "first_cuts" (defArgs st_first_cuts) (defBody st_first_cuts) (defScope st_first_cuts) .none kV_first_cuts dc_first_cuts pm_first_cuts an_first_cuts cd_first_cuts ct_first_cuts), sl_first_cuts⟩)
    (c_first_cuts : PySem.W.codeIn K cd_first_cuts "first_cuts" = true)
    (k_first_cuts : PySem.W.keepIn K (.ref f_first_cuts) = true)
    (a_is_seen : PySem.W.nsIn K mainGlobals "is_seen" = some (some (.ref f_is_seen)))
    (l_is_seen : K.lookup f_is_seen = some ⟨oc_is_seen, od_is_seen, .func (PySem.W.fnOf "is_seen" "is_seen" (defArgs st_is_seen) (defBody st_is_seen) (defScope st_is_seen) .none kV_is_seen dc_is_seen pm_is_seen an_is_seen cd_is_seen ct_is_seen), sl_is_seen⟩)
    (c_is_seen : PySem.W.codeIn K cd_is_seen "is_seen" = true)
    (k_is_seen : PySem.W.keepIn K (.ref f_is_seen) = true)
    (a_check_seen : PySem.W.nsIn K mainGlobals "check_seen" = some (some (.ref f_check_seen)))
    (l_check_seen : K.lookup f_check_seen = some ⟨oc_check_seen, od_check_seen, .func (PySem.W.fnOf "check_seen" "check_seen" (defArgs st_check_seen) (defBody st_check_seen) (defScope st_check_seen) .none kV_check_seen dc_check_seen pm_check_seen an_check_seen cd_check_seen ct_check_seen), sl_check_seen⟩)
    (c_check_seen : PySem.W.codeIn K cd_check_seen "check_seen" = true)
    (k_check_seen : PySem.W.keepIn K (.ref f_check_seen) = true)
    (a_fitting : PySem.W.nsIn K mainGlobals "fitting" = some (some (.ref f_fitting)))
    (l_fitting : K.lookup f_fitting = some ⟨oc_fitting, od_fitting, .func (PySem.W.fnOf "fitting" "fitting" (defArgs st_fitting) (defBody st_fitting) (defScope st_fitting) .none kV_fitting dc_fitting pm_fitting an_fitting cd_fitting ct_fitting), sl_fitting⟩)
    (c_fitting : PySem.W.codeIn K cd_fitting "fitting" = true)
    (k_fitting : PySem.W.keepIn K (.ref f_fitting) = true)
    (a_check_end : PySem.W.nsIn K mainGlobals "check_end" = some (some (.ref f_check_end)))
    (l_check_end : K.lookup f_check_end = some ⟨oc_check_end, od_check_end, .func (PySem.W.fnOf "check_end" "check_end" (defArgs st_check_end) (defBody st_check_end) (defScope st_check_end) .none kV_check_end dc_check_end pm_check_end an_check_end cd_check_end ct_check_end), sl_check_end⟩)
    (c_check_end : PySem.W.codeIn K cd_check_end "check_end" = true)
    (k_check_end : PySem.W.keepIn K (.ref f_check_end) = true)
    (a_check_parts : PySem.W.nsIn K mainGlobals "check_parts" = some (some (.ref f_check_parts)))
    (l_check_parts : K.lookup f_check_parts = some ⟨oc_check_parts, od_check_parts, .func (PySem.W.fnOf "check_parts" "check_parts" (defArgs st_check_parts) (defBody st_check_parts) (defScope st_check_parts) .none kV_check_parts dc_check_parts pm_check_parts an_check_parts cd_check_parts ct_check_parts), sl_check_parts⟩)
    (c_check_parts : PySem.W.codeIn K cd_check_parts "check_parts" = true)
    (k_check_parts : PySem.W.keepIn K (.ref f_check_parts) = true)
    (a_digits : PySem.W.nsIn K mainGlobals "digits" = some (some (.ref f_digits)))
    (l_digits : K.lookup f_digits = some ⟨oc_digits, od_digits, .func (PySem.W.fnOf "digits" "digits" (defArgs st_digits) (defBody st_digits) (defScope st_digits) .none kV_digits dc_digits pm_digits an_digits cd_digits ct_digits), sl_digits⟩)
    (c_digits : PySem.W.codeIn K cd_digits "digits" = true)
    (k_digits : PySem.W.keepIn K (.ref f_digits) = true)
    (a_read_numbers : PySem.W.nsIn K mainGlobals "read_numbers" = some (some (.ref f_read_numbers)))
    (l_read_numbers : K.lookup f_read_numbers = some ⟨oc_read_numbers, od_read_numbers, .func (PySem.W.fnOf "read_numbers" "read_numbers" (defArgs st_read_numbers) (defBody st_read_numbers) (defScope st_read_numbers) .none kV_read_numbers dc_read_numbers pm_read_numbers an_read_numbers cd_read_numbers ct_read_numbers), sl_read_numbers⟩)
    (c_read_numbers : PySem.W.codeIn K cd_read_numbers "read_numbers" = true)
    (k_read_numbers : PySem.W.keepIn K (.ref f_read_numbers) = true)
    (a_read : PySem.W.nsIn K mainGlobals "read" = some (some (.ref f_read)))
    (l_read : K.lookup f_read = some ⟨oc_read, od_read, .func (PySem.W.fnOf "read" "read" (defArgs st_read) (defBody st_read) (defScope st_read) .none kV_read dc_read pm_read an_read cd_read ct_read), sl_read⟩)
    (c_read : PySem.W.codeIn K cd_read "read" = true)
    (k_read : PySem.W.keepIn K (.ref f_read) = true)
    (a__law_raised : PySem.W.nsIn K mainGlobals "_law_raised" = some (some (.ref f__law_raised)))
    (l__law_raised : K.lookup f__law_raised = some ⟨oc__law_raised, od__law_raised, .func (PySem.W.fnOf "_law_raised" "_law_raised" (defArgs st__law_raised) (defBody st__law_raised) (defScope st__law_raised) .none kV__law_raised dc__law_raised pm__law_raised an__law_raised cd__law_raised ct__law_raised), sl__law_raised⟩)
    (c__law_raised : PySem.W.codeIn K cd__law_raised "_law_raised" = true)
    (k__law_raised : PySem.W.keepIn K (.ref f__law_raised) = true)
    (a_law : PySem.W.nsIn K mainGlobals "law" = some (some (.ref f_law)))
    (l_law : K.lookup f_law = some ⟨oc_law, od_law, .func (PySem.W.fnOf "law" "law" (defArgs st_law) (defBody st_law) (defScope st_law) .none kV_law dc_law pm_law an_law cd_law ct_law), sl_law⟩)
    (c_law : PySem.W.codeIn K cd_law "law" = true)
    (k_law : PySem.W.keepIn K (.ref f_law) = true)
    (ap_signs : PySem.W.findIn K (.ref C_Rule) "signs" = some (some (.ref pp_signs)))
    (gp_signs : PySem.W.specialIn K (.ref pp_signs) "__get__" = some (some (.builtin "property.__get__")))
    (tp_signs : PySem.W.takesIn K (.ref pp_signs) = some true)
    (rp_signs : PySem.W.recIn K pp_signs "property" = some (.ref pg_signs :: re_signs))
    (l_p_signs : K.lookup pg_signs = some ⟨oc_p_signs, od_p_signs, .func (PySem.W.fnOf "signs" "Rule.signs" (defArgs sp_signs) (defBody sp_signs) (defScope sp_signs) .none kV_p_signs dc_p_signs pm_p_signs an_p_signs cd_p_signs ct_p_signs), sl_p_signs⟩)
    (c_p_signs : PySem.W.codeIn K cd_p_signs "Rule.signs" = true)
    (ap_window : PySem.W.findIn K (.ref C_Rule) "window" = some (some (.ref pp_window)))
    (gp_window : PySem.W.specialIn K (.ref pp_window) "__get__" = some (some (.builtin "property.__get__")))
    (tp_window : PySem.W.takesIn K (.ref pp_window) = some true)
    (rp_window : PySem.W.recIn K pp_window "property" = some (.ref pg_window :: re_window))
    (l_p_window : K.lookup pg_window = some ⟨oc_p_window, od_p_window, .func (PySem.W.fnOf "window" "Rule.window" (defArgs sp_window) (defBody sp_window) (defScope sp_window) .none kV_p_window dc_p_window pm_p_window an_p_window cd_p_window ct_p_window), sl_p_window⟩)
    (c_p_window : PySem.W.codeIn K cd_p_window "Rule.window" = true)
    (z_ValueError : PySem.W.nsIn K mainGlobals "ValueError" = some none)
    (z_bool : PySem.W.nsIn K mainGlobals "bool" = some none)
    (z_enumerate : PySem.W.nsIn K mainGlobals "enumerate" = some none)
    (z_int : PySem.W.nsIn K mainGlobals "int" = some none)
    (z_isinstance : PySem.W.nsIn K mainGlobals "isinstance" = some none)
    (z_len : PySem.W.nsIn K mainGlobals "len" = some none)
    (z_list : PySem.W.nsIn K mainGlobals "list" = some none)
    (z_range : PySem.W.nsIn K mainGlobals "range" = some none)
    (z_str : PySem.W.nsIn K mainGlobals "str" = some none)
    (z_tuple : PySem.W.nsIn K mainGlobals "tuple" = some none)
    (a_BadLengths : PySem.W.nsIn K mainGlobals "BadLengths" = some (some (.ref E_BadLengths)))
    (x_BadLengths : PySem.W.excIn K E_BadLengths [.type "ValueError", .type "Exception", .type "BaseException", .type "object"] "ValueError.__new__" = true)
    (k_BadLengths : PySem.W.keepIn K (.ref E_BadLengths) = true)
    (b_BadLengths : PySem.W.subIn K (.ref E_BadLengths) (.type "BaseException") = some true)
    (t_BadLengths : PySem.W.typeIn K (.ref E_BadLengths) = some (.type "type"))
    (a_BadLine : PySem.W.nsIn K mainGlobals "BadLine" = some (some (.ref E_BadLine)))
    (k_BadLine : PySem.W.keepIn K (.ref E_BadLine) = true)
    (b_BadLine : PySem.W.subIn K (.ref E_BadLine) (.type "BaseException") = some true)
    (t_BadLine : PySem.W.typeIn K (.ref E_BadLine) = some (.type "type"))
    (a_BadNumber : PySem.W.nsIn K mainGlobals "BadNumber" = some (some (.ref E_BadNumber)))
    (x_BadNumber : PySem.W.excIn K E_BadNumber [.type "ValueError", .type "Exception", .type "BaseException", .type "object"] "ValueError.__new__" = true)
    (k_BadNumber : PySem.W.keepIn K (.ref E_BadNumber) = true)
    (b_BadNumber : PySem.W.subIn K (.ref E_BadNumber) (.type "BaseException") = some true)
    (t_BadNumber : PySem.W.typeIn K (.ref E_BadNumber) = some (.type "type"))
    (a_BadSeen : PySem.W.nsIn K mainGlobals "BadSeen" = some (some (.ref E_BadSeen)))
    (k_BadSeen : PySem.W.keepIn K (.ref E_BadSeen) = true)
    (b_BadSeen : PySem.W.subIn K (.ref E_BadSeen) (.type "BaseException") = some true)
    (t_BadSeen : PySem.W.typeIn K (.ref E_BadSeen) = some (.type "type"))
    (a_BadSigns : PySem.W.nsIn K mainGlobals "BadSigns" = some (some (.ref E_BadSigns)))
    (x_BadSigns : PySem.W.excIn K E_BadSigns [.type "ValueError", .type "Exception", .type "BaseException", .type "object"] "ValueError.__new__" = true)
    (k_BadSigns : PySem.W.keepIn K (.ref E_BadSigns) = true)
    (b_BadSigns : PySem.W.subIn K (.ref E_BadSigns) (.type "BaseException") = some true)
    (t_BadSigns : PySem.W.typeIn K (.ref E_BadSigns) = some (.type "type"))
    (a_BadText : PySem.W.nsIn K mainGlobals "BadText" = some (some (.ref E_BadText)))
    (x_BadText : PySem.W.excIn K E_BadText [.type "ValueError", .type "Exception", .type "BaseException", .type "object"] "ValueError.__new__" = true)
    (k_BadText : PySem.W.keepIn K (.ref E_BadText) = true)
    (b_BadText : PySem.W.subIn K (.ref E_BadText) (.type "BaseException") = some true)
    (t_BadText : PySem.W.typeIn K (.ref E_BadText) = some (.type "type"))
    (a_BadWindow : PySem.W.nsIn K mainGlobals "BadWindow" = some (some (.ref E_BadWindow)))
    (x_BadWindow : PySem.W.excIn K E_BadWindow [.type "ValueError", .type "Exception", .type "BaseException", .type "object"] "ValueError.__new__" = true)
    (k_BadWindow : PySem.W.keepIn K (.ref E_BadWindow) = true)
    (b_BadWindow : PySem.W.subIn K (.ref E_BadWindow) (.type "BaseException") = some true)
    (t_BadWindow : PySem.W.typeIn K (.ref E_BadWindow) = some (.type "type"))
    (a_BadWords : PySem.W.nsIn K mainGlobals "BadWords" = some (some (.ref E_BadWords)))
    (k_BadWords : PySem.W.keepIn K (.ref E_BadWords) = true)
    (b_BadWords : PySem.W.subIn K (.ref E_BadWords) (.type "BaseException") = some true)
    (t_BadWords : PySem.W.typeIn K (.ref E_BadWords) = some (.type "type"))
    (a_CutError : PySem.W.nsIn K mainGlobals "CutError" = some (some (.ref E_CutError)))
    (x_CutError : PySem.W.excIn K E_CutError [.type "ValueError", .type "Exception", .type "BaseException", .type "object"] "ValueError.__new__" = true)
    (k_CutError : PySem.W.keepIn K (.ref E_CutError) = true)
    (b_CutError : PySem.W.subIn K (.ref E_CutError) (.type "BaseException") = some true)
    (t_CutError : PySem.W.typeIn K (.ref E_CutError) = some (.type "type"))
    (a_TooMany : PySem.W.nsIn K mainGlobals "TooMany" = some (some (.ref E_TooMany)))
    (x_TooMany : PySem.W.excIn K E_TooMany [.type "ValueError", .type "Exception", .type "BaseException", .type "object"] "ValueError.__new__" = true)
    (k_TooMany : PySem.W.keepIn K (.ref E_TooMany) = true)
    (b_TooMany : PySem.W.subIn K (.ref E_TooMany) (.type "BaseException") = some true)
    (t_TooMany : PySem.W.typeIn K (.ref E_TooMany) = some (.type "type"))
    (a_Unlike : PySem.W.nsIn K mainGlobals "Unlike" = some (some (.ref E_Unlike)))
    (x_Unlike : PySem.W.excIn K E_Unlike [.type "ValueError", .type "Exception", .type "BaseException", .type "object"] "ValueError.__new__" = true)
    (k_Unlike : PySem.W.keepIn K (.ref E_Unlike) = true)
    (b_Unlike : PySem.W.subIn K (.ref E_Unlike) (.type "BaseException") = some true)
    (t_Unlike : PySem.W.typeIn K (.ref E_Unlike) = some (.type "type"))
    (nf2_BadLine : PySem.W.findIn K (.ref E_BadLine) "word" = some none)
    (xl_BadLine : K.lookup E_BadLine = some (excClassObj nm_BadLine qq_BadLine E_BadLine NN_BadLine bs_BadLine [.ref E_CutError, .type "ValueError", .type "Exception", .type "BaseException", .type "object"] true sn_BadLine su_BadLine ab_BadLine co_BadLine dd_BadLine m0_BadLine m1_BadLine m2_BadLine m3_BadLine m5_BadLine "ValueError.__new__"))
    (sa_BadLine : PySem.W.findIn K (.ref E_BadLine) "__setattr__" = some (some (.builtin "object.__setattr__")))
    (gx_BadLine : PySem.W.findIn K (.ref E_BadLine) "__getattribute__" = some (some (.builtin "BaseException.__getattribute__")))
    (hx_BadLine : PySem.W.findIn K (.ref E_BadLine) "__getattr__" = some none)
    (dx_BadLine : PySem.W.hasDictIn K E_BadLine = true)
    (nf_BadLine : PySem.W.findIn K (.ref E_BadLine) "line" = some none)
    (in_BadLine : PySem.W.findIn K (.ref E_BadLine) "__init__" = some (some (.ref f_BadLine___init__)))
    (ti_BadLine : PySem.W.typeIn K (.ref f_BadLine___init__) = some (.type "function"))
    (l_BadLine___init__ : K.lookup f_BadLine___init__ = some ⟨oc_BadLine___init__, od_BadLine___init__, .func (PySem.W.fnOf "__init__" "BadLine.__init__" (defArgs st_BadLine___init__) (defBody st_BadLine___init__) (defScope st_BadLine___init__) .none kV_BadLine___init__ dc_BadLine___init__ pm_BadLine___init__ an_BadLine___init__ cd_BadLine___init__ ct_BadLine___init__), sl_BadLine___init__⟩)
    (c_BadLine___init__ : PySem.W.codeIn K cd_BadLine___init__ "BadLine.__init__" = true)
    (k_BadLine___init__ : PySem.W.keepIn K (.ref f_BadLine___init__) = true)
    (xl_BadSeen : K.lookup E_BadSeen = some (excClassObj nm_BadSeen qq_BadSeen E_BadSeen NN_BadSeen bs_BadSeen [.ref E_CutError, .type "ValueError", .type "Exception", .type "BaseException", .type "object"] true sn_BadSeen su_BadSeen ab_BadSeen co_BadSeen dd_BadSeen m0_BadSeen m1_BadSeen m2_BadSeen m3_BadSeen m5_BadSeen "ValueError.__new__"))
    (sa_BadSeen : PySem.W.findIn K (.ref E_BadSeen) "__setattr__" = some (some (.builtin "object.__setattr__")))
    (gx_BadSeen : PySem.W.findIn K (.ref E_BadSeen) "__getattribute__" = some (some (.builtin "BaseException.__getattribute__")))
    (hx_BadSeen : PySem.W.findIn K (.ref E_BadSeen) "__getattr__" = some none)
    (dx_BadSeen : PySem.W.hasDictIn K E_BadSeen = true)
    (nf_BadSeen : PySem.W.findIn K (.ref E_BadSeen) "index" = some none)
    (in_BadSeen : PySem.W.findIn K (.ref E_BadSeen) "__init__" = some (some (.ref f_BadSeen___init__)))
    (ti_BadSeen : PySem.W.typeIn K (.ref f_BadSeen___init__) = some (.type "function"))
    (l_BadSeen___init__ : K.lookup f_BadSeen___init__ = some ⟨oc_BadSeen___init__, od_BadSeen___init__, .func (PySem.W.fnOf "__init__" "BadSeen.__init__" (defArgs st_BadSeen___init__) (defBody st_BadSeen___init__) (defScope st_BadSeen___init__) .none kV_BadSeen___init__ dc_BadSeen___init__ pm_BadSeen___init__ an_BadSeen___init__ cd_BadSeen___init__ ct_BadSeen___init__), sl_BadSeen___init__⟩)
    (c_BadSeen___init__ : PySem.W.codeIn K cd_BadSeen___init__ "BadSeen.__init__" = true)
    (k_BadSeen___init__ : PySem.W.keepIn K (.ref f_BadSeen___init__) = true)
    (xl_BadWords : K.lookup E_BadWords = some (excClassObj nm_BadWords qq_BadWords E_BadWords NN_BadWords bs_BadWords [.ref E_CutError, .type "ValueError", .type "Exception", .type "BaseException", .type "object"] true sn_BadWords su_BadWords ab_BadWords co_BadWords dd_BadWords m0_BadWords m1_BadWords m2_BadWords m3_BadWords m5_BadWords "ValueError.__new__"))
    (sa_BadWords : PySem.W.findIn K (.ref E_BadWords) "__setattr__" = some (some (.builtin "object.__setattr__")))
    (gx_BadWords : PySem.W.findIn K (.ref E_BadWords) "__getattribute__" = some (some (.builtin "BaseException.__getattribute__")))
    (hx_BadWords : PySem.W.findIn K (.ref E_BadWords) "__getattr__" = some none)
    (dx_BadWords : PySem.W.hasDictIn K E_BadWords = true)
    (nf_BadWords : PySem.W.findIn K (.ref E_BadWords) "index" = some none)
    (in_BadWords : PySem.W.findIn K (.ref E_BadWords) "__init__" = some (some (.ref f_BadWords___init__)))
    (ti_BadWords : PySem.W.typeIn K (.ref f_BadWords___init__) = some (.type "function"))
    (l_BadWords___init__ : K.lookup f_BadWords___init__ = some ⟨oc_BadWords___init__, od_BadWords___init__, .func (PySem.W.fnOf "__init__" "BadWords.__init__" (defArgs st_BadWords___init__) (defBody st_BadWords___init__) (defScope st_BadWords___init__) .none kV_BadWords___init__ dc_BadWords___init__ pm_BadWords___init__ an_BadWords___init__ cd_BadWords___init__ ct_BadWords___init__), sl_BadWords___init__⟩)
    (c_BadWords___init__ : PySem.W.codeIn K cd_BadWords___init__ "BadWords.__init__" = true)
    (k_BadWords___init__ : PySem.W.keepIn K (.ref f_BadWords___init__) = true)
    (vg_BadSigns : PySem.W.findIn K (.ref E_BadSigns) "__getattribute__" = some (some (.builtin "BaseException.__getattribute__")))
    (vk_BadSigns : PySem.W.findIn K (.ref E_BadSigns) "__getattr__" = some none)
    (vd_BadSigns : PySem.W.hasDictIn K E_BadSigns = true)
    (va_BadSigns : PySem.W.findIn K (.ref E_BadSigns) "__class__" = some (some (.builtin "object.__class__")))
    (vm_BadSigns : PySem.W.mroIn K E_BadSigns (.type "object") = some true)
    (vs_BadSigns : PySem.W.subIn K (.ref E_BadSigns) (.type "ValueError") = some true)
    (vx_BadSigns_CutError : PySem.W.subIn K (.ref E_BadSigns) (.ref E_CutError) = some true)
    (xv_BadSigns_BadSigns : PySem.W.subIn K (.ref E_BadSigns) (.ref E_BadSigns) = some true)
    (xv_BadSigns_BadWindow : PySem.W.subIn K (.ref E_BadSigns) (.ref E_BadWindow) = some false)
    (xv_BadSigns_BadLengths : PySem.W.subIn K (.ref E_BadSigns) (.ref E_BadLengths) = some false)
    (xv_BadSigns_BadText : PySem.W.subIn K (.ref E_BadSigns) (.ref E_BadText) = some false)
    (xv_BadSigns_BadNumber : PySem.W.subIn K (.ref E_BadSigns) (.ref E_BadNumber) = some false)
    (xv_BadSigns_Unlike : PySem.W.subIn K (.ref E_BadSigns) (.ref E_Unlike) = some false)
    (xv_BadSigns_TooMany : PySem.W.subIn K (.ref E_BadSigns) (.ref E_TooMany) = some false)
    (xv_BadSigns_BadWords : PySem.W.subIn K (.ref E_BadSigns) (.ref E_BadWords) = some false)
    (xv_BadSigns_BadSeen : PySem.W.subIn K (.ref E_BadSigns) (.ref E_BadSeen) = some false)
    (xv_BadSigns_BadLine : PySem.W.subIn K (.ref E_BadSigns) (.ref E_BadLine) = some false)
    (vi_BadSigns : PySem.W.isClsIn K E_BadSigns = true)
    (vg_BadWindow : PySem.W.findIn K (.ref E_BadWindow) "__getattribute__" = some (some (.builtin "BaseException.__getattribute__")))
    (vk_BadWindow : PySem.W.findIn K (.ref E_BadWindow) "__getattr__" = some none)
    (vd_BadWindow : PySem.W.hasDictIn K E_BadWindow = true)
    (va_BadWindow : PySem.W.findIn K (.ref E_BadWindow) "__class__" = some (some (.builtin "object.__class__")))
    (vm_BadWindow : PySem.W.mroIn K E_BadWindow (.type "object") = some true)
    (vs_BadWindow : PySem.W.subIn K (.ref E_BadWindow) (.type "ValueError") = some true)
    (vx_BadWindow_CutError : PySem.W.subIn K (.ref E_BadWindow) (.ref E_CutError) = some true)
    (xv_BadWindow_BadSigns : PySem.W.subIn K (.ref E_BadWindow) (.ref E_BadSigns) = some false)
    (xv_BadWindow_BadWindow : PySem.W.subIn K (.ref E_BadWindow) (.ref E_BadWindow) = some true)
    (xv_BadWindow_BadLengths : PySem.W.subIn K (.ref E_BadWindow) (.ref E_BadLengths) = some false)
    (xv_BadWindow_BadText : PySem.W.subIn K (.ref E_BadWindow) (.ref E_BadText) = some false)
    (xv_BadWindow_BadNumber : PySem.W.subIn K (.ref E_BadWindow) (.ref E_BadNumber) = some false)
    (xv_BadWindow_Unlike : PySem.W.subIn K (.ref E_BadWindow) (.ref E_Unlike) = some false)
    (xv_BadWindow_TooMany : PySem.W.subIn K (.ref E_BadWindow) (.ref E_TooMany) = some false)
    (xv_BadWindow_BadWords : PySem.W.subIn K (.ref E_BadWindow) (.ref E_BadWords) = some false)
    (xv_BadWindow_BadSeen : PySem.W.subIn K (.ref E_BadWindow) (.ref E_BadSeen) = some false)
    (xv_BadWindow_BadLine : PySem.W.subIn K (.ref E_BadWindow) (.ref E_BadLine) = some false)
    (vi_BadWindow : PySem.W.isClsIn K E_BadWindow = true)
    (vg_BadLengths : PySem.W.findIn K (.ref E_BadLengths) "__getattribute__" = some (some (.builtin "BaseException.__getattribute__")))
    (vk_BadLengths : PySem.W.findIn K (.ref E_BadLengths) "__getattr__" = some none)
    (vd_BadLengths : PySem.W.hasDictIn K E_BadLengths = true)
    (va_BadLengths : PySem.W.findIn K (.ref E_BadLengths) "__class__" = some (some (.builtin "object.__class__")))
    (vm_BadLengths : PySem.W.mroIn K E_BadLengths (.type "object") = some true)
    (vs_BadLengths : PySem.W.subIn K (.ref E_BadLengths) (.type "ValueError") = some true)
    (vx_BadLengths_CutError : PySem.W.subIn K (.ref E_BadLengths) (.ref E_CutError) = some true)
    (xv_BadLengths_BadSigns : PySem.W.subIn K (.ref E_BadLengths) (.ref E_BadSigns) = some false)
    (xv_BadLengths_BadWindow : PySem.W.subIn K (.ref E_BadLengths) (.ref E_BadWindow) = some false)
    (xv_BadLengths_BadLengths : PySem.W.subIn K (.ref E_BadLengths) (.ref E_BadLengths) = some true)
    (xv_BadLengths_BadText : PySem.W.subIn K (.ref E_BadLengths) (.ref E_BadText) = some false)
    (xv_BadLengths_BadNumber : PySem.W.subIn K (.ref E_BadLengths) (.ref E_BadNumber) = some false)
    (xv_BadLengths_Unlike : PySem.W.subIn K (.ref E_BadLengths) (.ref E_Unlike) = some false)
    (xv_BadLengths_TooMany : PySem.W.subIn K (.ref E_BadLengths) (.ref E_TooMany) = some false)
    (xv_BadLengths_BadWords : PySem.W.subIn K (.ref E_BadLengths) (.ref E_BadWords) = some false)
    (xv_BadLengths_BadSeen : PySem.W.subIn K (.ref E_BadLengths) (.ref E_BadSeen) = some false)
    (xv_BadLengths_BadLine : PySem.W.subIn K (.ref E_BadLengths) (.ref E_BadLine) = some false)
    (vi_BadLengths : PySem.W.isClsIn K E_BadLengths = true)
    (vg_BadText : PySem.W.findIn K (.ref E_BadText) "__getattribute__" = some (some (.builtin "BaseException.__getattribute__")))
    (vk_BadText : PySem.W.findIn K (.ref E_BadText) "__getattr__" = some none)
    (vd_BadText : PySem.W.hasDictIn K E_BadText = true)
    (va_BadText : PySem.W.findIn K (.ref E_BadText) "__class__" = some (some (.builtin "object.__class__")))
    (vm_BadText : PySem.W.mroIn K E_BadText (.type "object") = some true)
    (vs_BadText : PySem.W.subIn K (.ref E_BadText) (.type "ValueError") = some true)
    (vx_BadText_CutError : PySem.W.subIn K (.ref E_BadText) (.ref E_CutError) = some true)
    (xv_BadText_BadSigns : PySem.W.subIn K (.ref E_BadText) (.ref E_BadSigns) = some false)
    (xv_BadText_BadWindow : PySem.W.subIn K (.ref E_BadText) (.ref E_BadWindow) = some false)
    (xv_BadText_BadLengths : PySem.W.subIn K (.ref E_BadText) (.ref E_BadLengths) = some false)
    (xv_BadText_BadText : PySem.W.subIn K (.ref E_BadText) (.ref E_BadText) = some true)
    (xv_BadText_BadNumber : PySem.W.subIn K (.ref E_BadText) (.ref E_BadNumber) = some false)
    (xv_BadText_Unlike : PySem.W.subIn K (.ref E_BadText) (.ref E_Unlike) = some false)
    (xv_BadText_TooMany : PySem.W.subIn K (.ref E_BadText) (.ref E_TooMany) = some false)
    (xv_BadText_BadWords : PySem.W.subIn K (.ref E_BadText) (.ref E_BadWords) = some false)
    (xv_BadText_BadSeen : PySem.W.subIn K (.ref E_BadText) (.ref E_BadSeen) = some false)
    (xv_BadText_BadLine : PySem.W.subIn K (.ref E_BadText) (.ref E_BadLine) = some false)
    (vi_BadText : PySem.W.isClsIn K E_BadText = true)
    (vg_BadNumber : PySem.W.findIn K (.ref E_BadNumber) "__getattribute__" = some (some (.builtin "BaseException.__getattribute__")))
    (vk_BadNumber : PySem.W.findIn K (.ref E_BadNumber) "__getattr__" = some none)
    (vd_BadNumber : PySem.W.hasDictIn K E_BadNumber = true)
    (va_BadNumber : PySem.W.findIn K (.ref E_BadNumber) "__class__" = some (some (.builtin "object.__class__")))
    (vm_BadNumber : PySem.W.mroIn K E_BadNumber (.type "object") = some true)
    (vs_BadNumber : PySem.W.subIn K (.ref E_BadNumber) (.type "ValueError") = some true)
    (vx_BadNumber_CutError : PySem.W.subIn K (.ref E_BadNumber) (.ref E_CutError) = some true)
    (xv_BadNumber_BadSigns : PySem.W.subIn K (.ref E_BadNumber) (.ref E_BadSigns) = some false)
    (xv_BadNumber_BadWindow : PySem.W.subIn K (.ref E_BadNumber) (.ref E_BadWindow) = some false)
    (xv_BadNumber_BadLengths : PySem.W.subIn K (.ref E_BadNumber) (.ref E_BadLengths) = some false)
    (xv_BadNumber_BadText : PySem.W.subIn K (.ref E_BadNumber) (.ref E_BadText) = some false)
    (xv_BadNumber_BadNumber : PySem.W.subIn K (.ref E_BadNumber) (.ref E_BadNumber) = some true)
    (xv_BadNumber_Unlike : PySem.W.subIn K (.ref E_BadNumber) (.ref E_Unlike) = some false)
    (xv_BadNumber_TooMany : PySem.W.subIn K (.ref E_BadNumber) (.ref E_TooMany) = some false)
    (xv_BadNumber_BadWords : PySem.W.subIn K (.ref E_BadNumber) (.ref E_BadWords) = some false)
    (xv_BadNumber_BadSeen : PySem.W.subIn K (.ref E_BadNumber) (.ref E_BadSeen) = some false)
    (xv_BadNumber_BadLine : PySem.W.subIn K (.ref E_BadNumber) (.ref E_BadLine) = some false)
    (vi_BadNumber : PySem.W.isClsIn K E_BadNumber = true)
    (vg_Unlike : PySem.W.findIn K (.ref E_Unlike) "__getattribute__" = some (some (.builtin "BaseException.__getattribute__")))
    (vk_Unlike : PySem.W.findIn K (.ref E_Unlike) "__getattr__" = some none)
    (vd_Unlike : PySem.W.hasDictIn K E_Unlike = true)
    (va_Unlike : PySem.W.findIn K (.ref E_Unlike) "__class__" = some (some (.builtin "object.__class__")))
    (vm_Unlike : PySem.W.mroIn K E_Unlike (.type "object") = some true)
    (vs_Unlike : PySem.W.subIn K (.ref E_Unlike) (.type "ValueError") = some true)
    (vx_Unlike_CutError : PySem.W.subIn K (.ref E_Unlike) (.ref E_CutError) = some true)
    (xv_Unlike_BadSigns : PySem.W.subIn K (.ref E_Unlike) (.ref E_BadSigns) = some false)
    (xv_Unlike_BadWindow : PySem.W.subIn K (.ref E_Unlike) (.ref E_BadWindow) = some false)
    (xv_Unlike_BadLengths : PySem.W.subIn K (.ref E_Unlike) (.ref E_BadLengths) = some false)
    (xv_Unlike_BadText : PySem.W.subIn K (.ref E_Unlike) (.ref E_BadText) = some false)
    (xv_Unlike_BadNumber : PySem.W.subIn K (.ref E_Unlike) (.ref E_BadNumber) = some false)
    (xv_Unlike_Unlike : PySem.W.subIn K (.ref E_Unlike) (.ref E_Unlike) = some true)
    (xv_Unlike_TooMany : PySem.W.subIn K (.ref E_Unlike) (.ref E_TooMany) = some false)
    (xv_Unlike_BadWords : PySem.W.subIn K (.ref E_Unlike) (.ref E_BadWords) = some false)
    (xv_Unlike_BadSeen : PySem.W.subIn K (.ref E_Unlike) (.ref E_BadSeen) = some false)
    (xv_Unlike_BadLine : PySem.W.subIn K (.ref E_Unlike) (.ref E_BadLine) = some false)
    (vi_Unlike : PySem.W.isClsIn K E_Unlike = true)
    (vg_TooMany : PySem.W.findIn K (.ref E_TooMany) "__getattribute__" = some (some (.builtin "BaseException.__getattribute__")))
    (vk_TooMany : PySem.W.findIn K (.ref E_TooMany) "__getattr__" = some none)
    (vd_TooMany : PySem.W.hasDictIn K E_TooMany = true)
    (va_TooMany : PySem.W.findIn K (.ref E_TooMany) "__class__" = some (some (.builtin "object.__class__")))
    (vm_TooMany : PySem.W.mroIn K E_TooMany (.type "object") = some true)
    (vs_TooMany : PySem.W.subIn K (.ref E_TooMany) (.type "ValueError") = some true)
    (vx_TooMany_CutError : PySem.W.subIn K (.ref E_TooMany) (.ref E_CutError) = some true)
    (xv_TooMany_BadSigns : PySem.W.subIn K (.ref E_TooMany) (.ref E_BadSigns) = some false)
    (xv_TooMany_BadWindow : PySem.W.subIn K (.ref E_TooMany) (.ref E_BadWindow) = some false)
    (xv_TooMany_BadLengths : PySem.W.subIn K (.ref E_TooMany) (.ref E_BadLengths) = some false)
    (xv_TooMany_BadText : PySem.W.subIn K (.ref E_TooMany) (.ref E_BadText) = some false)
    (xv_TooMany_BadNumber : PySem.W.subIn K (.ref E_TooMany) (.ref E_BadNumber) = some false)
    (xv_TooMany_Unlike : PySem.W.subIn K (.ref E_TooMany) (.ref E_Unlike) = some false)
    (xv_TooMany_TooMany : PySem.W.subIn K (.ref E_TooMany) (.ref E_TooMany) = some true)
    (xv_TooMany_BadWords : PySem.W.subIn K (.ref E_TooMany) (.ref E_BadWords) = some false)
    (xv_TooMany_BadSeen : PySem.W.subIn K (.ref E_TooMany) (.ref E_BadSeen) = some false)
    (xv_TooMany_BadLine : PySem.W.subIn K (.ref E_TooMany) (.ref E_BadLine) = some false)
    (vi_TooMany : PySem.W.isClsIn K E_TooMany = true)
    (vg_BadWords : PySem.W.findIn K (.ref E_BadWords) "__getattribute__" = some (some (.builtin "BaseException.__getattribute__")))
    (vk_BadWords : PySem.W.findIn K (.ref E_BadWords) "__getattr__" = some none)
    (vd_BadWords : PySem.W.hasDictIn K E_BadWords = true)
    (va_BadWords : PySem.W.findIn K (.ref E_BadWords) "__class__" = some (some (.builtin "object.__class__")))
    (vm_BadWords : PySem.W.mroIn K E_BadWords (.type "object") = some true)
    (vs_BadWords : PySem.W.subIn K (.ref E_BadWords) (.type "ValueError") = some true)
    (vx_BadWords_CutError : PySem.W.subIn K (.ref E_BadWords) (.ref E_CutError) = some true)
    (xv_BadWords_BadSigns : PySem.W.subIn K (.ref E_BadWords) (.ref E_BadSigns) = some false)
    (xv_BadWords_BadWindow : PySem.W.subIn K (.ref E_BadWords) (.ref E_BadWindow) = some false)
    (xv_BadWords_BadLengths : PySem.W.subIn K (.ref E_BadWords) (.ref E_BadLengths) = some false)
    (xv_BadWords_BadText : PySem.W.subIn K (.ref E_BadWords) (.ref E_BadText) = some false)
    (xv_BadWords_BadNumber : PySem.W.subIn K (.ref E_BadWords) (.ref E_BadNumber) = some false)
    (xv_BadWords_Unlike : PySem.W.subIn K (.ref E_BadWords) (.ref E_Unlike) = some false)
    (xv_BadWords_TooMany : PySem.W.subIn K (.ref E_BadWords) (.ref E_TooMany) = some false)
    (xv_BadWords_BadWords : PySem.W.subIn K (.ref E_BadWords) (.ref E_BadWords) = some true)
    (xv_BadWords_BadSeen : PySem.W.subIn K (.ref E_BadWords) (.ref E_BadSeen) = some false)
    (xv_BadWords_BadLine : PySem.W.subIn K (.ref E_BadWords) (.ref E_BadLine) = some false)
    (vi_BadWords : PySem.W.isClsIn K E_BadWords = true)
    (vg_BadSeen : PySem.W.findIn K (.ref E_BadSeen) "__getattribute__" = some (some (.builtin "BaseException.__getattribute__")))
    (vk_BadSeen : PySem.W.findIn K (.ref E_BadSeen) "__getattr__" = some none)
    (vd_BadSeen : PySem.W.hasDictIn K E_BadSeen = true)
    (va_BadSeen : PySem.W.findIn K (.ref E_BadSeen) "__class__" = some (some (.builtin "object.__class__")))
    (vm_BadSeen : PySem.W.mroIn K E_BadSeen (.type "object") = some true)
    (vs_BadSeen : PySem.W.subIn K (.ref E_BadSeen) (.type "ValueError") = some true)
    (vx_BadSeen_CutError : PySem.W.subIn K (.ref E_BadSeen) (.ref E_CutError) = some true)
    (xv_BadSeen_BadSigns : PySem.W.subIn K (.ref E_BadSeen) (.ref E_BadSigns) = some false)
    (xv_BadSeen_BadWindow : PySem.W.subIn K (.ref E_BadSeen) (.ref E_BadWindow) = some false)
    (xv_BadSeen_BadLengths : PySem.W.subIn K (.ref E_BadSeen) (.ref E_BadLengths) = some false)
    (xv_BadSeen_BadText : PySem.W.subIn K (.ref E_BadSeen) (.ref E_BadText) = some false)
    (xv_BadSeen_BadNumber : PySem.W.subIn K (.ref E_BadSeen) (.ref E_BadNumber) = some false)
    (xv_BadSeen_Unlike : PySem.W.subIn K (.ref E_BadSeen) (.ref E_Unlike) = some false)
    (xv_BadSeen_TooMany : PySem.W.subIn K (.ref E_BadSeen) (.ref E_TooMany) = some false)
    (xv_BadSeen_BadWords : PySem.W.subIn K (.ref E_BadSeen) (.ref E_BadWords) = some false)
    (xv_BadSeen_BadSeen : PySem.W.subIn K (.ref E_BadSeen) (.ref E_BadSeen) = some true)
    (xv_BadSeen_BadLine : PySem.W.subIn K (.ref E_BadSeen) (.ref E_BadLine) = some false)
    (vi_BadSeen : PySem.W.isClsIn K E_BadSeen = true)
    (vg_BadLine : PySem.W.findIn K (.ref E_BadLine) "__getattribute__" = some (some (.builtin "BaseException.__getattribute__")))
    (vk_BadLine : PySem.W.findIn K (.ref E_BadLine) "__getattr__" = some none)
    (vd_BadLine : PySem.W.hasDictIn K E_BadLine = true)
    (va_BadLine : PySem.W.findIn K (.ref E_BadLine) "__class__" = some (some (.builtin "object.__class__")))
    (vm_BadLine : PySem.W.mroIn K E_BadLine (.type "object") = some true)
    (vs_BadLine : PySem.W.subIn K (.ref E_BadLine) (.type "ValueError") = some true)
    (vx_BadLine_CutError : PySem.W.subIn K (.ref E_BadLine) (.ref E_CutError) = some true)
    (xv_BadLine_BadSigns : PySem.W.subIn K (.ref E_BadLine) (.ref E_BadSigns) = some false)
    (xv_BadLine_BadWindow : PySem.W.subIn K (.ref E_BadLine) (.ref E_BadWindow) = some false)
    (xv_BadLine_BadLengths : PySem.W.subIn K (.ref E_BadLine) (.ref E_BadLengths) = some false)
    (xv_BadLine_BadText : PySem.W.subIn K (.ref E_BadLine) (.ref E_BadText) = some false)
    (xv_BadLine_BadNumber : PySem.W.subIn K (.ref E_BadLine) (.ref E_BadNumber) = some false)
    (xv_BadLine_Unlike : PySem.W.subIn K (.ref E_BadLine) (.ref E_Unlike) = some false)
    (xv_BadLine_TooMany : PySem.W.subIn K (.ref E_BadLine) (.ref E_TooMany) = some false)
    (xv_BadLine_BadWords : PySem.W.subIn K (.ref E_BadLine) (.ref E_BadWords) = some false)
    (xv_BadLine_BadSeen : PySem.W.subIn K (.ref E_BadLine) (.ref E_BadSeen) = some false)
    (xv_BadLine_BadLine : PySem.W.subIn K (.ref E_BadLine) (.ref E_BadLine) = some true)
    (vi_BadLine : PySem.W.isClsIn K E_BadLine = true)
    (vi_CutError : PySem.W.isClsIn K E_CutError = true)
    (vn : PySem.W.specialIn K (.builtin "object.__class__") "__get__" = some (some (.builtin "getset_descriptor.__get__")))
    (vt : PySem.W.takesIn K (.builtin "object.__class__") = some true)
    (a_GREATEST_GOAL : PySem.W.nsIn K mainGlobals "GREATEST_GOAL" = some (some (.int 12 tk_GREATEST_GOAL)))
    (a_LONGEST_TEXT : PySem.W.nsIn K mainGlobals "LONGEST_TEXT" = some (some (.int 400 tk_LONGEST_TEXT)))
    (a_MOST_FURTHER_WORDS : PySem.W.nsIn K mainGlobals "MOST_FURTHER_WORDS" = some (some (.int 3 tk_MOST_FURTHER_WORDS)))
    (a_MOST_PLACES : PySem.W.nsIn K mainGlobals "MOST_PLACES" = some (some (.int 30 tk_MOST_PLACES)))
    (a_MOST_SEEN : PySem.W.nsIn K mainGlobals "MOST_SEEN" = some (some (.int 12 tk_MOST_SEEN)))
    (a_MOST_WORDS : PySem.W.nsIn K mainGlobals "MOST_WORDS" = some (some (.int 9 tk_MOST_WORDS)))
    (a_NO_MOST : PySem.W.nsIn K mainGlobals "NO_MOST" = some (some (.str "none" tk_NO_MOST)))
    : ∃ fd : FuncData, (∀ (s : Shared) (v : Value), BindsTo s fd ⟨[v], []⟩ [("_law_script", v)]) ∧ ∀ base : Heap, K.In base → base.Ns mainGlobals mg → FnOk l.prog w K mg base (L2.CX l.prog w) 17 fa fd ["_law_script"] (spLaw K) := by
  have e := hfa.symm.trans (PySem.W.mg_of X G a_law)
  cases e
  have cc_Rule : Cls K C_Rule := ⟨pg_Rule, hd_Rule, po_Rule, sa_Rule⟩
  have F__law_draws := fun_mk (st := st__law_draws) l__law_draws c__law_draws k__law_draws
  have bb__law_draws := F__law_draws.binds (ps := ["_law_script"]) fun _ _ _ _ _ _ us hl => match us, hl with | [_], _ => rfl
  have F__law_kinds := fun_mk (st := st__law_kinds) l__law_kinds c__law_kinds k__law_kinds
  have bb__law_kinds := F__law_kinds.binds (ps := ["_law_e"]) fun _ _ _ _ _ _ us hl => match us, hl with | [_], _ => rfl
  have F__law_pick := fun_mk (st := st__law_pick) l__law_pick c__law_pick k__law_pick
  have bb__law_pick := F__law_pick.binds (ps := ["_law_row", "_law_many"]) fun _ _ _ _ _ _ us hl => match us, hl with | [_, _], _ => rfl
  have F_is_number := fun_mk (st := st_is_number) l_is_number c_is_number k_is_number
  have bb_is_number := F_is_number.binds (ps := ["value", "low", "high"]) fun _ _ _ _ _ _ us hl => match us, hl with | [_, _, _], _ => rfl
  have F_check_lengths := fun_mk (st := st_check_lengths) l_check_lengths c_check_lengths k_check_lengths
  have bb_check_lengths := F_check_lengths.binds (ps := ["least", "most"]) fun _ _ _ _ _ _ us hl => match us, hl with | [_, _], _ => rfl
  have F_check_signs := fun_mk (st := st_check_signs) l_check_signs c_check_signs k_check_signs
  have bb_check_signs := F_check_signs.binds (ps := ["signs"]) fun _ _ _ _ _ _ us hl => match us, hl with | [_], _ => rfl
  have F_check_window := fun_mk (st := st_check_window) l_check_window c_check_window k_check_window
  have bb_check_window := F_check_window.binds (ps := ["window"]) fun _ _ _ _ _ _ us hl => match us, hl with | [_], _ => rfl
  have F_are_signs := fun_mk (st := st_are_signs) l_are_signs c_are_signs k_are_signs
  have bb_are_signs := F_are_signs.binds (ps := ["value", "signs"]) fun _ _ _ _ _ _ us hl => match us, hl with | [_, _], _ => rfl
  have F_check_words := fun_mk (st := st_check_words) l_check_words c_check_words k_check_words
  have bb_check_words := F_check_words.binds (ps := ["words", "signs", "window"]) fun _ _ _ _ _ _ us hl => match us, hl with | [_, _, _], _ => rfl
  have F_Rule___init__ := fun_mk (st := st_Rule___init__) l_Rule___init__ c_Rule___init__ k_Rule___init__
  have bb_Rule___init__ := F_Rule___init__.binds (ps := ["self", "signs", "window", "words", "least", "most"]) fun _ _ _ _ _ _ us hl => match us, hl with | [_, _, _, _, _, _], _ => rfl
  have F_check_like := fun_mk (st := st_check_like) l_check_like c_check_like k_check_like
  have bb_check_like := F_check_like.binds (ps := ["one", "other"]) fun _ _ _ _ _ _ us hl => match us, hl with | [_, _], _ => rfl
  have F_parting := fun_mk (st := st_parting) l_parting c_parting k_parting
  have bb_parting := F_parting.binds (ps := ["one", "other"]) fun _ _ _ _ _ _ us hl => match us, hl with | [_, _], _ => rfl
  have F_alike := fun_mk (st := st_alike) l_alike c_alike k_alike
  have bb_alike := F_alike.binds (ps := ["one", "other"]) fun _ _ _ _ _ _ us hl => match us, hl with | [_, _], _ => rfl
  have F_is_text := fun_mk (st := st_is_text) l_is_text c_is_text k_is_text
  have bb_is_text := F_is_text.binds (ps := ["value", "signs"]) fun _ _ _ _ _ _ us hl => match us, hl with | [_, _], _ => rfl
  have F_check_text := fun_mk (st := st_check_text) l_check_text c_check_text k_check_text
  have bb_check_text := F_check_text.binds (ps := ["value", "signs"]) fun _ _ _ _ _ _ us hl => match us, hl with | [_, _], _ => rfl
  have F_cuts := fun_mk (st := st_cuts) l_cuts c_cuts k_cuts
  have bb_cuts := F_cuts.binds (ps := ["rule", "text"]) fun _ _ _ _ _ _ us hl => match us, hl with | [_, _], _ => rfl
  have F_all_words := fun_mk (st := st_all_words) l_all_words c_all_words k_all_words
  have bb_all_words := F_all_words.binds (ps := ["signs", "window"]) fun _ _ _ _ _ _ us hl => match us, hl with | [_, _], _ => rfl
  have F_check_few_words := fun_mk (st := st_check_few_words) l_check_few_words c_check_few_words k_check_few_words
  have bb_check_few_words := F_check_few_words.binds (ps := ["signs", "window"]) fun _ _ _ _ _ _ us hl => match us, hl with | [_, _], _ => rfl
  have F_check_number := fun_mk (st := st_check_number) l_check_number c_check_number k_check_number
  have bb_check_number := F_check_number.binds (ps := ["value", "low", "high"]) fun _ _ _ _ _ _ us hl => match us, hl with | [_, _, _], _ => rfl
  have F_fewest_words := fun_mk (st := st_fewest_words) l_fewest_words c_fewest_words k_fewest_words
  have bb_fewest_words := F_fewest_words.binds (ps := ["rule", "goal", "most"]) fun _ _ _ _ _ _ us hl => match us, hl with | [_, _, _], _ => rfl
  have F_first_cuts := fun_mk (st := st_first_cuts) l_first_cuts c_first_cuts k_first_cuts
  have bb_first_cuts := F_first_cuts.binds (ps := ["rule", "places"]) fun _ _ _ _ _ _ us hl => match us, hl with | [_, _], _ => rfl
  have F_is_seen := fun_mk (st := st_is_seen) l_is_seen c_is_seen k_is_seen
  have bb_is_seen := F_is_seen.binds (ps := ["thing", "signs"]) fun _ _ _ _ _ _ us hl => match us, hl with | [_, _], _ => rfl
  have F_check_seen := fun_mk (st := st_check_seen) l_check_seen c_check_seen k_check_seen
  have bb_check_seen := F_check_seen.binds (ps := ["seen", "signs"]) fun _ _ _ _ _ _ us hl => match us, hl with | [_, _], _ => rfl
  have F_fitting := fun_mk (st := st_fitting) l_fitting c_fitting k_fitting
  have bb_fitting := F_fitting.binds (ps := ["signs", "window", "least", "most", "seen"]) fun _ _ _ _ _ _ us hl => match us, hl with | [_, _, _, _, _], _ => rfl
  have F_check_end := fun_mk (st := st_check_end) l_check_end c_check_end k_check_end
  have bb_check_end := F_check_end.binds (ps := ["line", "parts", "choices"]) fun _ _ _ _ _ _ us hl => match us, hl with | [_, _, _], _ => rfl
  have F_check_parts := fun_mk (st := st_check_parts) l_check_parts c_check_parts k_check_parts
  have bb_check_parts := F_check_parts.binds (ps := ["line", "parts", "choices"]) fun _ _ _ _ _ _ us hl => match us, hl with | [_, _, _], _ => rfl
  have F_digits := fun_mk (st := st_digits) l_digits c_digits k_digits
  have bb_digits := F_digits.binds (ps := ["low", "high"]) fun _ _ _ _ _ _ us hl => match us, hl with | [_, _], _ => rfl
  have F_read_numbers := fun_mk (st := st_read_numbers) l_read_numbers c_read_numbers k_read_numbers
  have bb_read_numbers := F_read_numbers.binds (ps := ["parts"]) fun _ _ _ _ _ _ us hl => match us, hl with | [_], _ => rfl
  have F_read := fun_mk (st := st_read) l_read c_read k_read
  have bb_read := F_read.binds (ps := ["text"]) fun _ _ _ _ _ _ us hl => match us, hl with | [_], _ => rfl
  have F__law_raised := fun_mk (st := st__law_raised) l__law_raised c__law_raised k__law_raised
  have bb__law_raised := F__law_raised.binds (ps := ["_law_k"]) fun _ _ _ _ _ _ us hl => match us, hl with | [_], _ => rfl
  have F_law := fun_mk (st := st_law) l_law c_law k_law
  have bb_law := F_law.binds (ps := ["_law_script"]) fun _ _ _ _ _ _ us hl => match us, hl with | [_], _ => rfl
  have F_BadLine___init__ := fun_mk (st := st_BadLine___init__) l_BadLine___init__ c_BadLine___init__ k_BadLine___init__
  have bb_BadLine___init__ := F_BadLine___init__.binds (ps := ["self", "line", "word"]) fun _ _ _ _ _ _ us hl => match us, hl with | [_, _, _], _ => rfl
  have F_BadSeen___init__ := fun_mk (st := st_BadSeen___init__) l_BadSeen___init__ c_BadSeen___init__ k_BadSeen___init__
  have bb_BadSeen___init__ := F_BadSeen___init__.binds (ps := ["self", "index"]) fun _ _ _ _ _ _ us hl => match us, hl with | [_, _], _ => rfl
  have F_BadWords___init__ := fun_mk (st := st_BadWords___init__) l_BadWords___init__ c_BadWords___init__ k_BadWords___init__
  have bb_BadWords___init__ := F_BadWords___init__.binds (ps := ["self", "index"]) fun _ _ _ _ _ _ us hl => match us, hl with | [_, _], _ => rfl
  have bp_signs : Binds K _ ["self"] [] := binds_of (st := sp_signs) (ps := ["self"]) (x := "signs") (qual := "Rule.signs") (fun _ _ _ _ _ _ us hl => match us, hl with | [_], _ => rfl) kV_p_signs dc_p_signs pm_p_signs an_p_signs cd_p_signs ct_p_signs
  have bp_window : Binds K _ ["self"] [] := binds_of (st := sp_window) (ps := ["self"]) (x := "window") (qual := "Rule.window") (fun _ _ _ _ _ _ us hl => match us, hl with | [_], _ => rfl) kV_p_window dc_p_window pm_p_window an_p_window cd_p_window ct_p_window
  let T : Tx K mg := {
    f__law_draws := f__law_draws, fd__law_draws := _, F__law_draws := F__law_draws, b__law_draws := bb__law_draws,
    g__law_draws := PySem.W.mg_of X G a__law_draws,
    f__law_kinds := f__law_kinds, fd__law_kinds := _, F__law_kinds := F__law_kinds, b__law_kinds := bb__law_kinds,
    g__law_kinds := PySem.W.mg_of X G a__law_kinds,
    f__law_pick := f__law_pick, fd__law_pick := _, F__law_pick := F__law_pick, b__law_pick := bb__law_pick,
    g__law_pick := PySem.W.mg_of X G a__law_pick,
    f_is_number := f_is_number, fd_is_number := _, F_is_number := F_is_number, b_is_number := bb_is_number,
    g_is_number := PySem.W.mg_of X G a_is_number,
    f_check_lengths := f_check_lengths, fd_check_lengths := _, F_check_lengths := F_check_lengths, b_check_lengths := bb_check_lengths,
    g_check_lengths := PySem.W.mg_of X G a_check_lengths,
    f_check_signs := f_check_signs, fd_check_signs := _, F_check_signs := F_check_signs, b_check_signs := bb_check_signs,
    g_check_signs := PySem.W.mg_of X G a_check_signs,
    f_check_window := f_check_window, fd_check_window := _, F_check_window := F_check_window, b_check_window := bb_check_window,
    g_check_window := PySem.W.mg_of X G a_check_window,
    f_are_signs := f_are_signs, fd_are_signs := _, F_are_signs := F_are_signs, b_are_signs := bb_are_signs,
    g_are_signs := PySem.W.mg_of X G a_are_signs,
    f_check_words := f_check_words, fd_check_words := _, F_check_words := F_check_words, b_check_words := bb_check_words,
    g_check_words := PySem.W.mg_of X G a_check_words,
    f_Rule___init__ := f_Rule___init__, fd_Rule___init__ := _, F_Rule___init__ := F_Rule___init__, b_Rule___init__ := bb_Rule___init__,
    f_check_like := f_check_like, fd_check_like := _, F_check_like := F_check_like, b_check_like := bb_check_like,
    g_check_like := PySem.W.mg_of X G a_check_like,
    f_parting := f_parting, fd_parting := _, F_parting := F_parting, b_parting := bb_parting,
    g_parting := PySem.W.mg_of X G a_parting,
    f_alike := f_alike, fd_alike := _, F_alike := F_alike, b_alike := bb_alike,
    g_alike := PySem.W.mg_of X G a_alike,
    f_is_text := f_is_text, fd_is_text := _, F_is_text := F_is_text, b_is_text := bb_is_text,
    g_is_text := PySem.W.mg_of X G a_is_text,
    f_check_text := f_check_text, fd_check_text := _, F_check_text := F_check_text, b_check_text := bb_check_text,
    g_check_text := PySem.W.mg_of X G a_check_text,
    f_cuts := f_cuts, fd_cuts := _, F_cuts := F_cuts, b_cuts := bb_cuts,
    g_cuts := PySem.W.mg_of X G a_cuts,
    f_all_words := f_all_words, fd_all_words := _, F_all_words := F_all_words, b_all_words := bb_all_words,
    g_all_words := PySem.W.mg_of X G a_all_words,
    f_check_few_words := f_check_few_words, fd_check_few_words := _, F_check_few_words := F_check_few_words, b_check_few_words := bb_check_few_words,
    g_check_few_words := PySem.W.mg_of X G a_check_few_words,
    f_check_number := f_check_number, fd_check_number := _, F_check_number := F_check_number, b_check_number := bb_check_number,
    g_check_number := PySem.W.mg_of X G a_check_number,
    f_fewest_words := f_fewest_words, fd_fewest_words := _, F_fewest_words := F_fewest_words, b_fewest_words := bb_fewest_words,
    g_fewest_words := PySem.W.mg_of X G a_fewest_words,
    f_first_cuts := f_first_cuts, fd_first_cuts := _, F_first_cuts := F_first_cuts, b_first_cuts := bb_first_cuts,
    g_first_cuts := PySem.W.mg_of X G a_first_cuts,
    f_is_seen := f_is_seen, fd_is_seen := _, F_is_seen := F_is_seen, b_is_seen := bb_is_seen,
    g_is_seen := PySem.W.mg_of X G a_is_seen,
    f_check_seen := f_check_seen, fd_check_seen := _, F_check_seen := F_check_seen, b_check_seen := bb_check_seen,
    g_check_seen := PySem.W.mg_of X G a_check_seen,
    f_fitting := f_fitting, fd_fitting := _, F_fitting := F_fitting, b_fitting := bb_fitting,
    g_fitting := PySem.W.mg_of X G a_fitting,
    f_check_end := f_check_end, fd_check_end := _, F_check_end := F_check_end, b_check_end := bb_check_end,
    g_check_end := PySem.W.mg_of X G a_check_end,
    f_check_parts := f_check_parts, fd_check_parts := _, F_check_parts := F_check_parts, b_check_parts := bb_check_parts,
    g_check_parts := PySem.W.mg_of X G a_check_parts,
    f_digits := f_digits, fd_digits := _, F_digits := F_digits, b_digits := bb_digits,
    g_digits := PySem.W.mg_of X G a_digits,
    f_read_numbers := f_read_numbers, fd_read_numbers := _, F_read_numbers := F_read_numbers, b_read_numbers := bb_read_numbers,
    g_read_numbers := PySem.W.mg_of X G a_read_numbers,
    f_read := f_read, fd_read := _, F_read := F_read, b_read := bb_read,
    g_read := PySem.W.mg_of X G a_read,
    f__law_raised := f__law_raised, fd__law_raised := _, F__law_raised := F__law_raised, b__law_raised := bb__law_raised,
    g__law_raised := PySem.W.mg_of X G a__law_raised,
    f_law := fa, fd_law := _, F_law := F_law, b_law := bb_law,
    g_law := PySem.W.mg_of X G a_law,
    z_ValueError := PySem.W.mg_none_of X G z_ValueError,
    z_bool := PySem.W.mg_none_of X G z_bool,
    z_enumerate := PySem.W.mg_none_of X G z_enumerate,
    z_int := PySem.W.mg_none_of X G z_int,
    z_isinstance := PySem.W.mg_none_of X G z_isinstance,
    z_len := PySem.W.mg_none_of X G z_len,
    z_list := PySem.W.mg_none_of X G z_list,
    z_range := PySem.W.mg_none_of X G z_range,
    z_str := PySem.W.mg_none_of X G z_str,
    z_tuple := PySem.W.mg_none_of X G z_tuple,
    C_Rule := C_Rule, c_Rule := cc_Rule, g_Rule := PySem.W.mg_of X G a_Rule, mk_Rule := ⟨mm_Rule, a_Rule___init__, i_Rule___init__, kc_Rule⟩,
    n__signs := n__signs,
    n__window := n__window,
    n__words := n__words,
    n__least := n__least,
    n__most := n__most,
    pp_signs := pp_signs, pg_signs := pg_signs, pd_signs := _, p_signs := ⟨ap_signs, gp_signs, tp_signs, ⟨_, rp_signs⟩⟩, pb_signs := bp_signs,
    ok_signs := fn_getter l_p_signs c_p_signs scp_signs rfl rfl cc_Rule n__signs,
    pp_window := pp_window, pg_window := pg_window, pd_window := _, p_window := ⟨ap_window, gp_window, tp_window, ⟨_, rp_window⟩⟩, pb_window := bp_window,
    ok_window := fn_getter l_p_window c_p_window scp_window rfl rfl cc_Rule n__window,
    E_BadLengths := E_BadLengths, g_BadLengths := PySem.W.mg_of X G a_BadLengths, x_BadLengths := x_BadLengths, k_BadLengths := k_BadLengths, rs_BadLengths := fun e => raises_own (e ▸ b_BadLengths) (e ▸ t_BadLengths),
    E_BadLine := E_BadLine, g_BadLine := PySem.W.mg_of X G a_BadLine, k_BadLine := k_BadLine, rs_BadLine := fun e => raises_own (e ▸ b_BadLine) (e ▸ t_BadLine),
    E_BadNumber := E_BadNumber, g_BadNumber := PySem.W.mg_of X G a_BadNumber, x_BadNumber := x_BadNumber, k_BadNumber := k_BadNumber, rs_BadNumber := fun e => raises_own (e ▸ b_BadNumber) (e ▸ t_BadNumber),
    E_BadSeen := E_BadSeen, g_BadSeen := PySem.W.mg_of X G a_BadSeen, k_BadSeen := k_BadSeen, rs_BadSeen := fun e => raises_own (e ▸ b_BadSeen) (e ▸ t_BadSeen),
    E_BadSigns := E_BadSigns, g_BadSigns := PySem.W.mg_of X G a_BadSigns, x_BadSigns := x_BadSigns, k_BadSigns := k_BadSigns, rs_BadSigns := fun e => raises_own (e ▸ b_BadSigns) (e ▸ t_BadSigns),
    E_BadText := E_BadText, g_BadText := PySem.W.mg_of X G a_BadText, x_BadText := x_BadText, k_BadText := k_BadText, rs_BadText := fun e => raises_own (e ▸ b_BadText) (e ▸ t_BadText),
    E_BadWindow := E_BadWindow, g_BadWindow := PySem.W.mg_of X G a_BadWindow, x_BadWindow := x_BadWindow, k_BadWindow := k_BadWindow, rs_BadWindow := fun e => raises_own (e ▸ b_BadWindow) (e ▸ t_BadWindow),
    E_BadWords := E_BadWords, g_BadWords := PySem.W.mg_of X G a_BadWords, k_BadWords := k_BadWords, rs_BadWords := fun e => raises_own (e ▸ b_BadWords) (e ▸ t_BadWords),
    E_CutError := E_CutError, g_CutError := PySem.W.mg_of X G a_CutError, x_CutError := x_CutError, k_CutError := k_CutError, rs_CutError := fun e => raises_own (e ▸ b_CutError) (e ▸ t_CutError),
    E_TooMany := E_TooMany, g_TooMany := PySem.W.mg_of X G a_TooMany, x_TooMany := x_TooMany, k_TooMany := k_TooMany, rs_TooMany := fun e => raises_own (e ▸ b_TooMany) (e ▸ t_TooMany),
    E_Unlike := E_Unlike, g_Unlike := PySem.W.mg_of X G a_Unlike, x_Unlike := x_Unlike, k_Unlike := k_Unlike, rs_Unlike := fun e => raises_own (e ▸ b_Unlike) (e ▸ t_Unlike),
    f_BadLine___init__ := f_BadLine___init__, fd_BadLine___init__ := _, F_BadLine___init__ := F_BadLine___init__, b_BadLine___init__ := bb_BadLine___init__,
    o_BadLine := ⟨⟨nm_BadLine, qq_BadLine, NN_BadLine, bs_BadLine, _, sn_BadLine, su_BadLine, ab_BadLine, co_BadLine, dd_BadLine, m0_BadLine, m1_BadLine, m2_BadLine, m3_BadLine, m5_BadLine, xl_BadLine, by rfl⟩, sa_BadLine, b_BadLine, t_BadLine, k_BadLine⟩,
    nf2_BadLine := nf2_BadLine,
    in_BadLine := in_BadLine, ti_BadLine := ti_BadLine, nf_BadLine := nf_BadLine, xf_BadLine := ⟨gx_BadLine, hx_BadLine, b_BadLine, dx_BadLine⟩,
    f_BadSeen___init__ := f_BadSeen___init__, fd_BadSeen___init__ := _, F_BadSeen___init__ := F_BadSeen___init__, b_BadSeen___init__ := bb_BadSeen___init__,
    o_BadSeen := ⟨⟨nm_BadSeen, qq_BadSeen, NN_BadSeen, bs_BadSeen, _, sn_BadSeen, su_BadSeen, ab_BadSeen, co_BadSeen, dd_BadSeen, m0_BadSeen, m1_BadSeen, m2_BadSeen, m3_BadSeen, m5_BadSeen, xl_BadSeen, by rfl⟩, sa_BadSeen, b_BadSeen, t_BadSeen, k_BadSeen⟩,
    in_BadSeen := in_BadSeen, ti_BadSeen := ti_BadSeen, nf_BadSeen := nf_BadSeen, xf_BadSeen := ⟨gx_BadSeen, hx_BadSeen, b_BadSeen, dx_BadSeen⟩,
    f_BadWords___init__ := f_BadWords___init__, fd_BadWords___init__ := _, F_BadWords___init__ := F_BadWords___init__, b_BadWords___init__ := bb_BadWords___init__,
    o_BadWords := ⟨⟨nm_BadWords, qq_BadWords, NN_BadWords, bs_BadWords, _, sn_BadWords, su_BadWords, ab_BadWords, co_BadWords, dd_BadWords, m0_BadWords, m1_BadWords, m2_BadWords, m3_BadWords, m5_BadWords, xl_BadWords, by rfl⟩, sa_BadWords, b_BadWords, t_BadWords, k_BadWords⟩,
    in_BadWords := in_BadWords, ti_BadWords := ti_BadWords, nf_BadWords := nf_BadWords, xf_BadWords := ⟨gx_BadWords, hx_BadWords, b_BadWords, dx_BadWords⟩,
    ecs_all := fun c hc C h => by
      simp only [EXS, List.mem_cons, List.not_mem_nil, or_false] at hc
      rcases hc with rfl | rfl | rfl | rfl | rfl | rfl | rfl | rfl | rfl | rfl
      · rw [one_addr h (PySem.W.mg_of X G a_BadSigns)]
        exact ⟨vg_BadSigns, vk_BadSigns, b_BadSigns, vd_BadSigns, va_BadSigns, vn, vt, vm_BadSigns⟩
      · rw [one_addr h (PySem.W.mg_of X G a_BadWindow)]
        exact ⟨vg_BadWindow, vk_BadWindow, b_BadWindow, vd_BadWindow, va_BadWindow, vn, vt, vm_BadWindow⟩
      · rw [one_addr h (PySem.W.mg_of X G a_BadLengths)]
        exact ⟨vg_BadLengths, vk_BadLengths, b_BadLengths, vd_BadLengths, va_BadLengths, vn, vt, vm_BadLengths⟩
      · rw [one_addr h (PySem.W.mg_of X G a_BadText)]
        exact ⟨vg_BadText, vk_BadText, b_BadText, vd_BadText, va_BadText, vn, vt, vm_BadText⟩
      · rw [one_addr h (PySem.W.mg_of X G a_BadNumber)]
        exact ⟨vg_BadNumber, vk_BadNumber, b_BadNumber, vd_BadNumber, va_BadNumber, vn, vt, vm_BadNumber⟩
      · rw [one_addr h (PySem.W.mg_of X G a_Unlike)]
        exact ⟨vg_Unlike, vk_Unlike, b_Unlike, vd_Unlike, va_Unlike, vn, vt, vm_Unlike⟩
      · rw [one_addr h (PySem.W.mg_of X G a_TooMany)]
        exact ⟨vg_TooMany, vk_TooMany, b_TooMany, vd_TooMany, va_TooMany, vn, vt, vm_TooMany⟩
      · rw [one_addr h (PySem.W.mg_of X G a_BadWords)]
        exact ⟨vg_BadWords, vk_BadWords, b_BadWords, vd_BadWords, va_BadWords, vn, vt, vm_BadWords⟩
      · rw [one_addr h (PySem.W.mg_of X G a_BadSeen)]
        exact ⟨vg_BadSeen, vk_BadSeen, b_BadSeen, vd_BadSeen, va_BadSeen, vn, vt, vm_BadSeen⟩
      · rw [one_addr h (PySem.W.mg_of X G a_BadLine)]
        exact ⟨vg_BadLine, vk_BadLine, b_BadLine, vd_BadLine, va_BadLine, vn, vt, vm_BadLine⟩,
    kv_BadLengths := fun c hc C h => by
      simp only [EXS, List.mem_cons, List.not_mem_nil, or_false] at hc
      rcases hc with rfl | rfl | rfl | rfl | rfl | rfl | rfl | rfl | rfl | rfl
      · rw [one_addr h (PySem.W.mg_of X G a_BadSigns)]
        exact (kit_subF xv_BadSigns_BadLengths xv_BadLengths_BadLengths vi_BadLengths t_BadLengths).trans (by decide +kernel)
      · rw [one_addr h (PySem.W.mg_of X G a_BadWindow)]
        exact (kit_subF xv_BadWindow_BadLengths xv_BadLengths_BadLengths vi_BadLengths t_BadLengths).trans (by decide +kernel)
      · rw [one_addr h (PySem.W.mg_of X G a_BadLengths)]
        exact (kit_sub xv_BadLengths_BadLengths vi_BadLengths t_BadLengths).trans (by decide +kernel)
      · rw [one_addr h (PySem.W.mg_of X G a_BadText)]
        exact (kit_subF xv_BadText_BadLengths xv_BadLengths_BadLengths vi_BadLengths t_BadLengths).trans (by decide +kernel)
      · rw [one_addr h (PySem.W.mg_of X G a_BadNumber)]
        exact (kit_subF xv_BadNumber_BadLengths xv_BadLengths_BadLengths vi_BadLengths t_BadLengths).trans (by decide +kernel)
      · rw [one_addr h (PySem.W.mg_of X G a_Unlike)]
        exact (kit_subF xv_Unlike_BadLengths xv_BadLengths_BadLengths vi_BadLengths t_BadLengths).trans (by decide +kernel)
      · rw [one_addr h (PySem.W.mg_of X G a_TooMany)]
        exact (kit_subF xv_TooMany_BadLengths xv_BadLengths_BadLengths vi_BadLengths t_BadLengths).trans (by decide +kernel)
      · rw [one_addr h (PySem.W.mg_of X G a_BadWords)]
        exact (kit_subF xv_BadWords_BadLengths xv_BadLengths_BadLengths vi_BadLengths t_BadLengths).trans (by decide +kernel)
      · rw [one_addr h (PySem.W.mg_of X G a_BadSeen)]
        exact (kit_subF xv_BadSeen_BadLengths xv_BadLengths_BadLengths vi_BadLengths t_BadLengths).trans (by decide +kernel)
      · rw [one_addr h (PySem.W.mg_of X G a_BadLine)]
        exact (kit_subF xv_BadLine_BadLengths xv_BadLengths_BadLengths vi_BadLengths t_BadLengths).trans (by decide +kernel),
    kv_BadLine := fun c hc C h => by
      simp only [EXS, List.mem_cons, List.not_mem_nil, or_false] at hc
      rcases hc with rfl | rfl | rfl | rfl | rfl | rfl | rfl | rfl | rfl | rfl
      · rw [one_addr h (PySem.W.mg_of X G a_BadSigns)]
        exact (kit_subF xv_BadSigns_BadLine xv_BadLine_BadLine vi_BadLine t_BadLine).trans (by decide +kernel)
      · rw [one_addr h (PySem.W.mg_of X G a_BadWindow)]
        exact (kit_subF xv_BadWindow_BadLine xv_BadLine_BadLine vi_BadLine t_BadLine).trans (by decide +kernel)
      · rw [one_addr h (PySem.W.mg_of X G a_BadLengths)]
        exact (kit_subF xv_BadLengths_BadLine xv_BadLine_BadLine vi_BadLine t_BadLine).trans (by decide +kernel)
      · rw [one_addr h (PySem.W.mg_of X G a_BadText)]
        exact (kit_subF xv_BadText_BadLine xv_BadLine_BadLine vi_BadLine t_BadLine).trans (by decide +kernel)
      · rw [one_addr h (PySem.W.mg_of X G a_BadNumber)]
        exact (kit_subF xv_BadNumber_BadLine xv_BadLine_BadLine vi_BadLine t_BadLine).trans (by decide +kernel)
      · rw [one_addr h (PySem.W.mg_of X G a_Unlike)]
        exact (kit_subF xv_Unlike_BadLine xv_BadLine_BadLine vi_BadLine t_BadLine).trans (by decide +kernel)
      · rw [one_addr h (PySem.W.mg_of X G a_TooMany)]
        exact (kit_subF xv_TooMany_BadLine xv_BadLine_BadLine vi_BadLine t_BadLine).trans (by decide +kernel)
      · rw [one_addr h (PySem.W.mg_of X G a_BadWords)]
        exact (kit_subF xv_BadWords_BadLine xv_BadLine_BadLine vi_BadLine t_BadLine).trans (by decide +kernel)
      · rw [one_addr h (PySem.W.mg_of X G a_BadSeen)]
        exact (kit_subF xv_BadSeen_BadLine xv_BadLine_BadLine vi_BadLine t_BadLine).trans (by decide +kernel)
      · rw [one_addr h (PySem.W.mg_of X G a_BadLine)]
        exact (kit_sub xv_BadLine_BadLine vi_BadLine t_BadLine).trans (by decide +kernel),
    kv_BadNumber := fun c hc C h => by
      simp only [EXS, List.mem_cons, List.not_mem_nil, or_false] at hc
      rcases hc with rfl | rfl | rfl | rfl | rfl | rfl | rfl | rfl | rfl | rfl
      · rw [one_addr h (PySem.W.mg_of X G a_BadSigns)]
        exact (kit_subF xv_BadSigns_BadNumber xv_BadNumber_BadNumber vi_BadNumber t_BadNumber).trans (by decide +kernel)
      · rw [one_addr h (PySem.W.mg_of X G a_BadWindow)]
        exact (kit_subF xv_BadWindow_BadNumber xv_BadNumber_BadNumber vi_BadNumber t_BadNumber).trans (by decide +kernel)
      · rw [one_addr h (PySem.W.mg_of X G a_BadLengths)]
        exact (kit_subF xv_BadLengths_BadNumber xv_BadNumber_BadNumber vi_BadNumber t_BadNumber).trans (by decide +kernel)
      · rw [one_addr h (PySem.W.mg_of X G a_BadText)]
        exact (kit_subF xv_BadText_BadNumber xv_BadNumber_BadNumber vi_BadNumber t_BadNumber).trans (by decide +kernel)
      · rw [one_addr h (PySem.W.mg_of X G a_BadNumber)]
        exact (kit_sub xv_BadNumber_BadNumber vi_BadNumber t_BadNumber).trans (by decide +kernel)
      · rw [one_addr h (PySem.W.mg_of X G a_Unlike)]
        exact (kit_subF xv_Unlike_BadNumber xv_BadNumber_BadNumber vi_BadNumber t_BadNumber).trans (by decide +kernel)
      · rw [one_addr h (PySem.W.mg_of X G a_TooMany)]
        exact (kit_subF xv_TooMany_BadNumber xv_BadNumber_BadNumber vi_BadNumber t_BadNumber).trans (by decide +kernel)
      · rw [one_addr h (PySem.W.mg_of X G a_BadWords)]
        exact (kit_subF xv_BadWords_BadNumber xv_BadNumber_BadNumber vi_BadNumber t_BadNumber).trans (by decide +kernel)
      · rw [one_addr h (PySem.W.mg_of X G a_BadSeen)]
        exact (kit_subF xv_BadSeen_BadNumber xv_BadNumber_BadNumber vi_BadNumber t_BadNumber).trans (by decide +kernel)
      · rw [one_addr h (PySem.W.mg_of X G a_BadLine)]
        exact (kit_subF xv_BadLine_BadNumber xv_BadNumber_BadNumber vi_BadNumber t_BadNumber).trans (by decide +kernel),
    kv_BadSeen := fun c hc C h => by
      simp only [EXS, List.mem_cons, List.not_mem_nil, or_false] at hc
      rcases hc with rfl | rfl | rfl | rfl | rfl | rfl | rfl | rfl | rfl | rfl
      · rw [one_addr h (PySem.W.mg_of X G a_BadSigns)]
        exact (kit_subF xv_BadSigns_BadSeen xv_BadSeen_BadSeen vi_BadSeen t_BadSeen).trans (by decide +kernel)
      · rw [one_addr h (PySem.W.mg_of X G a_BadWindow)]
        exact (kit_subF xv_BadWindow_BadSeen xv_BadSeen_BadSeen vi_BadSeen t_BadSeen).trans (by decide +kernel)
      · rw [one_addr h (PySem.W.mg_of X G a_BadLengths)]
        exact (kit_subF xv_BadLengths_BadSeen xv_BadSeen_BadSeen vi_BadSeen t_BadSeen).trans (by decide +kernel)
      · rw [one_addr h (PySem.W.mg_of X G a_BadText)]
        exact (kit_subF xv_BadText_BadSeen xv_BadSeen_BadSeen vi_BadSeen t_BadSeen).trans (by decide +kernel)
      · rw [one_addr h (PySem.W.mg_of X G a_BadNumber)]
        exact (kit_subF xv_BadNumber_BadSeen xv_BadSeen_BadSeen vi_BadSeen t_BadSeen).trans (by decide +kernel)
      · rw [one_addr h (PySem.W.mg_of X G a_Unlike)]
        exact (kit_subF xv_Unlike_BadSeen xv_BadSeen_BadSeen vi_BadSeen t_BadSeen).trans (by decide +kernel)
      · rw [one_addr h (PySem.W.mg_of X G a_TooMany)]
        exact (kit_subF xv_TooMany_BadSeen xv_BadSeen_BadSeen vi_BadSeen t_BadSeen).trans (by decide +kernel)
      · rw [one_addr h (PySem.W.mg_of X G a_BadWords)]
        exact (kit_subF xv_BadWords_BadSeen xv_BadSeen_BadSeen vi_BadSeen t_BadSeen).trans (by decide +kernel)
      · rw [one_addr h (PySem.W.mg_of X G a_BadSeen)]
        exact (kit_sub xv_BadSeen_BadSeen vi_BadSeen t_BadSeen).trans (by decide +kernel)
      · rw [one_addr h (PySem.W.mg_of X G a_BadLine)]
        exact (kit_subF xv_BadLine_BadSeen xv_BadSeen_BadSeen vi_BadSeen t_BadSeen).trans (by decide +kernel),
    kv_BadSigns := fun c hc C h => by
      simp only [EXS, List.mem_cons, List.not_mem_nil, or_false] at hc
      rcases hc with rfl | rfl | rfl | rfl | rfl | rfl | rfl | rfl | rfl | rfl
      · rw [one_addr h (PySem.W.mg_of X G a_BadSigns)]
        exact (kit_sub xv_BadSigns_BadSigns vi_BadSigns t_BadSigns).trans (by decide +kernel)
      · rw [one_addr h (PySem.W.mg_of X G a_BadWindow)]
        exact (kit_subF xv_BadWindow_BadSigns xv_BadSigns_BadSigns vi_BadSigns t_BadSigns).trans (by decide +kernel)
      · rw [one_addr h (PySem.W.mg_of X G a_BadLengths)]
        exact (kit_subF xv_BadLengths_BadSigns xv_BadSigns_BadSigns vi_BadSigns t_BadSigns).trans (by decide +kernel)
      · rw [one_addr h (PySem.W.mg_of X G a_BadText)]
        exact (kit_subF xv_BadText_BadSigns xv_BadSigns_BadSigns vi_BadSigns t_BadSigns).trans (by decide +kernel)
      · rw [one_addr h (PySem.W.mg_of X G a_BadNumber)]
        exact (kit_subF xv_BadNumber_BadSigns xv_BadSigns_BadSigns vi_BadSigns t_BadSigns).trans (by decide +kernel)
      · rw [one_addr h (PySem.W.mg_of X G a_Unlike)]
        exact (kit_subF xv_Unlike_BadSigns xv_BadSigns_BadSigns vi_BadSigns t_BadSigns).trans (by decide +kernel)
      · rw [one_addr h (PySem.W.mg_of X G a_TooMany)]
        exact (kit_subF xv_TooMany_BadSigns xv_BadSigns_BadSigns vi_BadSigns t_BadSigns).trans (by decide +kernel)
      · rw [one_addr h (PySem.W.mg_of X G a_BadWords)]
        exact (kit_subF xv_BadWords_BadSigns xv_BadSigns_BadSigns vi_BadSigns t_BadSigns).trans (by decide +kernel)
      · rw [one_addr h (PySem.W.mg_of X G a_BadSeen)]
        exact (kit_subF xv_BadSeen_BadSigns xv_BadSigns_BadSigns vi_BadSigns t_BadSigns).trans (by decide +kernel)
      · rw [one_addr h (PySem.W.mg_of X G a_BadLine)]
        exact (kit_subF xv_BadLine_BadSigns xv_BadSigns_BadSigns vi_BadSigns t_BadSigns).trans (by decide +kernel),
    kv_BadText := fun c hc C h => by
      simp only [EXS, List.mem_cons, List.not_mem_nil, or_false] at hc
      rcases hc with rfl | rfl | rfl | rfl | rfl | rfl | rfl | rfl | rfl | rfl
      · rw [one_addr h (PySem.W.mg_of X G a_BadSigns)]
        exact (kit_subF xv_BadSigns_BadText xv_BadText_BadText vi_BadText t_BadText).trans (by decide +kernel)
      · rw [one_addr h (PySem.W.mg_of X G a_BadWindow)]
        exact (kit_subF xv_BadWindow_BadText xv_BadText_BadText vi_BadText t_BadText).trans (by decide +kernel)
      · rw [one_addr h (PySem.W.mg_of X G a_BadLengths)]
        exact (kit_subF xv_BadLengths_BadText xv_BadText_BadText vi_BadText t_BadText).trans (by decide +kernel)
      · rw [one_addr h (PySem.W.mg_of X G a_BadText)]
        exact (kit_sub xv_BadText_BadText vi_BadText t_BadText).trans (by decide +kernel)
      · rw [one_addr h (PySem.W.mg_of X G a_BadNumber)]
        exact (kit_subF xv_BadNumber_BadText xv_BadText_BadText vi_BadText t_BadText).trans (by decide +kernel)
      · rw [one_addr h (PySem.W.mg_of X G a_Unlike)]
        exact (kit_subF xv_Unlike_BadText xv_BadText_BadText vi_BadText t_BadText).trans (by decide +kernel)
      · rw [one_addr h (PySem.W.mg_of X G a_TooMany)]
        exact (kit_subF xv_TooMany_BadText xv_BadText_BadText vi_BadText t_BadText).trans (by decide +kernel)
      · rw [one_addr h (PySem.W.mg_of X G a_BadWords)]
        exact (kit_subF xv_BadWords_BadText xv_BadText_BadText vi_BadText t_BadText).trans (by decide +kernel)
      · rw [one_addr h (PySem.W.mg_of X G a_BadSeen)]
        exact (kit_subF xv_BadSeen_BadText xv_BadText_BadText vi_BadText t_BadText).trans (by decide +kernel)
      · rw [one_addr h (PySem.W.mg_of X G a_BadLine)]
        exact (kit_subF xv_BadLine_BadText xv_BadText_BadText vi_BadText t_BadText).trans (by decide +kernel),
    kv_BadWindow := fun c hc C h => by
      simp only [EXS, List.mem_cons, List.not_mem_nil, or_false] at hc
      rcases hc with rfl | rfl | rfl | rfl | rfl | rfl | rfl | rfl | rfl | rfl
      · rw [one_addr h (PySem.W.mg_of X G a_BadSigns)]
        exact (kit_subF xv_BadSigns_BadWindow xv_BadWindow_BadWindow vi_BadWindow t_BadWindow).trans (by decide +kernel)
      · rw [one_addr h (PySem.W.mg_of X G a_BadWindow)]
        exact (kit_sub xv_BadWindow_BadWindow vi_BadWindow t_BadWindow).trans (by decide +kernel)
      · rw [one_addr h (PySem.W.mg_of X G a_BadLengths)]
        exact (kit_subF xv_BadLengths_BadWindow xv_BadWindow_BadWindow vi_BadWindow t_BadWindow).trans (by decide +kernel)
      · rw [one_addr h (PySem.W.mg_of X G a_BadText)]
        exact (kit_subF xv_BadText_BadWindow xv_BadWindow_BadWindow vi_BadWindow t_BadWindow).trans (by decide +kernel)
      · rw [one_addr h (PySem.W.mg_of X G a_BadNumber)]
        exact (kit_subF xv_BadNumber_BadWindow xv_BadWindow_BadWindow vi_BadWindow t_BadWindow).trans (by decide +kernel)
      · rw [one_addr h (PySem.W.mg_of X G a_Unlike)]
        exact (kit_subF xv_Unlike_BadWindow xv_BadWindow_BadWindow vi_BadWindow t_BadWindow).trans (by decide +kernel)
      · rw [one_addr h (PySem.W.mg_of X G a_TooMany)]
        exact (kit_subF xv_TooMany_BadWindow xv_BadWindow_BadWindow vi_BadWindow t_BadWindow).trans (by decide +kernel)
      · rw [one_addr h (PySem.W.mg_of X G a_BadWords)]
        exact (kit_subF xv_BadWords_BadWindow xv_BadWindow_BadWindow vi_BadWindow t_BadWindow).trans (by decide +kernel)
      · rw [one_addr h (PySem.W.mg_of X G a_BadSeen)]
        exact (kit_subF xv_BadSeen_BadWindow xv_BadWindow_BadWindow vi_BadWindow t_BadWindow).trans (by decide +kernel)
      · rw [one_addr h (PySem.W.mg_of X G a_BadLine)]
        exact (kit_subF xv_BadLine_BadWindow xv_BadWindow_BadWindow vi_BadWindow t_BadWindow).trans (by decide +kernel),
    kv_BadWords := fun c hc C h => by
      simp only [EXS, List.mem_cons, List.not_mem_nil, or_false] at hc
      rcases hc with rfl | rfl | rfl | rfl | rfl | rfl | rfl | rfl | rfl | rfl
      · rw [one_addr h (PySem.W.mg_of X G a_BadSigns)]
        exact (kit_subF xv_BadSigns_BadWords xv_BadWords_BadWords vi_BadWords t_BadWords).trans (by decide +kernel)
      · rw [one_addr h (PySem.W.mg_of X G a_BadWindow)]
        exact (kit_subF xv_BadWindow_BadWords xv_BadWords_BadWords vi_BadWords t_BadWords).trans (by decide +kernel)
      · rw [one_addr h (PySem.W.mg_of X G a_BadLengths)]
        exact (kit_subF xv_BadLengths_BadWords xv_BadWords_BadWords vi_BadWords t_BadWords).trans (by decide +kernel)
      · rw [one_addr h (PySem.W.mg_of X G a_BadText)]
        exact (kit_subF xv_BadText_BadWords xv_BadWords_BadWords vi_BadWords t_BadWords).trans (by decide +kernel)
      · rw [one_addr h (PySem.W.mg_of X G a_BadNumber)]
        exact (kit_subF xv_BadNumber_BadWords xv_BadWords_BadWords vi_BadWords t_BadWords).trans (by decide +kernel)
      · rw [one_addr h (PySem.W.mg_of X G a_Unlike)]
        exact (kit_subF xv_Unlike_BadWords xv_BadWords_BadWords vi_BadWords t_BadWords).trans (by decide +kernel)
      · rw [one_addr h (PySem.W.mg_of X G a_TooMany)]
        exact (kit_subF xv_TooMany_BadWords xv_BadWords_BadWords vi_BadWords t_BadWords).trans (by decide +kernel)
      · rw [one_addr h (PySem.W.mg_of X G a_BadWords)]
        exact (kit_sub xv_BadWords_BadWords vi_BadWords t_BadWords).trans (by decide +kernel)
      · rw [one_addr h (PySem.W.mg_of X G a_BadSeen)]
        exact (kit_subF xv_BadSeen_BadWords xv_BadWords_BadWords vi_BadWords t_BadWords).trans (by decide +kernel)
      · rw [one_addr h (PySem.W.mg_of X G a_BadLine)]
        exact (kit_subF xv_BadLine_BadWords xv_BadWords_BadWords vi_BadWords t_BadWords).trans (by decide +kernel),
    kv_TooMany := fun c hc C h => by
      simp only [EXS, List.mem_cons, List.not_mem_nil, or_false] at hc
      rcases hc with rfl | rfl | rfl | rfl | rfl | rfl | rfl | rfl | rfl | rfl
      · rw [one_addr h (PySem.W.mg_of X G a_BadSigns)]
        exact (kit_subF xv_BadSigns_TooMany xv_TooMany_TooMany vi_TooMany t_TooMany).trans (by decide +kernel)
      · rw [one_addr h (PySem.W.mg_of X G a_BadWindow)]
        exact (kit_subF xv_BadWindow_TooMany xv_TooMany_TooMany vi_TooMany t_TooMany).trans (by decide +kernel)
      · rw [one_addr h (PySem.W.mg_of X G a_BadLengths)]
        exact (kit_subF xv_BadLengths_TooMany xv_TooMany_TooMany vi_TooMany t_TooMany).trans (by decide +kernel)
      · rw [one_addr h (PySem.W.mg_of X G a_BadText)]
        exact (kit_subF xv_BadText_TooMany xv_TooMany_TooMany vi_TooMany t_TooMany).trans (by decide +kernel)
      · rw [one_addr h (PySem.W.mg_of X G a_BadNumber)]
        exact (kit_subF xv_BadNumber_TooMany xv_TooMany_TooMany vi_TooMany t_TooMany).trans (by decide +kernel)
      · rw [one_addr h (PySem.W.mg_of X G a_Unlike)]
        exact (kit_subF xv_Unlike_TooMany xv_TooMany_TooMany vi_TooMany t_TooMany).trans (by decide +kernel)
      · rw [one_addr h (PySem.W.mg_of X G a_TooMany)]
        exact (kit_sub xv_TooMany_TooMany vi_TooMany t_TooMany).trans (by decide +kernel)
      · rw [one_addr h (PySem.W.mg_of X G a_BadWords)]
        exact (kit_subF xv_BadWords_TooMany xv_TooMany_TooMany vi_TooMany t_TooMany).trans (by decide +kernel)
      · rw [one_addr h (PySem.W.mg_of X G a_BadSeen)]
        exact (kit_subF xv_BadSeen_TooMany xv_TooMany_TooMany vi_TooMany t_TooMany).trans (by decide +kernel)
      · rw [one_addr h (PySem.W.mg_of X G a_BadLine)]
        exact (kit_subF xv_BadLine_TooMany xv_TooMany_TooMany vi_TooMany t_TooMany).trans (by decide +kernel),
    kv_Unlike := fun c hc C h => by
      simp only [EXS, List.mem_cons, List.not_mem_nil, or_false] at hc
      rcases hc with rfl | rfl | rfl | rfl | rfl | rfl | rfl | rfl | rfl | rfl
      · rw [one_addr h (PySem.W.mg_of X G a_BadSigns)]
        exact (kit_subF xv_BadSigns_Unlike xv_Unlike_Unlike vi_Unlike t_Unlike).trans (by decide +kernel)
      · rw [one_addr h (PySem.W.mg_of X G a_BadWindow)]
        exact (kit_subF xv_BadWindow_Unlike xv_Unlike_Unlike vi_Unlike t_Unlike).trans (by decide +kernel)
      · rw [one_addr h (PySem.W.mg_of X G a_BadLengths)]
        exact (kit_subF xv_BadLengths_Unlike xv_Unlike_Unlike vi_Unlike t_Unlike).trans (by decide +kernel)
      · rw [one_addr h (PySem.W.mg_of X G a_BadText)]
        exact (kit_subF xv_BadText_Unlike xv_Unlike_Unlike vi_Unlike t_Unlike).trans (by decide +kernel)
      · rw [one_addr h (PySem.W.mg_of X G a_BadNumber)]
        exact (kit_subF xv_BadNumber_Unlike xv_Unlike_Unlike vi_Unlike t_Unlike).trans (by decide +kernel)
      · rw [one_addr h (PySem.W.mg_of X G a_Unlike)]
        exact (kit_sub xv_Unlike_Unlike vi_Unlike t_Unlike).trans (by decide +kernel)
      · rw [one_addr h (PySem.W.mg_of X G a_TooMany)]
        exact (kit_subF xv_TooMany_Unlike xv_Unlike_Unlike vi_Unlike t_Unlike).trans (by decide +kernel)
      · rw [one_addr h (PySem.W.mg_of X G a_BadWords)]
        exact (kit_subF xv_BadWords_Unlike xv_Unlike_Unlike vi_Unlike t_Unlike).trans (by decide +kernel)
      · rw [one_addr h (PySem.W.mg_of X G a_BadSeen)]
        exact (kit_subF xv_BadSeen_Unlike xv_Unlike_Unlike vi_Unlike t_Unlike).trans (by decide +kernel)
      · rw [one_addr h (PySem.W.mg_of X G a_BadLine)]
        exact (kit_subF xv_BadLine_Unlike xv_Unlike_Unlike vi_Unlike t_Unlike).trans (by decide +kernel),
    kv_ValueError := fun c hc C h => by
      simp only [EXS, List.mem_cons, List.not_mem_nil, or_false] at hc
      rcases hc with rfl | rfl | rfl | rfl | rfl | rfl | rfl | rfl | rfl | rfl
      · rw [one_addr h (PySem.W.mg_of X G a_BadSigns)]
        exact kit_ve vs_BadSigns
      · rw [one_addr h (PySem.W.mg_of X G a_BadWindow)]
        exact kit_ve vs_BadWindow
      · rw [one_addr h (PySem.W.mg_of X G a_BadLengths)]
        exact kit_ve vs_BadLengths
      · rw [one_addr h (PySem.W.mg_of X G a_BadText)]
        exact kit_ve vs_BadText
      · rw [one_addr h (PySem.W.mg_of X G a_BadNumber)]
        exact kit_ve vs_BadNumber
      · rw [one_addr h (PySem.W.mg_of X G a_Unlike)]
        exact kit_ve vs_Unlike
      · rw [one_addr h (PySem.W.mg_of X G a_TooMany)]
        exact kit_ve vs_TooMany
      · rw [one_addr h (PySem.W.mg_of X G a_BadWords)]
        exact kit_ve vs_BadWords
      · rw [one_addr h (PySem.W.mg_of X G a_BadSeen)]
        exact kit_ve vs_BadSeen
      · rw [one_addr h (PySem.W.mg_of X G a_BadLine)]
        exact kit_ve vs_BadLine,
    emv_CutError := fun c hc C h => by
      simp only [EXS, List.mem_cons, List.not_mem_nil, or_false] at hc
      rcases hc with rfl | rfl | rfl | rfl | rfl | rfl | rfl | rfl | rfl | rfl
      · rw [one_addr h (PySem.W.mg_of X G a_BadSigns)]
        exact exm_sub b_CutError vx_BadSigns_CutError vi_CutError t_CutError
      · rw [one_addr h (PySem.W.mg_of X G a_BadWindow)]
        exact exm_sub b_CutError vx_BadWindow_CutError vi_CutError t_CutError
      · rw [one_addr h (PySem.W.mg_of X G a_BadLengths)]
        exact exm_sub b_CutError vx_BadLengths_CutError vi_CutError t_CutError
      · rw [one_addr h (PySem.W.mg_of X G a_BadText)]
        exact exm_sub b_CutError vx_BadText_CutError vi_CutError t_CutError
      · rw [one_addr h (PySem.W.mg_of X G a_BadNumber)]
        exact exm_sub b_CutError vx_BadNumber_CutError vi_CutError t_CutError
      · rw [one_addr h (PySem.W.mg_of X G a_Unlike)]
        exact exm_sub b_CutError vx_Unlike_CutError vi_CutError t_CutError
      · rw [one_addr h (PySem.W.mg_of X G a_TooMany)]
        exact exm_sub b_CutError vx_TooMany_CutError vi_CutError t_CutError
      · rw [one_addr h (PySem.W.mg_of X G a_BadWords)]
        exact exm_sub b_CutError vx_BadWords_CutError vi_CutError t_CutError
      · rw [one_addr h (PySem.W.mg_of X G a_BadSeen)]
        exact exm_sub b_CutError vx_BadSeen_CutError vi_CutError t_CutError
      · rw [one_addr h (PySem.W.mg_of X G a_BadLine)]
        exact exm_sub b_CutError vx_BadLine_CutError vi_CutError t_CutError,
    xv_index := fun c hc C h => by
      simp only [List.mem_cons, List.not_mem_nil, or_false] at hc
      rcases hc with rfl | rfl
      · rw [one_addr h (PySem.W.mg_of X G a_BadWords)]
        exact ⟨⟨gx_BadWords, hx_BadWords, b_BadWords, dx_BadWords⟩, nf_BadWords⟩
      · rw [one_addr h (PySem.W.mg_of X G a_BadSeen)]
        exact ⟨⟨gx_BadSeen, hx_BadSeen, b_BadSeen, dx_BadSeen⟩, nf_BadSeen⟩,
    xv_line := fun c hc C h => by
      simp only [List.mem_cons, List.not_mem_nil, or_false] at hc
      rcases hc with rfl
      · rw [one_addr h (PySem.W.mg_of X G a_BadLine)]
        exact ⟨⟨gx_BadLine, hx_BadLine, b_BadLine, dx_BadLine⟩, nf_BadLine⟩,
    xv_word := fun c hc C h => by
      simp only [List.mem_cons, List.not_mem_nil, or_false] at hc
      rcases hc with rfl
      · rw [one_addr h (PySem.W.mg_of X G a_BadLine)]
        exact ⟨⟨gx_BadLine, hx_BadLine, b_BadLine, dx_BadLine⟩, nf2_BadLine⟩,
    v_GREATEST_GOAL := .int 12, u_GREATEST_GOAL := .int 12 tk_GREATEST_GOAL, g_GREATEST_GOAL := PySem.W.mg_of X G a_GREATEST_GOAL, r_GREATEST_GOAL := ⟨_, rfl⟩, d_GREATEST_GOAL := fun H pi => by simp only [K_GREATEST_GOAL, Rep],
    v_LONGEST_TEXT := .int 400, u_LONGEST_TEXT := .int 400 tk_LONGEST_TEXT, g_LONGEST_TEXT := PySem.W.mg_of X G a_LONGEST_TEXT, r_LONGEST_TEXT := ⟨_, rfl⟩, d_LONGEST_TEXT := fun H pi => by simp only [K_LONGEST_TEXT, Rep],
    v_MOST_FURTHER_WORDS := .int 3, u_MOST_FURTHER_WORDS := .int 3 tk_MOST_FURTHER_WORDS, g_MOST_FURTHER_WORDS := PySem.W.mg_of X G a_MOST_FURTHER_WORDS, r_MOST_FURTHER_WORDS := ⟨_, rfl⟩, d_MOST_FURTHER_WORDS := fun H pi => by simp only [K_MOST_FURTHER_WORDS, Rep],
    v_MOST_PLACES := .int 30, u_MOST_PLACES := .int 30 tk_MOST_PLACES, g_MOST_PLACES := PySem.W.mg_of X G a_MOST_PLACES, r_MOST_PLACES := ⟨_, rfl⟩, d_MOST_PLACES := fun H pi => by simp only [K_MOST_PLACES, Rep],
    v_MOST_SEEN := .int 12, u_MOST_SEEN := .int 12 tk_MOST_SEEN, g_MOST_SEEN := PySem.W.mg_of X G a_MOST_SEEN, r_MOST_SEEN := ⟨_, rfl⟩, d_MOST_SEEN := fun H pi => by simp only [K_MOST_SEEN, Rep],
    v_MOST_WORDS := .int 9, u_MOST_WORDS := .int 9 tk_MOST_WORDS, g_MOST_WORDS := PySem.W.mg_of X G a_MOST_WORDS, r_MOST_WORDS := ⟨_, rfl⟩, d_MOST_WORDS := fun H pi => by simp only [K_MOST_WORDS, Rep],
    v_NO_MOST := .str "none", u_NO_MOST := .str "none" tk_NO_MOST, g_NO_MOST := PySem.W.mg_of X G a_NO_MOST, r_NO_MOST := ⟨_, rfl⟩, d_NO_MOST := fun H pi => by simp only [K_NO_MOST, Rep] }
  exact ⟨T.fd_law, fun s v => .of_eq rfl, fun base _ _ => ok_law0 hG T⟩
end Ge
namespace Ge
open PySem PySem.Spec L2 Mi
local macro_rules | `(tactic| k_is) => `(tactic| simp only [startD, List.map_cons, List.map_nil, List.length_cons, List.length_nil, List.replicate, List.cons_append, List.nil_append, List.append_nil, Nat.reduceSub, Nat.reduceAdd, R.bind_ok, R.bind_bad, R.bind_er, onR_o, onR_ok, onR_bad, onR_er, ofO_s,
  mVar_0, mVar_s, mVal_e, mBin_e, mBin1_e, mBin2_e, mTst_e, mTst1_e, mChain_e, mChain1_e, mIf_e, mSel_t, mSel_f, mAnd_e, mAnd1_t, mAnd1_f, mOr_e, mOr1_t, mOr1_f, mNot_e, mNot1_e, mAndV_e, mAndV1_t, mAndV1_f, mOrV_e, mOrV1_t, mOrV1_f, mNotV_e, mNotV1_e, Bool.not_true, Bool.not_false,
  mCons_e, mCons1_e, mCons2_e, mNil_e, mTup_e, mNew_e, mCall_e, mCall1_e, mB_e, mB1_e, unNeg_e, unNeg1_e, mIsi_e, mList_e, oSome_e, oSome1_e, oNone_e, mSl_e, mSl1_e, mSl2_e, mSl3_e, mFld_e, mCat_e, mCat1_e, mLoc_e, mApp_e, mApp1_e,
  mSeq_e, on_nx, on_rt, on_er, on_bad, mRet_e, kRet_e, mDo_e, kNx_e, mIfS_e, kIf_t, kIf_f, mAsg_e, mSet_e, kSet_e, mSkip_e, mSetIx_e, kIx0_e, kIx1_e, mFor_e, kFor_e, mItL_e, mItL1_e, mItT_e, mItT1_e, mRng1_e, mRng2_e, mRng21_e, mEn_e, mEn1_e, mPar_e, kPar_e, mLc_e, mFrz_e,
  gAddX_i, gSub_i, gLt_i, gLe_i, gLeA_i, gGt_i, gGe_i, gEq_i, gNe_i, gIs_n, gIs_i, bLen_t, bLen_l, bIntA_i, bIntA_b, bMin_i, bTup_l, List.set_cons_zero, List.set_cons_succ, *])

/-! ### draws -/
def rowD (s : List Int) (i : Nat) (e z : Int) : List D := [.lst (s.map D.int), .int i, .int e, .int z]
structure Row (m : List O) (l : Nat) (s : List Int) (i : Nat) (e z : Int) : Prop where
  at_ : m[l]? = some (.lst (rowD s i e z))
  e0 : 0 ≤ e
  z0 : 0 ≤ z
  z1 : z < 2147483647
theorem Row.lt {m : List O} {l : Nat} {s : List Int} {i : Nat} {e z : Int} (h : Row m l s i e z) : l < m.length := (List.getElem?_eq_some_iff.mp h.at_).1

theorem at4_0 {a b c d : D} : L2.atI [a, b, c, d] 0 = some a := rfl
theorem at4_1 {a b c d : D} : L2.atI [a, b, c, d] 1 = some b := rfl
theorem at4_2 {a b c d : D} : L2.atI [a, b, c, d] 2 = some c := rfl
theorem at4_3 {a b c d : D} : L2.atI [a, b, c, d] 3 = some d := rfl
theorem gIx_at {m : List O} {l : Nat} {xs : List D} {k : Int} (h : m[l]? = some (.lst xs)) : gIx m (.loc l) (.int k) = L2.atI xs k := by
  unfold gIx seqOf
  simp only [h, Option.bind_some, intOf]
theorem gIx_set {m : List O} {l : Nat} {xs : List D} {k : Int} (h : l < m.length) : gIx (m.set l (.lst xs)) (.loc l) (.int k) = L2.atI xs k := gIx_at (List.getElem?_set_self h)
theorem kIx2_1 {m : List O} {l : Nat} {a b c d v : D} {rho : List (Option D)} (h : m[l]? = some (.lst [a, b, c, d])) (hf : v.fz = true) : kIx2 v (.loc l) rho (.int 1) m = .nx rho (m.set l (.lst [a, v, c, d])) := kIx2_e (j := 1) h rfl hf
theorem kIx2_2 {m : List O} {l : Nat} {a b c d v : D} {rho : List (Option D)} (h : m[l]? = some (.lst [a, b, c, d])) (hf : v.fz = true) : kIx2 v (.loc l) rho (.int 2) m = .nx rho (m.set l (.lst [a, b, v, d])) := kIx2_e (j := 2) h rfl hf
theorem kIx2_3 {m : List O} {l : Nat} {a b c d v : D} {rho : List (Option D)} (h : m[l]? = some (.lst [a, b, c, d])) (hf : v.fz = true) : kIx2 v (.loc l) rho (.int 3) m = .nx rho (m.set l (.lst [a, b, c, v])) := kIx2_e (j := 3) h rfl hf
theorem fz_int {i : Int} : (D.int i).fz = true := rfl
theorem kIx2_2s {m : List O} {l : Nat} {a b c d v : D} {rho : List (Option D)} (hl : l < m.length) (hf : v.fz = true) : kIx2 v (.loc l) rho (.int 2) (m.set l (.lst [a, b, c, d])) = .nx rho (m.set l (.lst [a, b, v, d])) := by
  rw [kIx2_2 (List.getElem?_set_self hl) hf, List.set_set]
theorem kIx2_3s {m : List O} {l : Nat} {a b c d v : D} {rho : List (Option D)} (hl : l < m.length) (hf : v.fz = true) : kIx2 v (.loc l) rho (.int 3) (m.set l (.lst [a, b, c, d])) = .nx rho (m.set l (.lst [a, b, c, v])) := by
  rw [kIx2_3 (List.getElem?_set_self hl) hf, List.set_set]
theorem pow18 {m : List O} : gPow m (.int 10) (.int 18) = some (.int 1000000000000000000) := rfl
/-- the last steps of a draw: from e and z as they stand then -/
theorem pick_end {l : Nat} {m : List O} {s : List Int} {i : Nat} {e z n : Int} {rho2 : Option D} (h : Row m l s i e z) (hn : 0 < n) (hn2 : n < 1073741824) (M : List O) (hM : M.length = m.length) :
    ∃ (r : Int) (e' : Int), 0 ≤ r ∧ r < n ∧ Row (m.set l (.lst (rowD s i e' z))) l s i e' z ∧ outCut M ((mSeq (mIfS (mTst (mBin gGt (mBin gIx (mVar 0) (mVal (.int 2))) (mVal (.int 0)))) (mSeq (mSet 3 (mBin gMod (mB bIntA (mCons (mBin gIx (mVar 0) (mVal (.int 2))) mNil)) (mVar 1))) (mSeq (mSetIx (mBin gDiv (mBin gIx (mVar 0) (mVal (.int 2))) (mVar 1)) (mVar 0) (mVal (.int 2))) (mRet (mVar 3)))) mSkip) (mRet (mBin gMod (mBin gMod (mB bIntA (mCons (mBin gMulX (mBin gIx (mVar 0) (mVal (.int 3))) (mVal (.int 16807))) mNil)) (mVal (.int 2147483629))) (mVar 1)))) [some (.loc l), some (.int n), rho2, none] m) = .ok (.int r, m.set l (.lst (rowD s i e' z))) := by
  have hl := h.lt
  have hat := h.at_
  have g0 : ∀ k, gIx m (.loc l) (.int k) = L2.atI (rowD s i e z) k := fun k => gIx_at hat
  have k2 : ∀ v rho, v.fz = true → kIx2 v (.loc l) rho (.int 2) m = .nx rho (m.set l (.lst [.lst (s.map D.int), .int i, v, .int z])) := fun v rho hv => kIx2_2 hat hv
  have hmod : ∀ x : Int, gMod m (.int x) (.int n) = some (.int (x % n)) := fun x => gMod_i hn
  have hmod2 : ∀ x : Int, gMod m (.int x) (.int 2147483629) = some (.int (x % 2147483629)) := fun x => gMod_i (by decide)
  have hdiv : ∀ x : Int, gDiv m (.int x) (.int n) = some (.int (x / n)) := fun x => gDiv_i (decide_eq_true ⟨hn, hn2⟩)
  have hmul : gMulX m (.int z) (.int 16807) = some (.int (z * 16807)) := gMulX_i (by unfold cMul; simp)
  by_cases hpos : 0 < e
  · have hd : decide (0 < e) = true := decide_eq_true hpos
    refine ⟨e % n, e / n, Int.emod_nonneg _ (by omega), Int.emod_lt_of_pos _ hn, ⟨List.getElem?_set_self hl, Int.ediv_nonneg h.e0 (by omega), h.z0, h.z1⟩, ?_⟩
    k_is
    simp only [rowD, at4_2, ofO_s, R.bind_ok, mBin1_e, mBin2_e, mVal_e, gGt_i, hd, mTst1_e, onR_o, kIf_t, mSeq_e, mSet_e, mBin_e, mB_e, mCons_e, mVar_0, mVar_s, g0, mCons1_e, mNil_e, mCons2_e, mB1_e, bIntA_i, hmod, kSet_e, on_nx, List.set_cons_succ, List.set_cons_zero, mSetIx_e, hdiv, kIx0_e, kIx1_e, k2 _ _ fz_int, mRet_e, kRet_e, on_rt]
    rw [cut_rt fz_int (by rw [List.length_set]; omega)]
  · have hd : decide (0 < e) = false := decide_eq_false hpos
    refine ⟨z * 16807 % 2147483629 % n, e, Int.emod_nonneg _ (by omega), Int.emod_lt_of_pos _ hn, ⟨List.getElem?_set_self hl, h.e0, h.z0, h.z1⟩, ?_⟩
    have hset : m.set l (.lst (rowD s i e z)) = m := by
      obtain ⟨h1, h2⟩ := List.getElem?_eq_some_iff.mp hat
      rw [← h2, List.set_getElem_self]
    rw [hset]
    k_is
    simp only [rowD, at4_2, at4_3, ofO_s, R.bind_ok, mBin1_e, mBin2_e, mVal_e, gGt_i, hd, mTst1_e, onR_o, kIf_f, mSkip_e, mBin_e, mB_e, mCons_e, mVar_0, mVar_s, g0, mCons1_e, mNil_e, mCons2_e, mB1_e, bIntA_i, hmod, hmod2, hmul, on_nx, mRet_e, kRet_e, on_rt]
    rw [cut_rt fz_int (by omega)]
theorem pick_ok {l : Nat} {m : List O} {s : List Int} {i : Nat} {e z n : Int} (h : Row m l s i e z) (hn : 0 < n) (hn2 : n < 1073741824) :
    ∃ (r : Int) (i' : Nat) (e' z' : Int), 0 ≤ r ∧ r < n ∧ Row (m.set l (.lst (rowD s i' e' z'))) l s i' e' z' ∧ G__law_pick [.loc l, .int n] m = .ok (.int r, m.set l (.lst (rowD s i' e' z'))) := by
  have hl := h.lt
  have hat := h.at_
  have g0 : ∀ k, gIx m (.loc l) (.int k) = L2.atI (rowD s i e z) k := fun k => gIx_at hat
  -- whatever stands then, the end draws from it
  have fin : ∀ {m1 : List O} {i1 : Nat} {e1 z1 : Int} {rho2 : Option D} {b1 : MS}, Row m1 l s i1 e1 z1 → (∀ ys, m1.set l (.lst ys) = m.set l (.lst ys)) → m1.length = m.length → b1 [some (.loc l), some (.int n), none, none] m = .nx [some (.loc l), some (.int n), rho2, none] m1 →
      ∃ (r : Int) (i' : Nat) (e' z' : Int), 0 ≤ r ∧ r < n ∧ Row (m.set l (.lst (rowD s i' e' z'))) l s i' e' z' ∧ outCut m ((mSeq b1 (mSeq (mIfS (mTst (mBin gGt (mBin gIx (mVar 0) (mVal (.int 2))) (mVal (.int 0)))) (mSeq (mSet 3 (mBin gMod (mB bIntA (mCons (mBin gIx (mVar 0) (mVal (.int 2))) mNil)) (mVar 1))) (mSeq (mSetIx (mBin gDiv (mBin gIx (mVar 0) (mVal (.int 2))) (mVar 1)) (mVar 0) (mVal (.int 2))) (mRet (mVar 3)))) mSkip) (mRet (mBin gMod (mBin gMod (mB bIntA (mCons (mBin gMulX (mBin gIx (mVar 0) (mVal (.int 3))) (mVal (.int 16807))) mNil)) (mVal (.int 2147483629))) (mVar 1))))) [some (.loc l), some (.int n), none, none] m) = .ok (.int r, m.set l (.lst (rowD s i' e' z'))) := by
    intro m1 i1 e1 z1 rho2 b1 h1 hs hlen hb
    obtain ⟨r, e', r0, r1, hr, hq⟩ := pick_end (rho2 := rho2) h1 hn hn2 m hlen.symm
    refine ⟨r, i1, e', z1, r0, r1, ?_, ?_⟩
    · rw [← hs]
      exact hr
    · rw [mSeq_e, hb, on_nx, hq, hs]
  have hz := h.z0
  have hz1 := h.z1
  have ei : ((i + 1 : Nat) : Int) = (i : Int) + 1 := by omega
  by_cases he : e = 0
  · subst he
    have heq : ((0 : Int) == 0) = true := rfl
    by_cases hi : (i : Int) < (s.length : Int)
    · have hdi : decide ((i : Int) < ((s.map D.int).length : Int)) = true := by rw [List.length_map]; exact decide_eq_true hi
      have hil : i < s.length := by omega
      have hcell : gIx m (.lst (s.map D.int)) (.int i) = some (.int s[i]) := gIx_l (by rw [List.getElem?_map, List.getElem?_eq_getElem hil]; rfl)
      by_cases hc : (1000000000000000000 : Int) ≤ s[i]
      · have hd2 : decide ((1000000000000000000 : Int) ≤ s[i]) = true := decide_eq_true hc
        refine fin (m1 := m.set l (.lst (rowD s (i + 1) s[i] z))) (rho2 := some (.int s[i])) ⟨List.getElem?_set_self hl, by omega, hz, hz1⟩ (fun ys => by rw [List.set_set]) (by rw [List.length_set]) ?_
        simp only [mIfS_e, mTst_e, mBin_e, mVar_0, mVar_s, mVal_e, R.bind_ok, mBin1_e, mBin2_e, g0, rowD, at4_2, at4_1, at4_0, ofO_s, gEq_i, heq, mTst1_e, onR_o, kIf_t, mB_e, mCons_e, mCons1_e, mCons2_e, mNil_e, mB1_e, bLen_l, gLt_i, hdi, hcell, mSeq_e, mSet_e, kSet_e, List.set_cons_succ, List.set_cons_zero, on_nx,
          mSetIx_e, gAddX_i, kIx0_e, kIx1_e, kIx2_1 hat fz_int, pow18, gGe_i, hd2, kIx2_2s hl fz_int, ei]
      · have hd2 : decide ((1000000000000000000 : Int) ≤ s[i]) = false := decide_eq_false hc
        have hm1 : ∀ (m' : List O) (x : Int), gMulX m' (.int x) (.int 48271) = some (.int (x * 48271)) := fun m' x => gMulX_i (by unfold cMul; simp)
        have hm2 : ∀ (m' : List O) (x : Int), gMulX m' (.int x) (.int 69621) = some (.int (x * 69621)) := fun m' x => gMulX_i (by unfold cMul; simp)
        have hm3 : ∀ (m' : List O) (x : Int), gMod m' (.int x) (.int 2147483647) = some (.int (x % 2147483647)) := fun m' x => gMod_i (by decide)
        refine fin (m1 := m.set l (.lst (rowD s (i + 1) 0 ((z * 48271 + s[i] * 69621 + 11) % 2147483647)))) (rho2 := some (.int s[i])) ⟨List.getElem?_set_self hl, by omega, Int.emod_nonneg _ (by omega), Int.emod_lt_of_pos _ (by omega)⟩ (fun ys => by rw [List.set_set]) (by rw [List.length_set]) ?_
        simp only [mIfS_e, mTst_e, mBin_e, mVar_0, mVar_s, mVal_e, R.bind_ok, mBin1_e, mBin2_e, g0, rowD, at4_3, at4_2, at4_1, at4_0, ofO_s, gEq_i, heq, mTst1_e, onR_o, kIf_t, kIf_f, mB_e, mCons_e, mCons1_e, mCons2_e, mNil_e, mB1_e, bLen_l, gLt_i, hdi, hcell, mSeq_e, mSet_e, kSet_e, List.set_cons_succ, List.set_cons_zero, on_nx,
          mSetIx_e, gAddX_i, kIx0_e, kIx1_e, kIx2_1 hat fz_int, pow18, gGe_i, hd2, gIx_set hl, hm1, hm2, hm3, bIntA_i, kIx2_3s hl fz_int, ei]
    · have hdi : decide ((i : Int) < ((s.map D.int).length : Int)) = false := by rw [List.length_map]; exact decide_eq_false hi
      have hm1 : ∀ (m' : List O) (x : Int), gMulX m' (.int x) (.int 48271) = some (.int (x * 48271)) := fun m' x => gMulX_i (by unfold cMul; simp)
      have hm3 : ∀ (m' : List O) (x : Int), gMod m' (.int x) (.int 2147483647) = some (.int (x % 2147483647)) := fun m' x => gMod_i (by decide)
      refine fin (m1 := m.set l (.lst (rowD s i 0 ((z * 48271 + 7) % 2147483647)))) (rho2 := none) ⟨List.getElem?_set_self hl, by omega, Int.emod_nonneg _ (by omega), Int.emod_lt_of_pos _ (by omega)⟩ (fun ys => by rw [List.set_set]) (by rw [List.length_set]) ?_
      simp only [mIfS_e, mTst_e, mBin_e, mVar_0, mVar_s, mVal_e, R.bind_ok, mBin1_e, mBin2_e, g0, rowD, at4_3, at4_2, at4_1, at4_0, ofO_s, gEq_i, heq, mTst1_e, onR_o, kIf_t, kIf_f, mB_e, mCons_e, mCons1_e, mCons2_e, mNil_e, mB1_e, bLen_l, gLt_i, hdi, mSeq_e,
        mSetIx_e, gAddX_i, kIx0_e, kIx1_e, hm1, hm3, bIntA_i, kIx2_3 hat fz_int]
  · have heq : (e == 0) = false := beq_eq_false_iff_ne.mpr he
    refine fin (rho2 := none) h (fun _ => rfl) rfl ?_
    simp only [mIfS_e, mTst_e, mBin_e, mVar_0, mVal_e, R.bind_ok, mBin1_e, mBin2_e, g0, rowD, at4_2, ofO_s, gEq_i, heq, mTst1_e, onR_o, kIf_f, mSkip_e]
end Ge
namespace Ge
open PySem PySem.Spec L2 Mi
local macro_rules | `(tactic| k_is) => `(tactic| simp only [startD, List.map_cons, List.map_nil, List.length_cons, List.length_nil, List.replicate, List.cons_append, List.nil_append, List.append_nil, Nat.reduceSub, Nat.reduceAdd, R.bind_ok, R.bind_bad, R.bind_er, onR_o, onR_ok, onR_bad, onR_er, ofO_s,
  mVar_0, mVar_s, mVal_e, mBin_e, mBin1_e, mBin2_e, mTst_e, mTst1_e, mChain_e, mChain1_e, mIf_e, mSel_t, mSel_f, mAnd_e, mAnd1_t, mAnd1_f, mOr_e, mOr1_t, mOr1_f, mNot_e, mNot1_e, mAndV_e, mAndV1_t, mAndV1_f, mOrV_e, mOrV1_t, mOrV1_f, mNotV_e, mNotV1_e, Bool.not_true, Bool.not_false,
  mCons_e, mCons1_e, mCons2_e, mNil_e, mTup_e, mNew_e, mCall_e, mCall1_e, mB_e, mB1_e, unNeg_e, unNeg1_e, mIsi_e, mList_e, oSome_e, oSome1_e, oNone_e, mSl_e, mSl1_e, mSl2_e, mSl3_e, mFld_e, mCat_e, mCat1_e, mLoc_e, mApp_e, mApp1_e,
  mSeq_e, on_nx, on_rt, on_er, on_bad, mRet_e, kRet_e, mDo_e, kNx_e, mIfS_e, kIf_t, kIf_f, mAsg_e, mSet_e, kSet_e, mSkip_e, mSetIx_e, kIx0_e, kIx1_e, mFor_e, kFor_e, mItL_e, mItL1_e, mItT_e, mItT1_e, mRng1_e, mRng2_e, mRng21_e, mEn_e, mEn1_e, mPar_e, kPar_e, mLc_e, mFrz_e,
  gAddX_i, gSub_i, gLt_i, gLe_i, gLeA_i, gGt_i, gGe_i, gEq_i, gNe_i, gIs_n, gIs_i, bLen_t, bLen_l, bIntA_i, bIntA_b, bMin_i, bTup_l, List.set_cons_zero, List.set_cons_succ, *])

theorem draws_ok (s : List Int) : G__law_draws [.scr (s.map D.int)] [] = .ok (.loc 0, [.lst (rowD s 0 0 7)]) := by
  unfold G__law_draws b__law_draws
  have h1 : mList1 (.scr (s.map D.int), ([] : List O)) = .ok (.loc 0, [.lst (s.map D.int)]) := mList1_e (m := []) rfl (fz_ints s)
  have h2 : mFrz1 [] (.loc 0, [.lst (s.map D.int)]) = .ok (.lst (s.map D.int), []) := mFrz1_l (m' := []) rfl Kept.rfl
  have h3 : mNew1 ([.lst (s.map D.int), .int 0, .int 0, .int 7], ([] : List O)) = .ok (.loc 0, [.lst [.lst (s.map D.int), .int 0, .int 0, .int 7]]) := mNew1_e (m := []) ⟨by show 4 ≤ small; decide, by simp [fzs, D.fz, fz_ints]⟩
  k_is
  rfl
/-! ### what a value is -/
/-! ### the ten cases -/
def excK (k : Nat) : D := match k with
  | 0 => .exc "BadSigns" [] []
  | 1 => .exc "BadWindow" [] []
  | 2 => .exc "BadLengths" [] []
  | 3 => .exc "BadText" [] []
  | 4 => .exc "BadNumber" [] []
  | 5 => .exc "Unlike" [] []
  | 6 => .exc "TooMany" [] []
  | 7 => .exc "BadWords" ["index"] [.int 2]
  | 8 => .exc "BadSeen" ["index"] [.int 1]
  | _ => .exc "BadLine" ["word", "line"] [.int 6, .int 1]
theorem raised_ok (R : List D) : ∀ k : Nat, k < 10 → G__law_raised [.int (k : Int)] [.lst R] = .ok (excK k, [.lst R])
  | 0, _ => by kernel_rfl
  | 1, _ => by kernel_rfl
  | 2, _ => by kernel_rfl
  | 3, _ => by kernel_rfl
  | 4, _ => by kernel_rfl
  | 5, _ => by kernel_rfl
  | 6, _ => by kernel_rfl
  | 7, _ => by kernel_rfl
  | 8, _ => by kernel_rfl
  | 9, _ => by kernel_rfl
  | k + 10, h => absurd h (by omega)
def b_rest : MS := (mSeq (mIfS (mOr (mNot (mTst (mIsiE EXS (fun _ => true) (mVar 3)))) (mTst (mBin gNe (mCall G__law_kinds (mCons (mVar 3) mNil)) (mFrz (mLc 4 (mRng1 (mVal (.int 10))) mYes (mBin gEq (mVar 2) (mVar 4))))))) (mRet (mVal (.bl false))) mSkip) (mSeq (mIfS (mAnd (mTst (mBin gInL (mVar 2) (mFrz (mNew (mCons (mVal (.int 7)) (mCons (mVal (.int 8)) mNil)))))) (mTst (mBin gNe (mFldX ["BadWords", "BadSeen"] "index" (mVar 3)) (mDix [(7, 2), (8, 1)] (mVar 2))))) (mRet (mVal (.bl false))) mSkip) (mRet (mOrV (mBin gNe (mVar 2) (mVal (.int 9))) (mBin gEq (mTup (mCons (mFldX ["BadLine"] "line" (mVar 3)) (mCons (mFldX ["BadLine"] "word" (mVar 3)) mNil))) (mTup (mCons (mVal (.int 1)) (mCons (mVal (.int 6)) mNil))))))))
theorem rest_ok (a : Option D) (R : List D) : ∀ k : Nat, k < 10 → b_rest [a, some (.loc 0), some (.int (k : Int)), some (excK k), none] [.lst R] = .rt (.bl true) [.lst R]
  | 0, _ => by kernel_rfl
  | 1, _ => by kernel_rfl
  | 2, _ => by kernel_rfl
  | 3, _ => by kernel_rfl
  | 4, _ => by kernel_rfl
  | 5, _ => by kernel_rfl
  | 6, _ => by kernel_rfl
  | 7, _ => by kernel_rfl
  | 8, _ => by kernel_rfl
  | 9, _ => by kernel_rfl
  | k + 10, h => absurd h (by omega)
theorem law_meant (ns : List Int) (hns : ns.length ≤ 63) : ∃ m, G_law [.scr (ns.map D.int)] [] = .ok (.bl true, m) := by
  have hd := draws_ok ns
  have hrow : Row [.lst (rowD ns 0 0 7)] 0 ns 0 0 7 := ⟨rfl, by decide, by decide, by decide⟩
  obtain ⟨r, i', e', z', r0, r1, _, hp⟩ := pick_ok hrow (by decide : (0 : Int) < 10) (by decide)
  obtain ⟨k, rfl⟩ : ∃ k : Nat, r = (k : Int) := ⟨r.toNat, by omega⟩
  have hk : k < 10 := by omega
  have hp : G__law_pick [.loc 0, .int 10] [.lst (rowD ns 0 0 7)] = .ok (.int k, [.lst (rowD ns i' e' z')]) := hp
  have h1 : mSet 1 (mCall G__law_draws (mCons (mVar 0) mNil)) [some (.scr (ns.map D.int)), none, none, none, none] [] = .nx [some (.scr (ns.map D.int)), some (.loc 0), none, none, none] [.lst (rowD ns 0 0 7)] := by
    rw [mSet_e, mCall_e, mCons_e, mVar_0, R.bind_ok, mCons1_e, mNil_e, R.bind_ok, mCons2_e, R.bind_ok, mCall1_e, hd]
    rfl
  have h2 : mSet 2 (mCall G__law_pick (mCons (mVar 1) (mCons (mVal (.int 10)) mNil))) [some (.scr (ns.map D.int)), some (.loc 0), none, none, none] [.lst (rowD ns 0 0 7)] = .nx [some (.scr (ns.map D.int)), some (.loc 0), some (.int k), none, none] [.lst (rowD ns i' e' z')] := by
    have ha : mCons (mVar 1) (mCons (mVal (.int 10)) mNil) [some (.scr (ns.map D.int)), some (.loc 0), none, none, none] [.lst (rowD ns 0 0 7)] = .ok ([.loc 0, .int 10], [.lst (rowD ns 0 0 7)]) := rfl
    rw [mSet_e, mCall_e, ha, R.bind_ok, mCall1_e, hp]
    rfl
  have h3 : mSet 3 (mCall G__law_raised (mCons (mVar 2) mNil)) [some (.scr (ns.map D.int)), some (.loc 0), some (.int k), none, none] [.lst (rowD ns i' e' z')] = .nx [some (.scr (ns.map D.int)), some (.loc 0), some (.int k), some (excK k), none] [.lst (rowD ns i' e' z')] := by
    have ha : mCons (mVar 2) mNil [some (.scr (ns.map D.int)), some (.loc 0), some (.int k), none, none] [.lst (rowD ns i' e' z')] = .ok ([.int k], [.lst (rowD ns i' e' z')]) := rfl
    rw [mSet_e, mCall_e, ha, R.bind_ok, mCall1_e, raised_ok _ k hk]
    rfl
  refine ⟨[], ?_⟩
  show outCut [] (mSeq (mSet 1 (mCall G__law_draws (mCons (mVar 0) mNil))) (mSeq (mSet 2 (mCall G__law_pick (mCons (mVar 1) (mCons (mVal (.int 10)) mNil)))) (mSeq (mSet 3 (mCall G__law_raised (mCons (mVar 2) mNil))) b_rest)) [some (.scr (ns.map D.int)), none, none, none, none] []) = _
  rw [mSeq_e, h1, on_nx, mSeq_e, h2, on_nx, mSeq_e, h3, on_nx, rest_ok _ _ k hk]
  rfl
end Ge
open PySem PySem.W
open PyProof.Rows
theorem PySem.Challenge.cw_cutsagain_k19_errors_apart_holds : PySem.Challenge.rw_cutsagain_k19_errors_apart.Holds := by
  w_on
  o_law
  k_head
  case hw => w_witness2
  k_fill
  refine L2.walk_of (l := PySem.Challenge.rw_cutsagain_k19_errors_apart) (n := 63) (k := 17) (x := "_law_script") (CX := fun w => L2.CX PySem.Challenge.rw_cutsagain_k19_errors_apart.prog w) (sp := fun w => Ge.spLaw _) rfl (by decide) rfl ⟨rfl, by decide, by decide⟩ (fun w h Y => PySem.W.km_in_of Y) ?F (fun _ _ a ns hl hO hS => ⟨a, ns, rfl, Mi.sqs_of hO hS, hO, hl, fun _ => rfl⟩) (fun _ _ _ _ _ h => Mi.cx_none h)
  case F =>
    intro w mg fa h KX G hmg
    refine' Ge.all_mk Ge.law_meant KX G hmg ?a_Rule ?pg_Rule ?hd_Rule ?po_Rule ?sa_Rule ?mm_Rule ?kc_Rule ?n__signs ?n__window ?n__words ?n__least ?n__most ?a__law_draws ?l__law_draws ?c__law_draws ?k__law_draws ?a__law_kinds ?l__law_kinds ?c__law_kinds ?k__law_kinds ?a__law_pick ?l__law_pick ?c__law_pick ?k__law_pick ?a_is_number ?l_is_number ?c_is_number ?k_is_number ?a_check_lengths ?l_check_lengths ?c_check_lengths ?k_check_lengths ?a_check_signs ?l_check_signs ?c_check_signs ?k_check_signs ?a_check_window ?l_check_window ?c_check_window ?k_check_window ?a_are_signs ?l_are_signs ?c_are_signs ?k_are_signs ?a_check_words ?l_check_words ?c_check_words ?k_check_words ?a_Rule___init__ ?i_Rule___init__ ?l_Rule___init__ ?c_Rule___init__ ?k_Rule___init__ ?a_check_like ?l_check_like ?c_check_like ?k_check_like ?a_parting ?l_parting ?c_parting ?k_parting ?a_alike ?l_alike ?c_alike ?k_alike ?a_is_text ?l_is_text ?c_is_text ?k_is_text ?a_check_text ?l_check_text ?c_check_text ?k_check_text ?a_cuts ?l_cuts ?c_cuts ?k_cuts ?a_all_words ?l_all_words ?c_all_words ?k_all_words ?a_check_few_words ?l_check_few_words ?c_check_few_words ?k_check_few_words ?a_check_number ?l_check_number ?c_check_number ?k_check_number ?a_fewest_words ?l_fewest_words ?c_fewest_words ?k_fewest_words ?a_first_cuts ?l_first_cuts ?c_first_cuts ?k_first_cuts ?a_is_seen ?l_is_seen ?c_is_seen ?k_is_seen ?a_check_seen ?l_check_seen ?c_check_seen ?k_check_seen ?a_fitting ?l_fitting ?c_fitting ?k_fitting ?a_check_end ?l_check_end ?c_check_end ?k_check_end ?a_check_parts ?l_check_parts ?c_check_parts ?k_check_parts ?a_digits ?l_digits ?c_digits ?k_digits ?a_read_numbers ?l_read_numbers ?c_read_numbers ?k_read_numbers ?a_read ?l_read ?c_read ?k_read ?a__law_raised ?l__law_raised ?c__law_raised ?k__law_raised ?a_law ?l_law ?c_law ?k_law ?ap_signs ?gp_signs ?tp_signs ?rp_signs ?l_p_signs ?c_p_signs ?ap_window ?gp_window ?tp_window ?rp_window ?l_p_window ?c_p_window ?z_ValueError ?z_bool ?z_enumerate ?z_int ?z_isinstance ?z_len ?z_list ?z_range ?z_str ?z_tuple ?a_BadLengths ?x_BadLengths ?k_BadLengths ?b_BadLengths ?t_BadLengths ?a_BadLine ?k_BadLine ?b_BadLine ?t_BadLine ?a_BadNumber ?x_BadNumber ?k_BadNumber ?b_BadNumber ?t_BadNumber ?a_BadSeen ?k_BadSeen ?b_BadSeen ?t_BadSeen ?a_BadSigns ?x_BadSigns ?k_BadSigns ?b_BadSigns ?t_BadSigns ?a_BadText ?x_BadText ?k_BadText ?b_BadText ?t_BadText ?a_BadWindow ?x_BadWindow ?k_BadWindow ?b_BadWindow ?t_BadWindow ?a_BadWords ?k_BadWords ?b_BadWords ?t_BadWords ?a_CutError ?x_CutError ?k_CutError ?b_CutError ?t_CutError ?a_TooMany ?x_TooMany ?k_TooMany ?b_TooMany ?t_TooMany ?a_Unlike ?x_Unlike ?k_Unlike ?b_Unlike ?t_Unlike ?nf2_BadLine ?xl_BadLine ?sa_BadLine ?gx_BadLine ?hx_BadLine ?dx_BadLine ?nf_BadLine ?in_BadLine ?ti_BadLine ?l_BadLine___init__ ?c_BadLine___init__ ?k_BadLine___init__ ?xl_BadSeen ?sa_BadSeen ?gx_BadSeen ?hx_BadSeen ?dx_BadSeen ?nf_BadSeen ?in_BadSeen ?ti_BadSeen ?l_BadSeen___init__ ?c_BadSeen___init__ ?k_BadSeen___init__ ?xl_BadWords ?sa_BadWords ?gx_BadWords ?hx_BadWords ?dx_BadWords ?nf_BadWords ?in_BadWords ?ti_BadWords ?l_BadWords___init__ ?c_BadWords___init__ ?k_BadWords___init__ ?vg_BadSigns ?vk_BadSigns ?vd_BadSigns ?va_BadSigns ?vm_BadSigns ?vs_BadSigns ?vx_BadSigns_CutError ?xv_BadSigns_BadSigns ?xv_BadSigns_BadWindow ?xv_BadSigns_BadLengths ?xv_BadSigns_BadText ?xv_BadSigns_BadNumber ?xv_BadSigns_Unlike ?xv_BadSigns_TooMany ?xv_BadSigns_BadWords ?xv_BadSigns_BadSeen ?xv_BadSigns_BadLine ?vi_BadSigns ?vg_BadWindow ?vk_BadWindow ?vd_BadWindow ?va_BadWindow ?vm_BadWindow ?vs_BadWindow ?vx_BadWindow_CutError ?xv_BadWindow_BadSigns ?xv_BadWindow_BadWindow ?xv_BadWindow_BadLengths ?xv_BadWindow_BadText ?xv_BadWindow_BadNumber ?xv_BadWindow_Unlike ?xv_BadWindow_TooMany ?xv_BadWindow_BadWords ?xv_BadWindow_BadSeen ?xv_BadWindow_BadLine ?vi_BadWindow ?vg_BadLengths ?vk_BadLengths ?vd_BadLengths ?va_BadLengths ?vm_BadLengths ?vs_BadLengths ?vx_BadLengths_CutError ?xv_BadLengths_BadSigns ?xv_BadLengths_BadWindow ?xv_BadLengths_BadLengths ?xv_BadLengths_BadText ?xv_BadLengths_BadNumber ?xv_BadLengths_Unlike ?xv_BadLengths_TooMany ?xv_BadLengths_BadWords ?xv_BadLengths_BadSeen ?xv_BadLengths_BadLine ?vi_BadLengths ?vg_BadText ?vk_BadText ?vd_BadText ?va_BadText ?vm_BadText ?vs_BadText ?vx_BadText_CutError ?xv_BadText_BadSigns ?xv_BadText_BadWindow ?xv_BadText_BadLengths ?xv_BadText_BadText ?xv_BadText_BadNumber ?xv_BadText_Unlike ?xv_BadText_TooMany ?xv_BadText_BadWords ?xv_BadText_BadSeen ?xv_BadText_BadLine ?vi_BadText ?vg_BadNumber ?vk_BadNumber ?vd_BadNumber ?va_BadNumber ?vm_BadNumber ?vs_BadNumber ?vx_BadNumber_CutError ?xv_BadNumber_BadSigns ?xv_BadNumber_BadWindow ?xv_BadNumber_BadLengths ?xv_BadNumber_BadText ?xv_BadNumber_BadNumber ?xv_BadNumber_Unlike ?xv_BadNumber_TooMany ?xv_BadNumber_BadWords ?xv_BadNumber_BadSeen ?xv_BadNumber_BadLine ?vi_BadNumber ?vg_Unlike ?vk_Unlike ?vd_Unlike ?va_Unlike ?vm_Unlike ?vs_Unlike ?vx_Unlike_CutError ?xv_Unlike_BadSigns ?xv_Unlike_BadWindow ?xv_Unlike_BadLengths ?xv_Unlike_BadText ?xv_Unlike_BadNumber ?xv_Unlike_Unlike ?xv_Unlike_TooMany ?xv_Unlike_BadWords ?xv_Unlike_BadSeen ?xv_Unlike_BadLine ?vi_Unlike ?vg_TooMany ?vk_TooMany ?vd_TooMany ?va_TooMany ?vm_TooMany ?vs_TooMany ?vx_TooMany_CutError ?xv_TooMany_BadSigns ?xv_TooMany_BadWindow ?xv_TooMany_BadLengths ?xv_TooMany_BadText ?xv_TooMany_BadNumber ?xv_TooMany_Unlike ?xv_TooMany_TooMany ?xv_TooMany_BadWords ?xv_TooMany_BadSeen ?xv_TooMany_BadLine ?vi_TooMany ?vg_BadWords ?vk_BadWords ?vd_BadWords ?va_BadWords ?vm_BadWords ?vs_BadWords ?vx_BadWords_CutError ?xv_BadWords_BadSigns ?xv_BadWords_BadWindow ?xv_BadWords_BadLengths ?xv_BadWords_BadText ?xv_BadWords_BadNumber ?xv_BadWords_Unlike ?xv_BadWords_TooMany ?xv_BadWords_BadWords ?xv_BadWords_BadSeen ?xv_BadWords_BadLine ?vi_BadWords ?vg_BadSeen ?vk_BadSeen ?vd_BadSeen ?va_BadSeen ?vm_BadSeen ?vs_BadSeen ?vx_BadSeen_CutError ?xv_BadSeen_BadSigns ?xv_BadSeen_BadWindow ?xv_BadSeen_BadLengths ?xv_BadSeen_BadText ?xv_BadSeen_BadNumber ?xv_BadSeen_Unlike ?xv_BadSeen_TooMany ?xv_BadSeen_BadWords ?xv_BadSeen_BadSeen ?xv_BadSeen_BadLine ?vi_BadSeen ?vg_BadLine ?vk_BadLine ?vd_BadLine ?va_BadLine ?vm_BadLine ?vs_BadLine ?vx_BadLine_CutError ?xv_BadLine_BadSigns ?xv_BadLine_BadWindow ?xv_BadLine_BadLengths ?xv_BadLine_BadText ?xv_BadLine_BadNumber ?xv_BadLine_Unlike ?xv_BadLine_TooMany ?xv_BadLine_BadWords ?xv_BadLine_BadSeen ?xv_BadLine_BadLine ?vi_BadLine ?vi_CutError ?vn ?vt ?a_GREATEST_GOAL ?a_LONGEST_TEXT ?a_MOST_FURTHER_WORDS ?a_MOST_PLACES ?a_MOST_SEEN ?a_MOST_WORDS ?a_NO_MOST
    (case a_Rule => k_is)
    (case pg_Rule => k_is)
    (case hd_Rule => k_is)
    (case po_Rule => k_is)
    (case sa_Rule => k_is)
    (case mm_Rule => k_is)
    (case kc_Rule => k_is)
    (case n__signs => k_is)
    (case n__window => k_is)
    (case n__words => k_is)
    (case n__least => k_is)
    (case n__most => k_is)
    (case a__law_draws => k_is)
    (case l__law_draws => k_is)
    (case c__law_draws => k_is)
    (case k__law_draws => k_is)
    (case a__law_kinds => k_is)
    (case l__law_kinds => k_is)
    (case c__law_kinds => k_is)
    (case k__law_kinds => k_is)
    (case a__law_pick => k_is)
    (case l__law_pick => k_is)
    (case c__law_pick => k_is)
    (case k__law_pick => k_is)
    (case a_is_number => k_is)
    (case l_is_number => k_is)
    (case c_is_number => k_is)
    (case k_is_number => k_is)
    (case a_check_lengths => k_is)
    (case l_check_lengths => k_is)
    (case c_check_lengths => k_is)
    (case k_check_lengths => k_is)
    (case a_check_signs => k_is)
    (case l_check_signs => k_is)
    (case c_check_signs => k_is)
    (case k_check_signs => k_is)
    (case a_check_window => k_is)
    (case l_check_window => k_is)
    (case c_check_window => k_is)
    (case k_check_window => k_is)
    (case a_are_signs => k_is)
    (case l_are_signs => k_is)
    (case c_are_signs => k_is)
    (case k_are_signs => k_is)
    (case a_check_words => k_is)
    (case l_check_words => k_is)
    (case c_check_words => k_is)
    (case k_check_words => k_is)
    (case a_Rule___init__ => k_is)
    (case i_Rule___init__ => k_is)
    (case l_Rule___init__ => k_is)
    (case c_Rule___init__ => k_is)
    (case k_Rule___init__ => k_is)
    (case a_check_like => k_is)
    (case l_check_like => k_is)
    (case c_check_like => k_is)
    (case k_check_like => k_is)
    (case a_parting => k_is)
    (case l_parting => k_is)
    (case c_parting => k_is)
    (case k_parting => k_is)
    (case a_alike => k_is)
    (case l_alike => k_is)
    (case c_alike => k_is)
    (case k_alike => k_is)
    (case a_is_text => k_is)
    (case l_is_text => k_is)
    (case c_is_text => k_is)
    (case k_is_text => k_is)
    (case a_check_text => k_is)
    (case l_check_text => k_is)
    (case c_check_text => k_is)
    (case k_check_text => k_is)
    (case a_cuts => k_is)
    (case l_cuts => k_is)
    (case c_cuts => k_is)
    (case k_cuts => k_is)
    (case a_all_words => k_is)
    (case l_all_words => k_is)
    (case c_all_words => k_is)
    (case k_all_words => k_is)
    (case a_check_few_words => k_is)
    (case l_check_few_words => k_is)
    (case c_check_few_words => k_is)
    (case k_check_few_words => k_is)
    (case a_check_number => k_is)
    (case l_check_number => k_is)
    (case c_check_number => k_is)
    (case k_check_number => k_is)
    (case a_fewest_words => k_is)
    (case l_fewest_words => k_is)
    (case c_fewest_words => k_is)
    (case k_fewest_words => k_is)
    (case a_first_cuts => k_is)
    (case l_first_cuts => k_is)
    (case c_first_cuts => k_is)
    (case k_first_cuts => k_is)
    (case a_is_seen => k_is)
    (case l_is_seen => k_is)
    (case c_is_seen => k_is)
    (case k_is_seen => k_is)
    (case a_check_seen => k_is)
    (case l_check_seen => k_is)
    (case c_check_seen => k_is)
    (case k_check_seen => k_is)
    (case a_fitting => k_is)
    (case l_fitting => k_is)
    (case c_fitting => k_is)
    (case k_fitting => k_is)
    (case a_check_end => k_is)
    (case l_check_end => k_is)
    (case c_check_end => k_is)
    (case k_check_end => k_is)
    (case a_check_parts => k_is)
    (case l_check_parts => k_is)
    (case c_check_parts => k_is)
    (case k_check_parts => k_is)
    (case a_digits => k_is)
    (case l_digits => k_is)
    (case c_digits => k_is)
    (case k_digits => k_is)
    (case a_read_numbers => k_is)
    (case l_read_numbers => k_is)
    (case c_read_numbers => k_is)
    (case k_read_numbers => k_is)
    (case a_read => k_is)
    (case l_read => k_is)
    (case c_read => k_is)
    (case k_read => k_is)
    (case a__law_raised => k_is)
    (case l__law_raised => k_is)
    (case c__law_raised => k_is)
    (case k__law_raised => k_is)
    (case a_law => k_is)
    (case l_law => k_is)
    (case c_law => k_is)
    (case k_law => k_is)
    (case ap_signs => k_is)
    (case gp_signs => k_is)
    (case tp_signs => k_is)
    (case rp_signs => k_is)
    (case l_p_signs => k_is)
    (case c_p_signs => k_is)
    (case ap_window => k_is)
    (case gp_window => k_is)
    (case tp_window => k_is)
    (case rp_window => k_is)
    (case l_p_window => k_is)
    (case c_p_window => k_is)
    (case z_ValueError => k_is)
    (case z_bool => k_is)
    (case z_enumerate => k_is)
    (case z_int => k_is)
    (case z_isinstance => k_is)
    (case z_len => k_is)
    (case z_list => k_is)
    (case z_range => k_is)
    (case z_str => k_is)
    (case z_tuple => k_is)
    (case a_BadLengths => k_is)
    (case x_BadLengths => k_exc)
    (case k_BadLengths => k_is)
    (case b_BadLengths => k_is)
    (case t_BadLengths => k_is)
    (case a_BadLine => k_is)
    (case k_BadLine => k_is)
    (case b_BadLine => k_is)
    (case t_BadLine => k_is)
    (case a_BadNumber => k_is)
    (case x_BadNumber => k_exc)
    (case k_BadNumber => k_is)
    (case b_BadNumber => k_is)
    (case t_BadNumber => k_is)
    (case a_BadSeen => k_is)
    (case k_BadSeen => k_is)
    (case b_BadSeen => k_is)
    (case t_BadSeen => k_is)
    (case a_BadSigns => k_is)
    (case x_BadSigns => k_exc)
    (case k_BadSigns => k_is)
    (case b_BadSigns => k_is)
    (case t_BadSigns => k_is)
    (case a_BadText => k_is)
    (case x_BadText => k_exc)
    (case k_BadText => k_is)
    (case b_BadText => k_is)
    (case t_BadText => k_is)
    (case a_BadWindow => k_is)
    (case x_BadWindow => k_exc)
    (case k_BadWindow => k_is)
    (case b_BadWindow => k_is)
    (case t_BadWindow => k_is)
    (case a_BadWords => k_is)
    (case k_BadWords => k_is)
    (case b_BadWords => k_is)
    (case t_BadWords => k_is)
    (case a_CutError => k_is)
    (case x_CutError => k_exc)
    (case k_CutError => k_is)
    (case b_CutError => k_is)
    (case t_CutError => k_is)
    (case a_TooMany => k_is)
    (case x_TooMany => k_exc)
    (case k_TooMany => k_is)
    (case b_TooMany => k_is)
    (case t_TooMany => k_is)
    (case a_Unlike => k_is)
    (case x_Unlike => k_exc)
    (case k_Unlike => k_is)
    (case b_Unlike => k_is)
    (case t_Unlike => k_is)
    (case nf2_BadLine => k_is)
    (case xl_BadLine => k_is)
    (case sa_BadLine => k_is)
    (case gx_BadLine => k_is)
    (case hx_BadLine => k_is)
    (case dx_BadLine => k_is)
    (case nf_BadLine => k_is)
    (case in_BadLine => k_is)
    (case ti_BadLine => k_is)
    (case l_BadLine___init__ => k_is)
    (case c_BadLine___init__ => k_is)
    (case k_BadLine___init__ => k_is)
    (case xl_BadSeen => k_is)
    (case sa_BadSeen => k_is)
    (case gx_BadSeen => k_is)
    (case hx_BadSeen => k_is)
    (case dx_BadSeen => k_is)
    (case nf_BadSeen => k_is)
    (case in_BadSeen => k_is)
    (case ti_BadSeen => k_is)
    (case l_BadSeen___init__ => k_is)
    (case c_BadSeen___init__ => k_is)
    (case k_BadSeen___init__ => k_is)
    (case xl_BadWords => k_is)
    (case sa_BadWords => k_is)
    (case gx_BadWords => k_is)
    (case hx_BadWords => k_is)
    (case dx_BadWords => k_is)
    (case nf_BadWords => k_is)
    (case in_BadWords => k_is)
    (case ti_BadWords => k_is)
    (case l_BadWords___init__ => k_is)
    (case c_BadWords___init__ => k_is)
    (case k_BadWords___init__ => k_is)
    (case vg_BadSigns => k_is)
    (case vk_BadSigns => k_is)
    (case vd_BadSigns => k_is)
    (case va_BadSigns => k_is)
    (case vm_BadSigns => k_is)
    (case vs_BadSigns => k_is)
    (case vx_BadSigns_CutError => first | rfl | k_is)
    (case xv_BadSigns_BadSigns => first | rfl | k_is)
    (case xv_BadSigns_BadWindow => first | rfl | k_is)
    (case xv_BadSigns_BadLengths => first | rfl | k_is)
    (case xv_BadSigns_BadText => first | rfl | k_is)
    (case xv_BadSigns_BadNumber => first | rfl | k_is)
    (case xv_BadSigns_Unlike => first | rfl | k_is)
    (case xv_BadSigns_TooMany => first | rfl | k_is)
    (case xv_BadSigns_BadWords => first | rfl | k_is)
    (case xv_BadSigns_BadSeen => first | rfl | k_is)
    (case xv_BadSigns_BadLine => first | rfl | k_is)
    (case vi_BadSigns => k_is)
    (case vg_BadWindow => k_is)
    (case vk_BadWindow => k_is)
    (case vd_BadWindow => k_is)
    (case va_BadWindow => k_is)
    (case vm_BadWindow => k_is)
    (case vs_BadWindow => k_is)
    (case vx_BadWindow_CutError => first | rfl | k_is)
    (case xv_BadWindow_BadSigns => first | rfl | k_is)
    (case xv_BadWindow_BadWindow => first | rfl | k_is)
    (case xv_BadWindow_BadLengths => first | rfl | k_is)
    (case xv_BadWindow_BadText => first | rfl | k_is)
    (case xv_BadWindow_BadNumber => first | rfl | k_is)
    (case xv_BadWindow_Unlike => first | rfl | k_is)
    (case xv_BadWindow_TooMany => first | rfl | k_is)
    (case xv_BadWindow_BadWords => first | rfl | k_is)
    (case xv_BadWindow_BadSeen => first | rfl | k_is)
    (case xv_BadWindow_BadLine => first | rfl | k_is)
    (case vi_BadWindow => k_is)
    (case vg_BadLengths => k_is)
    (case vk_BadLengths => k_is)
    (case vd_BadLengths => k_is)
    (case va_BadLengths => k_is)
    (case vm_BadLengths => k_is)
    (case vs_BadLengths => k_is)
    (case vx_BadLengths_CutError => first | rfl | k_is)
    (case xv_BadLengths_BadSigns => first | rfl | k_is)
    (case xv_BadLengths_BadWindow => first | rfl | k_is)
    (case xv_BadLengths_BadLengths => first | rfl | k_is)
    (case xv_BadLengths_BadText => first | rfl | k_is)
    (case xv_BadLengths_BadNumber => first | rfl | k_is)
    (case xv_BadLengths_Unlike => first | rfl | k_is)
    (case xv_BadLengths_TooMany => first | rfl | k_is)
    (case xv_BadLengths_BadWords => first | rfl | k_is)
    (case xv_BadLengths_BadSeen => first | rfl | k_is)
    (case xv_BadLengths_BadLine => first | rfl | k_is)
    (case vi_BadLengths => k_is)
    (case vg_BadText => k_is)
    (case vk_BadText => k_is)
    (case vd_BadText => k_is)
    (case va_BadText => k_is)
    (case vm_BadText => k_is)
    (case vs_BadText => k_is)
    (case vx_BadText_CutError => first | rfl | k_is)
    (case xv_BadText_BadSigns => first | rfl | k_is)
    (case xv_BadText_BadWindow => first | rfl | k_is)
    (case xv_BadText_BadLengths => first | rfl | k_is)
    (case xv_BadText_BadText => first | rfl | k_is)
    (case xv_BadText_BadNumber => first | rfl | k_is)
    (case xv_BadText_Unlike => first | rfl | k_is)
    (case xv_BadText_TooMany => first | rfl | k_is)
    (case xv_BadText_BadWords => first | rfl | k_is)
    (case xv_BadText_BadSeen => first | rfl | k_is)
    (case xv_BadText_BadLine => first | rfl | k_is)
    (case vi_BadText => k_is)
    (case vg_BadNumber => k_is)
    (case vk_BadNumber => k_is)
    (case vd_BadNumber => k_is)
    (case va_BadNumber => k_is)
    (case vm_BadNumber => k_is)
    (case vs_BadNumber => k_is)
    (case vx_BadNumber_CutError => first | rfl | k_is)
    (case xv_BadNumber_BadSigns => first | rfl | k_is)
    (case xv_BadNumber_BadWindow => first | rfl | k_is)
    (case xv_BadNumber_BadLengths => first | rfl | k_is)
    (case xv_BadNumber_BadText => first | rfl | k_is)
    (case xv_BadNumber_BadNumber => first | rfl | k_is)
    (case xv_BadNumber_Unlike => first | rfl | k_is)
    (case xv_BadNumber_TooMany => first | rfl | k_is)
    (case xv_BadNumber_BadWords => first | rfl | k_is)
    (case xv_BadNumber_BadSeen => first | rfl | k_is)
    (case xv_BadNumber_BadLine => first | rfl | k_is)
    (case vi_BadNumber => k_is)
    (case vg_Unlike => k_is)
    (case vk_Unlike => k_is)
    (case vd_Unlike => k_is)
    (case va_Unlike => k_is)
    (case vm_Unlike => k_is)
    (case vs_Unlike => k_is)
    (case vx_Unlike_CutError => first | rfl | k_is)
    (case xv_Unlike_BadSigns => first | rfl | k_is)
    (case xv_Unlike_BadWindow => first | rfl | k_is)
    (case xv_Unlike_BadLengths => first | rfl | k_is)
    (case xv_Unlike_BadText => first | rfl | k_is)
    (case xv_Unlike_BadNumber => first | rfl | k_is)
    (case xv_Unlike_Unlike => first | rfl | k_is)
    (case xv_Unlike_TooMany => first | rfl | k_is)
    (case xv_Unlike_BadWords => first | rfl | k_is)
    (case xv_Unlike_BadSeen => first | rfl | k_is)
    (case xv_Unlike_BadLine => first | rfl | k_is)
    (case vi_Unlike => k_is)
    (case vg_TooMany => k_is)
    (case vk_TooMany => k_is)
    (case vd_TooMany => k_is)
    (case va_TooMany => k_is)
    (case vm_TooMany => k_is)
    (case vs_TooMany => k_is)
    (case vx_TooMany_CutError => first | rfl | k_is)
    (case xv_TooMany_BadSigns => first | rfl | k_is)
    (case xv_TooMany_BadWindow => first | rfl | k_is)
    (case xv_TooMany_BadLengths => first | rfl | k_is)
    (case xv_TooMany_BadText => first | rfl | k_is)
    (case xv_TooMany_BadNumber => first | rfl | k_is)
    (case xv_TooMany_Unlike => first | rfl | k_is)
    (case xv_TooMany_TooMany => first | rfl | k_is)
    (case xv_TooMany_BadWords => first | rfl | k_is)
    (case xv_TooMany_BadSeen => first | rfl | k_is)
    (case xv_TooMany_BadLine => first | rfl | k_is)
    (case vi_TooMany => k_is)
    (case vg_BadWords => k_is)
    (case vk_BadWords => k_is)
    (case vd_BadWords => k_is)
    (case va_BadWords => k_is)
    (case vm_BadWords => k_is)
    (case vs_BadWords => k_is)
    (case vx_BadWords_CutError => first | rfl | k_is)
    (case xv_BadWords_BadSigns => first | rfl | k_is)
    (case xv_BadWords_BadWindow => first | rfl | k_is)
    (case xv_BadWords_BadLengths => first | rfl | k_is)
    (case xv_BadWords_BadText => first | rfl | k_is)
    (case xv_BadWords_BadNumber => first | rfl | k_is)
    (case xv_BadWords_Unlike => first | rfl | k_is)
    (case xv_BadWords_TooMany => first | rfl | k_is)
    (case xv_BadWords_BadWords => first | rfl | k_is)
    (case xv_BadWords_BadSeen => first | rfl | k_is)
    (case xv_BadWords_BadLine => first | rfl | k_is)
    (case vi_BadWords => k_is)
    (case vg_BadSeen => k_is)
    (case vk_BadSeen => k_is)
    (case vd_BadSeen => k_is)
    (case va_BadSeen => k_is)
    (case vm_BadSeen => k_is)
    (case vs_BadSeen => k_is)
    (case vx_BadSeen_CutError => first | rfl | k_is)
    (case xv_BadSeen_BadSigns => first | rfl | k_is)
    (case xv_BadSeen_BadWindow => first | rfl | k_is)
    (case xv_BadSeen_BadLengths => first | rfl | k_is)
    (case xv_BadSeen_BadText => first | rfl | k_is)
    (case xv_BadSeen_BadNumber => first | rfl | k_is)
    (case xv_BadSeen_Unlike => first | rfl | k_is)
    (case xv_BadSeen_TooMany => first | rfl | k_is)
    (case xv_BadSeen_BadWords => first | rfl | k_is)
    (case xv_BadSeen_BadSeen => first | rfl | k_is)
    (case xv_BadSeen_BadLine => first | rfl | k_is)
    (case vi_BadSeen => k_is)
    (case vg_BadLine => k_is)
    (case vk_BadLine => k_is)
    (case vd_BadLine => k_is)
    (case va_BadLine => k_is)
    (case vm_BadLine => k_is)
    (case vs_BadLine => k_is)
    (case vx_BadLine_CutError => first | rfl | k_is)
    (case xv_BadLine_BadSigns => first | rfl | k_is)
    (case xv_BadLine_BadWindow => first | rfl | k_is)
    (case xv_BadLine_BadLengths => first | rfl | k_is)
    (case xv_BadLine_BadText => first | rfl | k_is)
    (case xv_BadLine_BadNumber => first | rfl | k_is)
    (case xv_BadLine_Unlike => first | rfl | k_is)
    (case xv_BadLine_TooMany => first | rfl | k_is)
    (case xv_BadLine_BadWords => first | rfl | k_is)
    (case xv_BadLine_BadSeen => first | rfl | k_is)
    (case xv_BadLine_BadLine => first | rfl | k_is)
    (case vi_BadLine => k_is)
    (case vi_CutError => k_is)
    (case vn => k_is)
    (case vt => k_is)
    (case a_GREATEST_GOAL => k_is)
    (case a_LONGEST_TEXT => k_is)
    (case a_MOST_FURTHER_WORDS => k_is)
    (case a_MOST_PLACES => k_is)
    (case a_MOST_SEEN => k_is)
    (case a_MOST_WORDS => k_is)
    (case a_NO_MOST => k_is)
