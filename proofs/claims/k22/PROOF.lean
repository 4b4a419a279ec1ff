import PyProof.Rows.All
import Wide.All
import OpenK.AllK
import Wide.FinOn
import HandS.ForMost
import HandS.WordsExc
import HandS.ExcInit
import HandS.Deep
import HandS.Wide
import HandS.CallSlots
import HandS.Style
import HandS.TupAny
import HandS.DictComp
import HandS.ExcOwn
import HandS.ExcValue
import KE.KExcInit
import KE.KExcSuper
import PyProof.ExcBaseAll.OverflowError
import PyProof.ExcBaseAll.RuntimeError
import PyProof.ExcBaseAll.ValueError
import PyProof.ExcBaseAll.LookupError
import PyProof.Rows.FactsExc_KeyError
import HandS.TupSets
import HandS.Comp
import HandS.IsInst
import HandS.Text
import HandS.Defaults
import HandS.MakeKwOnly
import HandS.Gcd
import HandS.Star
import HandS.ExcField
import HandS.ExcIs
import KE.GoesEnum
import KE.GoesZip
import HandS.Iter
import HandS.Conv
import HandS.TupLen
import HandS.More
import HandS.Strs
import OpenK.KWalk
import PyProof.InstNe
import HandS.Dict
import KE.KExcIs
import HandS.Small
import HandS.NoneIn
import HandS.Exc
import HandS.Head0
import HandS.Head1
import HandS.Head2
import HandS.HeadEnd
import HandS.HeadHook1
import HandS.HeadHook2
import KE.KStateDown
import HandS.Head3
import PySem.Challenge.RW_liftedladders_k22_errors
set_option Elab.async false
set_option linter.all false
set_option maxRecDepth 100000
set_option maxHeartbeats 0
namespace LL
open PySem L2
/-! ## data -/
/-- a value, whole: tuples are inline; what may change stands in the virtual heap -/
inductive D where
  | non | bl (b : Bool) | int (i : Int) | str (s : Str) | tup (ds : List D) | ref (n : Nat) | ty (n : String) | cl (c : Str)
  deriving Inhabited
inductive CO where
  | lst (ds : List D) | dk (kvs : List (L2.Key × D)) | ins (c : Str) (fs : List (Str × D))
  | fz (ds : List D) | dt (kvs : List (List L2.Key × D)) | fk (kvs : List (L2.Key × D)) | xc (c f : Str) (d : D)
  deriving Inhabited
/-! ## the virtual heap: a tree by the bits of the index -/
inductive Tr where
  | nil | node (v : Option CO) (l r : Tr)
def Tr.get : Tr → List Bool → Option CO
  | .nil, _ => none
  | .node v _ _, [] => v
  | .node _ l _, false :: bs => l.get bs
  | .node _ _ r, true :: bs => r.get bs
def Tr.put (v : CO) : List Bool → Tr → Tr
  | [], .nil => .node (some v) .nil .nil
  | [], .node _ l r => .node (some v) l r
  | false :: bs, .nil => .node none (Tr.put v bs .nil) .nil
  | true :: bs, .nil => .node none .nil (Tr.put v bs .nil)
  | false :: bs, .node w l r => .node w (Tr.put v bs l) r
  | true :: bs, .node w l r => .node w l (Tr.put v bs r)
theorem Tr.get_nil (bs : List Bool) : Tr.nil.get bs = none := by cases bs <;> rfl
theorem Tr.get_put (v : CO) : ∀ (bs cs : List Bool) (t : Tr), (Tr.put v bs t).get cs = if cs = bs then some v else t.get cs
  | [], [], t => by cases t <;> rfl
  | [], c :: cs, t => by cases t <;> cases c <;> simp [Tr.put, Tr.get, Tr.get_nil]
  | b :: bs, [], t => by cases t <;> cases b <;> simp [Tr.put, Tr.get]
  | false :: bs, false :: cs, .nil => by simp [Tr.put, Tr.get, Tr.get_put v bs cs, Tr.get_nil]
  | false :: bs, false :: cs, .node _ _ _ => by simp [Tr.put, Tr.get, Tr.get_put v bs cs]
  | true :: bs, true :: cs, .nil => by simp [Tr.put, Tr.get, Tr.get_put v bs cs, Tr.get_nil]
  | true :: bs, true :: cs, .node _ _ _ => by simp [Tr.put, Tr.get, Tr.get_put v bs cs]
  | false :: bs, true :: cs, t => by cases t <;> simp [Tr.put, Tr.get, Tr.get_nil]
  | true :: bs, false :: cs, t => by cases t <;> simp [Tr.put, Tr.get, Tr.get_nil]
def bitsF : Nat → Nat → List Bool
  | 0, _ => []
  | k + 1, n => if n = 0 then [] else (n % 2 == 1) :: bitsF k (n / 2)
def bits (n : Nat) : List Bool := bitsF n n
theorem bitsF_inj : ∀ (k j n m : Nat), n ≤ k → m ≤ j → bitsF k n = bitsF j m → n = m
  | 0, 0, n, m, h1, h2, _ => by omega
  | 0, j + 1, n, m, h1, h2, h => by
    unfold bitsF at h
    by_cases hm : m = 0
    · omega
    · rw [if_neg hm] at h; cases h
  | k + 1, 0, n, m, h1, h2, h => by
    unfold bitsF at h
    by_cases hn : n = 0
    · omega
    · rw [if_neg hn] at h; cases h
  | k + 1, j + 1, n, m, h1, h2, h => by
    unfold bitsF at h
    by_cases hn : n = 0
    · by_cases hm : m = 0
      · omega
      · rw [if_pos hn, if_neg hm] at h; cases h
    · by_cases hm : m = 0
      · rw [if_neg hn, if_pos hm] at h; cases h
      · rw [if_neg hn, if_neg hm] at h
        injection h with e1 e2
        have ih := bitsF_inj k j (n / 2) (m / 2) (by omega) (by omega) e2
        have hh : n % 2 = 1 ↔ m % 2 = 1 := by
          constructor
          · intro z
            have : (m % 2 == 1) = true := by rw [← e1]; simpa using z
            simpa using this
          · intro z
            have : (n % 2 == 1) = true := by rw [e1]; simpa using z
            simpa using this
        omega
theorem bits_inj {n m : Nat} (h : bits n = bits m) : n = m := bitsF_inj n m n m (Nat.le_refl _) (Nat.le_refl _) h
structure CH where
  sz : Nat
  t : Tr
def CH.get (ch : CH) (n : Nat) : Option CO := if n < ch.sz then ch.t.get (bits n) else none
def CH.push (ch : CH) (co : CO) : CH := ⟨ch.sz + 1, ch.t.put co (bits ch.sz)⟩
def CH.put (ch : CH) (n : Nat) (co : CO) : CH := ⟨ch.sz, ch.t.put co (bits n)⟩
theorem CH.lt {ch : CH} {n : Nat} {co : CO} (h : ch.get n = some co) : n < ch.sz := by
  unfold CH.get at h
  split at h
  · assumption
  · cases h
@[simp] theorem CH.sz_push {ch : CH} {co : CO} : (ch.push co).sz = ch.sz + 1 := rfl
theorem CH.sz_put {ch : CH} {n : Nat} {co : CO} : (ch.put n co).sz = ch.sz := rfl
theorem CH.get_push (ch : CH) (co : CO) (n : Nat) : (ch.push co).get n = if n = ch.sz then some co else ch.get n := by
  show (if n < ch.sz + 1 then (ch.t.put co (bits ch.sz)).get (bits n) else none) = _
  rw [Tr.get_put]
  by_cases h : n = ch.sz
  · subst h
    rw [if_pos (Nat.lt_succ_self _), if_pos rfl, if_pos rfl]
  · rw [if_neg h, if_neg (fun e => h (bits_inj e))]
    unfold CH.get
    by_cases hl : n < ch.sz
    · rw [if_pos hl, if_pos (by omega)]
    · rw [if_neg hl, if_neg (by omega)]
@[simp] theorem CH.get_push_self {ch : CH} {co : CO} : (ch.push co).get ch.sz = some co := by rw [CH.get_push, if_pos rfl]
theorem CH.get_push_lt {ch : CH} {co : CO} {n : Nat} (h : n < ch.sz) : (ch.push co).get n = ch.get n := by rw [CH.get_push, if_neg (Nat.ne_of_lt h)]
theorem CH.get_push_some {ch : CH} {co c : CO} {n : Nat} (h : ch.get n = some c) : (ch.push co).get n = some c := by rw [CH.get_push_lt (CH.lt h), h]
theorem CH.get_put (ch : CH) (co : CO) (n m : Nat) (h : n < ch.sz) : (ch.put n co).get m = if m = n then some co else ch.get m := by
  show (if m < ch.sz then (ch.t.put co (bits n)).get (bits m) else none) = _
  rw [Tr.get_put]
  by_cases e : m = n
  · subst e
    rw [if_pos h, if_pos rfl, if_pos rfl]
  · rw [if_neg e, if_neg (fun z => e (bits_inj z))]
    rfl
inductive Rs (α : Type) where
  | ok (a : α) (h : CH) | exc (c : Str) (fs : List (Str × D)) (h : CH) | bad
abbrev En := List (Option D)
/-! keys that are tuples: of ints and texts, and none of a module's own tuples -/
def keysOf : List D → Option (List L2.Key)
  | [] => some []
  | .int i :: r => (keysOf r).map (.inl i :: ·)
  | .str x :: r => (keysOf r).map (.inr x :: ·)
  | _ => none
def modK : List (List L2.Key) := [[.inr "upper", .inr "draw", .inr "lower"], [.inr "low", .inr "high", .inr "table", .inr "fresh", .inr "times", .inr "bonus"], [.inl 1, .inl 2, .inl 4], [.inl (-9), .inl 9, .inl (-9), .inl 9],
  [.inr "low", .inr "high", .inr "times", .inr "bonus"], [.inr "one", .inr "draw", .inr "other"], [.inr "first", .inr "one"], [.inr "first", .inr "draw"], [.inr "first", .inr "other"], [.inr "second", .inr "one"], [.inr "second", .inr "draw"], [.inr "second", .inr "other"],
  [.inr "best", .inr "sum", .inr "all"]]
def keyT : D → Option (List L2.Key)
  | .tup ds => (match keysOf ds with | some k => if modK.contains k then none else some k | none => none)
  | _ => none
def modT (ds : List D) : Bool := (keyT (.tup ds)).isNone
/-- a tuple: laid, or of the module -/
def SqU (K : PySem.W.Frag) (H : Hp) (ds : List D) (a : Addr) (xs : List V) : Prop := H a = some (.tup xs) ∨ (modT ds = true ∧ ∃ (o : Obj) (its : Array Value) (n : Nat), K.lookup a = some o ∧ o.cls = .type "tuple" ∧ o.data = .seq its n ∧ its.size ≤ sizeLine ∧ Vals xs its.toList)
theorem SqU.sq {K : PySem.W.Frag} {H : Hp} {ds : List D} {a : Addr} {xs : List V} (h : SqU K H ds a xs) : SqT K H a xs := h.elim SqT.of fun h => .inr h.2
mutual
inductive RV (K : PySem.W.Frag) (CM : Str → Option Addr) (ρ : List Addr) (H : Hp) : D → V → Prop
  | non : RV K CM ρ H .non .non
  | bl (b : Bool) : RV K CM ρ H (.bl b) (.bl b)
  | int (i : Int) : RV K CM ρ H (.int i) (.int i)
  | str (s : Str) : RV K CM ρ H (.str s) (.str s)
  | tup {ds : List D} {a : Addr} {xs : List V} (h : SqU K H ds a xs) (r : RVs K CM ρ H ds xs) : RV K CM ρ H (.tup ds) (.ref a)
  | ref {n : Nat} {a : Addr} (h : ρ[n]? = some a) : RV K CM ρ H (.ref n) (.ref a)
  | ty (n : String) : RV K CM ρ H (.ty n) (.ty n)
  | cl {c : Str} {a : Addr} (h : CM c = some a) : RV K CM ρ H (.cl c) (.ref a)
inductive RVs (K : PySem.W.Frag) (CM : Str → Option Addr) (ρ : List Addr) (H : Hp) : List D → List V → Prop
  | nil : RVs K CM ρ H [] []
  | cons {d : D} {v : V} {ds : List D} {vs : List V} (h : RV K CM ρ H d v) (t : RVs K CM ρ H ds vs) : RVs K CM ρ H (d :: ds) (v :: vs)
end

/-- what never changes -/
def Imm : HO → Prop
  | .tup _ => True
  | .xd _ => True
  | .frz _ _ => True
  | _ => False
/-- what never changes stays -/
def Keep (H H' : Hp) : Prop := ∀ a o, H a = some o → Imm o → H' a = some o
theorem Keep.refl (H : Hp) : Keep H H := fun _ _ h _ => h
theorem Keep.trans {H H1 H2 : Hp} (a : Keep H H1) (b : Keep H1 H2) : Keep H H2 := fun x o h p => b x o (a x o h p) p
theorem Keep.sqT {K : PySem.W.Frag} {H H' : Hp} {a : Addr} {xs : List V} (k : Keep H H') (h : SqT K H a xs) : SqT K H' a xs := by
  rcases h with (h | ⟨o, h⟩) | h
  · exact .inl (.inl (k _ _ h trivial))
  · exact .inl (.inr ⟨o, k _ _ h trivial⟩)
  · exact .inr h
theorem Keep.new {H : Hp} {p : Addr} {o : HO} (h : H p = none) : Keep H (upd H p o) := fun a u e _ => by rw [upd_ne (ne_of_none e h)]; exact e
theorem Keep.mut {H : Hp} {p : Addr} {o u : HO} (h : H p = some u) (hu : ¬ Imm u) : Keep H (upd H p o) := fun a v e q => by
  by_cases ha : a = p
  · subst ha; rw [h] at e; cases e; exact (hu q).elim
  · rw [upd_ne ha]; exact e
theorem Keep.sqU {K : PySem.W.Frag} {H H' : Hp} {ds : List D} {a : Addr} {xs : List V} (k : Keep H H') (h : SqU K H ds a xs) : SqU K H' ds a xs := h.imp (fun h => k _ _ h trivial) id
/-- where virtual objects stand stays -/
def Mo (ρ ρ' : List Addr) : Prop := ∀ (n : Nat) (a : Addr), ρ[n]? = some a → ρ'[n]? = some a
theorem Mo.refl (ρ : List Addr) : Mo ρ ρ := fun _ _ h => h
theorem Mo.trans {a b c : List Addr} (x : Mo a b) (y : Mo b c) : Mo a c := fun n z h => y n z (x n z h)
theorem Mo.new {ρ : List Addr} (p : Addr) : Mo ρ (ρ ++ [p]) := fun n a h => by
  rw [List.getElem?_append_left (List.getElem?_eq_some_iff.mp h).1]; exact h
section
variable {K : PySem.W.Frag} {CM : Str → Option Addr} {ρ ρ' : List Addr} {H H' : Hp}
mutual
theorem RV.mono (hρ : Mo ρ ρ') (k : Keep H H') : ∀ {d : D} {v : V}, RV K CM ρ H d v → RV K CM ρ' H' d v
  | _, _, .non => .non
  | _, _, .bl b => .bl b
  | _, _, .int i => .int i
  | _, _, .str s => .str s
  | _, _, .tup h r => .tup (k.sqU h) (RVs.mono hρ k r)
  | _, _, .ref h => .ref (hρ _ _ h)
  | _, _, .ty n => .ty n
  | _, _, .cl h => .cl h
theorem RVs.mono (hρ : Mo ρ ρ') (k : Keep H H') : ∀ {ds : List D} {vs : List V}, RVs K CM ρ H ds vs → RVs K CM ρ' H' ds vs
  | _, _, .nil => .nil
  | _, _, .cons h t => .cons (RV.mono hρ k h) (RVs.mono hρ k t)
end
theorem RVs.length : ∀ {ds : List D} {vs : List V}, RVs K CM ρ H ds vs → ds.length = vs.length
  | _, _, .nil => rfl
  | _, _, .cons _ t => congrArg (· + 1) (RVs.length t)
theorem keysOf_ok : ∀ {ds : List D} {xs : List V} {k : List L2.Key}, RVs K CM ρ H ds xs → keysOf ds = some k → xs = k.map L2.kV
  | [], _, k, r, h => by
    cases r
    cases h
    rfl
  | d :: ds, _, k, r, h => by
    cases r with
    | cons r1 t =>
      cases d with
      | int i =>
        cases hk : keysOf ds with
        | none => simp [keysOf, hk] at h
        | some l =>
          have h : some (Sum.inl i :: l) = some k := by simpa [keysOf, hk] using h
          cases h
          cases r1
          rw [keysOf_ok t hk]; rfl
      | str x =>
        cases hk : keysOf ds with
        | none => simp [keysOf, hk] at h
        | some l =>
          have h : some (Sum.inr x :: l) = some k := by simpa [keysOf, hk] using h
          cases h
          cases r1
          rw [keysOf_ok t hk]; rfl
      | _ => simp [keysOf] at h
theorem keyT_ok {d : D} {v : V} {k : List L2.Key} (r : RV K CM ρ H d v) (h : keyT d = some k) : ∃ b, v = .ref b ∧ H b = some (.tup (k.map L2.kV)) := by
  cases r with
  | @tup ds a xs hq rr =>
    have hn : modT ds = false := by simp [modT, h]
    rcases hq with hq | ⟨z, _⟩
    · refine ⟨_, rfl, ?_⟩
      simp only [keyT] at h
      cases hk : keysOf ds with
      | none => simp [hk] at h
      | some l =>
        rw [hk] at h
        dsimp only at h
        split at h
        · cases h
        · cases h
          rw [hq, keysOf_ok rr hk]
    · rw [z] at hn; cases hn
  | _ => simp [keyT] at h
theorem RVs.append : ∀ {ds es : List D} {vs ws : List V}, RVs K CM ρ H ds vs → RVs K CM ρ H es ws → RVs K CM ρ H (ds ++ es) (vs ++ ws)
  | _, _, _, _, .nil, r => r
  | _, _, _, _, .cons h t, r => .cons h (RVs.append t r)
theorem RVs.get : ∀ {ds : List D} {vs : List V} {i : Nat} {d : D}, RVs K CM ρ H ds vs → ds[i]? = some d → ∃ v, vs[i]? = some v ∧ RV K CM ρ H d v
  | _, _, _, _, .nil, e => by simp at e
  | _, _, 0, _, .cons h t, e => by simp at e; subst e; exact ⟨_, rfl, h⟩
  | _, _, i + 1, _, .cons h t, e => by
    obtain ⟨v, h1, h2⟩ := RVs.get (i := i) t (by simpa using e)
    exact ⟨v, by simpa using h1, h2⟩
theorem RVs.set {d : D} {v : V} (r : RV K CM ρ H d v) : ∀ {ds : List D} {vs : List V} (i : Nat), RVs K CM ρ H ds vs → RVs K CM ρ H (ds.set i d) (vs.set i v)
  | _, _, _, .nil => .nil
  | _, _, 0, .cons _ t => .cons r t
  | _, _, i + 1, .cons q t => .cons q (RVs.set r i t)
theorem RVs.take : ∀ {ds : List D} {vs : List V} (n : Nat), RVs K CM ρ H ds vs → RVs K CM ρ H (ds.take n) (vs.take n)
  | _, _, 0, _ => by simp; exact .nil
  | _, _, n + 1, .nil => .nil
  | _, _, n + 1, .cons h t => .cons h (RVs.take n t)
theorem RVs.drop : ∀ {ds : List D} {vs : List V} (n : Nat), RVs K CM ρ H ds vs → RVs K CM ρ H (ds.drop n) (vs.drop n)
  | _, _, 0, r => r
  | _, _, n + 1, .nil => .nil
  | _, _, n + 1, .cons h t => RVs.drop n t
/-- a slot -/
inductive RO (K : PySem.W.Frag) (CM : Str → Option Addr) (ρ : List Addr) (H : Hp) : Option D → Option V → Prop
  | no (v : Option V) : RO K CM ρ H none v
  | so {d : D} {v : V} (h : RV K CM ρ H d v) : RO K CM ρ H (some d) (some v)
inductive RE (K : PySem.W.Frag) (CM : Str → Option Addr) (ρ : List Addr) (H : Hp) : En → L2.St → Prop
  | nil : RE K CM ρ H [] []
  | cons {d : Option D} {v : Option V} {ds : En} {vs : L2.St} (h : RO K CM ρ H d v) (t : RE K CM ρ H ds vs) : RE K CM ρ H (d :: ds) (v :: vs)
theorem RO.mono (hρ : Mo ρ ρ') (k : Keep H H') {d : Option D} {v : Option V} (h : RO K CM ρ H d v) : RO K CM ρ' H' d v := by
  cases h with
  | no v => exact .no v
  | so h => exact .so (h.mono hρ k)
theorem RE.mono (hρ : Mo ρ ρ') (k : Keep H H') : ∀ {e : En} {σ : L2.St}, RE K CM ρ H e σ → RE K CM ρ' H' e σ
  | _, _, .nil => .nil
  | _, _, .cons h t => .cons (h.mono hρ k) (RE.mono hρ k t)
theorem RE.get : ∀ {e : En} {σ : L2.St} {i : Nat} {d : D}, RE K CM ρ H e σ → e[i]? = some (some d) → ∃ v, σ[i]? = some (some v) ∧ RV K CM ρ H d v
  | _, _, _, _, .nil, e => by simp at e
  | _, _, 0, _, .cons h t, e => by
    simp at e; subst e
    cases h with
    | so h => exact ⟨_, rfl, h⟩
  | _, _, i + 1, _, .cons h t, e => by
    obtain ⟨v, h1, h2⟩ := RE.get (i := i) t (by simpa using e)
    exact ⟨v, by simpa using h1, h2⟩
theorem RE.set {d : Option D} {v : Option V} (r : RO K CM ρ H d v) : ∀ {e : En} {σ : L2.St} (i : Nat), RE K CM ρ H e σ → RE K CM ρ H (e.set i d) (σ.set i v)
  | _, _, _, .nil => .nil
  | _, _, 0, .cons _ t => .cons r t
  | _, _, i + 1, .cons q t => .cons q (RE.set r i t)
/-- the pairs of a dict -/
inductive RKs {κ : Type} (K : PySem.W.Frag) (CM : Str → Option Addr) (ρ : List Addr) (H : Hp) : List (κ × D) → List (κ × V) → Prop
  | nil : RKs K CM ρ H [] []
  | cons {k : κ} {d : D} {v : V} {kvs : List (κ × D)} {ws : List (κ × V)} (h : RV K CM ρ H d v) (t : RKs K CM ρ H kvs ws) : RKs K CM ρ H ((k, d) :: kvs) ((k, v) :: ws)
theorem RKs.mono {κ : Type} (hρ : Mo ρ ρ') (k : Keep H H') : ∀ {kvs : List (κ × D)} {ws : List (κ × V)}, RKs K CM ρ H kvs ws → RKs K CM ρ' H' kvs ws
  | _, _, .nil => .nil
  | _, _, .cons h t => .cons (h.mono hρ k) (RKs.mono hρ k t)
theorem RKs.length {κ : Type} : ∀ {kvs : List (κ × D)} {ws : List (κ × V)}, RKs K CM ρ H kvs ws → kvs.length = ws.length
  | _, _, .nil => rfl
  | _, _, .cons _ t => congrArg (· + 1) (RKs.length t)
theorem RKs.append {κ : Type} : ∀ {kvs kus : List (κ × D)} {ws us : List (κ × V)}, RKs K CM ρ H kvs ws → RKs K CM ρ H kus us → RKs K CM ρ H (kvs ++ kus) (ws ++ us)
  | _, _, _, _, .nil, r => r
  | _, _, _, _, .cons h t, r => .cons h (RKs.append t r)
def valD {κ : Type} [DecidableEq κ] (kvs : List (κ × D)) (k : κ) : Option D := (kvs.find? fun kv => decide (kv.1 = k)).map (·.2)
def putD {κ : Type} [DecidableEq κ] (kvs : List (κ × D)) (k : κ) (v : D) : List (κ × D) :=
  if (kvs.any fun kv => decide (kv.1 = k)) = true then kvs.map (fun kv => if kv.1 = k then (kv.1, v) else kv) else kvs ++ [(k, v)]
def mergeD {κ : Type} [DecidableEq κ] (kvs more : List (κ × D)) : List (κ × D) := more.foldl (fun acc kv => putD acc kv.1 kv.2) kvs
theorem RKs.val {κ : Type} [DecidableEq κ] (k : κ) : ∀ {kvs : List (κ × D)} {ws : List (κ × V)}, RKs K CM ρ H kvs ws → (∃ d v, valD kvs k = some d ∧ L2.valV ws k = some v ∧ RV K CM ρ H d v) ∨ (valD kvs k = none ∧ L2.valV ws k = none)
  | _, _, .nil => .inr ⟨rfl, rfl⟩
  | _, _, .cons (k := j) (d := d) (v := v) h t => by
    by_cases e : j = k
    · exact .inl ⟨d, v, by simp [valD, List.find?_cons, e], L2.valV_pos e, h⟩
    · have e1 : ∀ r, valD ((j, d) :: r) k = valD r k := fun r => by simp [valD, List.find?_cons, e]
      rw [e1, L2.valV_neg (p := (j, v)) e]
      exact RKs.val k t
theorem RKs.any {κ : Type} [DecidableEq κ] (k : κ) : ∀ {kvs : List (κ × D)} {ws : List (κ × V)}, RKs K CM ρ H kvs ws → (kvs.any fun kv => decide (kv.1 = k)) = (ws.any fun kv => decide (kv.1 = k))
  | _, _, .nil => rfl
  | _, _, .cons h t => by rw [List.any_cons, List.any_cons, RKs.any k t]
theorem RKs.repl {κ : Type} [DecidableEq κ] {k : κ} {d : D} {v : V} (r : RV K CM ρ H d v) : ∀ {kvs : List (κ × D)} {ws : List (κ × V)}, RKs K CM ρ H kvs ws → RKs K CM ρ H (kvs.map fun kv => if kv.1 = k then (kv.1, d) else kv) (ws.map fun kv => if kv.1 = k then (kv.1, v) else kv)
  | _, _, .nil => .nil
  | _, _, .cons (k := j) h t => by
    rw [List.map_cons, List.map_cons]
    by_cases q : j = k
    · rw [if_pos q, if_pos q]; exact .cons r (RKs.repl r t)
    · rw [if_neg q, if_neg q]; exact .cons h (RKs.repl r t)
theorem RKs.put {κ : Type} [DecidableEq κ] {k : κ} {d : D} {v : V} (r : RV K CM ρ H d v) {kvs : List (κ × D)} {ws : List (κ × V)} (h : RKs K CM ρ H kvs ws) : RKs K CM ρ H (putD kvs k d) (L2.putK ws k v) := by
  unfold putD L2.putK
  rw [h.any k]
  split
  · exact h.repl r
  · exact h.append (.cons r .nil)
theorem RKs.merge {more : List (L2.Key × D)} {ms : List (L2.Key × V)} (m : RKs K CM ρ H more ms) : ∀ {kvs : List (L2.Key × D)} {ws : List (L2.Key × V)}, RKs K CM ρ H kvs ws → RKs K CM ρ H (mergeD kvs more) (L2.mergeK ws ms) := by
  induction m with
  | nil => exact fun r => r
  | cons h t ih => exact fun r => ih (r.put h)
/-- what stands at a virtual address -/
inductive RC (K : PySem.W.Frag) (CM : Str → Option Addr) (ρ : List Addr) (H : Hp) : CO → Addr → Prop
  | lst {ds : List D} {xs : List V} {a : Addr} (h : H a = some (.lst xs)) (r : RVs K CM ρ H ds xs) : RC K CM ρ H (.lst ds) a
  | fz {ds : List D} {xs : List V} {o : Obj} {a : Addr} (h : H a = some (.frz o (.lst xs))) (r : RVs K CM ρ H ds xs) : RC K CM ρ H (.fz ds) a
  | dk {kvs : List (L2.Key × D)} {ws : List (L2.Key × V)} {a : Addr} (h : H a = some (.dK ws)) (r : RKs K CM ρ H kvs ws) : RC K CM ρ H (.dk kvs) a
  | dt {kvs : List (List L2.Key × D)} {ws : List (List L2.Key × V)} {a : Addr} (h : H a = some (.dT ws)) (r : RKs K CM ρ H kvs ws) : RC K CM ρ H (.dt kvs) a
  | fk {kvs : List (L2.Key × D)} {ws : List (L2.Key × V)} {o : Obj} {a : Addr} (h : H a = some (.frz o (.dK ws))) (r : RKs K CM ρ H kvs ws) : RC K CM ρ H (.fk kvs) a
  | xc {c f : Str} {d : D} {C dd : Addr} {v : V} {a : Addr} (hc : CM c = some C) (h : H a = some (exo a C (some dd))) (hd : H dd = some (.xd [(f, v)])) (r : RV K CM ρ H d v) : RC K CM ρ H (.xc c f d) a
  | ins {c : Str} {C dx : Addr} {ns : List Str} {ds : List D} {vs : List V} {a : Addr} (hc : CM c = some C) (h : H a = some (.ins C dx (ns.zip vs))) (hl : ns.length = ds.length) (r : RVs K CM ρ H ds vs) : RC K CM ρ H (.ins c (ns.zip ds)) a
theorem RC.there {co : CO} {a : Addr} (h : RC K CM ρ H co a) : ∃ o, H a = some o := by
  cases h with
  | lst h _ => exact ⟨_, h⟩
  | fz h _ => exact ⟨_, h⟩
  | dk h _ => exact ⟨_, h⟩
  | dt h _ => exact ⟨_, h⟩
  | fk h _ => exact ⟨_, h⟩
  | xc _ h _ _ => exact ⟨_, h⟩
  | ins _ h _ _ => exact ⟨_, h⟩
theorem RC.mono (hρ : Mo ρ ρ') (k : Keep H H') {co : CO} {a : Addr} (h : RC K CM ρ H co a) (e : H' a = H a) : RC K CM ρ' H' co a := by
  cases h with
  | lst h r => exact .lst (e.trans h) (r.mono hρ k)
  | fz h r => exact .fz (e.trans h) (r.mono hρ k)
  | dk h r => exact .dk (e.trans h) (r.mono hρ k)
  | dt h r => exact .dt (e.trans h) (r.mono hρ k)
  | fk h r => exact .fk (e.trans h) (r.mono hρ k)
  | xc hc h hd r => exact .xc hc (e.trans h) (k _ _ hd trivial) (r.mono hρ k)
  | ins hc h hl r => exact .ins hc (e.trans h) hl (r.mono hρ k)
structure RH (K : PySem.W.Frag) (CM : Str → Option Addr) (ρ : List Addr) (ch : CH) (H : Hp) : Prop where
  len : ρ.length = ch.sz
  nd : ρ.Nodup
  at_ : ∀ (n : Nat) (a : Addr), ρ[n]? = some a → ∃ co, ch.get n = some co ∧ RC K CM ρ H co a
theorem RH.ob {ch : CH} (h : RH K CM ρ ch H) (n : Nat) (co : CO) (a : Addr) (e : ch.get n = some co) (q : ρ[n]? = some a) : RC K CM ρ H co a := by
  obtain ⟨co', e', r⟩ := h.at_ n a q
  rw [e] at e'; cases e'
  exact r
theorem RH.get {ch : CH} {n : Nat} {co : CO} (h : RH K CM ρ ch H) (e : ch.get n = some co) : ∃ a, ρ[n]? = some a ∧ RC K CM ρ H co a := by
  have hn : n < ρ.length := by rw [h.len]; exact CH.lt e
  exact ⟨ρ[n], List.getElem?_eq_getElem hn, h.ob n co _ e (List.getElem?_eq_getElem hn)⟩
theorem RH.there {ch : CH} {n : Nat} {a : Addr} (h : RH K CM ρ ch H) (e : ρ[n]? = some a) : ∃ o, H a = some o := by
  obtain ⟨co, _, r⟩ := h.at_ n a e
  exact r.there
/-- other things laid or changed -/
theorem RH.other {ch : CH} (h : RH K CM ρ ch H) (k : Keep H H') (e : ∀ a, a ∈ ρ → H' a = H a) : RH K CM ρ ch H' :=
  ⟨h.len, h.nd, fun n a h2 => by
    obtain ⟨co, e1, r⟩ := h.at_ n a h2
    exact ⟨co, e1, r.mono (Mo.refl _) k (e a (List.mem_of_getElem? h2))⟩⟩
theorem RH.free {ch : CH} {p : Addr} (h : RH K CM ρ ch H) (hp : H p = none) : ∀ a ∈ ρ, a ≠ p := fun a ha e => by
  obtain ⟨n, hn⟩ := List.getElem?_of_mem ha
  obtain ⟨o, q⟩ := h.there hn
  rw [e, hp] at q; cases q
/-- a thing that is not in the virtual heap (a tuple) -/
theorem RH.laid {ch : CH} {p : Addr} {o : HO} (h : RH K CM ρ ch H) (hp : H p = none) : RH K CM ρ ch (upd H p o) :=
  h.other (Keep.new hp) fun a ha => upd_ne (h.free hp a ha)
/-- a new virtual object -/
theorem RH.new {ch : CH} {p : Addr} {o : HO} {co : CO} (h : RH K CM ρ ch H) (hp : H p = none) (hc : RC K CM (ρ ++ [p]) (upd H p o) co p) : RH K CM (ρ ++ [p]) (ch.push co) (upd H p o) := by
  refine ⟨by simp [h.len], ?_, fun n a h2 => ?_⟩
  · exact List.nodup_append.mpr ⟨h.nd, by simp, fun a ha b hb => by rw [List.mem_singleton.mp hb]; exact h.free hp a ha⟩
  · by_cases hn : n < ρ.length
    · rw [List.getElem?_append_left hn] at h2
      obtain ⟨c, e1, r⟩ := h.at_ n a h2
      exact ⟨c, CH.get_push_some e1, r.mono (Mo.new p) (Keep.new hp) (upd_ne (h.free hp a (List.mem_of_getElem? h2)))⟩
    · have e1 := (List.getElem?_eq_some_iff.mp h2).1
      have : n = ρ.length := by simp at e1; omega
      subst this
      rw [List.getElem?_append_right (Nat.le_refl _)] at h2
      simp at h2
      subst h2
      exact ⟨co, by rw [h.len]; exact CH.get_push_self, hc⟩
/-- a virtual object changes -/
theorem RH.mut {ch : CH} {n : Nat} {p : Addr} {o u : HO} {co : CO} (h : RH K CM ρ ch H) (hp : ρ[n]? = some p) (hu : H p = some u) (ni : ¬ Imm u) (hc : RC K CM ρ (upd H p o) co p) : RH K CM ρ (ch.put n co) (upd H p o) := by
  have hl : n < ch.sz := by rw [← h.len]; exact (List.getElem?_eq_some_iff.mp hp).1
  refine ⟨by simp [h.len, CH.sz_put], h.nd, fun m a h2 => ?_⟩
  by_cases hm : m = n
  · subst hm
    rw [hp] at h2
    cases h2
    exact ⟨co, by rw [CH.get_put _ _ _ _ hl, if_pos rfl], hc⟩
  · have hne : a ≠ p := fun e => by
      subst e
      exact hm ((List.getElem?_inj (List.getElem?_eq_some_iff.mp h2).1 h.nd).mp (h2.trans hp.symm))
    obtain ⟨c, e1, r⟩ := h.at_ m a h2
    exact ⟨c, by rw [CH.get_put _ _ _ _ hl, if_neg hm]; exact e1, r.mono (Mo.refl _) (Keep.mut hu ni) (upd_ne hne)⟩
end
/-! ## results -/
abbrev XW := Value → Option Addr → Hp → Prop
def Rs.bind {α β : Type} (r : Rs α) (f : α → CH → Rs β) : Rs β :=
  match r with
  | .ok a h => f a h
  | .exc c fs h => .exc c fs h
  | .bad => .bad
abbrev Rel (α β : Type) := List Addr → Hp → α → β → Prop
section
variable {K : PySem.W.Frag} {CM : Str → Option Addr} {ρ ρ1 : List Addr} {H H1 : Hp}
def Post (K : PySem.W.Frag) (CM : Str → Option Addr) {α β : Type} (rel : Rel α β) (W : XW) (ρ : List Addr) (H : Hp) (Q : β → Hp → Prop) : Rs α → Prop
  | .ok a ch' => ∀ ρ' H' b, Mo ρ ρ' → Keep H H' → RH K CM ρ' ch' H' → rel ρ' H' a b → Q b H'
  | .exc c fs ch' => ∀ ρ' H' C dd vs, Mo ρ ρ' → Keep H H' → RH K CM ρ' ch' H' → CM c = some C → H' dd = some (.xd ((fs.map (·.1)).zip vs)) → RVs K CM ρ' H' (fs.map (·.2)) vs → W (.ref C) (some dd) H'
  | .bad => False
theorem Post.mono {α β : Type} {rel : Rel α β} {W : XW} {Q : β → Hp → Prop} {r : Rs α} (m : Mo ρ ρ1) (k : Keep H H1) (h : Post K CM rel W ρ H Q r) : Post K CM rel W ρ1 H1 Q r := by
  cases r with
  | ok a ch => exact fun ρ' H' b m' k' => h ρ' H' b (m.trans m') (k.trans k')
  | exc c fs ch => exact fun ρ' H' C dd vs m' k' => h ρ' H' C dd vs (m.trans m') (k.trans k')
  | bad => exact h
theorem Post.wish {α β : Type} {rel : Rel α β} {W W' : XW} {Q : β → Hp → Prop} {r : Rs α} (h : Post K CM rel W ρ H Q r) (i : ∀ c d H, W c d H → W' c d H) : Post K CM rel W' ρ H Q r := by
  cases r with
  | ok a ch => exact h
  | exc c fs ch => exact fun ρ' H' C dd vs m k r hc hd rv => i _ _ _ (h ρ' H' C dd vs m k r hc hd rv)
  | bad => exact h
theorem Post.bind {α β α' β' : Type} {rel : Rel α β} {rel' : Rel α' β'} {W : XW} {Q : β → Hp → Prop} {R : β' → Hp → Prop} {r : Rs α'} {f : α' → CH → Rs α} (h : Post K CM rel W ρ H Q (r.bind f))
    (g : ∀ x ch' ρ' H' y, Mo ρ ρ' → Keep H H' → RH K CM ρ' ch' H' → rel' ρ' H' x y → Post K CM rel W ρ' H' Q (f x ch') → R y H') : Post K CM rel' W ρ H R r := by
  cases r with
  | ok a ch => exact fun ρ' H' b m k hh hr => g a ch ρ' H' b m k hh hr (Post.mono m k h)
  | exc c fs ch => exact h
  | bad => exact h
theorem Post.ok {α β : Type} {rel : Rel α β} {W : XW} {Q : β → Hp → Prop} {a : α} {b : β} {ch : CH} (h : Post K CM rel W ρ H Q (.ok a ch)) (hh : RH K CM ρ ch H) (r : rel ρ H a b) : Q b H := h ρ H b (Mo.refl _) (Keep.refl _) hh r
end
/-- the relations -/
abbrev rV (K : PySem.W.Frag) (CM : Str → Option Addr) : Rel D V := fun ρ H d v => RV K CM ρ H d v
abbrev rVs (K : PySem.W.Frag) (CM : Str → Option Addr) : Rel (List D) (List V) := fun ρ H d v => RVs K CM ρ H d v
abbrev rB : Rel Bool Bool := fun _ _ a b => a = b
/-- readings -/
def tI (K : PySem.W.Frag) (CM : Str → Option Addr) (W : WX) (m : En → CH → Rs D) : TE := fun σ H Q => ∃ ρ env ch, RE K CM ρ H env σ ∧ RH K CM ρ ch H ∧ Post K CM (rV K CM) (fun c d H => W c d σ H) ρ H Q (m env ch)
def tIb (K : PySem.W.Frag) (CM : Str → Option Addr) (W : WX) (m : En → CH → Rs Bool) : TT := fun σ H Q => ∃ ρ env ch, RE K CM ρ H env σ ∧ RH K CM ρ ch H ∧ Post K CM rB (fun c d H => W c d σ H) ρ H Q (m env ch)
def tIs (K : PySem.W.Frag) (CM : Str → Option Addr) (W : WX) (m : En → CH → Rs (List D)) : TA := fun σ H Q => ∃ ρ env ch, RE K CM ρ H env σ ∧ RH K CM ρ ch H ∧ Post K CM (rVs K CM) (fun c d H => W c d σ H) ρ H Q (m env ch)
/-- a weaker reading -/
theorem PE.of {X : Cx} {e : Expr} {t t' : TE} (h : PE X e t) (i : ∀ σ H Q, t' σ H Q → t σ H Q) : PE X e t' := ⟨fun pins s σ H Q I hh => h.run pins s σ H Q I (i σ H Q hh)⟩
theorem PT.of {X : Cx} {e : Expr} {t t' : TT} (h : PT X e t) (i : ∀ σ H Q, t' σ H Q → t σ H Q) : PT X e t' := ⟨fun pins s σ H Q I hh => h.run pins s σ H Q I (i σ H Q hh)⟩
theorem PA.of {X : Cx} {e : List Expr} {t t' : TA} (h : PA X e t) (i : ∀ σ H Q, t' σ H Q → t σ H Q) : PA X e t' := ⟨fun pos pins s σ H Q I hh => h.run pos pins s σ H Q I (i σ H Q hh)⟩
theorem PE.no {X : Cx} {e : Expr} {t : TE} (i : ∀ σ H Q, t σ H Q → False) : PE X e t := ⟨fun pins s σ H Q I hh => (i σ H Q hh).elim⟩
theorem PT.no {X : Cx} {e : Expr} {t : TT} (i : ∀ σ H Q, t σ H Q → False) : PT X e t := ⟨fun pins s σ H Q I hh => (i σ H Q hh).elim⟩
theorem PA.no {X : Cx} {e : List Expr} {t : TA} (i : ∀ σ H Q, t σ H Q → False) : PA X e t := ⟨fun pos pins s σ H Q I hh => (i σ H Q hh).elim⟩
end LL
namespace LL
open PySem PySem.Spec PyProof.Rows L2
/-! ## the running of a program over virtual heaps -/
structure Sk where
  N : List Str
  sc : Scope
  own : Str → Bool
  top : Bool
def ixOf (x : Str) : List Str → Option Nat
  | [] => none
  | y :: r => if y = x then some 0 else (ixOf x r).map (· + 1)
theorem ixOf_get {x : Str} : ∀ {N : List Str} {i : Nat}, ixOf x N = some i → N[i]? = some x
  | [], _, h => by simp [ixOf] at h
  | y :: r, i, h => by
    unfold ixOf at h
    split at h
    · cases h; rename_i e; subst e; rfl
    · cases q : ixOf x r with
      | none => rw [q] at h; cases h
      | some j => rw [q] at h; cases h; exact ixOf_get (N := r) q
/-! data of a value -/
mutual
def toPy (ch : CH) : Nat → D → Option PyData
  | _, .non => some .none
  | _, .bl b => some (.bool b)
  | _, .int i => some (.int i)
  | _, .str s => some (.str s)
  | 0, _ => none
  | n + 1, .tup ds => (toPys ch n ds).map .tuple
  | n + 1, .ref a => match ch.get a with
    | some (.lst ds) => (toPys ch n ds).map .list
    | some (.fz ds) => (toPys ch n ds).map .list
    | _ => none
  | _, _ => none
def toPys (ch : CH) : Nat → List D → Option (List PyData)
  | _, [] => some []
  | 0, _ => none
  | n + 1, d :: ds => match toPy ch n d, toPys ch n ds with
    | some x, some xs => some (x :: xs)
    | _, _ => none
end
section
variable {K : PySem.W.Frag} {CM : Str → Option Addr} {ρ : List Addr} {H : Hp} {ch : CH}
mutual
theorem toPy_ok (hh : RH K CM ρ ch H) : ∀ (n : Nat) (d : D) (v : V) (p : PyData), RV K CM ρ H d v → toPy ch n d = some p → Dp K H v p
  | n, .non, v, p, r, e => by cases r; cases n <;> (simp [toPy] at e; subst e; exact .non)
  | n, .bl b, v, p, r, e => by cases r; cases n <;> (simp [toPy] at e; subst e; exact .bl b)
  | n, .int i, v, p, r, e => by cases r; cases n <;> (simp [toPy] at e; subst e; exact .int i)
  | n, .str s, v, p, r, e => by cases r; cases n <;> (simp [toPy] at e; subst e; exact .str s)
  | 0, .tup ds, v, p, r, e => by simp [toPy] at e
  | n + 1, .tup ds, v, p, r, e => by
    cases r with
    | tup h rr =>
      simp only [toPy] at e
      cases q : toPys ch n ds with
      | none => rw [q] at e; cases e
      | some xs => rw [q] at e; cases e; exact .tup h.sq (toPys_ok hh n ds _ _ rr q)
  | 0, .ref a, v, p, r, e => by simp [toPy] at e
  | n + 1, .ref a, v, p, r, e => by
    cases r with
    | ref h =>
      simp only [toPy] at e
      cases q : ch.get a with
      | none => rw [q] at e; cases e
      | some co =>
        rw [q] at e
        have hc := hh.ob a co _ q h
        cases co with
        | lst ds =>
          cases hc with
          | lst h1 rr =>
            cases q2 : toPys ch n ds with
            | none => simp only [q2] at e; cases e
            | some xs => simp only [q2] at e; cases e; exact .lst (SqL.of h1) (toPys_ok hh n ds _ _ rr q2)
        | fz ds =>
          cases hc with
          | fz h1 rr =>
            cases q2 : toPys ch n ds with
            | none => simp only [q2] at e; cases e
            | some xs => simp only [q2] at e; cases e; exact .lst (.inl (.inr ⟨_, h1⟩)) (toPys_ok hh n ds _ _ rr q2)
        | dk _ => cases e
        | dt _ => cases e
        | fk _ => cases e
        | xc _ _ _ => cases e
        | ins _ _ => cases e
  | n, .ty t, v, p, r, e => by cases n <;> simp [toPy] at e
  | n, .cl t, v, p, r, e => by cases n <;> simp [toPy] at e
theorem toPys_ok (hh : RH K CM ρ ch H) : ∀ (n : Nat) (ds : List D) (vs : List V) (ps : List PyData), RVs K CM ρ H ds vs → toPys ch n ds = some ps → DpAll K H vs ps
  | n, [], vs, ps, r, e => by cases r; cases n <;> (simp [toPys] at e; subst e; exact .nil)
  | 0, d :: ds, vs, ps, r, e => by simp [toPys] at e
  | n + 1, d :: ds, vs, ps, r, e => by
    cases r with
    | cons h t =>
      simp only [toPys] at e
      cases q1 : toPy ch n d with
      | none => rw [q1] at e; simp at e
      | some x =>
        cases q2 : toPys ch n ds with
        | none => rw [q1, q2] at e; simp at e
        | some xs =>
          rw [q1, q2] at e
          simp at e; subst e
          exact .cons (toPy_ok hh n d _ _ h q1) (toPys_ok hh n ds _ _ t q2)
end
end
/-- a list of ints, long or not, that isn't empty: it is not like the empty one -/
def intsD : List D → Bool
  | [] => true
  | .int _ :: r => intsD r
  | _ => false
def longI (ch : CH) (x : D) : Option Bool := match x with
  | .ref n => (match ch.get n with
    | some (.lst (d :: ds)) => if intsD (d :: ds) = true then some false else none
    | some (.fz (d :: ds)) => if intsD (d :: ds) = true then some false else none
    | _ => none)
  | _ => none
def pyI : List D → List PyData
  | .int i :: r => .int i :: pyI r
  | _ => []
theorem pyI_dp {K : PySem.W.Frag} {CM : Str → Option Addr} {ρ : List Addr} {H : Hp} : ∀ {ds : List D} {xs : List V}, intsD ds = true → RVs K CM ρ H ds xs → DpAll K H xs (pyI ds)
  | [], _, _, r => by cases r; exact .nil
  | d :: ds, _, h, r => by
    cases d with
    | int i =>
      cases r with
      | cons h1 h2 =>
        cases h1
        exact .cons (.int i) (pyI_dp (ds := ds) h h2)
    | _ => cases h
theorem pyI_lay : ∀ {ds : List D}, PyData.canLayAll0 (pyI ds) = true ∧ PyData.depthAll (pyI ds) ≤ 1
  | [] => ⟨rfl, by decide⟩
  | d :: ds => by
    obtain ⟨a, b⟩ := pyI_lay (ds := ds)
    cases d with
    | int i =>
      simp only [pyI, PyData.canLayAll0, PyData.canLay0, PyData.depthAll, PyData.depth, a, Bool.true_and]
      exact ⟨trivial, by omega⟩
    | _ => exact ⟨by simp [pyI, PyData.canLayAll0], by simp [pyI, PyData.depthAll]⟩
theorem longI_ok {K : PySem.W.Frag} {CM : Str → Option Addr} {ρ : List Addr} {H : Hp} {ch : CH} {dx : D} {x : V} {b : Bool} (hh : RH K CM ρ ch H) (rx : RV K CM ρ H dx x) (e : longI ch dx = some b) :
    ∃ d, Dp K H x d ∧ SeqAt.shaped d = true ∧ PyData.eqv d (.list []) = b := by
  have sh : ∀ ds, SeqAt.shaped (.list (pyI ds)) = true := fun ds => by
    obtain ⟨a, b⟩ := pyI_lay (ds := ds)
    simp only [SeqAt.shaped, PyData.canLay0, PyData.depth, a, Bool.true_and]
    exact decide_eq_true (by omega)
  unfold longI at e
  split at e
  · rename_i n
    cases rx with
    | ref h =>
      split at e
      · rename_i d ds g
        split at e
        · rename_i hi
          cases e
          have hc := hh.ob n _ _ g h
          cases hc with
          | lst h1 rr =>
            refine ⟨.list (pyI (d :: ds)), .lst (SqL.of h1) (pyI_dp hi rr), sh _, ?_⟩
            cases d with
            | int i => simp [pyI, PyData.eqv, PyData.eqvAll]
            | _ => cases hi
        · cases e
      · rename_i d ds g
        split at e
        · rename_i hi
          cases e
          have hc := hh.ob n _ _ g h
          cases hc with
          | fz h1 rr =>
            refine ⟨.list (pyI (d :: ds)), .lst (.inl (.inr ⟨_, h1⟩)) (pyI_dp hi rr), sh _, ?_⟩
            cases d with
            | int i => simp [pyI, PyData.eqv, PyData.eqvAll]
            | _ => cases hi
        · cases e
      · cases e
  · cases e
/-- == of data -/
def eqD (ch : CH) (x y : D) : Option Bool := match toPy ch 60 x, toPy ch 60 y with
  | some d, some e => if SeqAt.shaped d = true ∧ SeqAt.shaped e = true then some (PyData.eqv d e) else none
  | none, some (.list []) => longI ch x
  | _, _ => none
/-- the items of a list or tuple -/
def itemsOf (ch : CH) : D → Option (List D)
  | .tup ds => some ds
  | .ref n => match ch.get n with
    | some (.lst ds) => some ds
    | some (.fz ds) => some ds
    | _ => none
  | _ => none
def inD (ch : CH) (x y : D) : Option Bool := match toPy ch 60 x, toPy ch 60 y with
  | some d, some (.list es) => if SeqAt.shaped d = true ∧ SeqAt.shaped (.list es) = true then some (es.any fun z => PyData.eqv z d) else none
  | some d, some (.tuple es) => if SeqAt.shaped d = true ∧ SeqAt.shaped (.tuple es) = true then some (es.any fun z => PyData.eqv z d) else none
  | _, _ => none
def big (i : Int) : Bool := decide (i.natAbs < 2 ^ 64)
/-- a number that is not too long for * and // -/
@[irreducible] def wid (i : Int) : Bool := decide (i.natAbs.log2 < 8999)
theorem wid_log {i : Int} (h : wid i = true) : i.natAbs.log2 < 8999 := by
  unfold wid at h; exact of_decide_eq_true h
theorem wid_lt {i : Int} {a : Nat} (h : i.natAbs < 2 ^ a) (h0 : 0 < a) (h1 : a ≤ 8999) : wid i = true := by
  unfold wid; exact decide_eq_true (Nat.lt_of_lt_of_le (PySem.Flt.log2_lt_of h0 h) h1)
def CDivG (_ j : Int) : Prop := j ≠ 0 ∧ j.natAbs.log2 < 9000
theorem op_fdivG {X : Cx} : OpR X (binaryOp .FloorDiv) (rI CDivG fun i j => .int (i.fdiv j)) := opI fun i j _ _ _ _ _ hc q => floordiv_int hc.1 q (.inl (PyProof.noPylong_of_log2 hc.2))
/-- a list made -/
def mkL (ds : List D) (ch : CH) : Rs D := if ds.length ≤ 16777216 then .ok (.ref ch.sz) (ch.push (.lst ds)) else .bad
def bin (op : Operator) (x y : D) (ch : CH) : Rs D := match op, x, y with
  | .Add, .int i, .int j => .ok (.int (i + j)) ch
  | .Sub, .int i, .int j => .ok (.int (i - j)) ch
  | .Mult, .int i, .int j => if big i || big j || (wid i && wid j) then .ok (.int (i * j)) ch else .bad
  | .FloorDiv, .int i, .int j => if 0 < j ∧ j < 1073741824 then .ok (.int (i / j)) ch else if j ≠ 0 ∧ wid j = true then .ok (.int (i.fdiv j)) ch else .bad
  | .Mod, .int i, .int j => if j ≠ 0 then .ok (.int (i.fmod j)) ch else .bad
  | .Pow, .int i, .int j => if 0 ≤ j ∧ j ≤ 1000000 ∧ i.natAbs < 2 ^ 64 then .ok (.int (i ^ j.toNat)) ch else .bad
  | .Mult, .ref n, .int k => match ch.get n with
    | some (.lst a) => if -1000000 ≤ k ∧ k ≤ 1000000 ∧ a.length * k.toNat ≤ 16777216 then .ok (.ref ch.sz) (ch.push (.lst (List.replicate k.toNat a).flatten)) else .bad
    | _ => .bad
  | .Add, .tup a, .tup b => if a.length + b.length ≤ 16777216 then .ok (.tup (a ++ b)) ch else .bad
  | .Add, .ref n, .ref m => match ch.get n, ch.get m with
    | some (.lst a), some (.lst b) => if a.length + b.length ≤ 16777216 then .ok (.ref ch.sz) (ch.push (.lst (a ++ b))) else .bad
    | _, _ => .bad
  | _, _, _ => .bad
/-- a key as it is told -/
def kD : L2.Key → D
  | .inl i => .int i
  | .inr x => .str x
/-- what is no object -/
def isImm : D → Bool
  | .non => true
  | .bl _ => true
  | .int _ => true
  | .str _ => true
  | _ => false
def immEq : D → D → Bool
  | .non, .non => true
  | .bl a, .bl b => a == b
  | .int i, .int j => i == j
  | .str x, .str y => x == y
  | _, _ => false
/-- two dicts that are equal, in whatever order -/
def dkEq (ch : CH) (x y : D) : Bool := match x, y with
  | .ref n, .ref m => (match ch.get n, ch.get m with
    | some (.dk ks), some (.dk ls) => decide (ks.length = ls.length) && ks.all fun p => (match valD ls p.1 with | some d => immEq d p.2 | none => false)
    | _, _ => false)
  | _, _ => false
def cmp (op : CmpOp) (x y : D) (ch : CH) : Rs D := match op, x, y with
  | .Lt, .int i, .int j => .ok (.bl (decide (i < j))) ch
  | .LtE, .int i, .int j => .ok (.bl (decide (i ≤ j))) ch
  | .Gt, .int i, .int j => .ok (.bl (decide (j < i))) ch
  | .GtE, .int i, .int j => .ok (.bl (decide (j ≤ i))) ch
  | .Eq, x, y => match eqD ch x y with | some b => .ok (.bl b) ch | none => if dkEq ch x y = true then .ok (.bl true) ch else .bad
  | .NotEq, x, y => match eqD ch x y with | some b => .ok (.bl (!b)) ch | none => if dkEq ch x y = true then .ok (.bl false) ch else .bad
  | .Is, x, .non => .ok (.bl (match x with | .non => true | _ => false)) ch
  | .IsNot, x, .non => .ok (.bl (match x with | .non => false | _ => true)) ch
  | .Is, .bl a, .bl b => .ok (.bl (decide (a = b))) ch
  | .IsNot, .bl a, .bl b => .ok (.bl (!decide (a = b))) ch
  | .In, x, y => match inD ch x y with | some b => .ok (.bl b) ch | none => .bad
  | .NotIn, x, y => match inD ch x y with | some b => .ok (.bl (!b)) ch | none => .bad
  | _, _, _ => .bad
section
variable {X : Cx} {CM : Str → Option Addr} {W : WX}
theorem Post.newL {K : PySem.W.Frag} {ρ : List Addr} {H : Hp} {ch : CH} {W : XW} {Q : VK} {ds : List D} {xs : List V} {p : Addr} (h : Post K CM (rV K CM) W ρ H Q (.ok (.ref ch.sz) (ch.push (.lst ds)))) (hh : RH K CM ρ ch H) (hp : H p = none) (r : RVs K CM ρ H ds xs) :
    Q (.ref p) (upd H p (.lst xs)) := by
  have hr : RVs K CM (ρ ++ [p]) (upd H p (.lst xs)) ds xs := r.mono (Mo.new p) (Keep.new hp)
  exact h _ _ _ (Mo.new p) (Keep.new hp) (hh.new hp (.lst upd_same hr)) (.ref (by rw [← hh.len]; simp))
theorem RVs.rep {K : PySem.W.Frag} {ρ : List Addr} {H : Hp} {ds : List D} {xs : List V} (r : RVs K CM ρ H ds xs) : ∀ n, RVs K CM ρ H (List.replicate n ds).flatten (List.replicate n xs).flatten
  | 0 => .nil
  | n + 1 => by
    rw [List.replicate_succ, List.replicate_succ, List.flatten_cons, List.flatten_cons]
    exact r.append (RVs.rep r n)
theorem Post.newT {K : PySem.W.Frag} {ρ : List Addr} {H : Hp} {ch : CH} {W : XW} {Q : VK} {ds : List D} {xs : List V} {p : Addr} (h : Post K CM (rV K CM) W ρ H Q (.ok (.tup ds) ch)) (hh : RH K CM ρ ch H) (hp : H p = none) (r : RVs K CM ρ H ds xs) :
    Q (.ref p) (upd H p (.tup xs)) :=
  h _ _ _ (Mo.refl _) (Keep.new hp) (hh.laid hp) (.tup (.inl upd_same) (r.mono (Mo.refl _) (Keep.new hp)))
/-- an operation on two values keeps m -/
def OpS (X : Cx) (CM : Str → Option Addr) (W : WX) (f : Value → Value → Sem Value) (m : D → D → CH → Rs D) : Prop :=
  ∀ (pins : List (Addr × Obj)) (s : Shared) (σ : L2.St) (H : Hp) (ρ : List Addr) (ch : CH) (dx dy : D) (x y : V) (u v : Value) (Q : VK), Inv X pins σ H s → RelV x u → RelV y v → RV X.K CM ρ H dx x → RV X.K CM ρ H dy y → RH X.K CM ρ ch H →
    Post X.K CM (rV X.K CM) (fun c d H => W c d σ H) ρ H Q (m dx dy ch) → wpAny (model X.prog X.w) X.A (f u v) (EP X pins σ Q) X.xe s
theorem bin_ok (op : Operator) : OpS X CM W (binaryOp op) (bin op) := by
  intro pins s σ H ρ ch dx dy x y u v Q I ru rv rx ry hh h
  unfold bin at h
  split at h
  · cases rx; cases ry; exact op_add pins s σ H _ _ _ _ Q I ru rv ⟨_, _, rfl, rfl, h.ok hh (.int _)⟩
  · cases rx; cases ry; exact op_sub pins s σ H _ _ _ _ Q I ru rv ⟨_, _, rfl, rfl, h.ok hh (.int _)⟩
  · split at h
    · rename_i hb
      cases rx; cases ry
      simp only [Bool.or_eq_true, Bool.and_eq_true] at hb
      rcases hb with hb | hb
      · refine op_mul pins s σ H _ _ _ _ Q I ru rv ⟨_, _, rfl, rfl, ?_, h.ok hh (.int _)⟩
        simp only [big, decide_eq_true_eq] at hb
        rcases hb with hb | hb
        · exact .inl ⟨by omega, by omega⟩
        · exact .inr ⟨by omega, by omega⟩
      · have w1 := wid_log hb.1
        have w2 := wid_log hb.2
        exact op_mulW pins s σ H _ _ _ _ Q I ru rv ⟨_, _, rfl, rfl, (show _ + _ < 1000000 by omega), h.ok hh (.int _)⟩
    · exact h.elim
  · split at h
    · rename_i hb
      cases rx; cases ry; exact op_fdiv pins s σ H _ _ _ _ Q I ru rv ⟨_, _, rfl, rfl, hb, h.ok hh (.int _)⟩
    · split at h
      · rename_i hb
        have w := wid_log hb.2
        cases rx; cases ry; exact op_fdivG pins s σ H _ _ _ _ Q I ru rv ⟨_, _, rfl, rfl, ⟨hb.1, by omega⟩, h.ok hh (.int _)⟩
      · exact h.elim
  · split at h
    · rename_i hb
      cases rx; cases ry; exact op_modN pins s σ H _ _ _ _ Q I ru rv ⟨_, _, rfl, rfl, hb, h.ok hh (.int _)⟩
    · exact h.elim
  · split at h
    · rename_i hb
      cases rx; cases ry; exact op_pow pins s σ H _ _ _ _ Q I ru rv ⟨_, _, rfl, rfl, hb, h.ok hh (.int _)⟩
    · exact h.elim
  · split at h
    · rename_i a e1
      split at h
      · rename_i hl
        cases rx with
        | ref hx =>
          cases ry with
          | int =>
            cases hh.ob _ _ _ e1 hx with
            | lst h1 r1 =>
              refine op_rep pins s σ H _ _ _ _ Q I ru rv ⟨_, _, _, rfl, rfl, h1, by omega, by omega, by rw [← r1.length]; exact hl.2.2, fun p hp => ?_⟩
              exact h.newL hh hp (RVs.rep r1 _)
      · exact h.elim
    · exact h.elim
  · split at h
    · rename_i a b hl
      cases rx with
      | tup hx r1 =>
        cases ry with
        | tup hy r2 =>
          refine op_catA pins s σ H _ _ _ _ Q I ru rv ⟨_, _, _, _, rfl, rfl, hx.sq, hy.sq, by rw [← r1.length, ← r2.length]; exact hl, fun e => ?_, fun e1 e2 => ?_, fun e1 e2 p hp => ?_⟩
          · subst e
            have : a = [] := by cases r1; rfl
            subst this
            exact h.ok hh (.tup hy r2)
          · subst e2
            have : b = [] := by cases r2; rfl
            subst this
            rw [List.append_nil] at h
            exact h.ok hh (.tup hx r1)
          · exact h.newT hh hp (r1.append r2)
    · exact h.elim
  · split at h
    · rename_i n m _ _ a b e1 e2
      split at h
      · rename_i hl
        cases rx with
        | ref hx =>
          cases ry with
          | ref hy =>
            have c1 := hh.ob n _ _ e1 hx
            have c2 := hh.ob m _ _ e2 hy
            cases c1 with
            | lst h1 r1 =>
              cases c2 with
              | lst h2 r2 =>
                refine op_cat pins s σ H _ _ _ _ Q I ru rv ⟨_, _, _, _, rfl, rfl, h1, h2, by rw [← r1.length, ← r2.length]; exact hl, fun p hp => ?_⟩
                exact h.newL hh hp (r1.append r2)
      · exact h.elim
    · exact h.elim
  · exact h.elim
theorem eqD_ok {K : PySem.W.Frag} {ρ : List Addr} {H : Hp} {ch : CH} (hh : RH K CM ρ ch H) {dx dy : D} {x y : V} {b : Bool} (rx : RV K CM ρ H dx x) (ry : RV K CM ρ H dy y) (e : eqD ch dx dy = some b) :
    ∃ d f, Dp K H x d ∧ Dp K H y f ∧ SeqAt.shaped d = true ∧ SeqAt.shaped f = true ∧ PyData.eqv d f = b := by
  unfold eqD at e
  split at e
  · rename_i d f e1 e2
    split at e
    · rename_i hs
      cases e
      exact ⟨d, f, toPy_ok hh _ _ _ _ rx e1, toPy_ok hh _ _ _ _ ry e2, hs.1, hs.2, rfl⟩
    · cases e
  · rename_i e1 e2
    obtain ⟨d, h1, s1, he⟩ := longI_ok hh rx e
    exact ⟨d, .list [], h1, toPy_ok hh _ _ _ _ ry e2, s1, by simp [SeqAt.shaped, PyData.canLay0, PyData.canLayAll0, PyData.depth, PyData.depthAll], he⟩
  · cases e
theorem inD_ok {K : PySem.W.Frag} {ρ : List Addr} {H : Hp} {ch : CH} (hh : RH K CM ρ ch H) {dx dy : D} {x y : V} {b : Bool} (rx : RV K CM ρ H dx x) (ry : RV K CM ρ H dy y) (e : inD ch dx dy = some b) :
    (∃ d es, Dp K H x d ∧ Dp K H y (.list es) ∧ SeqAt.shaped d = true ∧ SeqAt.shaped (.list es) = true ∧ (es.any fun z => PyData.eqv z d) = b) ∨
    (∃ d es, Dp K H x d ∧ Dp K H y (.tuple es) ∧ SeqAt.shaped d = true ∧ SeqAt.shaped (.tuple es) = true ∧ (es.any fun z => PyData.eqv z d) = b) := by
  unfold inD at e
  split at e
  · rename_i d f e1 e2
    split at e
    · rename_i hs
      cases e
      exact .inl ⟨d, f, toPy_ok hh _ _ _ _ rx e1, toPy_ok hh _ _ _ _ ry e2, hs.1, hs.2, rfl⟩
    · cases e
  · rename_i d f e1 e2
    split at e
    · rename_i hs
      cases e
      exact .inr ⟨d, f, toPy_ok hh _ _ _ _ rx e1, toPy_ok hh _ _ _ _ ry e2, hs.1, hs.2, rfl⟩
    · cases e
  · cases e
theorem inT_reads {E : Value → Shared → Prop} {pins : List (Addr × Obj)} {s : Shared} {σ : L2.St} {H : Hp} {x y : V} {v u : Value} {Q : VK} {d : PyData} {ds : List PyData} (hu : X.A.units + 65 < cLine) (I : Inv X pins σ H s) (rx : RelV x v) (ry : RelV y u)
    (hd : Dp X.K H x d) (he : Dp X.K H y (.tuple ds)) (sd : SeqAt.shaped d = true) (se : SeqAt.shaped (.tuple ds) = true) (q : Q (.bl (ds.any fun z => PyData.eqv z d)) H) : wpAny (model X.prog X.w) X.A (compareOp .In v u) (EP X pins σ Q) X.xe s := by
  obtain ⟨as, r1⟩ := Dp.reads I d x v hd rx
  obtain ⟨bs, r2⟩ := Dp.reads I (.tuple ds) y u he ry
  exact SeqAt.in_tuple_reads r2 r1 (SeqAt.canLay_of_shaped se) (SeqAt.canLay_of_shaped sd) (room_in_shaped sd hu) ⟨.bl _, H, I, rfl, q⟩
theorem notInT_reads {E : Value → Shared → Prop} {pins : List (Addr × Obj)} {s : Shared} {σ : L2.St} {H : Hp} {x y : V} {v u : Value} {Q : VK} {d : PyData} {ds : List PyData} (hu : X.A.units + 65 < cLine) (I : Inv X pins σ H s) (rx : RelV x v) (ry : RelV y u)
    (hd : Dp X.K H x d) (he : Dp X.K H y (.tuple ds)) (sd : SeqAt.shaped d = true) (se : SeqAt.shaped (.tuple ds) = true) (q : Q (.bl (!ds.any fun z => PyData.eqv z d)) H) : wpAny (model X.prog X.w) X.A (compareOp .NotIn v u) (EP X pins σ Q) X.xe s := by
  obtain ⟨as, r1⟩ := Dp.reads I d x v hd rx
  obtain ⟨bs, r2⟩ := Dp.reads I (.tuple ds) y u he ry
  exact SeqAt.notIn_tuple_reads r2 r1 (SeqAt.canLay_of_shaped se) (SeqAt.canLay_of_shaped sd) (room_in_shaped sd hu) ⟨.bl _, H, I, rfl, q⟩
theorem immEq_ok {K : PySem.W.Frag} {ρ : List Addr} {H : Hp} {d e : D} {v w : V} (h : immEq d e = true) (r : RV K CM ρ H d v) (q : RV K CM ρ H e w) : v = w ∧ flatB v = true := by
  cases r <;> cases q <;> first
    | (simp [immEq] at h; done)
    | (simp only [immEq, beq_iff_eq] at h; subst h; exact ⟨rfl, rfl⟩)
    | exact ⟨rfl, rfl⟩
theorem dkEq_ok {K : PySem.W.Frag} {ρ : List Addr} {H : Hp} {ch : CH} (hh : RH K CM ρ ch H) {dx dy : D} {x y : V} (rx : RV K CM ρ H dx x) (ry : RV K CM ρ H dy y) (e : dkEq ch dx dy = true) :
    ∃ a b ks ls, x = .ref a ∧ y = .ref b ∧ H a = some (.dK ks) ∧ H b = some (.dK ls) ∧ ks.length = ls.length ∧ ∀ p ∈ ks, L2.valV ls p.1 = some p.2 ∧ flatB p.2 = true := by
  unfold dkEq at e
  split at e
  · rename_i n m
    cases rx with
    | @ref _ a hx =>
      cases ry with
      | @ref _ b hy =>
        split at e
        · rename_i ks ls e1 e2
          cases hh.ob _ _ _ e1 hx with
          | @dk _ vs _ h1 r1 =>
            cases hh.ob _ _ _ e2 hy with
            | @dk _ ws _ h2 r2 =>
              obtain ⟨el0, ea⟩ := Bool.and_eq_true_iff.mp e
              refine ⟨a, b, vs, ws, rfl, rfl, h1, h2, by rw [← r1.length, ← r2.length]; exact of_decide_eq_true el0, ?_⟩
              clear el0 e e1 h1
              induction r1 with
              | nil => intro p hp; cases hp
              | @cons k d v kvs us hv t ih =>
                intro p hp
                rw [List.all_cons] at ea
                obtain ⟨ea1, ea2⟩ := Bool.and_eq_true_iff.mp ea
                rcases List.mem_cons.mp hp with rfl | hp
                · dsimp only at ea1 ⊢
                  rcases r2.val k with ⟨d2, w, z1, z2, z3⟩ | ⟨z1, _⟩
                  · rw [z1] at ea1
                    obtain ⟨q1, q2⟩ := immEq_ok ea1 z3 hv
                    subst q1
                    exact ⟨z2, q2⟩
                  · rw [z1] at ea1; cases ea1
                · exact ih ea2 p hp
        · cases e
  · cases e
theorem cmp_ok (hu : X.A.units + 65 < cLine) (op : CmpOp) : OpS X CM W (compareOp op) (cmp op) := by
  intro pins s σ H ρ ch dx dy x y u v Q I ru rv rx ry hh h
  have hu0 : X.A.units + 64 < cLine := by omega
  unfold cmp at h
  split at h
  · cases rx; cases ry; exact op_lt pins s σ H _ _ _ _ Q I ru rv ⟨_, _, rfl, rfl, h.ok hh (.bl _)⟩
  · cases rx; cases ry; exact op_le pins s σ H _ _ _ _ Q I ru rv ⟨_, _, rfl, rfl, h.ok hh (.bl _)⟩
  · cases rx; cases ry; exact op_gt pins s σ H _ _ _ _ Q I ru rv ⟨_, _, rfl, rfl, h.ok hh (.bl _)⟩
  · cases rx; cases ry; exact op_ge pins s σ H _ _ _ _ Q I ru rv ⟨_, _, rfl, rfl, h.ok hh (.bl _)⟩
  · split at h
    · rename_i b e
      obtain ⟨d, f, h1, h2, s1, s2, e⟩ := eqD_ok hh rx ry e
      exact op_eqD hu0 pins s σ H _ _ _ _ Q I ru rv ⟨d, f, h1, h2, s1, s2, by rw [e]; exact h.ok hh (.bl _)⟩
    · split at h
      · rename_i e
        obtain ⟨a, b, ks, ls, e1, e2, h1, h2, h3, h4⟩ := dkEq_ok hh rx ry e
        exact op_eq_dictA (by omega) pins s σ H _ _ _ _ Q I ru rv ⟨a, b, ks, ls, e1, e2, h1, h2, h3, h4, h.ok hh (.bl _)⟩
      · exact h.elim
  · split at h
    · rename_i b e
      obtain ⟨d, f, h1, h2, s1, s2, e⟩ := eqD_ok hh rx ry e
      exact op_neD hu0 pins s σ H _ _ _ _ Q I ru rv ⟨d, f, h1, h2, s1, s2, by rw [e]; exact h.ok hh (.bl _)⟩
    · split at h
      · rename_i e
        obtain ⟨a, b, ks, ls, e1, e2, h1, h2, h3, h4⟩ := dkEq_ok hh rx ry e
        exact op_ne_dictA (by omega) pins s σ H _ _ _ _ Q I ru rv ⟨a, b, ks, ls, e1, e2, h1, h2, h3, h4, h.ok hh (.bl _)⟩
      · exact h.elim
  · cases ry
    refine op_isN pins s σ H _ _ _ _ Q I ru rv ⟨rfl, ?_⟩
    cases rx <;> exact h.ok hh (.bl _)
  · cases ry
    refine op_notN pins s σ H _ _ _ _ Q I ru rv ⟨rfl, ?_⟩
    cases rx <;> exact h.ok hh (.bl _)
  · cases rx; cases ry; exact op_isBl pins s σ H _ _ _ _ Q I ru rv ⟨_, _, rfl, rfl, h.ok hh (.bl _)⟩
  · cases rx; cases ry; exact op_notBl pins s σ H _ _ _ _ Q I ru rv ⟨_, _, rfl, rfl, h.ok hh (.bl _)⟩
  · split at h
    · rename_i b e
      rcases inD_ok hh rx ry e with ⟨d, f, h1, h2, s1, s2, e⟩ | ⟨d, f, h1, h2, s1, s2, e⟩
      · exact op_inD hu pins s σ H _ _ _ _ Q I ru rv ⟨d, f, h1, h2, s1, s2, by rw [e]; exact h.ok hh (.bl _)⟩
      · exact inT_reads (E := X.xe) hu I ru rv h1 h2 s1 s2 (by rw [e]; exact h.ok hh (.bl _))
    · exact h.elim
  · split at h
    · rename_i b e
      rcases inD_ok hh rx ry e with ⟨d, f, h1, h2, s1, s2, e⟩ | ⟨d, f, h1, h2, s1, s2, e⟩
      · exact op_notInD hu pins s σ H _ _ _ _ Q I ru rv ⟨d, f, h1, h2, s1, s2, by rw [e]; exact h.ok hh (.bl _)⟩
      · exact notInT_reads (E := X.xe) hu I ru rv h1 h2 s1 s2 (by rw [e]; exact h.ok hh (.bl _))
    · exact h.elim
  · exact h.elim
end
end LL
namespace LL
open PySem PySem.Spec PyProof.Rows L2
section
variable {X : Cx} {CM : Str → Option Addr} {W : WX} {a b c e : Expr} {es : List Expr} {pos : Pos}
abbrev IE (X : Cx) (CM : Str → Option Addr) (W : WX) (e : Expr) (m : En → CH → Rs D) : Prop := PE X e (tI X.K CM W m)
abbrev IT (X : Cx) (CM : Str → Option Addr) (W : WX) (e : Expr) (m : En → CH → Rs Bool) : Prop := PT X e (tIb X.K CM W m)
abbrev IW (X : Cx) (CM : Str → Option Addr) (W : WX) (e : Expr) (m : En → CH → Rs Bool) : Prop := PW X e (tIb X.K CM W m)
abbrev IA (X : Cx) (CM : Str → Option Addr) (W : WX) (e : List Expr) (m : En → CH → Rs (List D)) : Prop := PA X e (tIs X.K CM W m)
/-- what is known once a part has run -/
def Af (K : PySem.W.Frag) (CM : Str → Option Addr) {α β : Type} (rel : Rel α β) (ρ : List Addr) (H : Hp) (P : List Addr → Hp → α → CH → Prop) : β → Hp → Prop := fun y H' => ∃ ρ' x ch', Mo ρ ρ' ∧ Keep H H' ∧ RH K CM ρ' ch' H' ∧ rel ρ' H' x y ∧ P ρ' H' x ch'
theorem Post.af {K : PySem.W.Frag} {ρ : List Addr} {H : Hp} {α β α' β' : Type} {rel : Rel α β} {rel' : Rel α' β'} {W : XW} {Q : β → Hp → Prop} {r : Rs α'} {f : α' → CH → Rs α} (h : Post K CM rel W ρ H Q (r.bind f)) :
    Post K CM rel' W ρ H (Af K CM rel' ρ H fun ρ' H' x ch' => Post K CM rel W ρ' H' Q (f x ch')) r :=
  h.bind fun x ch' ρ' H' y m k hh hr p => ⟨ρ', x, ch', m, k, hh, hr, p⟩
theorem IE.af {m : En → CH → Rs D} {α β : Type} {rel : Rel α β} {Q : β → Hp → Prop} {f : D → CH → Rs α} {pins : List (Addr × Obj)} {s : Shared} {σ : L2.St} {H : Hp} {ρ : List Addr} {env : En} {ch : CH} (he : IE X CM W e m) (I : Inv X pins σ H s)
    (re : RE X.K CM ρ H env σ) (rh : RH X.K CM ρ ch H) (h : Post X.K CM rel (fun c d H => W c d σ H) ρ H Q ((m env ch).bind f)) :
    wpAny (model X.prog X.w) X.A (eval e X.env) (EP X pins σ (Af X.K CM (rV X.K CM) ρ H fun ρ' H' x ch' => Post X.K CM rel (fun c d H => W c d σ H) ρ' H' Q (f x ch'))) X.xe s :=
  he.run pins s σ H _ I ⟨ρ, env, ch, re, rh, h.af⟩
theorem IT.af {m : En → CH → Rs Bool} {α β : Type} {rel : Rel α β} {Q : β → Hp → Prop} {f : Bool → CH → Rs α} {pins : List (Addr × Obj)} {s : Shared} {σ : L2.St} {H : Hp} {ρ : List Addr} {env : En} {ch : CH} (he : IT X CM W e m) (I : Inv X pins σ H s)
    (re : RE X.K CM ρ H env σ) (rh : RH X.K CM ρ ch H) (h : Post X.K CM rel (fun c d H => W c d σ H) ρ H Q ((m env ch).bind f)) :
    wpAny (model X.prog X.w) X.A (isTrue e X.env (eval e X.env)) (TP X pins σ (Af X.K CM rB ρ H fun ρ' H' x ch' => Post X.K CM rel (fun c d H => W c d σ H) ρ' H' Q (f x ch'))) X.xe s :=
  he.run pins s σ H _ I ⟨ρ, env, ch, re, rh, h.af⟩
/-! ### names, constants -/
theorem ie_var {i : Nat} {x : Str} (hN : X.N[i]? = some x) (hv : Vis X.env.scope x) (hd : (x == ("__debug__" : Str)) = false) (hcd : (x == ("__classdict__" : Str)) = false) :
    IE X CM W (.Name x pos) fun env ch => match env[i]? with | some (some d) => .ok d ch | _ => .bad := by
  refine PE.of (pe_var hN hv hd hcd) fun σ H Q ⟨ρ, env, ch, re, rh, h⟩ => ?_
  dsimp only at h
  split at h
  · rename_i d e
    obtain ⟨v, hv, r⟩ := re.get e
    exact ⟨v, hv, h.ok rh r⟩
  · exact h.elim
theorem ie_c {d : D} {v : V} (h : PE X e (tC v)) (r : ∀ ρ H, RV X.K CM ρ H d v) : IE X CM W e fun _ ch => .ok d ch :=
  PE.of h fun σ H Q ⟨ρ, env, ch, re, rh, q⟩ => q.ok rh (r ρ H)
/-! ### operators -/
theorem two {f : Value → Value → Sem Value} {m : D → D → CH → Rs D} {ma mb : En → CH → Rs D} (hf : OpS X CM W f m) (ha : IE X CM W a ma) (hb : IE X CM W b mb) {pins : List (Addr × Obj)} {s : Shared} {σ : L2.St} {H : Hp} {Q : VK} (I : Inv X pins σ H s)
    (h : tI X.K CM W (fun env ch => (ma env ch).bind fun x c => (mb env c).bind fun y c => m x y c) σ H Q) :
    wpAny (model X.prog X.w) X.A (eval a X.env) (fun v s₁ => wpAny (model X.prog X.w) X.A (eval b X.env) (fun u s₂ => wpAny (model X.prog X.w) X.A (f v u) (EP X pins σ Q) X.xe s₂) X.xe s₁) X.xe s := by
  obtain ⟨ρ, env, ch, re, rh, h⟩ := h
  refine thn (ha.af I re rh h) fun v s1 ⟨x, H1, I1, r1, ρ1, dx, ch1, m1, k1, hh1, rv1, p1⟩ => ?_
  refine thn (hb.af I1 (re.mono m1 k1) hh1 p1) fun u s2 ⟨y, H2, I2, r2, ρ2, dy, ch2, m2, k2, hh2, rv2, p2⟩ => ?_
  exact hf pins s2 σ H2 ρ2 ch2 dx dy x y v u Q I2 r1 r2 (rv1.mono m2 k2) rv2 hh2 p2
theorem ie_bin {op : Operator} {ma mb : En → CH → Rs D} {m : D → D → CH → Rs D} (hf : OpS X CM W (binaryOp op) m) (ha : IE X CM W a ma) (hb : IE X CM W b mb) :
    IE X CM W (.BinOp a op b pos) fun env ch => (ma env ch).bind fun x c => (mb env c).bind fun y c => m x y c :=
  ⟨fun pins s σ H Q I h => wpAny_BinOp (two hf ha hb I h)⟩
theorem ie_cmp {op : CmpOp} {ma mb : En → CH → Rs D} {m : D → D → CH → Rs D} (hf : OpS X CM W (compareOp op) m) (ha : IE X CM W a ma) (hb : IE X CM W b mb) (hm : behindInMarks op b = false) :
    IE X CM W (.Compare a [op] [b] pos) fun env ch => (ma env ch).bind fun x c => (mb env c).bind fun y c => m x y c :=
  ⟨fun pins s σ H Q I h => wpAny_Compare1 (two hf ha hb I h) hm⟩
/-- the truth of a value -/
def truth (ch : CH) : D → Option Bool
  | .non => some false
  | .bl b => some b
  | .int i => some (i != 0)
  | .str s => if s.length ≤ 16777216 then some (s.length != 0) else none
  | .tup ds => some (!ds.isEmpty)
  | .ref n => match ch.get n with
    | some (.lst ds) => some (!ds.isEmpty)
    | some (.fz ds) => some (!ds.isEmpty)
    | _ => none
  | _ => none
def tr (d : D) (ch : CH) : Rs Bool := match truth ch d with | some b => .ok b ch | none => .bad
theorem RVs.empty {K : PySem.W.Frag} {ρ : List Addr} {H : Hp} {ds : List D} {vs : List V} (h : RVs K CM ρ H ds vs) : vs.isEmpty = ds.isEmpty := by cases h <;> rfl
theorem truth_ok {K : PySem.W.Frag} {ρ : List Addr} {H : Hp} {ch : CH} {d : D} {v : V} {b : Bool} (rh : RH K CM ρ ch H) (r : RV K CM ρ H d v) (h : truth ch d = some b) : TruV K v H b := by
  cases r with
  | non => cases h; rfl
  | bl c => cases h; rfl
  | int i => cases h; rfl
  | str s =>
    simp only [truth] at h
    split at h
    · rename_i hl
      cases h
      refine ⟨hl, ?_⟩
      rw [Bool.eq_iff_iff]
      simp
    · cases h
  | tup hq rr => cases h; exact .inr (.inl ⟨_, hq.sq, by rw [rr.empty]⟩)
  | ref hr =>
    simp only [truth] at h
    split at h
    · rename_i ds e
      cases h
      cases rh.ob _ _ _ e hr with
      | lst h1 rr => exact .inl ⟨_, SqL.of h1, by rw [rr.empty]⟩
    · rename_i ds e
      cases h
      cases rh.ob _ _ _ e hr with
      | fz h1 rr => exact .inl ⟨_, .inl (.inr ⟨_, h1⟩), by rw [rr.empty]⟩
    · cases h
  | ty n => cases h
  | cl hc => cases h
theorem tr_run {pins : List (Addr × Obj)} {s : Shared} {σ : L2.St} {H : Hp} {ρ : List Addr} {ch : CH} {d : D} {v : V} {u : Value} {α β : Type} {rel : Rel α β} {Q : β → Hp → Prop} {f : Bool → CH → Rs α} {Q' : Bool → Shared → Prop} (I : Inv X pins σ H s) (rh : RH X.K CM ρ ch H)
    (r : RV X.K CM ρ H d v) (rv : RelV v u) (h : Post X.K CM rel (fun c d H => W c d σ H) ρ H Q ((tr d ch).bind f))
    (q : ∀ b s', Inv X pins σ H s' → Post X.K CM rel (fun c d H => W c d σ H) ρ H Q (f b ch) → Q' b s') : wpAny (model X.prog X.w) X.A (truthy u) Q' X.xe s := by
  unfold tr at h
  split at h
  · rename_i b e
    refine thn (tru_ok pins s σ H v u (fun k H' => k = b ∧ H' = H) I rv ⟨b, truth_ok rh r e, rfl, rfl⟩) fun k s1 ⟨H1, I1, e1, e2⟩ => ?_
    subst e1; subst e2
    exact q _ _ I1 h
  · exact h.elim
end
end LL
namespace LL
open L2 PySem PyProof.Rows PySem.Spec
/-! ## own errors over any base that the library's facts know -/
/-- a base: its name, its __new__, its __init__, its line of classes -/
abbrev BaseE := String × String × String × List Value
/-- its __new__, which may be that of a base of it (L) -/
structure MakeX (L newId : String) (line : List Value) : Prop where
  cut : splitId newId = some (L, "__new__")
  fn : builtinKind newId = some .builtinFn
  sig : Manifest.signature? newId = some ⟨.any, L, L, .cls, [⟨"args", .varPos, false⟩, ⟨"kwargs", .varKw, false⟩]⟩
  hasL : line.contains (.type L) = true
  noA : line.contains (.type "AttributeError") = false
  noN : line.contains (.type "NameError") = false
  can : Manifest.canonical newId = Manifest.canonical "BaseException.__new__"
  ends : newId.endsWith ".__new__" = true ∧ newId.dropRight 8 = L
  ent : entryFor table newId = some Builtin.«BaseException.__new__»
  calm : newId.startsWith "lifetime." = false
  star : (L != "*") = true
theorem makeX_of {L newId initL : String} {bm line : List Value} (F : ExcBaseFacts L newId initL bm) (h1 : line.contains (.type L) = true) (h2 : line.contains (.type "AttributeError") = false) (h3 : line.contains (.type "NameError") = false) : MakeX L newId line :=
  ⟨F.newSplit, F.newKind, F.newRow, h1, h2, h3, F.canon, ⟨F.ends, F.owner⟩, F.entry, F.quiet, F.noStar⟩
/-- its __init__ -/
structure InitX (B initId : String) : Prop where
  kind : builtinKind initId = some .slot
  sig : Manifest.signature? initId = some ⟨.positional, "*", B, .self, [⟨"args", .varPos, false⟩]⟩
  ent : entryFor table initId = some Builtin.«BaseException.__init__»
  pl : plainId initId = true
  star : (B != "*") = true
theorem initX_of {B newId initId : String} (F : ExcCallFacts B newId initId) : InitX B initId := ⟨F.initKind, F.initRow, F.initEntry, F.init.plain, F.noStar⟩
structure XBase (b : BaseE) : Prop where
  made : ∃ L, MakeX L b.2.1 b.2.2.2
  ini : InitX b.1 b.2.2.1
  kept : StoreFacts b.1 b.2.2.2 "object.__setattr__" "object"
  over : PySem.W.KxsFacts b.1 b.2.2.1
def baseL : List BaseE := [
  ("ValueError", "ValueError.__new__", "ValueError.__init__", ["ValueError", "Exception", "BaseException", "object"].map .type),
  ("OverflowError", "OverflowError.__new__", "OverflowError.__init__", ["OverflowError", "ArithmeticError", "Exception", "BaseException", "object"].map .type),
  ("RuntimeError", "RuntimeError.__new__", "RuntimeError.__init__", ["RuntimeError", "Exception", "BaseException", "object"].map .type),
  ("KeyError", "LookupError.__new__", "KeyError.__init__", ["KeyError", "LookupError", "Exception", "BaseException", "object"].map .type)]
theorem store_KE : StoreFacts "KeyError" (["KeyError", "LookupError", "Exception", "BaseException", "object"].map .type) "object.__setattr__" "object" :=
  ⟨by kernel_rfl, .of (owner := "object") (n := "__setattr__") (by rw [typeLookup_type, builtinLookup_eq_fast]; kernel_rfl) (by decide +kernel) (by decide +kernel) (by decide +kernel) (by first | exact .inl (by decide +kernel) | exact .inr (by decide +kernel)) (by rw [isSubtype_type]; kernel_rfl),
    F.store_ValueError.entry, by decide +kernel, by decide +kernel, by decide +kernel, fun a b c => by unfold argsOk; kernel_rfl, fun self => by kernel_rfl⟩
theorem kxs_KE : PySem.W.KxsFacts "KeyError" "KeyError.__init__" := ⟨by show builtinType _ = _; rw [builtinType_eq_fast]; kernel_rfl, by first | kernel_rfl | rfl⟩
theorem initX_KE : InitX "KeyError" "KeyError.__init__" := ⟨excClass_KeyError.initKind, excClass_KeyError.initSig, excClass_KeyError.initEntry, excClass_KeyError.init.plain, excClass_KeyError.notStar⟩
theorem baseL_ok {b : BaseE} (h : b ∈ baseL) : XBase b := by
  simp only [baseL, List.mem_cons, List.not_mem_nil, or_false] at h
  rcases h with rfl | rfl | rfl | rfl
  · exact ⟨⟨_, makeX_of F.excBase_ValueError (by decide +kernel) (by decide +kernel) (by decide +kernel)⟩, initX_of F.excBase_ValueError.toExcCallFacts, F.store_ValueError, PySem.W.kxs_ValueError⟩
  · exact ⟨⟨_, makeX_of F.excBase_OverflowError (by decide +kernel) (by decide +kernel) (by decide +kernel)⟩, initX_of F.excBase_OverflowError.toExcCallFacts, F.store_OverflowError, PySem.W.kxs_OverflowError⟩
  · exact ⟨⟨_, makeX_of F.excBase_RuntimeError (by decide +kernel) (by decide +kernel) (by decide +kernel)⟩, initX_of F.excBase_RuntimeError.toExcCallFacts, F.store_RuntimeError, PySem.W.kxs_RuntimeError⟩
  · exact ⟨⟨_, makeX_of F.excBase_LookupError (by decide +kernel) (by decide +kernel) (by decide +kernel)⟩, initX_KE, store_KE, kxs_KE⟩
/-! ### C(..): type.__call__, the base's __new__, the own __init__ -/
section
variable {prog : Program} {w : World} {A : Around} {E : Value → Shared → Prop} {R : Result → Shared → Prop} {hp : Heap} {g : Array GenState} {dr : Drawn} {tk : Nat} {os : OsState}
variable {nm qn : Str} {C N fI : Addr} {bs bm line rest : List Value} {hd : Bool} {sn : List Str} {sb : List Value} {ab : Bool} {col : Option Bool} {dd : Option Addr} {k0 k1 k2 k3 k5 : Option Value} {L newId : String} {kw : List (Str × Value)}
theorem young_check (F : MakeX L newId line) (same : ∀ Y : String, bm.contains (.type Y) = line.contains (.type Y)) {Q : Unit → Shared → Prop}
    (kC : hp.get? C = some (excClassObj nm qn C N bs bm hd sn sb ab col dd k0 k1 k2 k3 k5 newId)) (q : Q () ⟨hp, g, dr, tk, os⟩) : wpAny (model prog w) A (checkBuiltinCall newId ⟨.ref C :: rest, kw⟩) Q E ⟨hp, g, dr, tk, os⟩ := by
  have inL : (Value.ref C :: bm).contains (.type L) = true := by rw [List.contains_cons, same, F.hasL, Bool.or_true]
  have st := F.star
  simp only [checkBuiltinCall, F.fn, F.cut, F.sig]
  (repeat (first | refine wpAny_loadPart_at kC ?_ | (refine wpAny_isSubtype_exc kC ?_; rw [inL]) | refine wpAny_staticBase_exc kC ?_ | refine wpAny_madeBy_exc kC ?_ | simp only [bne_self_eq_false, Bool.false_eq_true, if_false] | wp_step))
  exact q
theorem young_new (F : MakeX L newId line) (same : ∀ Y : String, bm.contains (.type Y) = line.contains (.type Y)) (kC : hp.get? C = some (excClassObj nm qn C N bs bm hd sn sb ab col dd k0 k1 k2 k3 k5 newId)) (few : rest.length ≤ sizeLine)
    (q : R (.ok (.ret (.ref (hp.objs.size + 1)))) ⟨(hp.push (PySem.W.kdv_tup rest)).push (PySem.HandSPX.excO C hp.objs.size), g, dr, tk, os⟩) : codeAny (model prog w) A (.builtin newId ⟨.ref C :: rest, kw⟩) R ⟨hp, g, dr, tk, os⟩ := by
  have en := F.ends.1
  have inL : (Value.ref C :: bm).contains (.type L) = true := by rw [List.contains_cons, same, F.hasL, Bool.or_true]
  have inA : (Value.ref C :: bm).contains (.type "AttributeError") = false := by rw [List.contains_cons, same, F.noA]; rfl
  have inN : (Value.ref C :: bm).contains (.type "NameError") = false := by rw [List.contains_cons, same, F.noN]; rfl
  refine codeAny_builtinAt F.ent ?_; unfold Builtin.«BaseException.__new__»; refine PySem.wpAt_bind ?_
  show PySem.wpAt _ _ _ (stack >>= _) _ _ _
  refine PySem.wpAt_bind (PySem.wpAt_stack fun pq low => wpAt_of_wpAny ?_)
  wp_walk
  refine wpAt_of_wpAny ?_
  rw [F.ends.2]
  (repeat (first | with_reducible refine wpAny_madeHere_exc F.can kC ?_ | with_reducible refine wpAny_loadPart_at kC ?_ | (with_reducible refine wpAny_isSubtype_exc kC ?_; first | rw [inL] | rw [inA] | rw [inN]) | wp_step))
  show R _ _
  rw [Heap.size_push]
  exact q
theorem young_type (F : MakeX L newId line) (same : ∀ Y : String, bm.contains (.type Y) = line.contains (.type Y)) {Q : Fin → Shared → Prop} (kC : hp.get? C = some (excClassObj nm qn C N bs bm hd sn sb ab col dd k0 k1 k2 k3 k5 newId))
    (look : PySem.W.Looks (model prog w) hp (typeLookup (.ref C) "__init__") (some (.ref fI))) (bnd : ∀ me, PySem.W.Looks (model prog w) hp (bindSpecial (.ref fI) me) (.ref fI, [me])) (few : rest.length ≤ sizeLine)
    (q : codeAny (model prog w) A (.call (.ref fI) ⟨.ref (hp.objs.size + 1) :: rest, kw⟩) (fun r s' => match r with | .ok (.ret v) => v = .none ∧ Q (.done (.ret (.ref (hp.objs.size + 1)))) s' | .ok _ => False | .error e => E e s')
      ⟨(hp.push (PySem.W.kdv_tup rest)).push (PySem.HandSPX.excO C hp.objs.size), g, dr, tk, os⟩) : wpAny (model prog w) A (Builtin.«type.__call__» ⟨.ref C :: rest, kw⟩) Q E ⟨hp, g, dr, tk, os⟩ := by
  (repeat (first | with_reducible refine wpAny_loadPart_at kC ?_ | with_reducible refine wpAny_madeBy_exc kC ?_ | wp_step))
  refine codeAny_call_builtin_code (Code.quiet_builtin _ F.calm) (young_check F same kC (young_new F same kC few ?_))
  show wpAny _ _ _ _ _ _
  have up : ∀ b o, hp.get? b = some o → ((hp.push (PySem.W.kdv_tup rest)).push (PySem.HandSPX.excO C hp.objs.size)).get? b = some o := fun b o z => Heap.get?_push_of_some _ (Heap.get?_push_of_some _ z)
  have kC1 := up _ _ kC
  have young : ((hp.push (PySem.W.kdv_tup rest)).push (PySem.HandSPX.excO C hp.objs.size)).get? (hp.objs.size + 1) = some (PySem.HandSPX.excO C hp.objs.size) := by heap_get
  have inC : (Value.ref C :: bm).contains (.ref C) = true := by simp
  have look1 := look.keeps up
  have bnd1 := (bnd (.ref (hp.objs.size + 1))).keeps up
  unfold isInstance
  (repeat (first | with_reducible refine wpAny_loadPart_at young ?_ | (with_reducible refine wpAny_isSubtype_exc kC1 ?_; rw [inC]) | wp_step))
  show wpAny _ _ ((typeLookup (.ref C) _)) _ _ _
  refine look1.at (wpAny_holding (wpAny_bind (bnd1.at (wpAny_bind (wpAny_call (codeAny_mono q fun r s' z => ?_))))))
  rcases r with e | (_ | _ | _ | _) <;> first
    | exact z
    | exact False.elim z
    | (obtain ⟨rfl, z⟩ := z
       first
         | exact (wpAny_pure (wpAny_pure z))
         | (wp_walk; exact z))
theorem young_call (F : MakeX L newId line) (same : ∀ Y : String, bm.contains (.type Y) = line.contains (.type Y)) (kC : hp.get? C = some (excClassObj nm qn C N bs bm hd sn sb ab col dd k0 k1 k2 k3 k5 newId))
    (look : PySem.W.Looks (model prog w) hp (typeLookup (.ref C) "__init__") (some (.ref fI))) (bnd : ∀ me, PySem.W.Looks (model prog w) hp (bindSpecial (.ref fI) me) (.ref fI, [me])) (few : rest.length ≤ sizeLine)
    (q : codeAny (model prog w) (A.under (.builtin "type.__call__" ⟨.ref C :: rest, kw⟩)) (.call (.ref fI) ⟨.ref (hp.objs.size + 1) :: rest, kw⟩) (PySem.W.InitBack (hp.objs.size + 1) R)
      ⟨(hp.push (PySem.W.kdv_tup rest)).push (PySem.HandSPX.excO C hp.objs.size), g, dr, tk, os⟩) : codeAny (model prog w) A (.call (.ref C) ⟨rest, kw⟩) R ⟨hp, g, dr, tk, os⟩ := by
  have fact1 := tc_lookup
  have fact2 := tc_bind (.ref C)
  have tyC : (⟨hp, g, dr, tk, os⟩ : Shared).TypeIs (.ref C) "type" := ⟨_, kC, rfl⟩
  refine codeAny_of_tree ?_; show wpAny _ _ (callAny (.ref C) _) _ _ _
  (repeat (any_goals (first | assumption | with_reducible refine wpAny_loadPart_at kC ?_ | wp_step)))
  refine ⟨rfl, codeAny_call_builtin_at (Code.quiet_builtin _ (by decide +kernel)) entry_typeCall (wpAny_check_type_call_sub kC (young_type F same kC look bnd few ?_))⟩
  refine codeAny_mono q fun r s' z => ?_
  rcases r with e | (_ | _ | _ | _) <;> exact z
theorem young_bound {M : Model} {B initId : String} {e : Addr} {oe : Obj} {Q : Unit → Shared → Prop} (F : InitX B initId) (kC : hp.get? C = some (excClassObj nm qn C N bs bm hd sn sb ab col dd k0 k1 k2 k3 k5 newId)) (ke : hp.get? e = some oe) (ce : oe.cls = .ref C)
    (q : Q () ⟨hp, g, dr, tk, os⟩) : wpAny M A (checkBoundCall initId ⟨.ref e :: rest, []⟩) Q E ⟨hp, g, dr, tk, os⟩ := by
  have st := F.star
  simp only [checkBoundCall, F.kind, F.sig]
  (repeat (first | (with_reducible refine wpAny_loadPart_at ke ?_; rw [ce]) | with_reducible refine wpAny_loadPart_at kC ?_ | wp_step))
  refine wpAny_onRaise ?_
  have chk : ∀ (a b : String) (n : Nat), Bind.check ⟨.positional, "*", B, .self, [⟨"args", .varPos, false⟩]⟩ a b n (List.map (fun y => y.fst) ({ pos := Value.ref e :: rest } : Args).kw) = pure () := fun a b n => check_star_args _ _ _ _ _ _
  rw [chk]
  exact wpAny_pure q
end
/-- an own error's class, as a test of the written part -/
def ownB (b : BaseE) (K : PySem.W.Frag) (C : Addr) : Bool :=
  PySem.W.excInitIn K C b.2.2.2 b.2.1 && (PySem.W.excOver K C b.2.2.2 && (PySem.W.hasDictIn K C && (decide (PySem.W.findIn K (.ref C) "__setattr__" = some (some (.builtin "object.__setattr__"))) &&
  (decide (PySem.W.subIn K (.ref C) (.type "BaseException") = some true) && (decide (PySem.W.typeIn K (.ref C) = some (.type "type")) && PySem.W.keepIn K (.ref C))))))
structure OexG (K : PySem.W.Frag) (C : Addr) : Prop where
  ex : ∃ b, XBase b ∧ ownB b K C = true
theorem and_t {p q : Bool} (h : (p && q) = true) : p = true ∧ q = true := by simpa using h
theorem takes_no {K : PySem.W.Frag} {C : Addr} {f : Str} (h : PySem.W.findIn K (.ref C) f = some none) : PySem.W.takerIn K C f = some none := by
  unfold PySem.W.takerIn
  rw [h]
  rfl
section
variable {X : Cx} {pins : List (Addr × Obj)} {σ : L2.St} {H : Hp} {s : Shared} {a C : Addr} {f : Str} {y : V} {u : Value}
/-- a young error keeps its first field: a dict is laid, then the error points to it -/
theorem young_keeps {Q : Unit → Shared → Prop} {E : Value → Shared → Prop} {A : Around} (T : OexG X.K C) (I : Inv X pins σ H s) (e : H a = some (exo a C none)) (hf : PySem.W.findIn X.K (.ref C) f = some none) (ry : RelV y u)
    (fin : ∀ dx s', H dx = none → dx ≠ a → Inv X pins σ (upd (upd H dx (exd dx [(f, y)])) a (exo a C (some dx))) s' → Q () s') : wpAny (model X.prog X.w) A (setAttr (.ref a) f u) Q E s := by
  obtain ⟨b, XB, hb⟩ := T.ex
  obtain ⟨_, hb⟩ := and_t hb
  obtain ⟨ov, hb⟩ := and_t hb
  obtain ⟨hd, hb⟩ := and_t hb
  have sa := of_decide_eq_true (and_t hb).1
  obtain ⟨t0, here⟩ := exo_at I.hok e
  obtain ⟨hp, g, dr, t, os⟩ := s
  have lt : a < hp.objs.size := Heap.lt_size here
  refine PySem.W.set_plain I.kIn (od := none) ⟨here, rfl, rfl, trivial⟩ sa (PySem.W.osa_openX (od := none) XB.kept I.kIn ⟨here, rfl, rfl, trivial⟩ ov (takes_no hf) fun _ => ?_)
  obtain ⟨cd, hc, hdd⟩ := PySem.W.any_some hd
  refine wpAny_bind (wpAny_pure (wpAny_bind (PySem.W.instanceDict_exc here (PySem.W.looks_clsIn I.kIn hc) hdd ?_)))
  have far : hp.objs.size ≠ a := Nat.ne_of_gt lt
  refine PySem.HandSPX.store_in_new (dx := hp.objs.size) ⟨PySem.W.dictOf [] 0, #[], _, (Heap.get?_update_ne _ _ _ _ far).trans (Heap.get?_push_at rfl rfl), rfl, fun _ z => absurd z (by simp), fun _ => rfl⟩ fun h' tk' told same => ?_
  have hN : H hp.objs.size = none := I.hok.fresh (Nat.le_refl _)
  have now : h'.get? a = some { cls := .ref C, dict := some hp.objs.size, data := .fields #[.ref t0, .none, .none, .none, .bool false, .none] } :=
    (same.2 a far.symm).trans (Heap.get?_update_self _ (Heap.get?_push_of_some _ here) rfl)
  have rest : ∀ b o, b ≠ a → hp.get? b = some o → h'.get? b = some o := fun b o n z =>
    ((same.2 b (Nat.ne_of_lt (Heap.lt_size z))).trans (Heap.get?_update_ne _ _ _ _ n)).trans (Heap.get?_push_of_some _ z)
  have self_ : ∀ o : Obj, o.isFreed = false → ((h'.update a fun _ => o).get? a = some o) := fun o z => Heap.get?_update_self _ now z
  have else_ : ∀ o b, b ≠ a → (h'.update a fun _ => o).get? b = h'.get? b := fun o b n => Heap.get?_update_ne _ _ _ _ n
  -- the dict is laid while the error stands as it stood
  obtain ⟨m, hm⟩ : ∃ m, m = h'.update a fun _ => ({ cls := .ref C, dict := none, data := .fields #[.ref t0, .none, .none, .none, .bool false, .none] } : Obj) := ⟨_, rfl⟩
  have m1 : ∀ b o, hp.get? b = some o → m.get? b = some o := fun b o z => by
    by_cases n : b = a
    · subst n
      rw [hm, self_ _ rfl, ← z, here]
    · rw [hm, else_ _ b n]
      exact rest b o n z
  have m2 : ∀ b o, b ≠ a → m.get? b = some o → h'.get? b = some o := fun b o n z => by rwa [hm, else_ _ b n] at z
  have I1 : Inv X pins σ (upd H hp.objs.size (exd hp.objs.size [(f, y)])) ⟨m, g, dr, tk', os⟩ := by
    refine I.laid (t' := tk') (h' := m) m1 (Nat.le_refl _) (exd_ok (mA := fun z => if z = f then some u else none) ?_ (relO_put (fs := []) ry fun _ => trivial))
    obtain ⟨o, es, ep, z1, z2⟩ := told
    exact ⟨o, es, ep, by rw [hm, else_ _ _ far]; exact z1, z2⟩
  have ea : upd H hp.objs.size (exd hp.objs.size [(f, y)]) a = some (exo a C none) := by rw [upd_ne far.symm, e]
  exact fin _ _ hN far (I1.write (t' := tk') (h' := h') (x := a) (e := a) (o := exo a C (some hp.objs.size)) (by rw [ea]; trivial) (.inl rfl) m2 ⟨_, now⟩ (exo_ok now))
/-- self.f = e of a young error, read -/
def tYoung (K : PySem.W.Frag) (f : Str) (to te : TE) : TS := fun D σ H => te σ H fun y H1 => to σ H1 fun x H2 => ∃ a C : Addr, x = .ref a ∧ (OexG K C ∧ PySem.W.findIn K (.ref C) f = some none) ∧
  H2 a = some (exo a C none) ∧ ∀ dx, H2 dx = none → dx ≠ a → D.nx σ (upd (upd H2 dx (exd dx [(f, y)])) a (exo a C (some dx)))
theorem ps_young {o v : Expr} {to te : TE} {p' pos : Pos} (ho : PE X o to) (hv : PE X v te) (hs : swapsWith v (some (.Attribute o f p')) pos.line X.env = pure false) : PS X (.Assign [.Attribute o f p'] v pos) (tYoung X.K f to te) := by
  constructor
  intro pins s σ H D I h
  refine plainObj_wpAny_Assign_Attribute (thn (hv.run pins s σ H _ I h) ?_) hs
  rintro w s1 ⟨y, H1, I1, ry, h1⟩
  refine thn (ho.run pins s1 σ H1 _ I1 h1) ?_
  rintro z s2 ⟨x, H2, I2, rx, a, C, rfl, ⟨T, hf⟩, ea, h2⟩
  cases (show z = Value.ref a from rx)
  exact young_keeps T I2 ea hf ry fun dx s' n d J => ⟨σ, _, J, h2 dx n d⟩
/-- behind the making: its arguments' tuple and the error itself stand on top -/
theorem young_laid {us : List Value} {hp : Heap} {g : Array GenState} {dr : Drawn} {t : Nat} {os : OsState} (I : Inv X pins σ H ⟨hp, g, dr, t, os⟩) :
    Inv X pins σ (upd H (hp.objs.size + 1) (exo (hp.objs.size + 1) C none)) ⟨(hp.push (PySem.W.kdv_tup us)).push (PySem.HandSPX.excO C hp.objs.size), g, dr, t, os⟩ :=
  I.laid (t' := t) (fun _ _ z => Heap.get?_push_of_some _ (Heap.get?_push_of_some _ z)) (Nat.le_succ _) (exo_ok (t1 := hp.objs.size) (by heap_get))
/-- C(v, ..): the class's own __init__ keeps sp -/
theorem pmk_young {v : Expr} {vs : List Expr} {ta : TA} {p pos : Pos} {CX : CXT} {x : Str} {fI : Addr} {k : Nat} {fd : FuncData} {ps : List Str} {sp : Sp} {ds : List Value} {dvs : List V} (T : OexG X.K C)
    (looks : PySem.W.findIn X.K (.ref C) "__init__" = some (some (.ref fI)) ∧ PySem.W.typeIn X.K (.ref fI) = some (.type "function")) (FI : FnOk X.prog X.w X.K X.mg X.base CX k fI fd ps sp) (room : Room (k + 1) X.A) (bi : Binds X.K fd ps ds) (dv : Vals dvs ds)
    (noX : Passes CX X (fun _ _ _ => False)) (glob : Gl X x ∧ X.mg x = some (.ref C)) (ha : PA X (v :: vs) ta) (dbg : (x == ("__debug__" : Str)) = false) (plain : starEach (v :: vs) X.env = (false, eval v X.env) :: starEach vs X.env) (plain2 : (backTo pos (starEach vs X.env)).any (·.1) = false) :
    PMk X (.Call (.Name x p) (v :: vs) [] pos) (tMkO C sp dvs ta) := by
  obtain ⟨b, XB, hb⟩ := T.ex
  obtain ⟨b1, hb⟩ := and_t hb
  obtain ⟨_, hb⟩ := and_t hb
  obtain ⟨_, hb⟩ := and_t hb
  obtain ⟨_, hb⟩ := and_t hb
  obtain ⟨b5, hb⟩ := and_t hb
  obtain ⟨b6, b7⟩ := and_t hb
  intro pins s σ H Q I h
  refine wpAny_Call_Name_kw (ld_glob I glob.1 glob.2 (PySem.W.callWith_K (h₀ := X.base) I.ok.mod.kin b7 (thn (ha.run pos pins s σ H _ I h) ?_) plain plain2) dbg)
  rintro us ⟨hp, g, dr, t, os⟩ ⟨ws, H1, I1, rw1, hz, h1⟩
  refine ⟨I1.kIn, ?_⟩
  obtain ⟨nm, N, qn, bs, bm, hdct, sn, sub, ab, col, dd, k0, k1, k2, k3, k5, hC, has⟩ := PySem.W.excInit_of I1.kIn b1
  obtain ⟨_, XM⟩ := XB.made
  have made := young_laid (C := C) (us := us) I1
  have told := h1 (hp.objs.size + 1) (I1.hok.fresh (Nat.le_succ _))
  have args : Vals (V.ref (hp.objs.size + 1) :: (ws ++ dvs)) (Value.ref (hp.objs.size + 1) :: (us ++ ds)) := .cons rfl (rw1.append dv)
  have many : (Value.ref (hp.objs.size + 1) :: us ++ ds).length = ps.length := args.length.symm.trans (FI.len _ _ _ _ told)
  have few : us.length ≤ sizeLine := by
    have := Paired.length rw1
    rw [sizeLine_eq]
    omega
  refine wpAny_call (young_call XM has hC (PySem.W.looks_findIn I1.kIn looks.1) (fun me => PySem.W.bind_fn I1.kIn me looks.2) few (codeAny_mono (FI.run _ X.stack _ _ ⟨Value.ref (hp.objs.size + 1) :: us, []⟩ (Value.ref (hp.objs.size + 1) :: (us ++ ds)) _ _ (fun _ _ _ => False)
    (room.make C us []) (made.env0.make C us []) (bi _ (Value.ref (hp.objs.size + 1) :: us) made.kIn many) args told) ?_))
  rintro (er | (u | _ | _ | _)) ⟨h2, g2, d2, t2, o2⟩ back
  · exact noX pins σ _ _ er _ made back
  all_goals first
    | exact False.elim back
    | (obtain ⟨r, H2, os2, bare, un, hok, rr, rfl, d, fs, e1, e2, e3, q⟩ := back
       exact ⟨rr, mk_end (raises_own (of_decide_eq_true b5) (of_decide_eq_true b6)) I1 (Nat.le_succ _) (fun _ _ z => Heap.get?_push_of_some _ (Heap.get?_push_of_some _ z)) un hok os2 bare e1 e2 e3 q⟩)
/-- C(..) told as a value: it keeps what is handed in -/
theorem run_err {CX : CXT} {fI : Addr} {k : Nat} {fd : FuncData} {p : Str} {us : List Value} {kws : List (Str × Value)} {Q : VK} {v : V} (T : OexG X.K C)
    (looks : PySem.W.findIn X.K (.ref C) "__init__" = some (some (.ref fI)) ∧ PySem.W.typeIn X.K (.ref fI) = some (.type "function")) (FI : FnOk X.prog X.w X.K X.mg X.base CX k fI fd ["self", p]
      (fun vs H Q _ => ∃ (a : Addr) (v : V), vs = [.ref a, v] ∧ H a = some (exo a C none) ∧ ∀ dx, H dx = none → dx ≠ a → Q .non (upd (upd H dx (exd dx [(f, v)])) a (exo a C (some dx))))) (room : Room (k + 1) X.A)
    (noX : Passes CX X (fun _ _ _ => False)) (few : us.length ≤ sizeLine) (bind : ∀ (e : Addr) (s : Shared), X.K.In s.heap → BindsTo s fd ⟨.ref e :: us, kws⟩ ((["self", p] : List Str).zip [.ref e, u])) (rv : RelV v u) (I : Inv X pins σ H s)
    (q : ∀ a dx, H a = none → H dx = none → dx ≠ a → Q (.ref a) (upd (upd H dx (.xd [(f, v)])) a (exo a C (some dx)))) :
    wpAny (model X.prog X.w) X.A (call (.ref C) us kws) (EP X pins σ Q) X.xe s := by
  obtain ⟨b, XB, hb⟩ := T.ex
  obtain ⟨b1, hb⟩ := and_t hb
  obtain ⟨nm, N, qn, bs, bm, hdct, sn, sub, ab, col, dd, k0, k1, k2, k3, k5, hC, has⟩ := PySem.W.excInit_of I.kIn b1
  obtain ⟨_, XM⟩ := XB.made
  obtain ⟨hp, g, dr, t, os⟩ := s
  have made := young_laid (C := C) (us := us) I
  have hn := I.hok.fresh (Nat.le_succ hp.objs.size)
  have args : Vals [V.ref (hp.objs.size + 1), v] [Value.ref (hp.objs.size + 1), u] := .cons rfl (.cons rv .nil)
  refine wpAny_call (young_call XM has hC (PySem.W.looks_findIn I.kIn looks.1) (fun me => PySem.W.bind_fn I.kIn me looks.2) few (codeAny_mono (FI.run _ X.stack _ _ ⟨Value.ref (hp.objs.size + 1) :: us, kws⟩ [Value.ref (hp.objs.size + 1), u] [V.ref (hp.objs.size + 1), v]
    (fun r H2 => r = .non ∧ ∃ d, H2 (hp.objs.size + 1) = some (exo (hp.objs.size + 1) C (some d)) ∧ H2 d = some (exd d [(f, v)]) ∧ H d = none ∧ Q (.ref (hp.objs.size + 1)) (upd (upd (L2.del H2 (hp.objs.size + 1)) d (.xd [(f, v)])) (hp.objs.size + 1) (exo (hp.objs.size + 1) C (some d)))) (fun _ _ _ => False)
    (room.make C us kws) (made.env0.make C us kws) (bind _ _ made.kIn) args ⟨_, v, rfl, upd_same, fun dx n1 n2 => ?_⟩) ?_))
  · rw [upd_ne n2] at n1
    refine ⟨rfl, dx, upd_same, by rw [upd_ne n2, upd_same], n1, ?_⟩
    have eH : upd (upd (L2.del (upd (upd (upd H (hp.objs.size + 1) (exo (hp.objs.size + 1) C none)) dx (exd dx [(f, v)])) (hp.objs.size + 1) (exo (hp.objs.size + 1) C (some dx))) (hp.objs.size + 1)) dx (.xd [(f, v)])) (hp.objs.size + 1) (exo (hp.objs.size + 1) C (some dx)) =
        upd (upd H dx (.xd [(f, v)])) (hp.objs.size + 1) (exo (hp.objs.size + 1) C (some dx)) := by
      funext b
      by_cases h1 : b = hp.objs.size + 1
      · rw [h1, upd_same, upd_same]
      · rw [upd_ne h1, upd_ne h1]
        by_cases h2 : b = dx
        · rw [h2, upd_same, upd_same]
        · rw [upd_ne h2, upd_ne h2, L2.del_ne h1, upd_ne h1, upd_ne h2, upd_ne h1]
    rw [eH]
    exact q _ _ hn n1 n2
  · rintro (er | (u' | _ | _ | _)) ⟨h2, g2, d2, t2, o2⟩ back
    · exact noX pins σ _ _ er _ made back
    all_goals first
      | exact False.elim back
      | (obtain ⟨r, H2, os2, bare, un, hok, rr, rfl, d, e1, e2, e3, q⟩ := back
         obtain ⟨t0, G, J, kG, ge, hoe, na⟩ := mk_end0 (d2 := d2) (t2 := t2) I (Nat.le_succ _) (fun _ _ z => Heap.get?_push_of_some _ (Heap.get?_push_of_some _ z)) un hok os2 bare e1 e2 e3
         exact ⟨rr, .ref (hp.objs.size + 1), _, J.laidN (t' := t2) (h' := h2) kG ge na (exo_ok hoe), rfl, q⟩)
end
end LL
namespace LL
open PySem PySem.Spec PyProof.Rows L2
/-! ## the program's table -/
/-- where a parameter's value comes from -/
inductive Arg where
  | pos (j : Nat) | kw (j : Nat) | dfl (d : D)
/-- a form of call: n positional values, keywords in this order; the parameters' values -/
structure Pat where
  n : Nat
  ks : List Str
  arr : List Arg
structure FnI where
  nm : Str
  qual : Str
  st : Stmt
  ps : List Str
  N : List Str
  pats : List Pat
structure Tab where
  fns : List (Str × FnI)
  gfn : List Str
  cls : List Str
  mks : List (Str × Str)
  mts : List ((Str × Str) × Str)
  flds : List (Str × Str)
  cons : List (Str × D)
  names : List Str
  isc : List Str := []
  unl : List (Str × Str) := []
  excs : List (Str × Str) := []
  xin : List (Str × Stmt) := []
  bis : List (Str × String) := []
  cat : List ((Str × Str) × Bool) := []
  kit : List ((Str × Str) × Bool) := []
  dts : List (Nat × Nat) := []
  lks : List (Nat × Nat) := []
  erv : Bool := false
  xkw : List Str := []
inductive Fl where
  | nx | br | ct | rt (d : D)
inductive RsS where
  | ok (env : En) (f : Fl) (h : CH) | exc (env : En) (c : Str) (fs : List (Str × D)) (h : CH) | bad
structure Rc where
  E : Sk → Expr → En → CH → Rs D
  T : Sk → Expr → En → CH → Rs Bool
  B : Sk → List Stmt → En → CH → RsS
  G : Sk → Expr → D → En → CH → Rs En
  F : Str → List D → CH → Rs D
def isSlice : Expr → Bool
  | .Slice _ _ _ _ => true
  | _ => false
/-- what might be super() -/
def isCall : Expr → Bool
  | .Call (.Name _ _) [] [] _ => true
  | _ => false
def isStar : Expr → Bool
  | .Starred _ _ => true
  | _ => false
/-- several, from the left -/
def evs (R : Rc) (s : Sk) : List Expr → En → CH → Rs (List D)
  | [], _, ch => .ok [] ch
  | e :: es, env, ch => if isStar e then .bad else (R.E s e env ch).bind fun d c => (evs R s es env c).bind fun ds c => .ok (d :: ds) c
def startE (N : List Str) (ds : List D) : En := ds.map some ++ List.replicate (N.length - ds.length) none
/-! the same data -/
mutual
def same : D → D → Bool
  | .non, .non => true
  | .bl a, .bl b => a == b
  | .int i, .int j => i == j
  | .str x, .str y => x == y
  | .tup xs, .tup ys => sames xs ys
  | .ref n, .ref m => n == m
  | .ty n, .ty m => n == m
  | .cl n, .cl m => n == m
  | _, _ => false
def sames : List D → List D → Bool
  | [], [] => true
  | x :: xs, y :: ys => same x y && sames xs ys
  | _, _ => false
end
mutual
theorem same_eq : ∀ x y : D, same x y = true → x = y
  | .non, y, h => by cases y <;> simp_all [same]
  | .bl a, y, h => by cases y <;> simp_all [same]
  | .int a, y, h => by cases y <;> simp_all [same]
  | .str a, y, h => by cases y <;> simp_all [same]
  | .tup a, y, h => by
    cases y <;> first
      | (simp only [same] at h; rw [sames_eq _ _ h])
      | (simp [same] at h)
  | .ref a, y, h => by cases y <;> simp_all [same]
  | .ty a, y, h => by cases y <;> simp_all [same]
  | .cl a, y, h => by cases y <;> simp_all [same]
theorem sames_eq : ∀ x y : List D, sames x y = true → x = y
  | [], y, h => by cases y <;> simp_all [sames]
  | x :: xs, y, h => by
    cases y with
    | nil => simp [sames] at h
    | cons y ys =>
      simp only [sames, Bool.and_eq_true] at h
      rw [same_eq _ _ h.1, sames_eq _ _ h.2]
end
mutual
theorem same_rfl : ∀ x : D, same x x = true
  | .non => by simp [same]
  | .bl a => by simp [same]
  | .int a => by simp [same]
  | .str a => by simp [same]
  | .tup a => by simp only [same]; exact sames_rfl a
  | .ref a => by simp [same]
  | .ty a => by simp [same]
  | .cl a => by simp [same]
theorem sames_rfl : ∀ x : List D, sames x x = true
  | [] => by simp [sames]
  | x :: xs => by simp only [sames, Bool.and_eq_true]; exact ⟨same_rfl x, sames_rfl xs⟩
end
/-- what is walked: the items, and a list that has to stay as it is -/
inductive WatT where
  | l (n : Nat) | e (n : Nat) | z (a b : Option Nat) (xs ys : List D)
instance : Coe Nat WatT := ⟨.l⟩
/-- the pairs that enumerate tells -/
def enumD : Nat → List D → List D
  | _, [] => []
  | k, d :: r => .tup [.int (k : Nat), d] :: enumD (k + 1) r
structure Itm where
  ds : List D
  wat : Option WatT
/-- a walked row stands as it stood -/
def keepW (a : Option Nat) (xs : List D) (ch : CH) : Bool := match a with
  | none => true
  | some n => (match ch.get n with
    | some (.lst es) => sames es xs
    | some (.fz es) => sames es xs
    | _ => false)
/-- the pairs that zip tells -/
def zipD : List D → List D → List D
  | x :: xs, y :: ys => .tup [x, y] :: zipD xs ys
  | _, _ => []
def okW (it : Itm) (ch : CH) : Bool := match it.wat with
  | none => true
  | some (.l n) => (match ch.get n with
    | some (.lst es) => sames es it.ds
    | some (.fz es) => sames es it.ds
    | _ => false)
  | some (.e n) => (match ch.get n with
    | some (.lst es) => sames (enumD 0 es) it.ds
    | some (.fz es) => sames (enumD 0 es) it.ds
    | _ => false)
  | some (.z a b xs ys) => keepW a xs ch && keepW b ys ch
def callB (T : Tab) (R : Rc) (key : Str) (ds : List D) (ch : CH) : Rs D := match T.fns.lookup key with
  | some i => if ds.length = i.ps.length then (match R.B ⟨i.N, defScope i.st, fun _ => true, true⟩ (defBody i.st) (startE i.N ds) ch with
    | .ok _ .nx c => .ok .non c
    | .ok _ (.rt d) c => .ok d c
    | .exc _ c fs h => .exc c fs h
    | _ => .bad) else .bad
  | none => .bad
/-! calls -/
def dV : D → V
  | .bl b => .bl b
  | .int i => .int i
  | .str s => .str s
  | _ => .non
def arrange (ds zs : List D) : List Arg → Option (List D)
  | [] => some []
  | a :: r => match (match a with | .pos j => ds[j]? | .kw j => zs[j]? | .dfl d => if isImm d then some d else none), arrange ds zs r with
    | some d, some l => some (d :: l)
    | _, _ => none
def arrV (arr : List Arg) (vs zs : List V) : List V := arr.map fun a => match a with | .pos j => vs.getD j .non | .kw j => zs.getD j .non | .dfl d => dV d
def kwNames : List Keyword → Option (List Str)
  | [] => some []
  | k :: r => match k.arg, kwNames r with
    | some x, some xs => some (x :: xs)
    | _, _ => none
def evk (R : Rc) (s : Sk) : List Keyword → En → CH → Rs (List D)
  | [], _, ch => .ok [] ch
  | k :: r, env, ch => (R.E s k.value env ch).bind fun d c => (evk R s r env c).bind fun ds c => .ok (d :: ds) c
def patOf (T : Tab) (key : Str) (n : Nat) (ks : List Str) : Option Pat := match T.fns.lookup key with
  | some i => i.pats.find? fun p => decide (p.n = n ∧ p.ks = ks)
  | none => none
/-- a name -/
def evVar (s : Sk) (x : Str) (env : En) (ch : CH) : Rs D := match ixOf x s.N with
  | some i => (match env[i]? with
    | some (some d) => .ok d ch
    | _ => .bad)
  | none => .bad
def evGlo (T : Tab) (x : Str) (ch : CH) : Rs D := match T.cons.lookup x with
  | some d => .ok d ch
  | none => if x ∈ T.names then .bad else (match bootBuiltins x with
    | some (.type n) => .ok (.ty n) ch
    | _ => .bad)
def evName (T : Tab) (s : Sk) (x : Str) (env : En) (ch : CH) : Rs D :=
  if (x == ("__debug__" : Str)) = false ∧ (x == ("__classdict__" : Str)) = false ∧ x ≠ "__name__" then (match s.sc.names.lookup x with
    | some .globalImplicit => evGlo T x ch
    | some .local => evVar s x env ch
    | some .cell => evVar s x env ch
    | some .free => evVar s x env ch
    | _ => .bad) else .bad
/-- tests of and, or -/
def evAll (R : Rc) (s : Sk) (op : BoolOp) : List Expr → En → CH → Rs Bool
  | [], _, ch => .ok (op == .And) ch
  | e :: es, env, ch => (R.T s e env ch).bind fun b c => match op, b with
    | .And, false => .ok false c
    | .Or, true => .ok true c
    | _, _ => evAll R s op es env c
/-- and, or as values -/
def evBool (R : Rc) (s : Sk) (op : BoolOp) : List Expr → En → CH → Rs D
  | [], _, _ => .bad
  | [e], env, ch => R.E s e env ch
  | e :: es, env, ch => (R.E s e env ch).bind fun d c => (tr d c).bind fun b c => match op, b with
    | .And, false => .ok d c
    | .Or, true => .ok d c
    | _, _ => evBool R s op es env c
def ix (x y : D) (ch : CH) : Rs D := match x, y with
  | .tup ds, .int i => (match atI ds i with | some d => .ok d ch | none => .bad)
  | .ref n, .int i => (match ch.get n with
    | some (.lst ds) => (match atI ds i with | some d => .ok d ch | none => .bad)
    | some (.fz ds) => (match atI ds i with | some d => .ok d ch | none => .bad)
    | _ => .bad)
  | _, _ => .bad
/-- nothing is raised -/
def Rs.nx {α : Type} : Rs α → Rs α
  | .ok a h => .ok a h
  | _ => .bad
def lenD (ch : CH) : D → Option Nat
  | .str s => if s.length ≤ 16777216 then some s.length else none
  | .tup ds => some ds.length
  | .ref n => match ch.get n with
    | some (.lst ds) => some ds.length
    | some (.fz ds) => some ds.length
    | some (.dt kvs) => some kvs.length
    | _ => none
  | _ => none
def intsOf : List D → Option (List Int)
  | [] => some []
  | .int i :: r => (intsOf r).map (i :: ·)
  | _ => none
def blsOf : List D → Option (List Bool)
  | [] => some []
  | .bl i :: r => (blsOf r).map (i :: ·)
  | _ => none
/-- the items of a list that stands in the heap -/
def lstOf (ch : CH) : D → Option (List D)
  | .ref n => match ch.get n with
    | some (.lst ds) => some ds
    | some (.fz ds) => some ds
    | _ => none
  | _ => none
def tyName (ch : CH) : D → Option String
  | .non => some "NoneType"
  | .bl _ => some "bool"
  | .int _ => some "int"
  | .str _ => some "str"
  | .tup _ => some "tuple"
  | .ref n => match ch.get n with
    | some (.lst _) => some "list"
    | some (.fz _) => some "list"
    | some (.dk _) => some "dict"
    | some (.dt _) => some "dict"
    | _ => none
  | _ => none
def tysOf : List D → Option (List String)
  | [] => some []
  | .ty n :: r => (tysOf r).map (n :: ·)
  | _ => none
def kitsB (t : String) : List String → Option Bool
  | [] => some false
  | n :: r => match kitB t n with
    | some true => some true
    | some false => kitsB t r
    | none => none
/-- the text of a value that is no object -/
def reprD (ch : CH) : D → Option D
  | .non => some (.str "None")
  | .bl b => some (.str (if b then "True" else "False"))
  | .int i => if i.natAbs.log2 < 1920 then some (.str (toString i)) else none
  | .str x => if (reprText x).length ≤ sizeLine then some (.str (reprText x)) else none
  | d => (match toPy ch 60 d with
    | some p => if (PyData.showable p && (!PyData.hasDict p && (decide (PyData.depth p ≤ 60) && decide ((PyData.shown p).length ≤ sizeLine)))) = true then some (.str (PyData.shown p)) else none
    | none => none)
def bi (id : String) (ds : List D) (ch : CH) : Rs D :=
  if id = "len" then (match ds with | [d] => (match lenD ch d with | some k => .ok (.int (k : Nat)) ch | none => .bad) | _ => .bad)
  else if id = "abs" then (match ds with | [.int i] => .ok (.int (if i < 0 then -i else i)) ch | _ => .bad)
  else if id = "max" then (match ds with | [.int i, .int j] => .ok (.int (if j > i then j else i)) ch | _ => .bad)
  else if id = "min" then (match ds with | [.int i, .int j] => .ok (.int (if j < i then j else i)) ch | _ => .bad)
  else if id = "isinstance" then (match ds with | [d, .ty n] => (match tyName ch d with | some t => (match kitB t n with | some b => .ok (.bl b) ch | none => .bad) | none => .bad) | [d, .tup ts] => (match tysOf ts with | some ns => (match ((tyName ch d).bind fun t => kitsB t ns) with | some b => .ok (.bl b) ch | none => .bad) | none => .bad) | _ => .bad)
  else if id = "sum" then (match ds with | [d] => (match (lstOf ch d).bind intsOf with | some ns => .ok (.int ns.sum) ch | none => .bad) | _ => .bad)
  else if id = "any" then (match ds with | [d] => (match (lstOf ch d).bind blsOf with | some bs => .ok (.bl (bs.any _root_.id)) ch | none => .bad) | _ => .bad)
  else if id = "all" then (match ds with | [d] => (match (lstOf ch d).bind blsOf with | some bs => .ok (.bl (bs.all _root_.id)) ch | none => .bad) | _ => .bad)
  else if id = "repr" then (match ds with | [d] => (match reprD ch d with | some r => .ok r ch | none => .bad) | _ => .bad)
  else .bad
def keyD : D → Option L2.Key
  | .int i => some (.inl i)
  | .str x => some (.inr x)
  | _ => none
/-- the pairs that a list of tuples tells -/
def pairsOf : List D → Option (List (L2.Key × D))
  | [] => some []
  | .tup [kd, vd] :: ds => (match keyD kd, pairsOf ds with
    | some k, some l => some ((k, vd) :: l)
    | _, _ => none)
  | _ => none
def bty (t : String) (ds : List D) (ch : CH) : Rs D :=
  if t = "int" then (match ds with | [.int i] => .ok (.int i) ch | [.bl k] => .ok (.int (if k then 1 else 0)) ch | _ => .bad)
  else if t = "bool" then (match ds with | [.int i] => .ok (.bl (i != 0)) ch | [.bl k] => .ok (.bl k) ch | _ => .bad)
  else if t = "list" then (match ds with
    | [.tup es] => .ok (.ref ch.sz) (ch.push (.lst es))
    | [.ref n] => (match lstOf ch (.ref n) with
      | some es => .ok (.ref ch.sz) (ch.push (.lst es))
      | none => (match ch.get n with
        | some (.dk kvs) => .ok (.ref ch.sz) (ch.push (.lst (kvs.map fun kv => kD kv.1)))
        | _ => .bad))
    | _ => .bad)
  else if t = "tuple" then (match ds with
    | [.tup es] => .ok (.tup es) ch
    | [.ref n] => (match lstOf ch (.ref n) with | some es => .ok (.tup es) ch | none => .bad)
    | _ => .bad)
  else if t = "dict" then (match ds with
    | [.ref n] => (match ch.get n with
      | some (.dk kvs) => .ok (.ref ch.sz) (ch.push (.dk kvs))
      | some (.lst ds) => (match pairsOf ds with
        | some kvs => .ok (.ref ch.sz) (ch.push (.dk (mergeD [] kvs)))
        | none => .bad)
      | _ => .bad)
    | _ => .bad)
  else .bad
def isBt (T : Tab) (s : Sk) (x : Str) : Bool := decide (s.sc.names.lookup x = some .globalImplicit) && !T.names.contains x && (T.cons.lookup x).isNone
def isBi (f : Str) : Bool := match bootBuiltins f with
  | some (.builtin _) => true
  | some (.type _) => true
  | _ => false
/-- the arguments of a call, put in order -/
def args (R : Rc) (s : Sk) (es : List Expr) (kws : List Keyword) (env : En) (ch : CH) : Rs (List D × List D) := (evs R s es env ch).bind fun ds c => (evk R s kws env c).bind fun zs c => .ok (ds, zs) c
def callP (T : Tab) (R : Rc) (key : Str) (p : Pat) (ds zs : List D) (ch : CH) : Rs D := if ds.length = p.n ∧ zs.length = p.ks.length then (match arrange ds zs p.arr with
  | some as => R.F key as ch
  | none => .bad) else .bad
/-- the method of an instance -/
def methOf (T : Tab) (m : Str) (d : D) (ch : CH) : Option Str := match d with
  | .ref n => (match ch.get n with
    | some (.ins c fs) => if T.cls.contains c && (fs.lookup m).isNone then T.mts.lookup (c, m) else none
    | _ => none)
  | _ => none
/-- a method that an operator calls -/
def opM (T : Tab) (R : Rc) (key : Str) (as : List D) (ch : CH) : Rs D := match patOf T key as.length [] with
  | some p => callP T R key p as [] ch
  | none => .bad
/-- what an own + may have on its right -/
def addOk (y : D) (ch : CH) : Bool := match y with
  | .ref m => (match ch.get m with
    | some (.lst _) => true
    | _ => false)
  | _ => false
def binR (T : Tab) (R : Rc) (op : Operator) (x y : D) (ch : CH) : Rs D := match op with
  | .Add => (match methOf T "__add__" x ch with
    | some key => if addOk y ch then opM T R key [x, y] ch else .bad
    | none => bin .Add x y ch)
  | op => bin op x y ch
/-- isinstance(d, an own class) -/
def isiC (T : Tab) (d : D) (c : Str) (ch : CH) : Option Bool := if T.isc.contains c then (match d with
  | .ref n => (match ch.get n with
    | some (.ins c' _) => if T.cls.contains c' && T.isc.contains c' then (if c' = c then some true else if T.unl.contains (c', c) then some false else none) else none
    | _ => (match tyName ch d with | some t => if ["NoneType", "bool", "int", "str", "tuple", "list", "dict"].contains t then some false else none | none => none))
  | _ => (match tyName ch d with | some t => if ["NoneType", "bool", "int", "str", "tuple", "list", "dict"].contains t then some false else none | none => none)) else none
/-- built-in functions, len and isinstance of own ones too -/
def biR (T : Tab) (R : Rc) (id : String) (ds : List D) (ch : CH) : Rs D := if id = "len" then (match ds with
  | [d] => (match methOf T "__len__" d ch with
    | some key => (opM T R key [d] ch).bind fun r c => (match r with | .int i => if 0 ≤ i ∧ i < 9223372036854775808 then .ok (.int i) c else .bad | _ => .bad)
    | none => bi id ds ch)
  | _ => bi id ds ch)
  else if id = "isinstance" then (match ds with
    | [d, .cl c] => (match isiC T d c ch with | some b => .ok (.bl b) ch | none => .bad)
    | _ => bi id ds ch)
  else bi id ds ch
/-- a new instance -/
def makeP (T : Tab) (R : Rc) (c key : Str) (p : Pat) (ds zs : List D) (ch : CH) : Rs D := (callP T R key p (.ref ch.sz :: ds) zs (ch.push (.ins c []))).bind fun d c2 => match d with
  | .non => .ok (.ref ch.sz) c2
  | _ => .bad
/-- built-in functions that are imported -/
def biG (id : String) (ds : List D) (ch : CH) : Rs D := if id = "math.gcd" then (match ds with | [.int a, .int b] => .ok (.int (Nat.gcd a.natAbs b.natAbs : Nat)) ch | _ => .bad) else .bad
/-- x(..), x a variable that holds an instance -/
def evCallV (T : Tab) (R : Rc) (s : Sk) (f : Str) (es : List Expr) (kws : List Keyword) (env : En) (ch : CH) : Rs D :=
  if (f == ("__debug__" : Str)) = false ∧ (f == ("__classdict__" : Str)) = false ∧ es.any isStar = false ∧ (kws.isEmpty && !es.isEmpty) = true then (evVar s f env ch).bind fun d c => (match d with
    | .ref k => (evs R s es env c).bind fun ds c => (match methOf T "__call__" (.ref k) c with
      | some key => opM T R key (.ref k :: ds) c
      | none => .bad)
    | _ => .bad) else .bad
/-- f(..), f a name -/
def evCallN (T : Tab) (R : Rc) (s : Sk) (f : Str) (es : List Expr) (kws : List Keyword) (env : En) (ch : CH) : Rs D :=
  if (f == ("__debug__" : Str)) = false ∧ f ≠ "__name__" ∧ s.sc.names.lookup f = some .globalImplicit ∧ es.any isStar = false then (match kwNames kws with
    | some ks =>
      if isBt T s f then (if isBi f && kws.isEmpty && !es.isEmpty then (evs R s es env ch).bind fun ds c => (match bootBuiltins f with
        | some (.builtin id) => biR T R id ds c
        | some (.type t) => bty t ds c
        | _ => .bad) else .bad)
      else if T.gfn.contains f then (match patOf T f es.length ks with
        | some p => (args R s es kws env ch).bind fun as c => callP T R f p as.1 as.2 c
        | none => .bad)
      else (match T.mks.lookup f with
        | some key => (match patOf T key (es.length + 1) ks with
          | some p => (args R s es kws env ch).bind fun as c => makeP T R f key p as.1 as.2 c
          | none => .bad)
        | none => (match T.bis.lookup f with
          | some id => if kws.isEmpty && !es.isEmpty then (evs R s es env ch).bind fun ds c => biG id ds c else .bad
          | none => .bad))
    | none => .bad) else .bad
/-- e.f -/
def fld (T : Tab) (f : Str) (d : D) (ch : CH) : Rs D := match d with
  | .ref n => (match ch.get n with
    | some (.ins c fs) => if T.cls.contains c && T.flds.contains (c, f) then (match fs.lookup f with | some v => .ok v ch | none => .bad) else .bad
    | some (.xc c g v) => if g = f ∧ T.excs.lookup c = some f then .ok v ch else .bad
    | _ => .bad)
  | _ => .bad
/-- methods of lists -/
def lmId (m : Str) : Option String := if m = "append" then some "list.append" else if m = "extend" then some "list.extend" else if m = "reverse" then some "list.reverse" else if m = "pop" then some "list.pop" else if m = "index" then some "list.index" else none
def isLst (d : D) (ch : CH) : Bool := match d with
  | .ref n => (match ch.get n with
    | some (.lst _) => true
    | _ => false)
  | _ => false
def strsOf : List D → Option (List Str)
  | [] => some []
  | .str i :: r => (strsOf r).map (i :: ·)
  | _ => none
def firstAt (z : Str) : List Str → Option Nat
  | [] => none
  | y :: r => if y = z then some 0 else (firstAt z r).map (· + 1)
def lmR (id : String) (d : D) (as : List D) (ch : CH) : Rs D := match d with
  | .ref n => (match ch.get n with
    | some (.lst ds) =>
      if id = "list.append" then (match as with | [x] => if ds.length < 16777216 then .ok .non (ch.put n (.lst (ds ++ [x]))) else .bad | _ => .bad)
      else if id = "list.extend" then (match as with | [.ref k] => (match ch.get k with | some (.lst es) => if ds.length + es.length ≤ 16777216 then .ok .non (ch.put n (.lst (ds ++ es))) else .bad | _ => .bad) | _ => .bad)
      else if id = "list.reverse" then (match as with | [] => .ok .non (ch.put n (.lst ds.reverse)) | _ => .bad)
      else if id = "list.pop" then (match as with | [] => (match ds[ds.length - 1]? with | some x => .ok x (ch.put n (.lst ds.dropLast)) | none => .bad) | _ => .bad)
      else if id = "list.index" then (match strsOf ds, as with | some ys, [.str z] => (match firstAt z ys with | some j => .ok (.int (j : Nat)) ch | none => .bad) | _, _ => .bad)
      else .bad
    | _ => .bad)
  | _ => .bad
/-- the index of a text in a tuple of texts -/
def tixR (ds as : List D) (ch : CH) : Rs D := match strsOf ds, as with
  | some ys, [.str z] => (match firstAt z ys with | some j => .ok (.int (j : Nat)) ch | none => .bad)
  | _, _ => .bad
/-- a tuple of the module, by its name -/
def conT (T : Tab) (s : Sk) (o : Expr) : Option (List D) := match o with
  | .Name x _ => if (x == ("__debug__" : Str)) = false ∧ (x == ("__classdict__" : Str)) = false ∧ x ≠ "__name__" ∧ s.sc.names.lookup x = some .globalImplicit then (match T.cons.lookup x with | some (.tup ds) => some ds | _ => none) else none
  | _ => none
/-- o.m(..) -/
def evCallM (T : Tab) (R : Rc) (s : Sk) (o : Expr) (m : Str) (apos pos : Pos) (es : List Expr) (kws : List Keyword) (env : En) (ch : CH) : Rs D :=
  if es.any isStar = false ∧ es.length + kws.length + 1 < 30 ∧ (apos.endLine == pos.line) = true ∧ isCall o = false then (match kwNames kws with
    | some ks => (match (if m = "index" ∧ kws = [] then conT T s o else none) with
      | some ts => (evs R s es env ch).bind fun as c => tixR ts as c
      | none => (R.E s o env ch).bind fun d c => (match methOf T m d c with
        | some key => (match patOf T key (es.length + 1) ks with
          | some p => (args R s es kws env c).bind fun as c => callP T R key p (d :: as.1) as.2 c
          | none => .bad)
        | none => (match (if isLst d c = true ∧ kws = [] then lmId m else none) with
          | some id => (evs R s es env c).bind fun as c => lmR id d as c
          | none => .bad)))
    | none => .bad) else .bad
/-- may stand on the right of an own comparison -/
def rightOf (x y : D) (ch : CH) : Bool := match y with
  | .ref m => (match ch.get m with
    | some (.ins c' _) => (match x with
      | .ref n => (match ch.get n with | some (.ins c _) => c == c' | _ => false)
      | _ => false)
    | some (.lst _) => true
    | some (.fz _) => true
    | some (.dk _) => true
    | some (.dt _) => true
    | _ => false)
  | .ty _ => false
  | .cl _ => false
  | _ => true
def cmpM (op : CmpOp) : Option Str := match op with
  | .Eq => some "__eq__"
  | .LtE => some "__le__"
  | .Lt => some "__lt__"
  | .GtE => some "__ge__"
  | .Gt => some "__gt__"
  | _ => none
def cmpO (T : Tab) (R : Rc) (op : CmpOp) (x y : D) (ch : CH) : Rs D := match cmpM op with
  | some m => (match methOf T m x ch with
    | some key => if rightOf x y ch then (opM T R key [x, y] ch).bind fun d c => (match d with | .bl b => .ok (.bl b) c | _ => .bad) else .bad
    | none => cmp op x y ch)
  | none => cmp op x y ch
/-- the pairs of a dict -/
def dkOf (d : D) (ch : CH) : Option (List (L2.Key × D)) := match d with
  | .ref n => (match ch.get n with
    | some (.dk kvs) => some kvs
    | some (.fk kvs) => some kvs
    | _ => none)
  | _ => none
def dtOf (d : D) (ch : CH) : Option (List (List L2.Key × D)) := match d with
  | .ref n => (match ch.get n with
    | some (.dt kvs) => some kvs
    | _ => none)
  | _ => none
/-- x in y, y no dict by plain keys -/
def inT (op : CmpOp) (g : Bool → Bool) (x y : D) (ch : CH) : Rs D := match dtOf y ch with
  | some kvs => (match keyT x with | some k => .ok (.bl (g (valD kvs k).isSome)) ch | none => .bad)
  | none => cmp op x y ch
def ixT (x y : D) (ch : CH) : Rs D := match dtOf x ch with
  | some kvs => (match (keyT y).bind (valD kvs) with | some d => .ok d ch | none => .bad)
  | none => ix x y ch
def cmpR (T : Tab) (R : Rc) (op : CmpOp) (x y : D) (ch : CH) : Rs D := match op with
  | .In => (match methOf T "__contains__" y ch with
    | some key => (opM T R key [y, x] ch).bind fun d c => (tr d c).bind fun b c => .ok (.bl b) c
    | none => (match dkOf y ch with
      | some kvs => (match keyD x with | some k => .ok (.bl (valD kvs k).isSome) ch | none => .bad)
      | none => inT .In (fun b => b) x y ch))
  | .NotIn => (match methOf T "__contains__" y ch with
    | some key => (opM T R key [y, x] ch).bind fun d c => (tr d c).bind fun b c => .ok (.bl (!b)) c
    | none => (match dkOf y ch with
      | some kvs => (match keyD x with | some k => .ok (.bl (!(valD kvs k).isSome)) ch | none => .bad)
      | none => inT .NotIn (fun b => !b) x y ch))
  | .NotEq => (match methOf T "__eq__" x ch with
    | some key => if rightOf x y ch then (opM T R key [x, y] ch).bind fun d c => (match d with | .bl b => .ok (.bl (!b)) c | _ => .bad) else .bad
    | none => cmp .NotEq x y ch)
  | op => cmpO T R op x y ch
def ixR (T : Tab) (R : Rc) (x y : D) (ch : CH) : Rs D := match methOf T "__getitem__" x ch with
  | some key => opM T R key [x, y] ch
  | none => (match dkOf x ch with
    | some kvs => (match (keyD y).bind (valD kvs) with | some d => .ok d ch | none => .bad)
    | none => ixT x y ch)
/-- a part of a slice -/
def evP (R : Rc) (s : Sk) : Option Expr → En → CH → Rs (Option Int)
  | none, _, ch => .ok none ch
  | some e, env, ch => (R.E s e env ch).bind fun d c => match d with | .int i => .ok (some i) c | _ => .bad
def cutD (ds : List D) (lo hi : Option Int) : List D := (ds.drop (HT.sIx ds.length 0 lo)).take (HT.sIx ds.length ds.length hi - HT.sIx ds.length 0 lo)
def sl (d : D) (lo hi : Option Int) (ch : CH) : Rs D := match d with
  | .tup ds => if HT.sIx ds.length 0 lo = 0 ∧ HT.sIx ds.length ds.length hi = ds.length then .bad else .ok (.tup (cutD ds lo hi)) ch
  | .ref n => (match lstOf ch (.ref n) with
    | some ds => .ok (.ref ch.sz) (ch.push (.lst (cutD ds lo hi)))
    | none => .bad)
  | .str z => if z.length ≤ 16777216 then .ok (.str (cutS z lo hi)) ch else .bad
  | _ => .bad
/-- x[::-1] -/
def isBack : Expr → Bool
  | .UnaryOp .USub (.Constant (.int i) _ _) _ => i == 1
  | _ => false
def back (d : D) (ch : CH) : Rs D := match d with
  | .tup ds => .ok (.tup ds.reverse) ch
  | .ref n => (match lstOf ch (.ref n) with
    | some ds => .ok (.ref ch.sz) (ch.push (.lst ds.reverse))
    | none => .bad)
  | _ => .bad
/-! comprehensions -/
inductive Tg where
  | one (i : Nat) | many (is : List Nat)
def slotOf (s : Sk) (x : Str) (vs : List Nat) : Option Nat := if s.own x then (match s.sc.names.lookup x with
  | some .local => (match ixOf x s.N with | some i => if i ∈ vs then some i else none | none => none)
  | some .cell => (match ixOf x s.N with | some i => if i ∈ vs then some i else none | none => none)
  | _ => none) else none
def slotsOf (s : Sk) (vs : List Nat) : List Expr → Option (List Nat)
  | [] => some []
  | .Name x _ :: r => match slotOf s x vs, slotsOf s vs r with
    | some i, some is => some (i :: is)
    | _, _ => none
  | _ => none
def tgOf (s : Sk) (vs : List Nat) : Expr → Option Tg
  | .Name x _ => (slotOf s x vs).map .one
  | .Tuple es _ _ => (slotsOf s vs es).map .many
  | _ => none
def setsE : List Nat → List D → En → En
  | i :: is, d :: ds, env => setsE is ds (env.set i (some d))
  | _, _, env => env
def bindT (t : Tg) (d : D) (env : En) : Option En := match t, d with
  | .one i, d => some (env.set i (some d))
  | .many is, .tup ds => if ds.length = is.length then some (setsE is ds env) else none
  | _, _ => none
def wipeE (env : En) : List Nat → En
  | [] => env
  | v :: vs => (wipeE env vs).set v none
def ownOf (N : List Str) (sc : Scope) : List (Str × Nat) := sc.names.filterMap fun p => if p.2 = .local ∨ p.2 = .cell then (ixOf p.1 N).map fun i => (p.1, i) else none
def blkS (s : Sk) (scope : Scope) : Sk := ⟨s.N, relS scope s.sc, fun x => scope.names.lookup x == some .cell || (relS scope s.sc).names.lookup x == some .local, false⟩
/-- the tests of a comprehension: none or one -/
def evIfs (R : Rc) (s : Sk) : List Expr → En → CH → Rs Bool
  | [], _, ch => .ok true ch
  | [e], env, ch => (R.T s e env ch).nx
  | _, _, _ => .bad
def cmpB (R : Rc) (s : Sk) (t : Tg) (ifs : List Expr) (elt : Expr) (ok : CH → Bool) (env0 : En) (l : Nat) : List D → CH → Rs Unit
  | [], ch => if ok ch then .ok () ch else .bad
  | d :: ds, ch => if ok ch then (match bindT t d env0 with
    | some env => (evIfs R s ifs env ch).bind fun b c => if b = true then (R.E s elt env c).nx.bind fun y c2 => (match c2.get l with
        | some (.lst acc) => if acc.length < 16777216 then cmpB R s t ifs elt ok env0 l ds (c2.put l (.lst (acc ++ [y]))) else .bad
        | _ => .bad) else cmpB R s t ifs elt ok env0 l ds c
    | none => .bad) else .bad
def isSet : Expr → Bool
  | .Set _ _ _ => true
  | _ => false
/-- the dict that is walked, by its slot: it is locked meanwhile -/
def lkI (T : Tab) (s : Sk) : Expr → Option Nat
  | .Name x q => if T.lks.contains (q.line, q.col) then ixOf x s.N else none
  | _ => none
def lkG (T : Tab) (s : Sk) : List Comprehension → Option Nat
  | [⟨_, it, _, _⟩] => lkI T s it
  | _ => none
def lckE (i : Nat) (m : En → CH → Rs D) (env : En) (ch : CH) : Rs D := match env[i]? with
  | some (some (.ref n)) => (match ch.get n with
    | some (.dk kvs) => (match m env (ch.put n (.fk kvs)) with
      | .ok d c => (match c.get n with
        | some (.fk ks) => .ok d (c.put n (.dk ks))
        | _ => .bad)
      | _ => .bad)
    | _ => m env ch)
  | _ => m env ch
def lckS (i : Nat) (m : En → CH → RsS) (env : En) (ch : CH) : RsS := match env[i]? with
  | some (some (.ref n)) => (match ch.get n with
    | some (.dk kvs) => (match m env (ch.put n (.fk kvs)) with
      | .ok env' f c => (match c.get n with
        | some (.fk ks) => .ok env' f (c.put n (.dk ks))
        | _ => .bad)
      | _ => .bad)
    | _ => m env ch)
  | _ => m env ch
def lkdE (o : Option Nat) (m : En → CH → Rs D) : En → CH → Rs D := match o with
  | some i => lckE i m
  | none => m
def lkdS (o : Option Nat) (m : En → CH → RsS) : En → CH → RsS := match o with
  | some i => lckS i m
  | none => m
/-- what is walked by a value -/
def walkD (d : D) (ch : CH) : Rs Itm := match d with
  | .tup ds => .ok ⟨ds, none⟩ ch
  | .ref n => (match ch.get n with
    | some (.lst ds) => .ok ⟨ds, some n⟩ ch
    | some (.fz ds) => .ok ⟨ds, some n⟩ ch
    | some (.fk kvs) => .ok ⟨kvs.map fun kv => kD kv.1, none⟩ ch
    | _ => .bad)
  | _ => .bad
@[irreducible] def inRg (i : Int) : Bool := decide (-(2 ^ 62) ≤ i) && decide (i < 2 ^ 62)
theorem inRg_ok {i : Int} (h : inRg i = true) : -(2 ^ 62) ≤ i ∧ i < 2 ^ 62 := by
  unfold inRg at h
  obtain ⟨a, b⟩ := Bool.and_eq_true_iff.mp h
  exact ⟨of_decide_eq_true a, of_decide_eq_true b⟩
def rng (lo hi : Int) (ch : CH) : Rs Itm := if inRg lo = true ∧ inRg hi = true then .ok ⟨(List.range (hi - lo).toNat).map fun k => .int (lo + (k : Nat)), none⟩ ch else .bad
def enumW (d : D) (ch : CH) : Rs Itm := match d with
  | .ref n => (match ch.get n with
    | some (.lst ds) => .ok ⟨enumD 0 ds, some (.e n)⟩ ch
    | some (.fz ds) => .ok ⟨enumD 0 ds, some (.e n)⟩ ch
    | _ => .bad)
  | .tup ds => .ok ⟨enumD 0 ds, none⟩ ch
  | _ => .bad
/-- a row for zip: where its list stands, its items -/
def seqW (d : D) (ch : CH) : Option (Option Nat × List D) := match d with
  | .tup ds => some (none, ds)
  | .ref n => (match ch.get n with
    | some (.lst ds) => some (some n, ds)
    | some (.fz ds) => some (some n, ds)
    | _ => none)
  | _ => none
def zipW (ds : List D) (ch : CH) : Rs Itm := match ds with
  | [x, y] => (match seqW x ch, seqW y ch with
    | some p, some q => .ok ⟨zipD p.2 q.2, some (.z p.1 q.1 p.2 q.2)⟩ ch
    | _, _ => .bad)
  | _ => .bad
def isTup : Expr → Bool
  | .Tuple _ _ _ => true
  | _ => false
def tuT : Tg → Bool
  | .many _ => true
  | .one _ => false
/-- tu: the target is a tuple display -/
def evIt (T : Tab) (R : Rc) (s : Sk) (tu : Bool) (e : Expr) (env : En) (ch : CH) : Rs Itm := match e with
  | .Set _ _ _ => .bad
  | .Call (.Name f _) [a] [] _ =>
    if f = "range" then (if isBt T s f then (if isStar a then .bad else (R.E s a env ch).bind fun d c => match d with | .int j => rng 0 j c | _ => .bad) else .bad)
    else if f = "enumerate" then (if (isBt T s f && tu && !isStar a) = true then (R.E s a env ch).bind enumW else .bad)
    else (R.E s e env ch).bind walkD
  | .Call (.Name f _) [a, b] [] _ =>
    if f = "range" then (if isBt T s f then (if isStar a || isStar b then .bad else (evs R s [a, b] env ch).bind fun ds c => match ds with | [.int i, .int j] => rng i j c | _ => .bad) else .bad)
    else if f = "zip" then (if (isBt T s f && tu && !isStar a && !isStar b) = true then (evs R s [a, b] env ch).bind zipW else .bad)
    else (R.E s e env ch).bind walkD
  | e => (R.E s e env ch).bind walkD
theorem tgOf_tu {s : Sk} {vs : List Nat} {tg : Expr} {t : Tg} (h : tgOf s vs tg = some t) (z : tuT t = true) : isTup tg = true := by
  cases tg with
  | Tuple _ _ _ => rfl
  | Name x p =>
    simp only [tgOf] at h
    cases q : slotOf s x vs with
    | none => rw [q] at h; cases h
    | some i => rw [q] at h; cases h; cases z
  | _ => cases h
def evLc (T : Tab) (R : Rc) (s : Sk) (elt tg iter : Expr) (ifs : List Expr) (scope : Scope) (env : En) (ch : CH) : Rs D :=
  if (blkC s.N s.sc scope (ownOf s.N scope) && !isSet iter) = true then (match tgOf (blkS s scope) ((ownOf s.N scope).map (·.2)) tg with
    | some t => (evIt T R s (tuT t) iter env ch).bind fun w c => (cmpB R (blkS s scope) t ifs elt (okW w) (wipeE env ((ownOf s.N scope).map (·.2))) c.sz w.ds (c.push (.lst []))).bind fun _ c2 => .ok (.ref c.sz) c2
    | none => .bad) else .bad
/-- the loop of a comprehension that makes a dict -/
def cmpD (R : Rc) (s : Sk) (t : Tg) (ifs : List Expr) (kx vx : Expr) (ok : CH → Bool) (env0 : En) (l : Nat) : List D → CH → Rs Unit
  | [], ch => if ok ch then .ok () ch else .bad
  | d :: ds, ch => if ok ch then (match bindT t d env0 with
    | some env => (evIfs R s ifs env ch).bind fun b c => if b = true then (R.E s kx env c).nx.bind fun y c1 => (R.E s vx env c1).nx.bind fun z c2 => (match keyD y, c2.get l with
        | some k, some (.dk kvs) => if kvs.length < 16777216 then cmpD R s t ifs kx vx ok env0 l ds (c2.put l (.dk (putD kvs k z))) else .bad
        | _, _ => .bad) else cmpD R s t ifs kx vx ok env0 l ds c
    | none => .bad) else .bad
def evDc (T : Tab) (R : Rc) (s : Sk) (kx vx tg iter : Expr) (ifs : List Expr) (scope : Scope) (env : En) (ch : CH) : Rs D :=
  if (blkC s.N s.sc scope (ownOf s.N scope) && !isSet iter) = true then (match tgOf (blkS s scope) ((ownOf s.N scope).map (·.2)) tg with
    | some t => (evIt T R s (tuT t) iter env ch).bind fun w c => (cmpD R (blkS s scope) t ifs kx vx (okW w) (wipeE env ((ownOf s.N scope).map (·.2))) c.sz w.ds (c.push (.dk []))).bind fun _ c2 => .ok (.ref c.sz) c2
    | none => .bad) else .bad
def evDcs (T : Tab) (R : Rc) (s : Sk) (kx vx : Expr) (gs : List Comprehension) (scope : Scope) (env : En) (ch : CH) : Rs D := match gs with
  | [g] => if g.is_async = 0 then evDc T R s kx vx g.target g.iter g.ifs scope env ch else .bad
  | _ => .bad
/-- list(range(a, b)) -/
def lrgArg (T : Tab) (s : Sk) (f : Str) (es : List Expr) (kws : List Keyword) : Option (Expr × Expr) := match es, kws with
  | [.Call (.Name g _) [a, b] [] _], [] => if (decide (f = "list") && (decide (g = "range") && (isBt T s f && (isBt T s g && (!isStar a && !isStar b))))) = true then some (a, b) else none
  | _, _ => none
def lrgArg1 (T : Tab) (s : Sk) (f : Str) (es : List Expr) (kws : List Keyword) : Option Expr := match es, kws with
  | [.Call (.Name g _) [a] [] _], [] => if (decide (f = "list") && (decide (g = "range") && (isBt T s f && (isBt T s g && !isStar a)))) = true then some a else none
  | _, _ => none
def lrg (x y : D) (ch : CH) : Rs D := match x, y with
  | .int i, .int j => if -8000000 ≤ i ∧ i ≤ 8000000 ∧ -8000000 ≤ j ∧ j ≤ 8000000 then .ok (.ref ch.sz) (ch.push (.lst ((List.range (j - i).toNat).map fun (k : Nat) => .int (i + (k : Int))))) else .bad
  | _, _ => .bad
/-! sorted(set(xs)), xs a list of tuples of ints -/
def BB : Int := 1048576
def intsT : D → Option (List Int)
  | .tup ds => intsOf ds
  | _ => none
def tupsOf : List D → Option (List (List Int))
  | [] => some []
  | d :: r => (match intsT d, tupsOf r with
    | some k, some ks => some (k :: ks)
    | _, _ => none)
def insT (x : List Int) : List (List Int) → List (List Int)
  | [] => [x]
  | y :: r => if TS.code BB x < TS.code BB y then x :: y :: r else if x = y then y :: r else y :: insT x r
def sortT (ks : List (List Int)) : List (List Int) := ks.foldr insT []
def okT (ks : List (List Int)) : Bool := match ks with
  | [] => true
  | k :: _ => decide (ks.length < 64) && (decide (1 ≤ k.length) && ks.all fun q => decide (q.length = k.length) && q.all fun i => decide (0 ≤ i) && decide (i < BB))
def tupD (k : List Int) : D := .tup (k.map .int)
def srt (x : D) (ch : CH) : Rs D := match lstOf ch x with
  | some ds => (match tupsOf ds with
    | some ks => if okT ks = true then .ok (.ref ch.sz) (ch.push (.lst ((sortT ks).map tupD))) else .bad
    | none => .bad)
  | none => .bad
def ssArg (T : Tab) (s : Sk) (f : Str) (es : List Expr) (kws : List Keyword) : Option Expr := match es, kws with
  | [.Call (.Name g _) [a] [] _], [] => if (decide (f = "sorted") && (decide (g = "set") && (isBt T s f && (isBt T s g && !isStar a)))) = true then some a else none
  | _, _ => none
/-- two loops in one comprehension -/
def cmpB2 (T : Tab) (R : Rc) (s : Sk) (t : Tg) (ifs : List Expr) (t1 : Tg) (it1 : Expr) (ifs1 : List Expr) (elt : Expr) (ok : CH → Bool) (env0 : En) (vs1 : List Nat) (l : Nat) : List D → CH → Rs Unit
  | [], ch => if ok ch then .ok () ch else .bad
  | d :: ds, ch => if ok ch then (match bindT t d env0 with
    | some env => (evIfs R s ifs env ch).bind fun b c => if b = true then (evIt T R s (tuT t1) it1 env c).nx.bind fun w c2 => (cmpB R s t1 ifs1 elt (okW w) (wipeE env vs1) l w.ds c2).bind fun _ c3 => cmpB2 T R s t ifs t1 it1 ifs1 elt ok env0 vs1 l ds c3 else cmpB2 T R s t ifs t1 it1 ifs1 elt ok env0 vs1 l ds c
    | none => .bad) else .bad
def tgVs (s : Sk) : Tg → List Nat
  | .one i => [i]
  | .many is => is
def evLc2 (T : Tab) (R : Rc) (s : Sk) (elt tg iter : Expr) (ifs : List Expr) (tg1 iter1 : Expr) (ifs1 : List Expr) (scope : Scope) (env : En) (ch : CH) : Rs D :=
  if (blkC s.N s.sc scope (ownOf s.N scope) && !isSet iter && !isSet iter1) = true then (match tgOf (blkS s scope) ((ownOf s.N scope).map (·.2)) tg, tgOf (blkS s scope) ((ownOf s.N scope).map (·.2)) tg1 with
    | some t, some t1 => (evIt T R s (tuT t) iter env ch).bind fun w c => (cmpB2 T R (blkS s scope) t ifs t1 iter1 ifs1 elt (okW w) (wipeE env ((ownOf s.N scope).map (·.2))) (tgVs s t1) c.sz w.ds (c.push (.lst []))).bind fun _ c2 => .ok (.ref c.sz) c2
    | _, _ => .bad) else .bad
def evLcs (T : Tab) (R : Rc) (s : Sk) (elt : Expr) (gs : List Comprehension) (scope : Scope) (env : En) (ch : CH) : Rs D := match gs with
  | [g] => if g.is_async = 0 then evLc T R s elt g.target g.iter g.ifs scope env ch else .bad
  | [g, g1] => if g.is_async = 0 ∧ g1.is_async = 0 then evLc2 T R s elt g.target g.iter g.ifs g1.target g1.iter g1.ifs scope env ch else .bad
  | _ => .bad
/-- the pairs of a display -/
def evPs (R : Rc) (s : Sk) : List (Option Expr) → List Expr → En → CH → Rs (List (L2.Key × D))
  | [], [], _, ch => .ok [] ch
  | some k :: ks, v :: vs, env, ch => (R.E s k env ch).bind fun kd c => (R.E s v env c).bind fun d c => (match keyD kd with
    | some k => (evPs R s ks vs env c).bind fun ps c => .ok ((k, d) :: ps) c
    | none => .bad)
  | _, _, _, _ => .bad
def evDict (R : Rc) (s : Sk) (ks : List (Option Expr)) (vs : List Expr) (env : En) (ch : CH) : Rs D := if ks.length = vs.length ∧ ks.all (·.isSome) = true ∧ (ks.isEmpty || decide (15 < ks.length)) = false then (evPs R s ks vs env (ch.push (.dk []))).bind fun ps c => (match c.get ch.sz with
  | some (.dk []) => if ps.length ≤ 15 then .ok (.ref ch.sz) (c.put ch.sz (.dk (mergeD [] ps))) else .bad
  | _ => .bad) else .bad
/-! errors as values -/
inductive EF where
  | mk (c f : Str) (a : Expr) (kw : Bool) | isi (a : Expr) (x : Str)
def errOf (T : Tab) (s : Sk) (f : Str) (es : List Expr) (kws : List Keyword) : Option EF :=
  if T.erv = true then (match T.excs.lookup f with
    | some fl => if s.sc.names.lookup f = some .globalImplicit ∧ (f == ("__debug__" : Str)) = false then (match es, kws with
      | [a], [] => if isStar a = false then some (.mk f fl a false) else none
      | [], [k] => if k.arg = some fl ∧ T.xkw.contains f = true then some (.mk f fl k.value true) else none
      | _, _ => none) else none
    | none => if f = "isinstance" ∧ isBt T s f = true then (match es, kws with
      | [a, .Name x _], [] => if isStar a = false ∧ s.sc.names.lookup x = some .globalImplicit ∧ (T.kit.any fun q => decide (q.1.2 = x)) = true then some (.isi a x) else none
      | _, _ => none) else none)
  else none
/-- the class of an error that is told -/
def xcOf (d : D) (ch : CH) : Option Str := match d with
  | .ref n => (match ch.get n with
    | some (.xc c _ _) => some c
    | _ => none)
  | _ => none
def runEr (T : Tab) (R : Rc) (s : Sk) (q : EF) (env : En) (ch : CH) : Rs D := match q with
  | .mk c f a _ => (R.E s a env ch).bind fun d c1 => .ok (.ref c1.sz) (c1.push (.xc c f d))
  | .isi a x => (R.E s a env ch).bind fun d c1 => (match xcOf d c1 with
    | some c => (match T.kit.lookup (c, x) with | some b => .ok (.bl b) c1 | none => .bad)
    | none => .bad)
def evE (T : Tab) (R : Rc) (s : Sk) (e : Expr) (env : En) (ch : CH) : Rs D := match e with
  | .Name x _ => evName T s x env ch
  | .Constant .none _ _ => .ok .non ch
  | .Constant (.bool b) _ _ => .ok (.bl b) ch
  | .Constant (.int i) _ _ => .ok (.int i) ch
  | .Constant (.str x) _ _ => .ok (.str x) ch
  | .BinOp a op b _ => (R.E s a env ch).bind fun x c => (R.E s b env c).bind fun y c => binR T R op x y c
  | .Compare a [op] [b] _ => if behindInMarks op b then .bad else (R.E s a env ch).bind fun x c => (R.E s b env c).bind fun y c => cmpR T R op x y c
  | .Compare a [op, op'] [b, e] _ => if lastMarks [op, op'] [b, e] then .bad else (R.E s a env ch).bind fun x c => (R.E s b env c).bind fun y c => (cmpR T R op x y c).bind fun d c => (match d with
    | .bl true => (R.E s e env c).bind fun z c => cmpR T R op' y z c
    | .bl false => .ok (.bl false) c
    | _ => .bad)
  | .BoolOp op es _ => evBool R s op es env ch
  | .UnaryOp .Not a _ => (R.E s a env ch).bind fun d c => (tr d c).bind fun b c => .ok (.bl (!b)) c
  | .UnaryOp .USub a _ => (R.E s a env ch).bind fun d c => match d with | .int i => .ok (.int (-i)) c | _ => .bad
  | .IfExp t a b _ => (R.T s t env ch).bind fun q c => if q = true then R.E s a env c else R.E s b env c
  | .Tuple es _ _ => (evs R s es env ch).bind fun ds c => if ds.length ≤ 16777216 then .ok (.tup ds) c else .bad
  | .List es _ => (evs R s es env ch).bind fun ds c => if ds.length ≤ 16777216 then .ok (.ref c.sz) (c.push (.lst ds)) else .bad
  | .Subscript a (.Slice lo hi none _) _ => (R.E s a env ch).bind fun x c => (evP R s lo env c).bind fun l c => (evP R s hi env c).bind fun h c => sl x l h c
  | .Subscript a (.Slice none none (some st) _) _ => if isBack st then (R.E s a env ch).bind back else .bad
  | .Subscript a b _ => if isSlice b then .bad else (R.E s a env ch).bind fun x c => (R.E s b env c).bind fun y c => ixR T R x y c
  | .ListComp elt gs scope _ => lkdE (lkG T s gs) (evLcs T R s elt gs scope) env ch
  | .DictComp kx vx gs scope _ => evDcs T R s kx vx gs scope env ch
  | .Attribute o f _ => if isCall o then .bad else (R.E s o env ch).bind fun d c => fld T f d c
  | .Dict [] [] pos => .ok (.ref ch.sz) (ch.push (if T.dts.contains (pos.line, pos.col) then .dt [] else .dk []))
  | .Dict ks vs _ => evDict R s ks vs env ch
  | .Call (.Name f _) es kws _ => if s.sc.names.lookup f = some .local then evCallV T R s f es kws env ch else (match errOf T s f es kws with
  | some q => runEr T R s q env ch
  | none => match lrgArg T s f es kws with
    | some ab => (R.E s ab.1 env ch).bind fun x c => (R.E s ab.2 env c).bind fun y c => lrg x y c
    | none => (match lrgArg1 T s f es kws with
      | some a => (R.E s a env ch).bind fun y c => lrg (.int 0) y c
      | none => (match ssArg T s f es kws with
        | some a => (R.E s a env ch).bind fun x c => srt x c
        | none => evCallN T R s f es kws env ch)))
  | .Call (.Attribute o m apos) es kws pos => evCallM T R s o m apos pos es kws env ch
  | _ => .bad
def evT (T : Tab) (R : Rc) (s : Sk) (e : Expr) (env : En) (ch : CH) : Rs Bool := match e with
  | .UnaryOp .Not a _ => (R.T s a env ch).bind fun b c => .ok (!b) c
  | .BoolOp op es _ => evAll R s op es env ch
  | .IfExp _ _ _ _ => .bad
  | .Compare a [op] [b] _ => if behindInMarks op b then .bad else (R.E s a env ch).bind fun x c => (R.E s b env c).bind fun y c => (cmpR T R op x y c).bind fun d c => match d with | .bl k => .ok k c | _ => .bad
  | .Compare a [op, op'] [b, e] _ => if lastMarks [op, op'] [b, e] then .bad else (R.E s a env ch).bind fun x c => (R.E s b env c).bind fun y c => (cmpR T R op x y c).bind fun d c => (match d with
    | .bl true => (R.E s e env c).bind fun z c => (cmpR T R op' y z c).bind fun d c => (match d with | .bl k => .ok k c | _ => .bad)
    | .bl false => .ok false c
    | _ => .bad)
  | .Compare _ _ _ _ => .bad
  | e => (R.E s e env ch).bind fun d c => tr d c
/-! ## targets, statements -/
def asgs (R : Rc) (s : Sk) : List Expr → List D → En → CH → Rs En
  | [], [], env, ch => .ok env ch
  | e :: es, d :: ds, env, ch => if isStar e then .bad else (R.G s e d env ch).bind fun env c => asgs R s es ds env c
  | _, _, _, _ => .bad
def setVar (s : Sk) (x : Str) (d : D) (env : En) (ch : CH) : Rs En := if s.own x then (match ixOf x s.N with
  | some i => .ok (env.set i (some d)) ch
  | none => .bad) else .bad
def setName (s : Sk) (x : Str) (d : D) (env : En) (ch : CH) : Rs En := match s.sc.names.lookup x with
  | some .local => setVar s x d env ch
  | some .cell => setVar s x d env ch
  | _ => .bad
/-- o[i] = d -/
def setIx (o i d : D) (ch : CH) : Rs Unit := match o with
  | .ref n => (match ch.get n with
    | some (.lst ds) => (match i with | .int k => (match ixN ds.length k with | some j => .ok () (ch.put n (.lst (ds.set j d))) | none => .bad) | _ => .bad)
    | some (.dk kvs) => (match keyD i with | some k => if kvs.length < 16777216 then .ok () (ch.put n (.dk (putD kvs k d))) else .bad | none => .bad)
    | some (.dt kvs) => (match keyT i with | some k => if kvs.length < 16777216 then .ok () (ch.put n (.dt (putD kvs k d))) else .bad | none => .bad)
    | _ => .bad)
  | _ => .bad
def evG (T : Tab) (R : Rc) (s : Sk) (tg : Expr) (d : D) (env : En) (ch : CH) : Rs En := match tg with
  | .Name x _ => setName s x d env ch
  | .Tuple es _ _ => if es.any isStar then .bad else (match itemsOf ch d with
    | some ds => if ds.length = es.length then asgs R s es ds env ch else .bad
    | none => .bad)
  | .Subscript o i _ => if isSlice i then .bad else (R.E s o env ch).bind fun od c => (R.E s i env c).bind fun id c => (setIx od id d c).bind fun _ c => .ok env c
  | _ => .bad
def isComp : Expr → Bool
  | .ListComp _ _ _ _ => true
  | .SetComp _ _ _ _ => true
  | .DictComp _ _ _ _ _ => true
  | _ => false
def isTupE : Expr → Bool
  | .Tuple _ _ _ => true
  | _ => false
/-- an expression's result within a statement -/
def lift {α : Type} (env : En) (r : Rs α) (k : α → CH → RsS) : RsS := match r with
  | .ok a c => k a c
  | .exc c fs h => .exc env c fs h
  | .bad => .bad
/-- a target raises nothing -/
def liftG {α : Type} (r : Rs α) (k : α → CH → RsS) : RsS := match r with
  | .ok a c => k a c
  | _ => .bad
def forB (R : Rc) (s : Sk) (tg : Expr) (body : List Stmt) (ok : CH → Bool) : List D → En → CH → RsS
  | [], env, ch => if ok ch then .ok env .nx ch else .bad
  | d :: ds, env, ch => if ok ch then liftG (R.G s tg d env ch) fun env1 c1 => match R.B s body env1 c1 with
    | .ok env2 .nx c2 => forB R s tg body ok ds env2 c2
    | .ok env2 .ct c2 => forB R s tg body ok ds env2 c2
    | .ok env2 .br c2 => .ok env2 .nx c2
    | .ok env2 (.rt v) c2 => .ok env2 (.rt v) c2
    | .exc e c fs h => .exc e c fs h
    | .bad => .bad else .bad
def whB (R : Rc) (s : Sk) (t : Expr) (body : List Stmt) : Nat → En → CH → RsS
  | 0, _, _ => .bad
  | k + 1, env, ch => lift env (R.T s t env ch) fun b c1 => if b = true then (match R.B s body env c1 with
    | .ok env2 .nx c2 => whB R s t body k env2 c2
    | .ok env2 .ct c2 => whB R s t body k env2 c2
    | .ok env2 .br c2 => .ok env2 .nx c2
    | .ok env2 (.rt v) c2 => .ok env2 (.rt v) c2
    | .exc e c fs h => .exc e c fs h
    | .bad => .bad) else .ok env .nx c1
def augF : Operator → Option (Int → Int → Int)
  | .Add => some fun i j => i + j
  | .Sub => some fun i j => i - j
  | _ => none
def augS (R : Rc) (s : Sk) (f : Int → Int → Int) (i : Nat) (e : Expr) (env : En) (ch : CH) : RsS := match env[i]? with
  | some (some d0) => lift env (R.E s e env ch) fun d c => (match d0, d with
    | .int a, .int b => .ok (env.set i (some (.int (f a b)))) .nx c
    | _, _ => .bad)
  | _ => .bad
def putFD (f : Str) (v : D) : List (Str × D) → List (Str × D)
  | [] => [(f, v)]
  | p :: r => if p.1 = f then (f, v) :: r else p :: putFD f v r
/-- o.f = v -/
def putFld (T : Tab) (f : Str) (d v : D) (ch : CH) : Option CH := match d with
  | .ref n => (match ch.get n with
    | some (.ins c fs) => if T.cls.contains c && T.flds.contains (c, f) && decide (fs.length < 1000) then some (ch.put n (.ins c (putFD f v fs))) else none
    | _ => none)
  | _ => none
/-- the order of the stores of a, b = c, d: none: not told; some none: from the left; some (some names): these at once -/
def swNames (sc : Scope) (ts vs : List Expr) : Option (Option (List Str)) :=
  if !(ts.length == 2 || ts.length == 3) || vs.length != ts.length then some none
  else if (vs.any fun | .Starred .. => true | _ => false) then some none
  else
    let line := (ts.head?.map (·.pos.line)).getD 0
    let names := ts.filterMap fun
      | .Name id pos => if sc.names.lookup id == some .local && pos.line == line then some id else none
      | _ => none
    if names.length != ts.length || names.eraseDups.length != names.length then some none
    else if vs.all (foldedForSure 8) then some none
    else if vs.all (constantsAlone 8) then none
    else some (some names)
def parS (R : Rc) (s : Sk) (ts vs : List Expr) (env : En) (ch : CH) : RsS := match ts, vs with
  | [.Name x _, .Name y _], [a, b] => (match ixOf x s.N, ixOf y s.N with
    | some i, some j => if i ≠ j ∧ s.sc.names.lookup x = some .local ∧ s.sc.names.lookup y = some .local ∧ swNames s.sc ts vs = some (some [x, y]) then lift env (evs R s [a, b] env ch) fun ds c => (match ds with
      | [d, e] => .ok ((env.set i (some d)).set j (some e)) .nx c
      | _ => .bad) else .bad
    | _, _ => .bad)
  | [.Name x _, .Name y _, .Name z _], [a, b, g] => (match ixOf x s.N, ixOf y s.N, ixOf z s.N with
    | some i, some j, some l => if i ≠ j ∧ i ≠ l ∧ j ≠ l ∧ s.sc.names.lookup x = some .local ∧ s.sc.names.lookup y = some .local ∧ s.sc.names.lookup z = some .local ∧ swNames s.sc ts vs = some (some [x, y, z]) then lift env (evs R s [a, b, g] env ch) fun ds c => (match ds with
      | [d, e, f] => .ok (((env.set i (some d)).set j (some e)).set l (some f)) .nx c
      | _ => .bad) else .bad
    | _, _, _ => .bad)
  | _, _ => .bad
/-- tg = e -/
def asgE (T : Tab) (R : Rc) (s : Sk) (tg e : Expr) (env : En) (ch : CH) : RsS := match tg, e with
  | .Name x _, .ListComp elt gs scope _ => if (ixOf x s.N).isNone then .bad else lift env (evLcs T R s elt gs scope env ch) fun d c => liftG (setName s x d env c) fun env c => .ok env .nx c
  | .Name x _, .DictComp kx vx gs scope _ => if (ixOf x s.N).isNone then .bad else lift env (evDcs T R s kx vx gs scope env ch) fun d c => liftG (setName s x d env c) fun env c => .ok env .nx c
  | .Tuple ts k p, .Tuple vs k2 p2 => (match swNames s.sc ts vs with
    | some none => lift env (R.E s (.Tuple vs k2 p2) env ch) fun d c => liftG (R.G s (.Tuple ts k p) d env c) fun env c => .ok env .nx c
    | some (some _) => parS R s ts vs env ch
    | none => .bad)
  | .Attribute o f _, e => if isComp e then .bad else lift env (R.E s e env ch) fun v c => lift env (R.E s o env c) fun d c => (match putFld T f d v c with
    | some c => .ok env .nx c
    | none => .bad)
  | .Starred _ _, _ => .bad
  | .List _ _, _ => .bad
  | .Subscript o k p, .ListComp elt gs scope lp => lift env (R.E s (.ListComp elt gs scope lp) env ch) fun d c => liftG (R.G s (.Subscript o k p) d env c) fun env c => .ok env .nx c
  | tg, e => if isComp e then .bad else lift env (R.E s e env ch) fun d c => liftG (R.G s tg d env c) fun env c => .ok env .nx c
/-- raise C(a) -/
def raiseOf (ex cause : Option Expr) : Option (Str × Expr) := match ex, cause with
  | some (.Call (.Name x _) [a] [] _), none => some (x, a)
  | _, _ => none
theorem raiseOf_ok {ex cause : Option Expr} {x : Str} {a : Expr} (h : raiseOf ex cause = some (x, a)) : ∃ p p2, ex = some (.Call (.Name x p) [a] [] p2) ∧ cause = none := by
  unfold raiseOf at h
  split at h
  · cases h; exact ⟨_, _, rfl, rfl⟩
  · cases h
def raiseE (T : Tab) (R : Rc) (s : Sk) (o : Option (Str × Expr)) (env : En) (ch : CH) : RsS := match o with
  | some q => (match T.excs.lookup q.1 with
    | some f => if s.sc.names.lookup q.1 = some .globalImplicit ∧ (q.1 == ("__debug__" : Str)) = false ∧ isStar q.2 = false then lift env (R.E s q.2 env ch) fun d c => .exc env q.1 [(f, d)] c else .bad
    | none => .bad)
  | none => .bad
/-! try, except: what a clause returns -/
inductive HA where
  | con (d : D) | fld (f : Str) | rep (f : Str) | isi (c : Str) | var (i : Nat)
inductive HX where
  | one (a : HA) | lst (as : List HA) | two (y : Str) (d : D)
structure Hd where
  x : Str
  i : Nat
  e : HX
def rdA (T : Tab) (s : Sk) (n : Str) : Expr → Option HA
  | .Constant .none _ _ => some (.con .non)
  | .Constant (.bool b) _ _ => some (.con (.bl b))
  | .Constant (.int i) _ _ => some (.con (.int i))
  | .Constant (.str x) _ _ => some (.con (.str x))
  | .Attribute (.Name m _) f _ => if m = n then some (.fld f) else none
  | .Call (.Name g _) [.Attribute (.Name m _) f _] [] _ => if g = "repr" ∧ m = n ∧ isBt T s g = true then some (.rep f) else none
  | .Call (.Name g _) [.Name m _, .Name c _] [] _ => if g = "isinstance" ∧ m = n ∧ isBt T s g = true ∧ s.sc.names.lookup c = some .globalImplicit then some (.isi c) else none
  | .Name x _ => if x ≠ n ∧ s.sc.names.lookup x = some .local ∧ (x == ("__debug__" : Str)) = false ∧ (x == ("__classdict__" : Str)) = false then (ixOf x s.N).map .var else none
  | _ => none
def rdAs (T : Tab) (s : Sk) (n : Str) : List Expr → Option (List HA)
  | [] => some []
  | e :: es => (match rdA T s n e, rdAs T s n es with
    | some a, some as => some (a :: as)
    | _, _ => none)
def rdX (T : Tab) (s : Sk) (n : Str) : Expr → Option HX
  | .List es _ => (rdAs T s n es).map .lst
  | e => (rdA T s n e).map .one
/-- what a clause without a name returns -/
def conD : Expr → Option D
  | .Constant .none _ _ => some .non
  | .Constant (.bool b) _ _ => some (.bl b)
  | .Constant (.int i) _ _ => some (.int i)
  | .Constant (.str x) _ _ => some (.str x)
  | _ => none
def rdH (T : Tab) (s : Sk) : ExceptHandler → Option Hd
  | .ExceptHandler (some (.Name x _)) (some n) [.Return (some e) _] _ => if s.sc.names.lookup x = some .globalImplicit ∧ s.sc.names.lookup n = some .local ∧ (n == ("__debug__" : Str)) = false ∧ (n == ("__classdict__" : Str)) = false ∧ (T.cat.any fun q => decide (q.1.2 = x)) = true then (match ixOf n s.N, rdX T s n e with
    | some i, some h => some ⟨x, i, h⟩
    | _, _ => none) else none
  | .ExceptHandler (some (.Tuple [.Name x _, .Name y _] _ _)) none [.Return (some e) _] _ => if s.sc.names.lookup x = some .globalImplicit ∧ s.sc.names.lookup y = some .globalImplicit ∧ (T.cat.any fun q => decide (q.1.2 = x)) = true ∧ (T.cat.any fun q => decide (q.1.2 = y)) = true then (conD e).map fun d => ⟨x, 0, .two y d⟩ else none
  | _ => none
def rdHs (T : Tab) (s : Sk) : List ExceptHandler → Option (List Hd)
  | [] => some []
  | h :: hs => (match rdH T s h, rdHs T s hs with
    | some a, some as => some (a :: as)
    | _, _ => none)
def haV (exs : List (Str × Str)) (kit : List ((Str × Str) × Bool)) (c : Str) (fs : List (Str × D)) (env : En) (ch : CH) : HA → Option D
  | .con d => some d
  | .fld f => if exs.lookup c = some f then fs.lookup f else none
  | .rep f => if exs.lookup c = some f then (fs.lookup f).bind (reprD ch) else none
  | .isi x => (kit.lookup (c, x)).map .bl
  | .var i => (match env[i]? with | some (some d) => some d | _ => none)
def haVs (exs : List (Str × Str)) (kit : List ((Str × Str) × Bool)) (c : Str) (fs : List (Str × D)) (env : En) (ch : CH) : List HA → Option (List D)
  | [] => some []
  | a :: as => (match haV exs kit c fs env ch a, haVs exs kit c fs env ch as with
    | some d, some ds => some (d :: ds)
    | _, _ => none)
def runX (exs : List (Str × Str)) (kit : List ((Str × Str) × Bool)) (c : Str) (fs : List (Str × D)) (env : En) (ch : CH) : HX → Rs D
  | .one a => (match haV exs kit c fs env ch a with | some d => .ok d ch | none => .bad)
  | .lst as => (match haVs exs kit c fs env ch as with | some ds => if ds.length ≤ 16777216 then .ok (.ref ch.sz) (ch.push (.lst ds)) else .bad | none => .bad)
  | .two _ _ => .bad
/-- the clauses, at an exception -/
def catE (cat : List ((Str × Str) × Bool)) (exs : List (Str × Str)) (kit : List ((Str × Str) × Bool)) (c : Str) (fs : List (Str × D)) (env : En) (ch : CH) : List Hd → RsS
  | [] => .exc env c fs ch
  | ⟨x, _, .two y d⟩ :: r => (match cat.lookup (c, x), cat.lookup (c, y) with
    | some b1, some b2 => if (b1 || b2) = true then .ok env (.rt d) ch else catE cat exs kit c fs env ch r
    | _, _ => .bad)
  | h :: r => (match cat.lookup (c, h.x) with
    | some true => if h.i < env.length then (match runX exs kit c fs (env.set h.i none) ch h.e with
      | .ok d ch' => .ok (env.set h.i none) (.rt d) ch'
      | _ => .bad) else .bad
    | some false => catE cat exs kit c fs env ch r
    | none => .bad)
def tryE (cat : List ((Str × Str) × Bool)) (exs : List (Str × Str)) (kit : List ((Str × Str) × Bool)) (hds : List Hd) : RsS → RsS
  | .exc e c fs h => catE cat exs kit c fs e h hds
  | r => r
def exS (T : Tab) (R : Rc) (s : Sk) (st : Stmt) (env : En) (ch : CH) : RsS := match st with
  | .Expr e _ => if isComp e then .bad else lift env (R.E s e env ch) fun _ c => .ok env .nx c
  | .Assign [tg] e _ => asgE T R s tg e env ch
  | .AugAssign (.Name x _) op e _ => (match augF op, ixOf x s.N with
    | some f, some i => if s.sc.names.lookup x = some .local ∧ s.own x = true then augS R s f i e env ch else .bad
    | _, _ => .bad)
  | .If c a b _ => lift env (R.T s c env ch) fun q c => if q = true then R.B s a env c else R.B s b env c
  | .For tg it body [] _ => lkdS (lkI T s it) (fun env ch => lift env (evIt T R s (isTup tg) it env ch) fun w c => forB R s tg body (okW w) w.ds env c) env ch
  | .While t body [] _ => whB R s t body 1000000 env ch
  | .Return (some e) _ => lift env (R.E s e env ch) fun d c => .ok env (.rt d) c
  | .Return none _ => .ok env (.rt .non) ch
  | .Pass _ => .ok env .nx ch
  | .Break _ => .ok env .br ch
  | .Continue _ => .ok env .ct ch
  | .Raise ex cause _ => raiseE T R s (raiseOf ex cause) env ch
  | .Try body (h0 :: hs) [] [] _ => if s.top = true then (match rdHs T s (h0 :: hs) with
    | some hds => tryE T.cat T.excs T.kit hds (R.B s body env ch)
    | none => .bad) else .bad
  | _ => .bad
def exB (T : Tab) (R : Rc) (s : Sk) : List Stmt → En → CH → RsS
  | [], env, ch => .ok env .nx ch
  | st :: r, env, ch => match exS T R s st env ch with
    | .ok env .nx c => exB T R s r env c
    | .ok env f c => .ok env f c
    | .exc e c fs h => .exc e c fs h
    | .bad => .bad
def step (T : Tab) (R : Rc) : Rc := ⟨evE T R, evT T R, exB T R, evG T R, R.F⟩
/-- a text of this depth, over what the defs do -/
def runA (T : Tab) (F : Str → List D → CH → Rs D) : Nat → Rc
  | 0 => ⟨fun _ _ _ _ => .bad, fun _ _ _ _ => .bad, fun _ _ _ _ => .bad, fun _ _ _ _ _ => .bad, F⟩
  | n + 1 => step T (runA T F n)
/-- what the defs do, calls within calls to this depth -/
def lvl (T : Tab) : Nat → Str → List D → CH → Rs D
  | 0 => fun _ _ _ => .bad
  | d + 1 => callB T (runA T (lvl T d) 60)
/-! ## what a context must have -/
/-- a form of call binds as it says -/
def PatOk (K : PySem.W.Frag) (fd : FuncData) (ps : List Str) (p : Pat) : Prop := ∃ g, KBn K fd ps p.n p.ks g (arrV p.arr)
structure FnT (K : PySem.W.Frag) (CM : Str → Option Addr) (key : Str) (i : FnI) : Prop where
  ex : ∃ (f : Addr) (fd : FuncData) (oc : Value) (od : Option Addr) (dV kV doc pm : Value) (an : Option Addr) (cdv ct : Value) (osl : Array (Option Value)), CM key = some f ∧
    fd = PySem.W.fnOf i.nm i.qual (defArgs i.st) (defBody i.st) (defScope i.st) dV kV doc pm an cdv ct ∧ K.lookup f = some ⟨oc, od, .func fd, osl⟩ ∧ PySem.W.codeIn K cdv i.qual = true ∧ PySem.W.keepIn K (.ref f) = true ∧ ∀ p ∈ i.pats, PatOk K fd i.ps p
  sc : FnScope i.N i.ps (defScope i.st)
/-- a class that isinstance may be asked of -/
structure InstC (K : PySem.W.Frag) (C : Addr) : Prop where
  cd : ((PySem.W.clsIn K C).isSome && PySem.W.typeIn K (.ref C) == some (.type "type")) = true
  ha : PySem.W.findIn K (.ref C) "__class__" = some (some (.builtin "object.__class__"))
  hn : PySem.W.specialIn K (.builtin "object.__class__") "__get__" = some (some (.builtin "getset_descriptor.__get__"))
  tk : PySem.W.takesIn K (.builtin "object.__class__") = some true
  hm : PySem.W.mroIn K C (.type "object") = some true
/-- an own error's __init__: self.f = what is handed in -/
def spX (C : Addr) (f : Str) : Sp := fun vs H Q _ => ∃ (a : Addr) (v : V), vs = [.ref a, v] ∧ H a = some (exo a C none) ∧ ∀ dx, H dx = none → dx ≠ a → Q .non (upd (upd H dx (exd dx [(f, v)])) a (exo a C (some dx)))
structure TabS (T : Tab) (P : Program) (K : PySem.W.Frag) (mg : Str → Option Value) (CM : Str → Option Addr) : Prop where
  fn : ∀ key i, T.fns.lookup key = some i → FnT K CM key i
  gl : ∀ x, x ∈ T.gfn → ∃ f, CM x = some f ∧ mg x = some (.ref f)
  cl : ∀ c, c ∈ T.cls → ∃ C, CM c = some C ∧ Cls K C
  mkc : ∀ c key, T.mks.lookup c = some key → ∃ C f, CM c = some C ∧ CM key = some f ∧ mg c = some (.ref C) ∧ Mk K C f
  mt : ∀ c m key, T.mts.lookup (c, m) = some key → ∃ C f, CM c = some C ∧ CM key = some f ∧ Meth K C m f
  ne : ∀ c key, T.mts.lookup ((c, "__eq__") : Str × Str) = some key → ∃ C, CM c = some C ∧ PySem.W.findIn K (.ref C) "__ne__" = some (some (.builtin "object.__ne__")) ∧ PySem.W.subIn K (.ref C) (.type "object") = some true
  fl : ∀ c f, (c, f) ∈ T.flds → ∃ C, CM c = some C ∧ NoAttr K C f
  con : ∀ x d, T.cons.lookup x = some d → ∃ v u, mg x = some u ∧ RelV v u ∧ (∀ ρ H, RV K CM ρ H d v) ∧ ∀ ds, d = .tup ds → ∃ a o, v = .ref a ∧ K.lookup a = some o ∧ o.cls = .type "tuple" ∧ o.dict = none
  no : ∀ x, x ∉ T.names → mg x = none
  isc : ∀ c, c ∈ T.isc → ∃ C, CM c = some C ∧ InstC K C
  unl : ∀ c d, (c, d) ∈ T.unl → ∃ C D, CM c = some C ∧ CM d = some D ∧ C ≠ D ∧ PySem.W.mroIn K C (.ref D) = some false
  exc : ∀ c f, T.excs.lookup c = some f → ∃ C fI fd p, CM c = some C ∧ mg c = some (.ref C) ∧ OexG K C ∧ PySem.W.findIn K (.ref C) "__init__" = some (some (.ref fI)) ∧ PySem.W.typeIn K (.ref fI) = some (.type "function") ∧ Binds K fd ["self", p] [] ∧ (T.xkw.contains c = true → ∀ (s : Shared) (a u : Value), BindsTo s fd ⟨[a], [(f, u)]⟩ (((["self", p] : List Str)).zip [a, u])) ∧
    ∀ (w : World) (base : Heap) (CX : CXT), FnOk P w K mg base CX 1 fI fd ["self", p] (spX C f)
  bis : ∀ x id, T.bis.lookup x = some id → mg x = some (.builtin id)
  cat : ∀ c x b, T.cat.lookup (c, x) = some b → ∃ C cv, CM c = some C ∧ (x == ("__debug__" : Str)) = false ∧ mg x = some cv ∧ PySem.W.exmOne K (.ref C) cv = some b
  kit : ∀ c x b, T.kit.lookup (c, x) = some b → ∃ C cv v, CM c = some C ∧ ExcC K C ∧ (PySem.W.clsIn K C).isSome = true ∧ (x == ("__debug__" : Str)) = false ∧ PySem.W.kitOne K (.ref C) cv = some b ∧ RelV v cv ∧ (∀ u, RelV v u → u = cv) ∧ (mg x = some cv ∨ (mg x = none ∧ bootBuiltins x = some cv ∧ x ≠ "__name__"))
  xf : ∀ c f, T.excs.lookup c = some f → ∃ C, CM c = some C ∧ XfC K C ∧ PySem.W.findIn K (.ref C) f = some none
  cal : ∀ c key, T.mts.lookup ((c, "__call__") : Str × Str) = some key → ∃ C g, CM c = some C ∧ CM key = some g ∧ StX.CallO K C g
  ad : ∀ c key, T.mts.lookup ((c, "__add__") : Str × Str) = some key → ∃ C, CM c = some C ∧ PySem.W.selfFirst K C = true
/-- a def's promise where no repr is under way -/
structure GnOk (P : Program) (w : World) (K : PySem.W.Frag) (mg : Str → Option Value) (base : Heap) (cx : CXT) (k : Nat) (fa : Addr) (fd : FuncData) (ps : List Str) (sp : Sp) : Prop where
  len : ∀ vs H Q E, sp vs H Q E → vs.length = ps.length
  go : ∀ (A : Around) (out : List Env) (st : Shared) (H : Hp) (ar : Args) (us : List Value) (vs : List V) (Q : VK) (E : XK), A.guards = some [] → Room k A → Env0 P w K mg base A out st H → BindsTo st fd ar (ps.zip us) → Vals vs us → sp vs H Q E →
    codeAny (model P w) A (.call (.ref fa) ar) (CR cx out P w H st Q E) st
theorem gn_of {cx : CXT} {P : Program} {w : World} {K : PySem.W.Frag} {mg : Str → Option Value} {base : Heap} {k : Nat} {fa : Addr} {nm ql : Str} {pa : Arguments} {bd : List Stmt} {sc : Scope} {dV kV doc pm cdv ct oc : Value} {an od : Option Addr}
    {osl : Array (Option Value)} {N ps : List Str} {sp : Sp} (lk : K.lookup fa = some ⟨oc, od, .func (PySem.W.fnOf nm ql pa bd sc dV kV doc pm an cdv ct), osl⟩) (hcd : PySem.W.codeIn K cdv ql = true) (FS : FnScope N ps sc)
    (hlen : ∀ vs H Q E, sp vs H Q E → vs.length = ps.length)
    (hb : ∀ (A : Around) (out : List Env) (st : Shared) (H : Hp) (vs : List V) (Q : VK) (E : XK), A.guards = some [] → Room k (A.deeper (envOfC ql sc st.heap.objs.size fa cdv)) → sp vs H Q E →
      ∃ t, PSs (cxOf cx P w K mg base N ql sc fa cdv A out st H E) bd t ∧ t { nx := fun _ H2 => Q .non H2, rt := Q } (start N vs) H) :
    GnOk P w K mg base cx (k + 1) fa (PySem.W.fnOf nm ql pa bd sc dV kV doc pm an cdv ct) ps sp where
  len := hlen
  go := fun A out st H ar us vs Q E gd room e0 bind rel hsp => by
    have kin : K.In st.heap := e0.mod.kin.keeps fun b o e => (e0.bs b o e).1
    have nol : st.heap.NoLimit := e0.mod.nolimit.keeps fun b o e => (e0.bs b o e).1
    refine codeAny_call_function room.depth (kin _ _ lk) rfl FS.co FS.gen rfl (PySem.W.codeRec_of kin hcd) (bind _ _ _ _ ?_)
    have kinds : ∀ y ∈ ps.zip us, sc.names.lookup y.1 = some .local ∨ (sc.names.lookup y.1 = some .cell ∧ ((cellsFrom (st.heap.objs.size + 1) sc.names []).lookup y.1).isSome = true) := by
      rintro ⟨x, u⟩ hy
      rcases FS.par x (List.of_mem_zip hy).1 with z | z
      · exact .inl z
      · exact .inr ⟨z, PySem.W.cellsFrom_some _ _ _ (.inl z)⟩
    refine wpAny_newFunctionEnv_cells FS.kind kinds fun env henv s1 x => ?_
    subst henv
    refine ⟨nol.keeps x.toInCall.keep, codeAny_func ?_⟩
    obtain ⟨t, run, q⟩ := hb A out st H vs Q E gd (room.deeper _) hsp
    refine wpAny_mono (run.run [] s1 (start N vs) H _ (inv_start FS room.hd e0 (hlen _ _ _ _ hsp) rel x) q) (fun fl s2 hs => ?_) fun _ _ z => z
    cases fl with
    | brk => obtain ⟨_, _, _, z⟩ := hs; exact z.elim
    | cont => obtain ⟨_, _, _, z⟩ := hs; exact z.elim
    | next => obtain ⟨σ2, H2, J, z⟩ := hs; exact ⟨V.non, H2, J.os, J.bare, J.base, J.hok, rfl, z⟩
    | ret u => obtain ⟨v, σ2, H2, J, rv, z⟩ := hs; exact ⟨v, H2, J.os, J.bare, J.base, J.hok, rv, z⟩
structure Ck (T : Tab) (CM : Str → Option Addr) (X : Cx) (s : Sk) (n : Nat) (W : WX) : Prop where
  N : X.N = s.N
  sc : X.env.scope = s.sc
  nd : s.N.Nodup
  calm : X.calm = true
  knd : X.env.scope.kind = .function
  room : Room n X.A
  gd : X.A.guards = some []
  tk : Takes X W
  po : PassesOwn (model X.prog X.w) X.A X.env X.xe
  own : ∀ x, s.own x = true → X.fn x = true ∨ X.env.scope.names.lookup x = some .local
  stk : s.top = true → X.stack = X.env :: X.outer ∧ X.env.frame = some X.env.locals
  tab : TabS T X.prog X.K X.mg CM
def PostS (K : PySem.W.Frag) (CM : Str → Option Addr) (W : WX) (ρ : List Addr) (H : Hp) (Dn : Ends) : RsS → Prop
  | .ok env' f ch' => ∀ ρ' σ' H', Mo ρ ρ' → Keep H H' → RE K CM ρ' H' env' σ' → RH K CM ρ' ch' H' → (match f with
    | .nx => Dn.nx σ' H'
    | .br => Dn.bk σ' H'
    | .ct => Dn.ct σ' H'
    | .rt d => ∀ v, RV K CM ρ' H' d v → Dn.rt v H')
  | .exc env' c fs ch' => ∀ ρ' σ' H' C dd vs, Mo ρ ρ' → Keep H H' → RE K CM ρ' H' env' σ' → RH K CM ρ' ch' H' → CM c = some C → H' dd = some (.xd ((fs.map (·.1)).zip vs)) → RVs K CM ρ' H' (fs.map (·.2)) vs → W (.ref C) (some dd) σ' H'
  | .bad => False
theorem PostS.mono {K : PySem.W.Frag} {CM : Str → Option Addr} {W : WX} {ρ ρ1 : List Addr} {H H1 : Hp} {Dn : Ends} {r : RsS} (m : Mo ρ ρ1) (k : Keep H H1) (h : PostS K CM W ρ H Dn r) : PostS K CM W ρ1 H1 Dn r := by
  cases r with
  | ok env f ch => exact fun ρ' σ' H' m' k' => h ρ' σ' H' (m.trans m') (k.trans k')
  | exc env c fs ch => exact fun ρ' σ' H' C dd vs m' k' => h ρ' σ' H' C dd vs (m.trans m') (k.trans k')
  | bad => exact h
def tS (K : PySem.W.Frag) (CM : Str → Option Addr) (W : WX) (m : En → CH → RsS) : TS := fun Dn σ H => ∃ ρ env ch, RE K CM ρ H env σ ∧ RH K CM ρ ch H ∧ PostS K CM W ρ H Dn (m env ch)
/-- targets -/
abbrev rEn (K : PySem.W.Frag) (CM : Str → Option Addr) : Rel En L2.St := fun ρ H e σ => RE K CM ρ H e σ
abbrev noX : XW := fun _ _ _ => False
def tG (K : PySem.W.Frag) (CM : Str → Option Addr) (m : D → En → CH → Rs En) : TG := fun v σ H Q => ∃ ρ env ch d, RE K CM ρ H env σ ∧ RH K CM ρ ch H ∧ RV K CM ρ H d v ∧ Post K CM (rEn K CM) noX ρ H Q (m d env ch)
/-- a def's promise -/
def spI (K : PySem.W.Frag) (CM : Str → Option Addr) (m : List D → CH → Rs D) : Sp := fun vs H Q E => ∃ ρ ds ch, RVs K CM ρ H ds vs ∧ RH K CM ρ ch H ∧ Post K CM (rV K CM) E ρ H Q (m ds ch)
structure Sound (T : Tab) (CM : Str → Option Addr) (R : Rc) (n : Nat) : Prop where
  sE : ∀ X s W, Ck T CM X s n W → ∀ e, IE X CM W e (R.E s e)
  sT : ∀ X s W, Ck T CM X s n W → ∀ e, IT X CM W e (R.T s e)
  sB : ∀ X s W, Ck T CM X s n W → ∀ b, PSs X b (tS X.K CM W (R.B s b))
  sF : ∀ (prog : Program) (w : World) (K : PySem.W.Frag) (mg : Str → Option Value) (base : Heap), TabS T prog K mg CM → ∀ key i, T.fns.lookup key = some i → ∃ (f : Addr) (fd : FuncData) (m : Nat), m + 1 ≤ n ∧ CM key = some f ∧ PySem.W.keepIn K (.ref f) = true ∧ (∀ p ∈ i.pats, PatOk K fd i.ps p) ∧ GnOk prog w K mg base (L2.CX prog w) m f fd i.ps (spI K CM (R.F key))
  sG : ∀ X s W, Ck T CM X s n W → ∀ tg, PG X tg (tG X.K CM (R.G s tg))
  two : 2 ≤ n
theorem RE.start {K : PySem.W.Frag} {CM : Str → Option Addr} {ρ : List Addr} {H : Hp} {N : List Str} {ds : List D} {vs : List V} (h : RVs K CM ρ H ds vs) : RE K CM ρ H (startE N ds) (L2.start N vs) := by
  unfold startE L2.start
  rw [h.length]
  generalize N.length - vs.length = m
  have z : RE K CM ρ H (List.replicate m none) (List.replicate m none) := by
    induction m with
    | zero => exact .nil
    | succ m ih => rw [List.replicate_succ, List.replicate_succ]; exact .cons (.no _) ih
  induction ds generalizing vs with
  | nil => cases h; simpa using z
  | cons d ds ih =>
    cases h with
    | cons h t => exact .cons (.so h) (ih t)
theorem callB_fn {T : Tab} {CM : Str → Option Addr} {R : Rc} {n : Nat} (S : Sound T CM R n) {prog : Program} {w : World} {K : PySem.W.Frag} {mg : Str → Option Value} {base : Heap} (tb : TabS T prog K mg CM) {key : Str} {i : FnI} (hi : T.fns.lookup key = some i) :
    ∃ (f : Addr) (fd : FuncData), CM key = some f ∧ PySem.W.keepIn K (.ref f) = true ∧ (∀ p ∈ i.pats, PatOk K fd i.ps p) ∧ GnOk prog w K mg base (L2.CX prog w) (n + 1) f fd i.ps (spI K CM (callB T R key)) := by
  obtain ⟨⟨f, fd, oc, od, dV, kV, doc, pm, an, cdv, ct, osl, hcm, rfl, lk, hcd, kp, pt⟩, sc⟩ := tb.fn key i hi
  refine ⟨f, _, hcm, kp, pt, ?_⟩
  have hc : ∀ ds ch, callB T R key ds ch = if ds.length = i.ps.length then (match R.B ⟨i.N, defScope i.st, fun _ => true, true⟩ (defBody i.st) (startE i.N ds) ch with
    | .ok _ .nx c => .ok .non c
    | .ok _ (.rt d) c => .ok d c
    | .exc _ c fs h => .exc c fs h
    | _ => .bad) else .bad := fun ds ch => by unfold callB; rw [hi]
  refine gn_of lk hcd sc (fun vs H Q E h => ?_) (fun A outer s H vs Q E gd hr h => ?_)
  · obtain ⟨ρ, ds, ch, rv, rh, p⟩ := h
    rw [hc] at p
    split at p
    · rename_i hl; rw [← rv.length]; exact hl
    · exact p.elim
  · obtain ⟨ρ, ds, ch, rv, rh, p⟩ := h
    rw [hc] at p
    split at p
    · refine ⟨_, S.sB (cxOf (L2.CX prog w) prog w K mg base i.N i.qual (defScope i.st) f cdv A outer s H E) ⟨i.N, defScope i.st, fun _ => true, true⟩ (fun cls d _ H => E cls d H) ⟨rfl, rfl, sc.nd, rfl, sc.kind, hr, gd, takes_of rfl rfl rfl rfl, passes_of rfl, fun _ _ => .inl rfl, fun _ => ⟨rfl, rfl⟩, tb⟩ (defBody i.st), ?_⟩
      refine ⟨ρ, startE i.N ds, ch, rv |> RE.start, rh, ?_⟩
      generalize R.B ⟨i.N, defScope i.st, fun _ => true, true⟩ (defBody i.st) (startE i.N ds) ch = r at p
      cases r with
      | ok env fl c =>
        intro ρ' σ' H' m k re' rh'
        cases fl with
        | nx => exact p ρ' H' _ m k rh' .non
        | rt d => exact fun v hv => p ρ' H' v m k rh' hv
        | br => exact p.elim
        | ct => exact p.elim
      | exc env c fs h => exact fun ρ' σ' H' C dd vs m k _ rh' a b d => p ρ' H' C dd vs m k rh' a b d
      | bad => exact p.elim
    · exact p.elim
end LL
namespace LL
open PySem PySem.Spec PyProof.Rows L2
/-! ## enumerate over a tuple -/
theorem meets_enum1 {x : Value} {ob : Obj} {G : Heap → Prop} (B : Begins x ob G) :
    Meets (Builtin.«enumerate.__new__» ⟨[.type "enumerate", x], []⟩) (fun _ R s => G s.heap ∧
      R (.ok (.ret (.ref (s.heap.push ob).objs.size))) { s with heap := (s.heap.push ob).push { cls := .type "enumerate", data := .fields #[.none, .bool false, .ref s.heap.objs.size, rawInt 0, .none, .none] } }) :=
  .of_wp fun prog w A R s h => by
    obtain ⟨hp, g, d, tk, os⟩ := s
    obtain ⟨g1, h⟩ := h
    have he := sub_enumerate
    have it : ∀ {A' : Around} {E : Value → Shared → Prop} {Q : Value → Shared → Prop}, Q (.ref hp.objs.size) ⟨hp.push ob, g, d, tk, os⟩ → wpAny (model prog w) A' (pyIter x) Q E ⟨hp, g, d, tk, os⟩ := fun z => B.iter prog w _ _ ⟨hp, g, d, tk, os⟩ _ g1 z
    wp_walk using it
    refine wpAny_stack_any (fun stk => wpAny_pure ?_)
    split
    · rename_i c _ _ _ _ _
      cases (c == Value.type "enumerate") <;> (wp_walk using it; exact ⟨_, rfl, h⟩)
    · wp_walk using it; exact ⟨_, rfl, h⟩
theorem call_enum1 {prog : Program} {w : World} {A : Around} {E : Value → Shared → Prop} {s : Shared} {x : Value} {ob : Obj} {G : Heap → Prop} {Q : Value → Shared → Prop} (B : Begins x ob G) (g : G s.heap)
    (h : ∀ h', IsEnum h' (s.heap.objs.size + 1) s.heap.objs.size 0 .none → h'.get? s.heap.objs.size = some ob → (∀ b o, s.heap.get? b = some o → h'.get? b = some o) → Q (.ref (s.heap.objs.size + 1)) { s with heap := h' }) :
    wpAny (model prog w) A (call (.type "enumerate") [x]) Q E s := by
  refine callType_new F.called_enumerate (by decide) (F.typeCall_enumerate_1 _) (F.newCall_enumerate_1 _) (fun obj => F.args_object_init_2 obj _) F.entry_enumerate_new (meets_enum1 B) ⟨g, ?_⟩
  have z : (s.heap.push ob).objs.size = s.heap.objs.size + 1 := Heap.size_push ..
  show _ ∧ _
  rw [z]
  have e : IsEnum ((s.heap.push ob).push { cls := .type "enumerate", data := .fields #[.none, .bool false, .ref s.heap.objs.size, rawInt 0, .none, .none] }) (s.heap.objs.size + 1) s.heap.objs.size 0 .none := by
    have q := Heap.get?_push_size (s.heap.push ob) (o := { cls := .type "enumerate", data := .fields #[.none, .bool false, .ref s.heap.objs.size, rawInt 0, .none, .none] }) rfl
    rw [z] at q
    exact q
  exact ⟨⟨_, e, rfl⟩, h _ e (Heap.get?_push_of_some _ (Heap.get?_push_size _ B.free)) fun b o y => Heap.get?_push_of_some _ (Heap.get?_push_of_some _ y)⟩
/-- a tuple's items, each with its number -/
def Ett (K : PySem.W.Frag) (a : Addr) (n : Nat) : It :=
  ⟨fun i H => ∃ (xs : List V) (x : V), SqT K H a xs ∧ xs.length = n ∧ xs[i]? = some x, fun i H v H' => ∃ T x, v = .ref T ∧ H T = none ∧ H' = upd H T (.tup [.int (i : Nat), x]) ∧ ∀ xs, SqT K H a xs → xs[i]? = some x, fun i H => ∃ xs : List V, SqT K H a xs ∧ xs.length = n ∧ n ≤ i⟩
theorem turn_enumT {P : Program} {w : World} {K : PySem.W.Frag} {elts : List Expr} {kk : Nat} {tpos : Pos} (a e it : Addr) (n : Nat) (ha : a ≠ it) :
    Turn P w K (.Tuple elts kk tpos) (Ett K a n) [e, it] e (fun i h => (∃ old, IsEnum h e it ((i : Nat) : Int) old) ∧ h.IsTupleIter it a i ∧ e ≠ it ∧ a ≠ e ∧ i ≤ n) where
  mem := by simp
  obj := fun i h st b hb => by
    obtain ⟨⟨old, he⟩, ⟨o, ho, hc, hd⟩, _⟩ := st
    have eb : b = e ∨ b = it := by simpa using hb
    rcases eb with rfl | rfl
    · exact ⟨_, he, fun v q => nomatch q⟩
    · exact ⟨o, ho, fun v q => by rw [hd] at q; cases q⟩
  keep := fun i h h' st k => by
    obtain ⟨⟨old, he⟩, hi, n1, n2, n3⟩ := st
    exact ⟨⟨old, k e (by simp) _ he⟩, hi.at fun o q => k it (by simp) o q, n1, n2, n3⟩
  item := by
    intro X eP ew eK hc i pins s σ H E I hf st hg
    subst eP ew eK
    obtain ⟨⟨old, he⟩, hit, n1, n2, n3⟩ := st
    obtain ⟨xs, x, hq, hn, hx⟩ := hg
    obtain ⟨its, rv, p, hz⟩ := I.tuple hq
    obtain ⟨u, hu, ru⟩ := rv.get hx
    have le := Heap.lt_size he
    have li : it < s.heap.objs.size := by obtain ⟨_, q, _⟩ := hit; exact Heap.lt_size q
    have hlen : i < its.toArray.size := by
      have := (List.getElem?_eq_some_iff.mp hu).1
      simpa using this
    have ea : e ∉ [it, a] := by simp; exact ⟨n1, fun z => n2 z.symm⟩
    refine wpAny_pyNext_enum_itemD (Draws.tuple (A := X.A.in1) (show X.A.handled = none from I.ok.hd hc) it a ha its.toArray) he ⟨hit, p⟩ hlen n1 ea fun y h1 tk hy ho hs hT hsz hk => ?_
    obtain rfl : y = u := by
      have : its.toArray[i]? = some u := by simpa using hu
      rw [this] at hy
      exact (Option.some.inj hy).symm
    refine ⟨_, rfl, wpAny_letOwnedTupleGo_enum (s := { s with heap := h1, toks := tk + 1 }) ho fun h2 he2 sb => ?_⟩
    have hT2 : h2.get? s.heap.objs.size = some { cls := .type "tuple", data := .seq #[.int i tk, y] } := (sb.2 _ (Nat.ne_of_gt le)).trans hT
    have new : ObjOk X.prog X.w (upd H s.heap.objs.size (.tup [.int (i : Nat), x])) h2 s.heap.objs.size (.tup [.int (i : Nat), x]) := ⟨(by show 2 ≤ sizeLine; decide), [.int i tk, y], .cons ⟨_, rfl⟩ (.cons ru .nil), _, hT2, rfl, _, rfl⟩
    have keeps : ∀ b o, b ∉ [e, it] → s.heap.get? b = some o → h2.get? b = some o := fun b o hb q => by
      have b1 : b ≠ e := fun z => hb (by simp [z])
      have b2 : b ≠ it := fun z => hb (by simp [z])
      exact (sb.2 b b1).trans (hk b o b1 b2 q)
    have I1 : Inv X pins σ (upd H s.heap.objs.size (.tup [.int (i : Nat), x])) { s with heap := h2, toks := tk + 1 } := I.turnedNew (ch := [e, it]) keeps hf (Nat.le_refl _) new
    refine ⟨.ref s.heap.objs.size, _, I1, rfl, ⟨_, x, rfl, I.hok.fresh (Nat.le_refl _), rfl, fun ys hy => by rw [I.tuple_inj hy hq]; exact hx⟩, ⟨⟨y, ?_⟩, hs.1.at fun o q => (sb.2 it (Ne.symm n1)).trans q, n1, n2, by have := (List.getElem?_eq_some_iff.mp hx).1; omega⟩, fun b hb => ?_⟩
    · rw [show ((i + 1 : Nat) : Int) = (i : Int) + 1 by omega]
      exact he2
    · have hb1 : b < s.heap.objs.size := by
        have eb : b = e ∨ b = it := by simpa using hb
        rcases eb with rfl | rfl
        · exact le
        · exact li
      rw [upd_ne (Nat.ne_of_lt hb1)]
      exact (hf b hb).1
  done := by
    intro X eP ew eK hc i pins s σ H E I hf st hg
    subst eP ew eK
    obtain ⟨⟨old, he⟩, hit, n1, n2, n3⟩ := st
    obtain ⟨xs, hq, hn, hx⟩ := hg
    obtain ⟨its, rv, p, hz⟩ := I.tuple hq
    obtain ⟨f0, f1, f2, f3, f4, f5⟩ := hf it (by simp)
    have hl := rv.length
    obtain rfl : i = n := by omega
    have hs : its.toArray.size = i := by simp; omega
    have D := Draws.tuple (prog := X.prog) (w := X.w) (A := X.A.in1) (show X.A.handled = none from I.ok.hd hc) it a ha its.toArray
    exact wpAny_pyNext_enum_endD D he (by rw [hs]; exact ⟨hit, p⟩) fun h' eb => ⟨rfl, I.turned (t' := s.toks) (fun b o hb q => eb b o hb q) f0 f1 f3 f4 f5⟩
  self := fun A i s Q E st h => by
    obtain ⟨⟨_, he⟩, _⟩ := st
    exact wpAny_pyIter_enum he h
/-- for i, x in enumerate(e), e a list or a tuple -/
def iEnumB (K : PySem.W.Frag) (ta : TA) : TI := fun σ H R => ta σ H fun vs H1 => ∃ a, vs = [.ref a] ∧ ((∃ xs, SqL K H1 a xs ∧ R (Ite K a) H1) ∨ ∃ xs, SqT K H1 a xs ∧ R (Ett K a xs.length) H1)
theorem pi_enumB {X : Cx} {e : Expr} {ta : TA} {p pos tpos : Pos} {elts : List Expr} {kk : Nat} (hg : Gl X "enumerate") (hm : X.mg "enumerate" = none) (ha : PA X [e] ta) (hs : starEach [e] X.env = [(false, eval e X.env)] := by rfl) :
    PI X (.Tuple elts kk tpos) (.Call (.Name "enumerate" p) [e] [] pos) (iEnumB X.K ta) := by
  refine ⟨fun pins s σ H R I h => Call_ (ld_blt I hg hm boot_enumerate (PyProof.Rows.callWith_type1 (thn (ha.run pos pins s σ H _ I h) fun us s1 ⟨vs, H1, I1, r1, a, ex, q⟩ => ?_) hs rfl))⟩
  subst ex
  cases r1 with
  | cons r rr =>
    cases rr
    cases r
    have two : ∀ b, b ∈ [s1.heap.objs.size + 1, s1.heap.objs.size] → s1.heap.objs.size ≤ b := fun b hb => by
      have : b = s1.heap.objs.size + 1 ∨ b = s1.heap.objs.size := by simpa using hb
      omega
    rcases q with ⟨xs, hq, q⟩ | ⟨xs, hq, q⟩
    · obtain ⟨its, rv, p', hz⟩ := I1.list hq
      refine call_enumerate_list p'.isList (fun h' he hit hsz hk => wpAny_pyIter_enum he ?_)
      have I2 : Inv X pins σ H1 { s1 with heap := h' } := I1.kept (t' := s1.toks) hk
      exact ⟨s1.heap.objs.size + 1, [s1.heap.objs.size + 1, s1.heap.objs.size], _, _, H1, rfl, I2, turn_enum a (s1.heap.objs.size + 1) s1.heap.objs.size, ⟨⟨.none, he⟩, hit, Nat.succ_ne_self _⟩, fun b hb => I1.fpOk (two b hb) (I1.hok.fresh (two b hb)), q⟩
    · obtain ⟨its, rv, p', hz⟩ := I1.tuple hq
      have la : a < s1.heap.objs.size := by obtain ⟨o, ho, _⟩ := p'; exact Heap.lt_size ho
      refine call_enum1 (begins_tuple a its.toArray) p' (fun h' he hit hk => wpAny_pyIter_enum he ?_)
      have I2 : Inv X pins σ H1 { s1 with heap := h' } := I1.kept (t' := s1.toks) hk
      exact ⟨s1.heap.objs.size + 1, [s1.heap.objs.size + 1, s1.heap.objs.size], _, _, H1, rfl, I2, turn_enumT a (s1.heap.objs.size + 1) s1.heap.objs.size xs.length (Nat.ne_of_lt la), ⟨⟨.none, he⟩, ⟨_, hit, rfl, rfl⟩, Nat.succ_ne_self _, Nat.ne_of_lt (Nat.lt_succ_of_lt la), Nat.zero_le _⟩, fun b hb => I1.fpOk (two b hb) (I1.hok.fresh (two b hb)), q⟩
end LL
namespace LL
open PySem PySem.Spec PyProof.Rows L2
/-! ## zip over two rows, each of them a list or a tuple -/
/-- t: a tuple; else a list -/
def SqB (K : PySem.W.Frag) (t : Bool) (H : Hp) (a : Addr) (xs : List V) : Prop := match t with
  | true => SqT K H a xs
  | false => SqL K H a xs
def ItB (t : Bool) (h : Heap) (it l : Addr) (i : Nat) : Prop := match t with
  | true => h.IsTupleIter it l i
  | false => h.IsListIter it l i
def ObB (t : Bool) (h : Heap) (l : Addr) (its : Array Value) : Prop := match t with
  | true => h.IsTuple l its
  | false => h.IsList l its
def newB (t : Bool) (l : Addr) : Obj := match t with
  | true => { cls := .type "tuple_iterator", data := .fields #[.ref l, .int 0 0] }
  | false => { cls := .type "list_iterator", data := .fields #[.ref l, .int 0 0] }
theorem ItB.at {t : Bool} {h h' : Heap} {it l : Addr} {i : Nat} (x : ItB t h it l i) (k : ∀ o, h.get? it = some o → h'.get? it = some o) : ItB t h' it l i := by
  cases t with
  | true => exact Heap.IsTupleIter.at (show h.IsTupleIter it l i from x) k
  | false => exact Heap.IsListIter.at (show h.IsListIter it l i from x) k
theorem ItB.here {t : Bool} {h : Heap} {it l : Addr} {i : Nat} (x : ItB t h it l i) : ∃ o, h.get? it = some o ∧ ∀ v, o.data ≠ .cell v := by
  cases t with
  | true => obtain ⟨o, ho, _, hd⟩ := x; exact ⟨o, ho, fun v q => by rw [hd] at q; cases q⟩
  | false => obtain ⟨o, ho, _, hd⟩ := x; exact ⟨o, ho, fun v q => by rw [hd] at q; cases q⟩
theorem drawsB {prog : Program} {w : World} {A : Around} (hh : A.handled = none) (t : Bool) (it l : Addr) (hne : l ≠ it) (its : Array Value) :
    Draws prog w A it [it, l] its.size (fun i v => its[i]? = some v) (fun i h => ItB t h it l i ∧ ObB t h l its) := by
  cases t with
  | true => exact Draws.tuple hh it l hne its
  | false => exact Draws.list hh it l hne its
theorem beginsB (t : Bool) (l : Addr) (its : Array Value) : Begins (.ref l) (newB t l) fun h => ObB t h l its := by
  cases t with
  | true => exact begins_tuple l its
  | false => exact begins_list l its
theorem newB_it {t : Bool} {h : Heap} {it l : Addr} (e : h.get? it = some (newB t l)) : ItB t h it l 0 := by
  cases t with
  | true => exact ⟨_, e, rfl, rfl⟩
  | false => exact ⟨_, e, rfl, rfl⟩
theorem ObB.lt {t : Bool} {h : Heap} {l : Addr} {its : Array Value} (x : ObB t h l its) : l < h.objs.size := by
  cases t with
  | true => obtain ⟨o, ho, _⟩ := x; exact Heap.lt_size ho
  | false => obtain ⟨o, ho, _⟩ := x; exact Heap.lt_size ho
theorem ItB.apart {t u : Bool} {h : Heap} {it l : Addr} {i : Nat} {its : Array Value} (x : ItB t h it l i) (y : ObB u h l its) : l ≠ it := fun e => by
  subst e
  have key : ∀ {c d : String} {o o' : Obj}, h.get? l = some o → h.get? l = some o' → o.cls = .type c → o'.cls = .type d → c = d := fun h1 h2 h3 h4 => by
    rw [h1] at h2
    cases h2
    rw [h3] at h4
    exact Value.type.inj h4
  cases t <;> cases u
  · obtain ⟨o, ho, hc, _⟩ := x; obtain ⟨o', ho', hc', _⟩ := y; exact absurd (key ho ho' hc hc') (by decide)
  · obtain ⟨o, ho, hc, _⟩ := x; obtain ⟨o', ho', hc', _⟩ := y; exact absurd (key ho ho' hc hc') (by decide)
  · obtain ⟨o, ho, hc, _⟩ := x; obtain ⟨o', ho', hc', _⟩ := y; exact absurd (key ho ho' hc hc') (by decide)
  · obtain ⟨o, ho, hc, _⟩ := x; obtain ⟨o', ho', hc', _⟩ := y; exact absurd (key ho ho' hc hc') (by decide)
theorem sep_of (n a b : Nat) (la : a < n) (lb : b < n) : ZipSep2 (n + 4) (n + 2) (n + 3) n (n + 1) [n, a] [n + 1, b] := by
  have two : ∀ {x y z : Addr}, x ≠ y → x ≠ z → x ∉ [y, z] := fun h k m => by
    rcases List.mem_cons.mp m with e | m
    · exact h e
    · exact k (List.mem_singleton.mp m)
  have ne : ∀ {x y : Nat}, x ≠ y → ¬ @Eq Addr x y := fun h e => h e
  exact ⟨ne (by omega), ne (by omega), ne (by omega), ne (by omega), List.mem_cons_self, two (ne (by omega)) (ne (by omega)), two (ne (by omega)) (ne (by omega)), ne (by omega), List.mem_cons_self, two (ne (by omega)) (ne (by omega)), two (ne (by omega)) (ne (by omega)), two (ne (by omega)) (ne (by omega)), two (ne (by omega)) (ne (by omega))⟩
section
variable {X : Cx} {s : Shared} {pins : List (Addr × Obj)} {σ : L2.St} {H : Hp}
theorem SqB.real {t : Bool} {a : Addr} {xs : List V} (I : Inv X pins σ H s) (h : SqB X.K t H a xs) : ∃ its : List Value, Vals xs its ∧ ObB t s.heap a its.toArray := by
  cases t with
  | true => obtain ⟨its, rv, p, _⟩ := I.tuple h; exact ⟨its, rv, p⟩
  | false => obtain ⟨its, rv, p, _⟩ := I.list h; exact ⟨its, rv, p.isList⟩
theorem SqB.inj {t : Bool} {a : Addr} {xs ys : List V} (I : Inv X pins σ H s) (h : SqB X.K t H a xs) (k : SqB X.K t H a ys) : xs = ys := by
  cases t with
  | true => exact I.tuple_inj h k
  | false => exact I.list_inj h k
end
/-- the pairs of two rows, at each turn -/
def Itz2 (K : PySem.W.Frag) (t u : Bool) (a b : Addr) (n m : Nat) : It :=
  ⟨fun i H => ∃ (xs ys : List V) (x y : V), SqB K t H a xs ∧ SqB K u H b ys ∧ xs.length = n ∧ ys.length = m ∧ xs[i]? = some x ∧ ys[i]? = some y,
    fun i H v H' => ∃ (T : Addr) (x y : V), v = .ref T ∧ H T = none ∧ H' = upd H T (.tup [x, y]) ∧ (∀ xs, SqB K t H a xs → xs[i]? = some x) ∧ ∀ ys, SqB K u H b ys → ys[i]? = some y,
    fun i H => ∃ xs ys : List V, SqB K t H a xs ∧ SqB K u H b ys ∧ xs.length = n ∧ ys.length = m ∧ (n ≤ i ∨ m ≤ i)⟩
theorem turn_zip2 {P : Program} {w : World} {K : PySem.W.Frag} {elts : List Expr} {kk : Nat} {tpos : Pos} {t u : Bool} {a b z TI TO p q : Addr} {n m : Nat} (Z : ZipSep2 z TI TO p q [p, a] [q, b]) :
    Turn P w K (.Tuple elts kk tpos) (Itz2 K t u a b n m) [z, TI, TO, p, q] z (fun i h => IsZip h z TI TO .none ∧ IsTupOf2 h TI (.ref p) (.ref q) ∧ (∃ x y, IsTupOf2 h TO x y) ∧ ItB t h p a i ∧ ItB u h q b i ∧ i ≤ n ∧ i ≤ m) where
  mem := by simp
  obj := fun i h st c hc => by
    obtain ⟨hz, hTI, ⟨x, y, hTO⟩, h1, h2, _⟩ := st
    have hc : c = z ∨ c = TI ∨ c = TO ∨ c = p ∨ c = q := by simpa using hc
    rcases hc with rfl | rfl | rfl | rfl | rfl
    · exact ⟨_, hz, fun v e => nomatch e⟩
    · exact ⟨_, hTI, fun v e => nomatch e⟩
    · exact ⟨_, hTO, fun v e => nomatch e⟩
    · exact h1.here
    · exact h2.here
  keep := fun i h h' st k => by
    obtain ⟨hz, hTI, ⟨x, y, hTO⟩, h1, h2, l1, l2⟩ := st
    exact ⟨k z (by simp) _ hz, k TI (by simp) _ hTI, ⟨x, y, k TO (by simp) _ hTO⟩, h1.at fun o e => k p (by simp) o e, h2.at fun o e => k q (by simp) o e, l1, l2⟩
  item := by
    intro X eP ew eK hc i pins s σ H E I hf st hg
    subst eP ew eK
    obtain ⟨hz, hTI, ⟨x0, y0, hTO⟩, h1, h2, l1, l2⟩ := st
    obtain ⟨xs, ys, x, y, qx, qy, nx, ny, gx, gy⟩ := hg
    obtain ⟨us, rx, ox⟩ := qx.real I
    obtain ⟨vs, ry, oy⟩ := qy.real I
    obtain ⟨ux, hux, rux⟩ := rx.get gx
    obtain ⟨uy, huy, ruy⟩ := ry.get gy
    have lx := (List.getElem?_eq_some_iff.mp hux).1
    have ly := (List.getElem?_eq_some_iff.mp huy).1
    have hd : X.A.in1.handled = none := I.ok.hd hc
    have ap : a ≠ p := h1.apart ox
    have bq : b ≠ q := h2.apart oy
    refine wpAny_pyNext_zipD2_item Z (drawsB hd t p a ap us.toArray) (drawsB hd u q b bq vs.toArray) hz hTI hTO ⟨h1, ox⟩ ⟨h2, oy⟩ (by simpa using lx) (by simpa using ly) fun y1 y2 h' tk e1 e2 z' TO' n1 n2 hT hsz hk => ?_
    obtain rfl : y1 = ux := by
      have : us.toArray[i]? = some ux := by simpa using hux
      rw [this] at e1; exact (Option.some.inj e1).symm
    obtain rfl : y2 = uy := by
      have : vs.toArray[i]? = some uy := by simpa using huy
      rw [this] at e2; exact (Option.some.inj e2).symm
    have lz : z < s.heap.objs.size := Heap.lt_size hz
    refine ⟨_, rfl, wpAny_letOwnedTupleGo_zip (s := { s with heap := h', toks := tk }) z' fun h2' z2 sb => ?_⟩
    have hT2 : h2'.get? s.heap.objs.size = some { cls := .type "tuple", data := .seq #[y1, y2] } := (sb.2 _ (Nat.ne_of_gt lz)).trans hT
    have new : ObjOk X.prog X.w (upd H s.heap.objs.size (.tup [x, y])) h2' s.heap.objs.size (.tup [x, y]) := ⟨(by show 2 ≤ sizeLine; decide), [y1, y2], .cons rux (.cons ruy .nil), _, hT2, rfl, _, rfl⟩
    have I1 : Inv X pins σ (upd H s.heap.objs.size (.tup [x, y])) { s with heap := h2', toks := tk } :=
      I.turnedNew (t' := tk) (ch := [z, TI, TO, p, q]) (fun c o hb e => (sb.2 c (fun g => hb (by simp [g]))).trans (hk c o (fun g => hb (by simp [g])) (fun g => hb (by simp [g])) (fun g => hb (by simp [g])) (fun g => hb (by simp [g])) e)) hf (Nat.le_refl _) new
    refine ⟨.ref s.heap.objs.size, _, I1, rfl, ⟨_, x, y, rfl, I.hok.fresh (Nat.le_refl _), rfl, fun l hl => by rw [hl.inj I qx]; exact gx, fun l hl => by rw [hl.inj I qy]; exact gy⟩,
      ⟨z2, (sb.2 _ Z.TIz).trans (hk _ _ Z.TIz Z.TITO Z.TIi1 Z.TIi2 hTI), ⟨y1, y2, (sb.2 _ Z.TOz).trans TO'⟩, n1.1.at fun o e => (sb.2 _ Z.zi1.symm).trans e, n2.1.at fun o e => (sb.2 _ Z.zi2.symm).trans e, by have e := rx.length; have lx : i < us.length := lx; omega, by have e := ry.length; have ly : i < vs.length := ly; omega⟩, fun c hcm => ?_⟩
    have lc : c < s.heap.objs.size := by
      have hcm : c = z ∨ c = TI ∨ c = TO ∨ c = p ∨ c = q := by simpa using hcm
      rcases hcm with rfl | rfl | rfl | rfl | rfl
      · exact lz
      · exact Heap.lt_size hTI
      · exact Heap.lt_size hTO
      · obtain ⟨_, e, _⟩ := h1.here; exact Heap.lt_size e
      · obtain ⟨_, e, _⟩ := h2.here; exact Heap.lt_size e
    rw [upd_ne (Nat.ne_of_lt lc)]
    exact (hf c hcm).1
  done := by
    intro X eP ew eK hc i pins s σ H E I hf st hg
    subst eP ew eK
    obtain ⟨hz, hTI, ⟨x0, y0, hTO⟩, h1, h2, l1, l2⟩ := st
    obtain ⟨xs, ys, qx, qy, nx, ny, hend⟩ := hg
    obtain ⟨us, rx, ox⟩ := qx.real I
    obtain ⟨vs, ry, oy⟩ := qy.real I
    have hd : X.A.in1.handled = none := I.ok.hd hc
    have ap : a ≠ p := h1.apart ox
    have bq : b ≠ q := h2.apart oy
    have k1 := rx.length
    have k2 := ry.length
    exact wpAny_pyNext_zipD2_end Z (drawsB hd t p a ap us.toArray) (drawsB hd u q b bq vs.toArray) hz hTI hTO ⟨h1, ox⟩ ⟨h2, oy⟩ (by simp; omega) (by simp; omega) (by simp; omega) fun h' tk hk => ⟨rfl, I.turnedL (t' := tk) (ch := [z, TI, TO, p, q]) (fun c o hb e =>
      hk c o (fun g => hb (by simp [g])) (fun g => hb (by simp [g])) (fun g => hb (by simp [g])) (fun g => hb (by simp [g])) e) hf⟩
  self := fun A i s Q E st q => wpAny_pyIter_zip st.1 q
/-- .. in zip(e, e2) -/
def iZip2 (K : PySem.W.Frag) (ta : TA) : TI := fun σ H R => ta σ H fun vs H1 => ∃ (a b : Addr) (t u : Bool) (xs ys : List V), vs = [.ref a, .ref b] ∧ SqB K t H1 a xs ∧ SqB K u H1 b ys ∧ R (Itz2 K t u a b xs.length ys.length) H1
theorem pi_zip2 {X : Cx} {e e2 : Expr} {ta : TA} {p pos tpos : Pos} {elts : List Expr} {kk : Nat} (hg : Gl X "zip") (hm : X.mg "zip" = none) (ha : PA X [e, e2] ta)
    (hs : starEach [e, e2] X.env = (false, eval e X.env) :: starEach [e2] X.env) (hpl : (backTo pos (starEach [e2] X.env)).any (·.1) = false) :
    PI X (.Tuple elts kk tpos) (.Call (.Name "zip" p) [e, e2] [] pos) (iZip2 X.K ta) := by
  refine ⟨fun pins s σ H R I h => Call_ (ld_blt I hg hm PyProof.Rows.boot_zip (PyProof.Rows.callWith_type1 (thn (ha.run pos pins s σ H _ I h) fun us s1 ⟨vs, H1, I1, r1, q1⟩ => ?_) hs hpl))⟩
  obtain ⟨a, b, t, u, xs, ys, ex, qx, qy, q⟩ := q1
  subst ex
  cases r1 with
  | cons r rr =>
    cases rr with
    | cons r' rr =>
      cases rr
      cases r
      cases r'
      obtain ⟨us, rx, ox⟩ := qx.real I1
      obtain ⟨vs, ry, oy⟩ := qy.real I1
      have la := ox.lt
      have lb := oy.lt
      refine zip_begins2 (beginsB t a us.toArray) (beginsB u b vs.toArray) ox oy fun h' hz hTI hTO h1 h2 hsz hk => wpAny_pyIter_zip hz ?_
      have J : Inv X pins σ H1 { s1 with heap := h' } := I1.kept (t' := s1.toks) hk
      have Z := sep_of s1.heap.objs.size a b la lb
      refine ⟨s1.heap.objs.size + 4, [s1.heap.objs.size + 4, s1.heap.objs.size + 2, s1.heap.objs.size + 3, s1.heap.objs.size, s1.heap.objs.size + 1], _, _, H1, rfl, J, turn_zip2 Z, ⟨hz, hTI, ⟨_, _, hTO⟩, newB_it h1, newB_it h2, Nat.zero_le _, Nat.zero_le _⟩, fun c hc => ?_, q⟩
      have young : s1.heap.objs.size ≤ c := by
        have hc : c = s1.heap.objs.size + 4 ∨ c = s1.heap.objs.size + 2 ∨ c = s1.heap.objs.size + 3 ∨ c = s1.heap.objs.size ∨ c = s1.heap.objs.size + 1 := by simpa using hc
        rcases hc with e | e | e | e | e <;> rw [e] <;> first | exact Nat.le_refl _ | exact Nat.le_add_right _ _
      exact I1.fpOk young (I1.hok.fresh young)
end LL
namespace LL
open PySem PySem.Spec PyProof.Rows L2
/-! ## x[::-1] -/
theorem adjust_back (n : Nat) : Builtin.Slice.sliceAdjust none none (-1) (n : Int) = ((n : Int) - 1, -1) := by
  have neg : ((-1 : Int) < 0) := by omega
  unfold Builtin.Slice.sliceAdjust; simp only [neg, if_true]
theorem places_back (n : Nat) : Builtin.Slice.slicePlaces ((n : Int) - 1) (-1) (-1) = n := by
  unfold Builtin.Slice.slicePlaces; have nopos : ¬ ((-1 : Int) > 0) := by omega
  simp only [nopos, if_false, Int.neg_neg, Int.ediv_one]
  split <;> omega
theorem fm_congr {α β : Type} {f g : α → Option β} : ∀ {l : List α}, (∀ m ∈ l, f m = g m) → l.filterMap f = l.filterMap g
  | [], _ => rfl
  | x :: l, h => by rw [List.filterMap_cons, List.filterMap_cons, h x (by simp), fm_congr fun m hm => h m (by simp [hm])]
theorem pick_back (xs : List Value) : ((List.range xs.length).filterMap fun (m : Nat) => xs.toArray[(((xs.length : Int) - 1) + (m : Int) * (-1)).toNat]?) = xs.reverse := by
  have e : ∀ m ∈ List.range xs.length, (fun (m : Nat) => xs.toArray[(((xs.length : Int) - 1) + (m : Int) * (-1)).toNat]?) m = xs.reverse[m]? := fun m hm => by
    have hl := List.mem_range.mp hm
    have q : (((xs.length : Int) - 1) + (m : Int) * (-1)).toNat = xs.length - 1 - m := by omega
    show xs.toArray[(((xs.length : Int) - 1) + (m : Int) * (-1)).toNat]? = _
    rw [q, List.getElem?_reverse hl]
    simp
  rw [fm_congr e]
  have all : ∀ (ys : List Value), (List.range ys.length).filterMap (fun m => ys[m]?) = ys := fun ys => by
    induction ys with
    | nil => rfl
    | cons y ys ih =>
      rw [List.length_cons, List.range_succ_eq_map, List.filterMap_cons, List.filterMap_map]
      simp only [List.getElem?_cons_zero]; congr 1
  have := all xs.reverse
  rwa [List.length_reverse] at this
section
variable {w : World} {prog : Program} {A : Around} {E : Value → Shared → Prop} {s : Shared}
theorem applied_back {sl : Addr} {tok : Tok} {n : Nat} {Q : Int × Int × Nat → Shared → Prop} (hs : s.heap.IsSliceOf sl .none .none (.int (-1) tok)) (q : Q ((n : Int) - 1, -1, n) s) : wpAny (model prog w) A (Builtin.Slice.sliceApplied (.ref sl) (pure (n : Int))) Q E s := by
  obtain ⟨so, so1, so2, so3⟩ := id hs
  unfold Builtin.Slice.sliceApplied Builtin.Slice.sliceFields; refine wpAny_bind (wpAny_bind (wpAny_field so1 so3 (x := .none) rfl (wpAny_bind (wpAny_field so1 so3 (x := .none) rfl (wpAny_bind (wpAny_field so1 so3 (x := .int (-1) tok) rfl (wpAny_pure ?_)))))))
  refine wpAny_bind (HT.slicePart_ (o := some (-1)) (.int (-1) tok) ?_)
  show wpAny _ _ (if ((-1 : Int) == 0) = true then _ else _) _ _ s
  rw [if_neg (by decide)]
  refine wpAny_bind (HT.slicePart_ .none (wpAny_bind (HT.slicePart_ .none (wpAny_bind (wpAny_pure ?_)))))
  show wpAny _ _ (match Builtin.Slice.sliceAdjust none none (-1) (n : Int) with | (lo, hi) => pure (lo, (-1 : Int), Builtin.Slice.slicePlaces lo hi (-1))) _ _ s
  rw [adjust_back]
  show wpAny _ _ (pure ((n : Int) - 1, (-1 : Int), Builtin.Slice.slicePlaces ((n : Int) - 1) (-1) (-1))) _ _ s
  rw [places_back]
  exact wpAny_pure q
theorem getItem_tupleBack {t sl : Addr} {its : List Value} {tok : Tok} {Q : Value → Shared → Prop} (tp : IsTup s.heap t its.toArray) (hs : s.heap.IsSliceOf sl .none .none (.int (-1) tok)) (long : its.length ≤ sizeLine)
    (q : Q (.ref s.heap.objs.size) { s with heap := s.heap.push { cls := .type "tuple", data := .seq its.reverse.toArray } }) : wpAny (model prog w) A (getItem (.ref t) (.ref sl)) Q E s := by
  have fit : sizeOk (.seq its.reverse.toArray) := by
    show its.reverse.toArray.size ≤ sizeLine
    rw [List.size_toArray, List.length_reverse]
    exact long
  obtain ⟨so, so1, so2, so3⟩ := id hs
  have tps : s.TypeIs (.ref sl) "slice" := ⟨so, so1, so2⟩
  unfold getItem
  (try with_reducible refine wpAny_holding ?_); (first | refine wpAny_bind (wpAny_pure ?_) | skip)
  refine wpAny_bind (wpAny_sequenceKey tp.typeIs (by decide) ?_)
  refine wpAny_bind (wpAny_callSpecial?_slot (name := Str.ofString "__getitem__") tp.typeIs PyProof.Rows.slot_tuple_getitem (wpAny_call_entry PyProof.Rows.slot_tuple_getitem tp.typeIs entry_tuple_getitem ?_ (args_tuple_getitem _ _)))
  show wpAny _ _ ((Builtin.Tuple.tupleItemsOf (.ref t)) >>= _) _ _ s
  refine wpAny_bind (tupleItemsOf_ tp (wpAny_bind (wpAny_typeOf tps ?_)))
  rw [if_pos (by decide)]
  refine wpAny_bind (applied_back (n := its.toArray.size) hs ?_)
  have no : ¬ ((((its.toArray.size : Int) - 1) == 0 && (-1 : Int) == 1 && its.toArray.size == its.toArray.size) = true) := by simp
  show wpAny _ _ (if (((its.toArray.size : Int) - 1) == 0 && (-1 : Int) == 1 && its.toArray.size == its.toArray.size) = true then _ else _) _ _ s
  rw [if_neg no]
  have pk : ((List.range its.toArray.size).filterMap fun (m : Nat) => its.toArray[((its.toArray.size : Int) - 1 + (m : Int) * (-1)).toNat]?) = its.reverse := by
    rw [List.size_toArray]
    exact pick_back its
  rw [pk]
  first
    | exact wpAny_bind (m := Builtin.Tuple.tupleExact _) (wpAny_newObj_type (wpAny_pure ⟨_, rfl, wpAny_pure q⟩) fit)
    | exact wpAny_bind (m := Builtin.Tuple.tupleExact _) (wpAny_newObj_type (wpAny_bind (wpAny_pure (wpAny_pure ⟨_, rfl, wpAny_pure q⟩))) fit)
    | exact wpAny_bind (wpAny_bind (m := Builtin.Tuple.tupleExact _) (wpAny_newObj_type (wpAny_pure (wpAny_pure ⟨_, rfl, wpAny_pure q⟩)) fit))
    | exact wpAny_bind (wpAny_bind (m := Builtin.Tuple.tupleExact _) (wpAny_newObj_type (wpAny_pure ⟨_, rfl, wpAny_pure q⟩) fit))
end
/-- x[::-1], x a list or a tuple -/
def tBack (K : PySem.W.Frag) (te : TE) : TE := fun σ H Q => te σ H fun x H1 => ∃ (a : Addr) (t : Bool) (xs : List V), x = .ref a ∧ SqB K t H1 a xs ∧ ∀ p, H1 p = none → Q (.ref p) (upd H1 p (if t = true then .tup xs.reverse else .lst xs.reverse))
theorem pe_back {X : Cx} {e : Expr} {te : TE} {k : Nat} {p1 p2 p3 pos : Pos} (he : PE X e te) : PE X (.Subscript e (.Slice none none (some (.UnaryOp .USub (.Constant (.int 1) k p1) p2)) p3) pos) (tBack X.K te) := by
  refine ⟨fun pins st σ H Q I h => Subscript_ (thn (he.run pins st σ H _ I h) ?_)⟩
  rintro v s1 ⟨x, H1, I1, r1, a, t, xs, rfl, hx, q⟩
  cases r1
  have part : PO X (some (.UnaryOp .USub (.Constant (.int 1) k p1) p2)) (tPart (tUn (rU fun i => .int (-i)) (tC (.int 1)))) := po_some (pe_un un_neg pe_int)
  refine wpAny_Slice (thn (po_none.run pins s1 σ H1 (fun o H2 => o = none ∧ H2 = H1) I1 ⟨rfl, rfl⟩) ?_)
  rintro v1 s2 ⟨_, _, I2, z1, rfl, rfl⟩
  refine thn (po_none.run pins s2 σ _ (fun o H3 => o = none ∧ H3 = _) I2 ⟨rfl, rfl⟩) ?_
  rintro v2 s3 ⟨_, _, I3, z2, rfl, rfl⟩
  refine thn (part.run pins s3 σ _ (fun o H4 => o = some (-1) ∧ H4 = _) I3 ⟨1, rfl, -1, rfl, rfl, rfl⟩) ?_
  rintro v3 s4 ⟨_, H4, I4, z3, rfl, eH⟩
  subst eH
  have I5 : Inv X pins σ H4 { s4 with heap := s4.heap.push { cls := .type "slice", data := .fields #[v1, v2, v3] } } := I4.kept (t' := s4.toks) fun b ob z => Heap.get?_push_of_some _ z
  show wpAny (model X.prog X.w) X.A (subscriptTail e (.Slice none none (some (.UnaryOp .USub (.Constant (.int 1) k p1) p2)) p3) (.ref a) (.ref s4.heap.objs.size)) (EP X pins σ Q) X.xe { s4 with heap := s4.heap.push { cls := .type "slice", data := .fields #[v1, v2, v3] } }
  cases t with
  | false =>
    obtain ⟨its, r, lp, long⟩ := I5.list hx
    have hlen := r.length
    refine tail_any (ops := [.ref a, .ref s4.heap.objs.size]) lp.isList.typeIs (PySem.slot_list_getitem.lookup) ?_ (by with_unfolding_all rfl)
    refine wpAny_getItem_list_slice lp.isList (Heap.IsSliceOf.new _ v1 v2 v3) z1 z2 z3 (by decide) ?_ (by rw [List.size_toArray]; omega)
    rw [PySem.W.krv_pick]
    refine ⟨.ref _, _, I5.laid (t' := s4.toks) (o := .lst xs.reverse) (fun b ob z => Heap.get?_push_of_some _ z) (Nat.le_refl _) ⟨?_, _, 0, r.reverse, Heap.get?_push_size _ rfl⟩, rfl, q _ (I5.hok.fresh (Nat.le_refl _))⟩
    rw [List.length_reverse]; exact long
  | true =>
    obtain ⟨its, r, tp, long⟩ := I5.tuple hx
    have hlen := r.length
    cases z1
    cases z2
    cases z3 with
    | int i tok =>
      refine tail_any (ops := [.ref a, .ref s4.heap.objs.size]) tp.typeIs (PyProof.Rows.slot_tuple_getitem.lookup) ?_ (by with_unfolding_all rfl)
      refine getItem_tupleBack tp (Heap.IsSliceOf.new _ .none .none _) (by rw [← hlen]; exact long) ?_
      refine ⟨.ref _, _, I5.laid (t' := s4.toks) (o := .tup xs.reverse) (fun b ob z => Heap.get?_push_of_some _ z) (Nat.le_refl _) ⟨?_, _, r.reverse, IsTup.new _ _⟩, rfl, q _ (I5.hok.fresh (Nat.le_refl _))⟩
      rw [List.length_reverse]; exact long
end LL
namespace LL
open PySem PySem.Spec PyProof.Rows L2
/-! ## a dict that is locked while it is walked -/
/-- tuples stay -/
def KT (H H' : Hp) : Prop := ∀ (a : Addr) (o : HO), H a = some o → ((∃ xs, o = .tup xs) ∨ ∃ fs, o = .xd fs) → H' a = some o
section
variable {K : PySem.W.Frag} {CM : Str → Option Addr} {ρ : List Addr} {H H' : Hp}
theorem KT.sqU {ds : List D} {a : Addr} {xs : List V} (k : KT H H') (h : SqU K H ds a xs) : SqU K H' ds a xs := h.imp (fun h => k _ _ h (.inl ⟨_, rfl⟩)) id
mutual
theorem RV.monoT (k : KT H H') : ∀ {d : D} {v : V}, RV K CM ρ H d v → RV K CM ρ H' d v
  | _, _, .non => .non
  | _, _, .bl b => .bl b
  | _, _, .int i => .int i
  | _, _, .str s => .str s
  | _, _, .tup h r => .tup (k.sqU h) (RVs.monoT k r)
  | _, _, .ref h => .ref h
  | _, _, .ty n => .ty n
  | _, _, .cl h => .cl h
theorem RVs.monoT (k : KT H H') : ∀ {ds : List D} {vs : List V}, RVs K CM ρ H ds vs → RVs K CM ρ H' ds vs
  | _, _, .nil => .nil
  | _, _, .cons h t => .cons (RV.monoT k h) (RVs.monoT k t)
end
theorem RKs.monoT {κ : Type} (k : KT H H') : ∀ {kvs : List (κ × D)} {ws : List (κ × V)}, RKs K CM ρ H kvs ws → RKs K CM ρ H' kvs ws
  | _, _, .nil => .nil
  | _, _, .cons h t => .cons (h.monoT k) (RKs.monoT k t)
theorem RO.monoT (k : KT H H') {d : Option D} {v : Option V} (h : RO K CM ρ H d v) : RO K CM ρ H' d v := by
  cases h with
  | no v => exact .no v
  | so h => exact .so (h.monoT k)
theorem RE.monoT (k : KT H H') : ∀ {e : En} {σ : L2.St}, RE K CM ρ H e σ → RE K CM ρ H' e σ
  | _, _, .nil => .nil
  | _, _, .cons h t => .cons (h.monoT k) (RE.monoT k t)
theorem RC.monoT (k : KT H H') {co : CO} {a : Addr} (h : RC K CM ρ H co a) (e : H' a = H a) : RC K CM ρ H' co a := by
  cases h with
  | lst h r => exact .lst (e.trans h) (r.monoT k)
  | fz h r => exact .fz (e.trans h) (r.monoT k)
  | dk h r => exact .dk (e.trans h) (r.monoT k)
  | dt h r => exact .dt (e.trans h) (r.monoT k)
  | fk h r => exact .fk (e.trans h) (r.monoT k)
  | xc hc h hd r => exact .xc hc (e.trans h) (k _ _ hd (.inr ⟨_, rfl⟩)) (r.monoT k)
  | ins hc h hl r => exact .ins hc (e.trans h) hl (r.monoT k)
/-- unlocked -/
theorem KT.free {p : Addr} {o : Obj} {u v : HO} (h : H p = some (.frz o u)) : KT H (upd H p v) := fun a xs e q => by
  by_cases z : a = p
  · subst z
    rw [h] at e
    cases e
    rcases q with ⟨_, q⟩ | ⟨_, q⟩ <;> cases q
  · rw [upd_ne z]; exact e
theorem RH.free_ {ch : CH} {n : Nat} {p : Addr} {o : Obj} {ws : List (L2.Key × V)} {ks : List (L2.Key × D)} (h : RH K CM ρ ch H) (hp : ρ[n]? = some p) (hH : H p = some (.frz o (.dK ws))) (hk : ch.get n = some (.fk ks)) :
    RH K CM ρ (ch.put n (.dk ks)) (upd H p (.dK ws)) := by
  have hl : n < ch.sz := CH.lt hk
  have kt : KT H (upd H p (.dK ws)) := KT.free hH
  refine ⟨by rw [CH.sz_put]; exact h.len, h.nd, fun m a h2 => ?_⟩
  by_cases hm : m = n
  · subst hm
    rw [hp] at h2
    cases h2
    refine ⟨.dk ks, by rw [CH.get_put _ _ _ _ hl, if_pos rfl], ?_⟩
    cases h.ob _ _ _ hk hp with
    | fk h1 r =>
      rw [hH] at h1
      cases h1
      exact .dk upd_same (r.monoT kt)
  · have hne : a ≠ p := fun e => by
      subst e
      exact hm ((List.getElem?_inj (List.getElem?_eq_some_iff.mp h2).1 h.nd).mp (h2.trans hp.symm))
    obtain ⟨c, e1, r⟩ := h.at_ m a h2
    exact ⟨c, by rw [CH.get_put _ _ _ _ hl, if_neg hm]; exact e1, r.monoT kt (upd_ne hne)⟩
/-- what never changes stays, behind a lock -/
theorem Keep.lock {p : Addr} {o : Obj} {ws : List (L2.Key × V)} (h : H p = some (.dK ws)) (k : Keep (upd H p (.frz o (.dK ws))) H') : Keep H (upd H' p (.dK ws)) := fun a u e i => by
  by_cases z : a = p
  · subst z; rw [h] at e; cases e; exact i.elim
  · rw [upd_ne z]
    exact k a u (by rw [upd_ne z]; exact e) i
theorem Keep.locked {p : Addr} {o : Obj} {ws : List (L2.Key × V)} (k : Keep (upd H p (.frz o (.dK ws))) H') : H' p = some (.frz o (.dK ws)) := k p _ upd_same trivial
end
section
variable {CM : Str → Option Addr} {X : Cx} {W : WX}
theorem lckE_ok {e : Expr} {i : Nat} {m : En → CH → Rs D} (h : PE X e (tI X.K CM W m)) : PE X e (tI X.K CM W (lckE i m)) := by
  refine ⟨fun pins st σ H Q I ⟨ρ, env, ch, re, rh, p⟩ => ?_⟩
  have no : lckE i m env ch = m env ch → wpAny (model X.prog X.w) X.A (eval e X.env) (EP X pins σ Q) X.xe st := fun z => h.run pins st σ H Q I ⟨ρ, env, ch, re, rh, by rw [← z]; exact p⟩
  unfold lckE at p no
  split at p
  · rename_i n he
    split at p
    · rename_i kvs hg
      obtain ⟨v, _, rv⟩ := re.get he
      cases rv with
      | @ref _ a hr =>
        cases rh.ob _ _ _ hg hr with
        | @dk _ ws _ hH rr =>
          refine (pe_lock h).run pins st σ H Q I ⟨a, .dK ws, hH, trivial, fun od => ?_⟩
          have kp : Keep H (upd H a (.frz od (.dK ws))) := Keep.mut hH (fun z => z)
          refine ⟨ρ, env, ch.put n (.fk kvs), re.mono (Mo.refl _) kp, rh.mut hr hH (fun z => z) (.fk upd_same (rr.mono (Mo.refl _) kp)), ?_⟩
          cases q : m env (ch.put n (.fk kvs)) with
          | bad => rw [q] at p; exact p.elim
          | exc c fs c2 => rw [q] at p; exact p.elim
          | ok d c =>
            rw [q] at p
            dsimp only at p
            split at p
            · rename_i ks hg2
              exact fun ρ' H' b mo k rh' rb => ⟨k.locked, p ρ' _ b mo (Keep.lock hH k) (rh'.free_ (mo _ _ hr) k.locked hg2) (rb.monoT (KT.free k.locked))⟩
            · exact p.elim
    · rename_i z
      refine no ?_
      rw [he]
      dsimp only
      split
      · rename_i w; exact absurd w (z _)
      · rfl
  · rename_i z
    refine no ?_
    split
    · rename_i w; exact absurd w (z _)
    · rfl
theorem lckS_ok {e : Stmt} {i : Nat} {m : En → CH → RsS} (h : PS X e (tS X.K CM W m)) : PS X e (tS X.K CM W (lckS i m)) := by
  refine ⟨fun pins st σ H Dn I ⟨ρ, env, ch, re, rh, p⟩ => ?_⟩
  have no : lckS i m env ch = m env ch → tS X.K CM W m Dn σ H := fun z => ⟨ρ, env, ch, re, rh, by rw [← z]; exact p⟩
  unfold lckS at p no
  split at p
  · rename_i n he
    split at p
    · rename_i kvs hg
      obtain ⟨v, _, rv⟩ := re.get he
      cases rv with
      | @ref _ a hr =>
        cases rh.ob _ _ _ hg hr with
        | @dk _ ws _ hH rr =>
          refine (ps_lock h).run pins st σ H Dn I ⟨a, .dK ws, hH, trivial, fun od => ?_⟩
          have kp : Keep H (upd H a (.frz od (.dK ws))) := Keep.mut hH (fun z => z)
          refine ⟨ρ, env, ch.put n (.fk kvs), re.mono (Mo.refl _) kp, rh.mut hr hH (fun z => z) (.fk upd_same (rr.mono (Mo.refl _) kp)), ?_⟩
          cases q : m env (ch.put n (.fk kvs)) with
          | bad => rw [q] at p; exact p.elim
          | exc _ c fs c2 => rw [q] at p; exact p.elim
          | ok env' f c =>
            rw [q] at p
            dsimp only at p
            split at p
            · rename_i ks hg2
              intro ρ' σ' H' mo k re' rh'
              have z := p ρ' σ' _ mo (Keep.lock hH k) (re'.monoT (KT.free k.locked)) (rh'.free_ (mo _ _ hr) k.locked hg2)
              cases f with
              | nx => exact ⟨k.locked, z⟩
              | br => exact ⟨k.locked, z⟩
              | ct => exact ⟨k.locked, z⟩
              | rt d => exact fun v rv => ⟨k.locked, z v (rv.monoT (KT.free k.locked))⟩
            · exact p.elim
    · rename_i z
      refine h.run pins st σ H Dn I (no ?_)
      rw [he]
      dsimp only
      split
      · rename_i w; exact absurd w (z _)
      · rfl
  · rename_i z
    refine h.run pins st σ H Dn I (no ?_)
    split
    · rename_i w; exact absurd w (z _)
    · rfl
theorem lkdE_ok {e : Expr} {o : Option Nat} {m : En → CH → Rs D} (h : PE X e (tI X.K CM W m)) : PE X e (tI X.K CM W (lkdE o m)) := by
  cases o with
  | none => exact h
  | some i => exact lckE_ok h
theorem lkdS_ok {e : Stmt} {o : Option Nat} {m : En → CH → RsS} (h : PS X e (tS X.K CM W m)) : PS X e (tS X.K CM W (lkdS o m)) := by
  cases o with
  | none => exact h
  | some i => exact lckS_ok h
end
end LL
namespace LL
open PySem PySem.Spec PyProof.Rows L2
section
variable {T : Tab} {CM : Str → Option Addr} {R : Rc} {n : Nat} {X : Cx} {s : Sk} {W : WX}
theorem hdb_of {x y : Str} (h : (x == y) = false) : (x == y) = false := h
theorem evs_ok (S : Sound T CM R n) (C : Ck T CM X s n W) : ∀ es, IA X CM W es (evs R s es)
  | [] => PA.of pa_nil fun σ H Q ⟨ρ, env, ch, re, rh, h⟩ => h.ok rh .nil
  | e :: es => by
    cases hs : isStar e with
    | true => exact PA.no fun σ H Q ⟨ρ, env, ch, re, rh, h⟩ => by unfold evs at h; rw [hs] at h; exact h
    | false =>
      have st : starEach (e :: es) X.env = (false, eval e X.env) :: starEach es X.env := by
        cases e <;> first | rfl | (exact absurd hs (by simp [isStar]))
      refine PA.of (pa_cons (S.sE X s W C e) (evs_ok S C es) st) fun σ H Q ⟨ρ, env, ch, re, rh, h⟩ => ?_
      unfold evs at h
      rw [hs] at h
      refine ⟨ρ, env, ch, re, rh, Post.bind h fun x ch1 ρ1 H1 y m1 k1 hh1 r1 p1 => ?_⟩
      refine ⟨ρ1, env, ch1, re.mono m1 k1, hh1, Post.bind p1 fun xs ch2 ρ2 H2 ys m2 k2 hh2 r2 p2 => ?_⟩
      exact p2.ok hh2 (.cons (r1.mono m2 k2) r2)
theorem evVar_ok (C : Ck T CM X s n W) {x : Str} {pos : Pos} (hv : Vis X.env.scope x) (h1 : (x == ("__debug__" : Str)) = false) (h2 : (x == ("__classdict__" : Str)) = false) : IE X CM W (.Name x pos) (evVar s x) := by
  cases hi : ixOf x s.N with
  | none => exact PE.no fun σ H Q ⟨ρ, env, ch, re, rh, h⟩ => by unfold evVar at h; rw [hi] at h; exact h
  | some i =>
    refine PE.of (ie_var (CM := CM) (W := W) (by rw [C.N]; exact ixOf_get hi) hv h1 h2) fun σ H Q ⟨ρ, env, ch, re, rh, h⟩ => ?_
    unfold evVar at h
    rw [hi] at h
    exact ⟨ρ, env, ch, re, rh, h⟩
theorem evGlo_ok (C : Ck T CM X s n W) {x : Str} {pos : Pos} (hg : Gl X x) (h1 : (x == ("__debug__" : Str)) = false) (h3 : x ≠ "__name__") : IE X CM W (.Name x pos) (fun _ ch => evGlo T x ch) := by
  cases hc : T.cons.lookup x with
  | some d =>
    obtain ⟨v, u, hm, rv, rd, _⟩ := C.tab.con x d hc
    refine PE.of (pe_glob hg hm rv h1) fun σ H Q ⟨ρ, env, ch, re, rh, h⟩ => ?_
    unfold evGlo at h
    rw [hc] at h
    exact h.ok rh (rd ρ H)
  | none =>
    by_cases hn : x ∈ T.names
    · exact PE.no fun σ H Q ⟨ρ, env, ch, re, rh, h⟩ => by unfold evGlo at h; rw [hc] at h; simp only [if_pos hn] at h; exact h
    · cases hb : bootBuiltins x with
      | none => exact PE.no fun σ H Q ⟨ρ, env, ch, re, rh, h⟩ => by unfold evGlo at h; rw [hc] at h; simp only [if_neg hn, hb] at h; exact h
      | some u =>
        cases u with
        | type t =>
          refine PE.of (pe_bltn (v := .ty t) hg (C.tab.no x hn) hb rfl h3 h1) fun σ H Q ⟨ρ, env, ch, re, rh, h⟩ => ?_
          unfold evGlo at h
          rw [hc] at h
          simp only [if_neg hn, hb] at h
          exact h.ok rh (.ty t)
        | _ => exact PE.no fun σ H Q ⟨ρ, env, ch, re, rh, h⟩ => by unfold evGlo at h; rw [hc] at h; simp only [if_neg hn, hb] at h; exact h
theorem evName_ok (C : Ck T CM X s n W) (x : Str) (pos : Pos) : IE X CM W (.Name x pos) (evName T s x) := by
  have hk : X.env.kindOf x = s.sc.names.lookup x := by rw [← C.sc]; rfl
  by_cases hx : (x == ("__debug__" : Str)) = false ∧ (x == ("__classdict__" : Str)) = false ∧ x ≠ "__name__"
  · cases hl : s.sc.names.lookup x with
    | none => exact PE.no fun σ H Q ⟨ρ, env, ch, re, rh, h⟩ => by unfold evName at h; rw [if_pos hx, hl] at h; exact h
    | some k =>
      have hv : ∀ k', k = k' → X.env.scope.names.lookup x = some k' := fun k' e => by rw [C.sc, hl, e]
      have var : Vis X.env.scope x → (∀ env ch, evName T s x env ch = evVar s x env ch) → IE X CM W (.Name x pos) (evName T s x) := fun hv e =>
        PE.of (evVar_ok C hv hx.1 hx.2.1) fun σ H Q ⟨ρ, env, ch, re, rh, h⟩ => ⟨ρ, env, ch, re, rh, e env ch ▸ h⟩
      cases k with
      | «local» => exact var (.inl (hv _ rfl)) fun env ch => by unfold evName; rw [if_pos hx, hl]
      | cell => exact var (.inr (.inl (hv _ rfl))) fun env ch => by unfold evName; rw [if_pos hx, hl]
      | free => exact var (.inr (.inr (hv _ rfl))) fun env ch => by unfold evName; rw [if_pos hx, hl]
      | globalExplicit => exact PE.no fun σ H Q ⟨ρ, env, ch, re, rh, h⟩ => by unfold evName at h; rw [if_pos hx, hl] at h; exact h
      | globalImplicit =>
        refine PE.of (evGlo_ok C (show X.env.kindOf x = _ by rw [hk, hl]) hx.1 hx.2.2) fun σ H Q ⟨ρ, env, ch, re, rh, h⟩ => ?_
        unfold evName at h
        rw [if_pos hx, hl] at h
        exact ⟨ρ, env, ch, re, rh, h⟩
  · exact PE.no fun σ H Q ⟨ρ, env, ch, re, rh, h⟩ => by unfold evName at h; rw [if_neg hx] at h; exact h
theorem evAll_ok (S : Sound T CM R n) (C : Ck T CM X s n W) (op : BoolOp) : ∀ (es : List Expr) (pins : List (Addr × Obj)) (st : Shared) (σ : L2.St) (H : Hp) (Q : Bool → Hp → Prop), Inv X pins σ H st → tIb X.K CM W (evAll R s op es) σ H Q →
    wpAny (model X.prog X.w) X.A (allTrue op es X.env) (TP X pins σ Q) X.xe st
  | [], pins, st, σ, H, Q, I, ⟨ρ, env, ch, re, rh, h⟩ => wpAny_pure (a := op == .And) ⟨H, I, h.ok rh rfl⟩
  | e :: es, pins, st, σ, H, Q, I, ⟨ρ, env, ch, re, rh, h⟩ => by
    show wpAny _ _ (do
      match op, ← isTrue e X.env (eval e X.env) with
      | .And, false => pure false
      | .Or, true => pure true
      | _, _ => allTrue op es X.env) _ _ _
    unfold evAll at h
    refine wpAny_bind (thn ((S.sT X s W C e).af I re rh h) fun b s1 ⟨H1, I1, ρ1, b', ch1, m1, k1, hh1, e1, p1⟩ => ?_)
    subst e1
    cases op <;> cases b' <;> first
      | exact wpAny_pure ⟨H1, I1, p1.ok hh1 rfl⟩
      | exact evAll_ok S C _ es pins s1 σ H1 Q I1 ⟨ρ1, env, ch1, re.mono m1 k1, hh1, p1⟩
theorem evBool_ok (S : Sound T CM R n) (C : Ck T CM X s n W) (op : BoolOp) (pos : Pos) : ∀ es, IE X CM W (.BoolOp op es pos) (evBool R s op es)
  | [] => PE.no fun σ H Q ⟨ρ, env, ch, re, rh, h⟩ => h
  | [e] => PE.of (pe_one (S.sE X s W C e)) fun σ H Q h => h
  | e :: e2 :: es => by
    refine ⟨fun pins st σ H Q I ⟨ρ, env, ch, re, rh, h⟩ => ?_⟩
    unfold evBool at h
    have ih := evBool_ok S C op pos (e2 :: es)
    cases op with
    | And =>
      refine BoolOp_and (thn ((S.sE X s W C e).af I re rh h) fun v s1 ⟨x, H1, I1, r1, ρ1, d, ch1, m1, k1, hh1, rv1, p1⟩ => ?_)
      refine tr_run I1 hh1 rv1 r1 p1 fun b s2 I2 p2 => ?_
      cases b with
      | false => exact ⟨x, H1, I2, r1, p2.ok hh1 rv1⟩
      | true => exact ih.run pins s2 σ H1 Q I2 ⟨ρ1, env, ch1, re.mono m1 k1, hh1, p2⟩
    | Or =>
      refine BoolOp_or (thn ((S.sE X s W C e).af I re rh h) fun v s1 ⟨x, H1, I1, r1, ρ1, d, ch1, m1, k1, hh1, rv1, p1⟩ => ?_)
      refine tr_run I1 hh1 rv1 r1 p1 fun b s2 I2 p2 => ?_
      cases b with
      | true => exact ⟨x, H1, I2, r1, p2.ok hh1 rv1⟩
      | false => exact ih.run pins s2 σ H1 Q I2 ⟨ρ1, env, ch1, re.mono m1 k1, hh1, p2⟩
end
end LL
namespace LL
open PySem PySem.Spec PyProof.Rows L2
/-- an iterator yields these items as long as the list that it walks stays -/
def Wk (K : PySem.W.Frag) (CM : Str → Option Addr) : Rel Itm It := fun ρ0 H0 it J => ∀ (i : Nat) (ρ : List Addr) (ch : CH) (H : Hp), Mo ρ0 ρ → Keep H0 H → RH K CM ρ ch H → okW it ch = true →
  (∀ d, it.ds[i]? = some d → J.go i H ∧ ∀ x H', J.yld i H x H' → Keep H H' ∧ RH K CM ρ ch H' ∧ RV K CM ρ H' d x) ∧ (it.ds.length ≤ i → J.stop i H)
def tIt (K : PySem.W.Frag) (CM : Str → Option Addr) (W : WX) (m : En → CH → Rs Itm) : TI := fun σ H R => ∃ ρ env ch, RE K CM ρ H env σ ∧ RH K CM ρ ch H ∧ Post K CM (Wk K CM) (fun c d H => W c d σ H) ρ H R (m env ch)
theorem PI.of {X : Cx} {tg e : Expr} {t t' : TI} (h : PI X tg e t) (i : ∀ σ H R, t' σ H R → t σ H R) : PI X tg e t' := ⟨fun pins s σ H R I hh => h.run pins s σ H R I (i σ H R hh)⟩
theorem PI.no {X : Cx} {tg e : Expr} {t : TI} (i : ∀ σ H R, t σ H R → False) : PI X tg e t := ⟨fun pins s σ H R I hh => (i σ H R hh).elim⟩
section
variable {T : Tab} {CM : Str → Option Addr} {R : Rc} {n : Nat} {X : Cx} {s : Sk} {W : WX}
theorem stars_of {env : Env} : ∀ {es : List Expr}, es.any isStar = false → ∀ pos : Pos, (backTo pos (starEach es env)).any (·.1) = false
  | [], _, _ => rfl
  | e :: es, h, pos => by
    obtain ⟨h1, h2⟩ := Bool.or_eq_false_iff.mp (List.any_cons ▸ h)
    have ih := stars_of (env := env) h2 pos
    have st : starEach (e :: es) env = (false, eval e env) :: starEach es env := by
      cases e <;> first | rfl | (exact absurd h1 (by simp [isStar]))
    rw [st]
    show (false || (backTo pos (starEach es env)).any (·.1)) = false
    rw [ih]; rfl
theorem star_of {env : Env} {e : Expr} {es : List Expr} (h1 : isStar e = false) : starEach (e :: es) env = (false, eval e env) :: starEach es env := by
  cases e <;> first | rfl | (exact absurd h1 (by simp [isStar]))
theorem wk_tup {K : PySem.W.Frag} {ρ : List Addr} {H : Hp} {ds : List D} {xs : List V} {a : Addr} (hq : SqT K H a xs) (r : RVs K CM ρ H ds xs) : Wk K CM ρ H ⟨ds, none⟩ (Itt K a) := fun i ρ1 ch H1 m k rh _ =>
  ⟨fun d e => by
    obtain ⟨v, hv, rv⟩ := r.get e
    exact ⟨⟨xs, v, k.sqT hq, hv⟩, fun x H' ⟨e1, y⟩ => by
      subst e1
      have z := y xs (k.sqT hq)
      rw [hv] at z; cases z
      exact ⟨Keep.refl _, rh, rv.mono m k⟩⟩, fun hl => ⟨xs, k.sqT hq, by rw [← r.length]; exact hl⟩⟩
theorem wk_lst {ρ : List Addr} {H : Hp} {ds : List D} {w : Nat} {a : Addr} (ha : ρ[w]? = some a) : Wk X.K CM ρ H ⟨ds, some w⟩ (Itl X.K a) := fun i ρ1 ch H1 m k rh ok => by
  have ha1 := m _ _ ha
  have key : ∃ xs, SqL X.K H1 a xs ∧ RVs X.K CM ρ1 H1 ds xs := by
    simp only [okW] at ok
    split at ok
    · rename_i es e
      rw [sames_eq _ _ ok] at e
      cases rh.ob _ _ _ e ha1 with
      | lst h1 r => exact ⟨_, SqL.of h1, r⟩
    · rename_i es e
      rw [sames_eq _ _ ok] at e
      cases rh.ob _ _ _ e ha1 with
      | fz h1 r => exact ⟨_, .inl (.inr ⟨_, h1⟩), r⟩
    · cases ok
  obtain ⟨xs, hq, r⟩ := key
  refine ⟨fun d e => ?_, fun hl => ⟨xs, hq, by rw [← r.length]; exact hl⟩⟩
  obtain ⟨v, hv, rv⟩ := r.get e
  refine ⟨⟨xs, v, hq, hv⟩, fun x H' ⟨e1, y⟩ => ?_⟩
  subst e1
  have z := y xs hq
  rw [hv] at z; cases z
  exact ⟨Keep.refl _, rh, rv⟩
theorem enumD_get : ∀ {es : List D} {k i : Nat} {d : D}, (enumD k es)[i]? = some d → ∃ x, es[i]? = some x ∧ d = .tup [.int ((k + i : Nat) : Int), x]
  | [], k, i, d, h => by cases h
  | e :: es, k, 0, d, h => by
    have h : some (D.tup [.int (k : Nat), e]) = some d := h
    cases h
    exact ⟨e, rfl, by rw [Nat.add_zero]⟩
  | e :: es, k, i + 1, d, h => by
    have h : (enumD (k + 1) es)[i]? = some d := h
    obtain ⟨x, a, b⟩ := enumD_get h
    exact ⟨x, a, by rw [b]; congr 3; omega⟩
theorem enumD_len : ∀ {es : List D} {k : Nat}, (enumD k es).length = es.length
  | [], _ => rfl
  | _ :: es, k => congrArg Nat.succ (enumD_len (es := es) (k := k + 1))
theorem wk_enum {ρ : List Addr} {H : Hp} {ds : List D} {w : Nat} {a : Addr} (ha : ρ[w]? = some a) : Wk X.K CM ρ H ⟨ds, some (.e w)⟩ (Ite X.K a) := fun i ρ1 ch H1 m k rh ok => by
  have ha1 := m _ _ ha
  have key : ∃ es xs, enumD 0 es = ds ∧ SqL X.K H1 a xs ∧ RVs X.K CM ρ1 H1 es xs := by
    simp only [okW] at ok
    split at ok
    · rename_i es e
      cases rh.ob _ _ _ e ha1 with
      | lst h1 r => exact ⟨_, _, sames_eq _ _ ok, SqL.of h1, r⟩
    · rename_i es e
      cases rh.ob _ _ _ e ha1 with
      | fz h1 r => exact ⟨_, _, sames_eq _ _ ok, .inl (.inr ⟨_, h1⟩), r⟩
    · cases ok
  obtain ⟨es, xs, rfl, hq, r⟩ := key
  refine ⟨fun d e => ?_, fun hl => ⟨xs, hq, by rw [← r.length, ← enumD_len (k := 0)]; exact hl⟩⟩
  obtain ⟨x0, g, rfl⟩ := enumD_get e
  obtain ⟨v, hv, rv⟩ := r.get g
  refine ⟨⟨xs, v, hq, hv⟩, fun x H' ⟨Tt, y0, e1, hp, e2, y⟩ => ?_⟩
  subst e1 e2
  have z := y xs hq
  rw [hv] at z; cases z
  refine ⟨Keep.new hp, rh.laid hp, .tup (.inl upd_same) (.cons (by rw [Nat.zero_add]; exact .int _) (.cons (rv.mono (Mo.refl _) (Keep.new hp)) .nil))⟩
theorem wk_enumT {K : PySem.W.Frag} {ρ : List Addr} {H : Hp} {es : List D} {xs : List V} {a : Addr} (hq : SqT K H a xs) (r : RVs K CM ρ H es xs) : Wk K CM ρ H ⟨enumD 0 es, none⟩ (Ett K a xs.length) := fun i ρ1 ch H1 m k rh _ => by
  refine ⟨fun d e => ?_, fun hl => ⟨xs, k.sqT hq, rfl, by rw [← r.length, ← enumD_len (k := 0)]; exact hl⟩⟩
  obtain ⟨x0, g, rfl⟩ := enumD_get e
  obtain ⟨v, hv, rv⟩ := r.get g
  refine ⟨⟨xs, v, k.sqT hq, rfl, hv⟩, fun x H' ⟨Tt, y0, e1, hp, e2, y⟩ => ?_⟩
  subst e1 e2
  have z := y xs (k.sqT hq)
  rw [hv] at z; cases z
  exact ⟨Keep.new hp, rh.laid hp, .tup (.inl upd_same) (.cons (by rw [Nat.zero_add]; exact .int _) (.cons (rv.mono m (k.trans (Keep.new hp))) .nil))⟩
theorem wk_rng {K : PySem.W.Frag} {ρ : List Addr} {H : Hp} {lo : Int} {m : Nat} : Wk K CM ρ H ⟨(List.range m).map fun k => .int (lo + (k : Nat)), none⟩ (Itr lo m) := fun i ρ1 ch H1 mo k rh _ =>
  ⟨fun d e => by
    rw [List.getElem?_map] at e
    cases q : (List.range m)[i]? with
    | none => rw [q] at e; cases e
    | some j =>
      rw [q] at e; cases e
      have hj := List.getElem?_eq_some_iff.mp q
      obtain ⟨hlt, he⟩ := hj
      simp at hlt he
      subst he
      exact ⟨hlt, fun x H' ⟨e1, y⟩ => by subst e1; subst y; exact ⟨Keep.refl _, rh, .int _⟩⟩, fun hl => by show m ≤ i; simpa using hl⟩
theorem zipD_get : ∀ {xs ys : List D} {i : Nat} {d : D}, (zipD xs ys)[i]? = some d → ∃ x y, xs[i]? = some x ∧ ys[i]? = some y ∧ d = .tup [x, y]
  | [], _, i, d, h => by simp [zipD] at h
  | _ :: _, [], i, d, h => by simp [zipD] at h
  | x :: xs, y :: ys, 0, d, h => by
    have h : some (D.tup [x, y]) = some d := h
    cases h
    exact ⟨x, y, rfl, rfl, rfl⟩
  | x :: xs, y :: ys, i + 1, d, h => zipD_get (xs := xs) (ys := ys) (i := i) h
theorem zipD_len : ∀ {xs ys : List D}, (zipD xs ys).length = min xs.length ys.length
  | [], _ => by simp [zipD]
  | _ :: _, [] => by simp [zipD]
  | x :: xs, y :: ys => by
    show (zipD xs ys).length + 1 = min (xs.length + 1) (ys.length + 1)
    rw [zipD_len]; omega
/-- a row of zip, as it stands -/
theorem seqW_now {K : PySem.W.Frag} {ρ0 ρ : List Addr} {ch0 ch : CH} {H0 H : Hp} {d : D} {v : V} {a : Option Nat} {ds : List D} (rh0 : RH K CM ρ0 ch0 H0) (r : RV K CM ρ0 H0 d v) (h : seqW d ch0 = some (a, ds)) :
    ∃ (x : Addr) (t : Bool) (xs : List V), v = .ref x ∧ SqB K t H0 x xs ∧ xs.length = ds.length ∧ ∀ (ρ : List Addr) (ch : CH) (H : Hp), Mo ρ0 ρ → Keep H0 H → RH K CM ρ ch H → keepW a ds ch = true → ∃ ys, SqB K t H x ys ∧ RVs K CM ρ H ds ys := by
  unfold seqW at h
  split at h
  · cases h
    cases r with
    | @tup _ x xs hq rr => exact ⟨x, true, xs, rfl, hq.sq, rr.length.symm, fun ρ ch H m k rh _ => ⟨xs, k.sqT hq.sq, rr.mono m k⟩⟩
  · rename_i n
    cases r with
    | @ref _ x hr =>
      have go : ∀ {xs : List V}, SqL K H0 x xs → xs.length = ds.length → a = some n → ∃ (x' : Addr) (t : Bool) (xs : List V), V.ref x = .ref x' ∧ SqB K t H0 x' xs ∧ xs.length = ds.length ∧ ∀ (ρ : List Addr) (ch : CH) (H : Hp), Mo ρ0 ρ → Keep H0 H → RH K CM ρ ch H → keepW a ds ch = true → ∃ ys, SqB K t H x' ys ∧ RVs K CM ρ H ds ys := fun {xs} hq hl ha => by
        subst ha
        refine ⟨x, false, xs, rfl, hq, hl, fun ρ ch H m k rh ok => ?_⟩
        have hx := m _ _ hr
        simp only [keepW] at ok
        split at ok
        · rename_i es e
          rw [sames_eq _ _ ok] at e
          cases rh.ob _ _ _ e hx with
          | lst h1 r => exact ⟨_, SqL.of h1, r⟩
        · rename_i es e
          rw [sames_eq _ _ ok] at e
          cases rh.ob _ _ _ e hx with
          | fz h1 r => exact ⟨_, .inl (.inr ⟨_, h1⟩), r⟩
        · cases ok
      split at h
      · rename_i es e
        cases h
        cases rh0.ob _ _ _ e hr with
        | lst h1 rr => exact go (SqL.of h1) rr.length.symm rfl
      · rename_i es e
        cases h
        cases rh0.ob _ _ _ e hr with
        | fz h1 rr => exact go (.inl (.inr ⟨_, h1⟩)) rr.length.symm rfl
      · cases h
  · cases h
theorem wk_zip {K : PySem.W.Frag} {ρ0 : List Addr} {H0 : Hp} {xs ys : List D} {a b : Option Nat} {x y : Addr} {t u : Bool} {n m : Nat} (ln : n = xs.length) (lm : m = ys.length)
    (hx : ∀ (ρ : List Addr) (ch : CH) (H : Hp), Mo ρ0 ρ → Keep H0 H → RH K CM ρ ch H → keepW a xs ch = true → ∃ vs, SqB K t H x vs ∧ RVs K CM ρ H xs vs)
    (hy : ∀ (ρ : List Addr) (ch : CH) (H : Hp), Mo ρ0 ρ → Keep H0 H → RH K CM ρ ch H → keepW b ys ch = true → ∃ vs, SqB K u H y vs ∧ RVs K CM ρ H ys vs) :
    Wk K CM ρ0 H0 ⟨zipD xs ys, some (.z a b xs ys)⟩ (Itz2 K t u x y n m) := fun i ρ1 ch H1 mo k rh ok => by
  obtain ⟨ok1, ok2⟩ := Bool.and_eq_true_iff.mp (show (keepW a xs ch && keepW b ys ch) = true from ok)
  obtain ⟨vs, q1, r1⟩ := hx _ _ _ mo k rh ok1
  obtain ⟨ws, q2, r2⟩ := hy _ _ _ mo k rh ok2
  have l1 := r1.length
  have l2 := r2.length
  refine ⟨fun d e => ?_, fun hl => ⟨vs, ws, q1, q2, by omega, by omega, by
    have hl : (zipD xs ys).length ≤ i := hl
    rw [zipD_len] at hl; omega⟩⟩
  obtain ⟨p, q, g1, g2, rfl⟩ := zipD_get e
  obtain ⟨v, hv, rv⟩ := r1.get g1
  obtain ⟨z, hz, rz⟩ := r2.get g2
  refine ⟨⟨vs, ws, v, z, q1, q2, by omega, by omega, hv, hz⟩, fun o H' ⟨Tt, v', z', e1, hp, e2, y1, y2⟩ => ?_⟩
  subst e1 e2
  have c1 := y1 vs q1
  have c2 := y2 ws q2
  rw [hv] at c1; cases c1
  rw [hz] at c2; cases c2
  exact ⟨Keep.new hp, rh.laid hp, .tup (.inl upd_same) (.cons (rv.mono (Mo.refl _) (Keep.new hp)) (.cons (rz.mono (Mo.refl _) (Keep.new hp)) .nil))⟩
theorem kD_ok {K : PySem.W.Frag} {ρ : List Addr} {H : Hp} (k : L2.Key) : RV K CM ρ H (kD k) (L2.kV k) := by
  cases k with
  | inl i => exact .int i
  | inr x => exact .str x
theorem RKs.at_ {κ : Type} {K : PySem.W.Frag} {ρ : List Addr} {H : Hp} : ∀ {kvs : List (κ × D)} {ws : List (κ × V)} {i : Nat} {k : κ} {d : D}, RKs K CM ρ H kvs ws → kvs[i]? = some (k, d) → ∃ v, ws[i]? = some (k, v)
  | _, _, _, _, _, .nil, e => by simp at e
  | _, _, 0, _, _, .cons h t, e => by
    simp at e
    obtain ⟨rfl, rfl⟩ := e
    exact ⟨_, rfl⟩
  | _, _, i + 1, _, _, .cons h t, e => by
    obtain ⟨v, h1⟩ := RKs.at_ (i := i) t (by simpa using e)
    exact ⟨v, by simpa using h1⟩
/-- the keys of a locked dict -/
theorem wk_keys {K : PySem.W.Frag} {ρ : List Addr} {H : Hp} {kvs : List (L2.Key × D)} {ws : List (L2.Key × V)} {o : Obj} {a : Addr} (h : H a = some (.frz o (.dK ws))) (r : RKs K CM ρ H kvs ws) : Wk K CM ρ H ⟨kvs.map fun kv => kD kv.1, none⟩ (Itk a o ws) := fun i ρ1 ch H1 mo k rh _ => by
  have h1 := k a _ h trivial
  refine ⟨fun d e => ?_, fun hl => ⟨h1, by rw [← r.length]; simpa using hl⟩⟩
  have e : (kvs.map fun kv => kD kv.1)[i]? = some d := e
  rw [List.getElem?_map] at e
  cases q : kvs[i]? with
  | none => rw [q] at e; cases e
  | some kv =>
    rw [q] at e
    have e : kD kv.1 = d := Option.some.inj e
    subst e
    obtain ⟨v, hv⟩ := r.at_ (k := kv.1) (d := kv.2) q
    refine ⟨⟨h1, (List.getElem?_eq_some_iff.mp hv).1⟩, fun x H' ⟨e1, k', v', e2, e3⟩ => ?_⟩
    subst e1 e3
    rw [hv] at e2
    cases e2
    exact ⟨Keep.refl _, rh, kD_ok _⟩
/-- the walk of a value -/
theorem piD_ok (S : Sound T CM R n) (C : Ck T CM X s n W) (tg e : Expr) : PI X tg e (tIt X.K CM W fun env ch => (R.E s e env ch).bind walkD) := by
  refine ⟨fun pins st σ H Rq I ⟨ρ, env, ch, re, rh, h⟩ => ?_⟩
  refine thn ((S.sE X s W C e).af I re rh h) fun v s1 ⟨x, H1, I1, r1, ρ1, d, ch1, m1, k1, hh1, rv1, p1⟩ => ?_
  cases rv1 with
  | tup hq rr =>
    cases r1
    obtain ⟨its, rv, p, hz⟩ := I1.tuple hq.sq
    refine wpAny_pyIter_tuple (show s1.heap.IsTuple _ its.toArray from p) ?_
    refine ⟨s1.heap.objs.size, [s1.heap.objs.size], _, _, H1, rfl, I1.kept (t' := s1.toks) fun b o e => Heap.get?_push_of_some _ e, turn_tuple _ _, ⟨_, Heap.get?_push_size _ rfl, rfl, rfl⟩, fun b hb => ?_, p1.ok hh1 (wk_tup hq.sq rr)⟩
    have e : b = s1.heap.objs.size := by simpa using hb
    subst e
    exact I1.fpOk (Nat.le_refl _) (I1.hok.fresh (Nat.le_refl _))
  | @ref k a hr =>
    cases r1
    have go : ∀ {xs : List V} {ds : List D}, SqL X.K H1 a xs → Post X.K CM (Wk X.K CM) (fun c d H => W c d σ H) ρ1 H1 Rq (.ok ⟨ds, some k⟩ ch1) → wpAny (model X.prog X.w) X.A (pyIter (.ref a)) (PIE X pins σ tg Rq) X.xe s1 := fun {xs ds} hq p2 => by
      obtain ⟨its, rv, p, hz⟩ := I1.list hq
      refine wpAny_pyIter_list p.isList ?_
      refine ⟨s1.heap.objs.size, [s1.heap.objs.size], _, _, H1, rfl, I1.kept (t' := s1.toks) fun b o e => Heap.get?_push_of_some _ e, turn_list _ _, ⟨_, Heap.get?_push_size _ rfl, rfl, rfl⟩, fun b hb => ?_, p2.ok hh1 (wk_lst hr)⟩
      have e : b = s1.heap.objs.size := by simpa using hb
      subst e
      exact I1.fpOk (Nat.le_refl _) (I1.hok.fresh (Nat.le_refl _))
    have p1' : Post X.K CM (Wk X.K CM) (fun c d H => W c d σ H) ρ1 H1 Rq (walkD (.ref k) ch1) := p1
    simp only [walkD] at p1'
    split at p1'
    · rename_i ds e
      cases hh1.ob _ _ _ e hr with
      | lst h1 rr => exact go (SqL.of h1) p1'
    · rename_i ds e
      cases hh1.ob _ _ _ e hr with
      | fz h1 rr => exact go (.inl (.inr ⟨_, h1⟩)) p1'
    · rename_i kvs e
      cases hh1.ob _ _ _ e hr with
      | @fk _ ws o _ h1 rr =>
        obtain ⟨hs, hgd, hx, es, ep, vs, hdt, hsz, kv, hm⟩ := I1.frzK h1
        refine iter_keys hs hgd hx hdt (pi_one (tk := s1.toks) I1 _ (turn_keys _ hdt) ⟨_, Heap.get?_push_size _ rfl, rfl, ?_⟩ (p1'.ok hh1 (wk_keys h1 rr)))
        rw [hsz] <;> rfl
    · exact p1'.elim
  | _ => exact p1.elim
theorem isBt_ok (C : Ck T CM X s n W) {x : Str} (h : isBt T s x = true) : Gl X x ∧ X.mg x = none := by
  simp only [isBt, Bool.and_eq_true, decide_eq_true_eq, Bool.not_eq_true', List.contains_iff_mem, Option.isNone_iff_eq_none] at h
  refine ⟨?_, C.tab.no x ?_⟩
  · show X.env.kindOf x = _
    rw [← h.1.1, ← C.sc]; rfl
  · intro hm
    have := h.1.2
    rw [List.contains_eq_mem, decide_eq_false_iff_not] at this
    exact this hm
theorem foldS {e : Expr} (env : Env) (h : ∀ elts k p, e ≠ .Set elts k p) (x : Value) : foldedSetIterable e env x = pure x := by
  cases e <;> first | rfl | (exact absurd rfl (h _ _ _))
theorem evIt_ok (S : Sound T CM R n) (C : Ck T CM X s n W) {tu : Bool} (tg e : Expr) (htu : tu = true → isTup tg = true) : PI X tg e (tIt X.K CM W (evIt T R s tu e)) := by
  have gen : (∀ env ch, evIt T R s tu e env ch = (R.E s e env ch).bind walkD) → PI X tg e (tIt X.K CM W (evIt T R s tu e)) := fun he =>
    PI.of (piD_ok S C tg e) fun σ H Q ⟨ρ, env, ch, re, rh, h⟩ => ⟨ρ, env, ch, re, rh, by rw [he] at h; exact h⟩
  cases e with
  | Set _ _ _ => exact PI.no fun σ H Q ⟨ρ, env, ch, re, rh, h⟩ => h
  | Call f args kws pos =>
    cases f with
    | Name f p =>
      match args, kws with
      | [a], [] =>
        by_cases hf : f = "range"
        · subst hf
          cases hb : isBt T s "range" with
          | false => exact PI.no fun σ H Q ⟨ρ, env, ch, re, rh, h⟩ => by simp only [evIt, if_true, hb, Bool.false_eq_true, if_false] at h; exact h
          | true =>
            obtain ⟨hg, hm⟩ := isBt_ok C hb
            cases hs : isStar a with
            | true => exact PI.no fun σ H Q ⟨ρ, env, ch, re, rh, h⟩ => by simp only [evIt, if_true, hb, hs] at h; exact h
            | false =>
              refine PI.of (pi_range1 hg hm (pa_cons (S.sE X s W C a) pa_nil (star_of hs)) (star_of hs)) fun σ H Q ⟨ρ, env, ch, re, rh, h⟩ => ?_
              simp only [evIt, if_true, hb, hs, Bool.false_eq_true, if_false] at h
              refine ⟨ρ, env, ch, re, rh, h.bind fun d c ρ1 H1 y m1 k1 hh1 r1 p1 => ?_⟩
              cases r1 with
              | int j =>
                dsimp only [rng] at p1
                split at p1
                · rename_i hr
                  exact ⟨j, rfl, (inRg_ok hr.2).1, (inRg_ok hr.2).2, p1.ok hh1 (by rw [Int.sub_zero]; exact wk_rng)⟩
                · exact p1.elim
              | _ => exact p1.elim
        · by_cases hf2 : f = "enumerate"
          · subst hf2
            cases hb : (isBt T s "enumerate" && tu && !isStar a) with
            | false => exact PI.no fun σ H Q ⟨ρ, env, ch, re, rh, h⟩ => by simp only [evIt, if_neg hf, if_true, hb, Bool.false_eq_true, if_false] at h; exact h
            | true =>
              obtain ⟨hb1, hs⟩ := Bool.and_eq_true_iff.mp hb
              obtain ⟨hb1, ht⟩ := Bool.and_eq_true_iff.mp hb1
              have hs : isStar a = false := by simpa using hs
              obtain ⟨hg, hm⟩ := isBt_ok C hb1
              obtain ⟨elts, kk, tpos, rfl⟩ : ∃ elts kk tpos, tg = .Tuple elts kk tpos := by
                have := htu ht
                cases tg <;> first | exact ⟨_, _, _, rfl⟩ | cases this
              refine PI.of (pi_enumB hg hm (pa_cons (S.sE X s W C a) pa_nil (star_of hs)) (star_of hs)) fun σ H Q ⟨ρ, env, ch, re, rh, h⟩ => ?_
              simp only [evIt, if_neg hf, if_true, hb] at h
              refine ⟨ρ, env, ch, re, rh, h.bind fun d c ρ1 H1 y m1 k1 hh1 r1 p1 => ?_⟩
              cases r1 with
              | @ref k a0 hr =>
                simp only [enumW] at p1
                split at p1
                · rename_i ds e
                  cases hh1.ob _ _ _ e hr with
                  | lst h1 rr => exact ⟨a0, rfl, .inl ⟨_, SqL.of h1, p1.ok hh1 (wk_enum hr)⟩⟩
                · rename_i ds e
                  cases hh1.ob _ _ _ e hr with
                  | fz h1 rr => exact ⟨a0, rfl, .inl ⟨_, .inl (.inr ⟨_, h1⟩), p1.ok hh1 (wk_enum hr)⟩⟩
                · exact p1.elim
              | @tup ds a0 xs hq rr => exact ⟨a0, rfl, .inr ⟨xs, hq.sq, p1.ok hh1 (wk_enumT hq.sq rr)⟩⟩
              | _ => exact p1.elim
          · exact gen fun env ch => by simp only [evIt, if_neg hf, if_neg hf2]
      | [a, b], [] =>
        by_cases hf : f = "range"
        · subst hf
          cases hb : isBt T s "range" with
          | false => exact PI.no fun σ H Q ⟨ρ, env, ch, re, rh, h⟩ => by simp only [evIt, if_true, hb, Bool.false_eq_true, if_false] at h; exact h
          | true =>
            obtain ⟨hg, hm⟩ := isBt_ok C hb
            cases hs : (isStar a || isStar b) with
            | true => exact PI.no fun σ H Q ⟨ρ, env, ch, re, rh, h⟩ => by simp only [evIt, if_true, hb, hs] at h; exact h
            | false =>
              obtain ⟨h1, h2⟩ := Bool.or_eq_false_iff.mp hs
              refine PI.of (pi_range2 hg hm (evs_ok S C [a, b]) (by rw [star_of h1, star_of h2]; rfl) (by rw [star_of h2]; rfl)) fun σ H Q ⟨ρ, env, ch, re, rh, h⟩ => ?_
              simp only [evIt, if_true, hb, hs, Bool.false_eq_true, if_false] at h
              refine ⟨ρ, env, ch, re, rh, h.bind fun d c ρ1 H1 y m1 k1 hh1 r1 p1 => ?_⟩
              split at p1
              · rename_i i j
                cases r1 with
                | cons ra rb =>
                  cases rb with
                  | cons rb rc =>
                    cases ra; cases rb; cases rc
                    simp only [rng] at p1
                    split at p1
                    · rename_i hr
                      exact ⟨i, j, rfl, ⟨(inRg_ok hr.1).1, (inRg_ok hr.1).2, (inRg_ok hr.2).1, (inRg_ok hr.2).2⟩, p1.ok hh1 wk_rng⟩
                    · exact p1.elim
              · exact p1.elim
        · by_cases hf2 : f = "zip"
          · subst hf2
            cases hb : (isBt T s "zip" && tu && !isStar a && !isStar b) with
            | false => exact PI.no fun σ H Q ⟨ρ, env, ch, re, rh, h⟩ => by simp only [evIt, if_neg hf, if_true, hb, Bool.false_eq_true, if_false] at h; exact h
            | true =>
              obtain ⟨hb1, h2⟩ := Bool.and_eq_true_iff.mp hb
              obtain ⟨hb1, h1⟩ := Bool.and_eq_true_iff.mp hb1
              obtain ⟨hb1, ht⟩ := Bool.and_eq_true_iff.mp hb1
              have h1 : isStar a = false := by simpa using h1
              have h2 : isStar b = false := by simpa using h2
              obtain ⟨hg, hm⟩ := isBt_ok C hb1
              obtain ⟨elts, kk, tpos, rfl⟩ : ∃ elts kk tpos, tg = .Tuple elts kk tpos := by
                have := htu ht
                cases tg <;> first | exact ⟨_, _, _, rfl⟩ | cases this
              refine PI.of (pi_zip2 hg hm (evs_ok S C [a, b]) (by rw [star_of h1, star_of h2]) (by rw [star_of h2]; rfl)) fun σ H Q ⟨ρ, env, ch, re, rh, h⟩ => ?_
              simp only [evIt, if_neg hf, if_true, hb] at h
              refine ⟨ρ, env, ch, re, rh, h.bind fun ds c ρ1 H1 y m1 k1 hh1 r1 p1 => ?_⟩
              unfold zipW at p1
              split at p1
              · rename_i dx dy
                cases r1 with
                | cons ra rb =>
                  cases rb with
                  | cons rb rc =>
                    cases rc
                    split at p1
                    · rename_i p q e1 e2
                      obtain ⟨pa, pds⟩ := p
                      obtain ⟨qa, qds⟩ := q
                      obtain ⟨x1, t1, xs1, rfl, s1, l1, w1⟩ := seqW_now (ρ := ρ1) (ch := c) (H := H1) hh1 ra e1
                      obtain ⟨x2, t2, xs2, rfl, s2, l2, w2⟩ := seqW_now (ρ := ρ1) (ch := c) (H := H1) hh1 rb e2
                      exact ⟨x1, x2, t1, t2, xs1, xs2, rfl, s1, s2, p1.ok hh1 (wk_zip l1 l2 w1 w2)⟩
                    · exact p1.elim
              · exact p1.elim
          · exact gen fun env ch => by simp only [evIt, if_neg hf, if_neg hf2]
      | [], _ => exact gen fun env ch => rfl
      | [_], _ :: _ => exact gen fun env ch => rfl
      | [_, _], _ :: _ => exact gen fun env ch => rfl
      | _ :: _ :: _ :: _, _ => exact gen fun env ch => rfl
    | _ => exact gen fun env ch => rfl
  | _ => exact gen fun env ch => rfl
end
end LL
namespace LL
open PySem PySem.Spec PyProof.Rows L2
section
variable {T : Tab} {CM : Str → Option Addr} {R : Rc} {n : Nat} {X : Cx} {s : Sk} {W : WX}
/-! ### subscripts -/
theorem RVs.atI {K : PySem.W.Frag} {ρ : List Addr} {H : Hp} {ds : List D} {vs : List V} {i : Int} {d : D} (r : RVs K CM ρ H ds vs) (h : L2.atI ds i = some d) : ∃ v, L2.atI vs i = some v ∧ RV K CM ρ H d v := by
  unfold L2.atI at h ⊢
  rw [r.length] at h
  cases q : ixN vs.length i with
  | none => rw [q] at h; cases h
  | some j =>
    rw [q] at h
    obtain ⟨v, hv, rv⟩ := r.get (i := j) (by simpa using h)
    exact ⟨v, by simpa using hv, rv⟩
theorem plainIx {b : Expr} (h : isSlice b = false) (o i : Value) : subscripted b false o i = operate [o, i] (getItem o i) := by
  cases b <;> first | rfl | (exact absurd h (by simp [isSlice]))
theorem ix_ok (a b : Expr) (hb : isSlice b = false) : OpS X CM W (fun o i => subscriptTail a b o i) ix := by
  intro pins st σ H ρ ch dx dy x y u v Q I ru rv rx ry hh h
  unfold ix at h
  split at h
  · split at h
    · rename_i d e
      cases rx with
      | tup hq rr =>
        cases ry
        obtain ⟨v, hv, r1⟩ := rr.atI e
        exact ix_tup a b pins st σ H _ _ _ _ Q I ru rv ⟨_, _, _, v, rfl, rfl, hq.sq, hv, h.ok hh r1⟩ (plainIx hb _ _)
    · exact h.elim
  · cases rx with
    | ref hr =>
      cases ry
      split at h
      · rename_i ds e
        split at h
        · rename_i d e2
          cases hh.ob _ _ _ e hr with
          | lst h1 rr =>
            obtain ⟨v, hv, r1⟩ := rr.atI e2
            exact ix_list a b pins st σ H _ _ _ _ Q I ru rv ⟨_, _, _, v, rfl, rfl, SqL.of h1, hv, h.ok hh r1⟩ (plainIx hb _ _)
        · exact h.elim
      · rename_i ds e
        split at h
        · rename_i d e2
          cases hh.ob _ _ _ e hr with
          | fz h1 rr =>
            obtain ⟨v, hv, r1⟩ := rr.atI e2
            exact ix_list a b pins st σ H _ _ _ _ Q I ru rv ⟨_, _, _, v, rfl, rfl, .inl (.inr ⟨_, h1⟩), hv, h.ok hh r1⟩ (plainIx hb _ _)
        · exact h.elim
      · exact h.elim
  · exact h.elim
theorem sub_ok (S : Sound T CM R n) (C : Ck T CM X s n W) (a b : Expr) (pos : Pos) (hb : isSlice b = false) : IE X CM W (.Subscript a b pos) fun env ch => (R.E s a env ch).bind fun x c => (R.E s b env c).bind fun y c => ix x y c :=
  ⟨fun pins st σ H Q I h => Subscript_ (two (ix_ok a b hb) (S.sE X s W C a) (S.sE X s W C b) I h)⟩
abbrev rO : Rel (Option Int) (Option Int) := fun _ _ a b => a = b
theorem evP_ok (S : Sound T CM R n) (C : Ck T CM X s n W) : ∀ o, PO X o fun σ H Q => ∃ ρ env ch, RE X.K CM ρ H env σ ∧ RH X.K CM ρ ch H ∧ Post X.K CM rO (fun c d H => W c d σ H) ρ H Q (evP R s o env ch)
  | none => ⟨fun pins st σ H Q I ⟨ρ, env, ch, re, rh, h⟩ => po_none.run pins st σ H Q I (h.ok rh rfl)⟩
  | some e => ⟨fun pins st σ H Q I ⟨ρ, env, ch, re, rh, h⟩ => (po_some (S.sE X s W C e)).run pins st σ H Q I ⟨ρ, env, ch, re, rh, Post.bind h fun d c ρ1 H1 v m1 k1 hh1 r1 p1 => by
      cases r1 with
      | int i => exact ⟨i, rfl, p1.ok hh1 rfl⟩
      | _ => exact p1.elim⟩⟩
theorem RVs.cut {K : PySem.W.Frag} {ρ : List Addr} {H : Hp} {ds : List D} {vs : List V} (r : RVs K CM ρ H ds vs) (lo hi : Option Int) : RVs K CM ρ H (cutD ds lo hi) (cutV vs lo hi) := by
  unfold cutD cutV
  rw [r.length]
  exact (r.drop _).take _
theorem lstOf_ok {K : PySem.W.Frag} {ρ : List Addr} {H : Hp} {ch : CH} {d : D} {v : V} {es : List D} (rh : RH K CM ρ ch H) (r : RV K CM ρ H d v) (h : lstOf ch d = some es) : ∃ a xs, v = .ref a ∧ SqL K H a xs ∧ RVs K CM ρ H es xs := by
  unfold lstOf at h
  split at h
  · cases r with
    | ref hr =>
      split at h
      · rename_i ds e
        cases h
        cases rh.ob _ _ _ e hr with
        | lst h1 rr => exact ⟨_, _, rfl, SqL.of h1, rr⟩
      · rename_i ds e
        cases h
        cases rh.ob _ _ _ e hr with
        | fz h1 rr => exact ⟨_, _, rfl, .inl (.inr ⟨_, h1⟩), rr⟩
      · cases h
  · cases h
theorem slice_ok (S : Sound T CM R n) (C : Ck T CM X s n W) (a : Expr) (lo hi : Option Expr) (p pos : Pos) :
    IE X CM W (.Subscript a (.Slice lo hi none p) pos) fun env ch => (R.E s a env ch).bind fun x c => (evP R s lo env c).bind fun l c => (evP R s hi env c).bind fun h c => sl x l h c := by
  refine PE.of (pe_slice (sl_list.or (sl_tup.or sl_str)) (S.sE X s W C a) (evP_ok S C lo) (evP_ok S C hi)) fun σ H Q ⟨ρ, env, ch, re, rh, h⟩ => ?_
  refine ⟨ρ, env, ch, re, rh, h.bind fun d c ρ1 H1 v m1 k1 hh1 r1 p1 => ?_⟩
  refine ⟨ρ1, env, c, re.mono m1 k1, hh1, p1.bind fun l c2 ρ2 H2 l' m2 k2 hh2 e2 p2 => ?_⟩
  subst e2
  refine ⟨ρ2, env, c2, (re.mono m1 k1).mono m2 k2, hh2, p2.bind fun u c3 ρ3 H3 u' m3 k3 hh3 e3 p3 => ?_⟩
  subst e3
  have r3 := (r1.mono m2 k2).mono m3 k3
  unfold sl at p3
  split at p3
  · split at p3
    · exact p3.elim
    · rename_i hn
      cases r3 with
      | tup hq rr => exact .inr (.inl ⟨_, _, rfl, hq.sq, by rw [← rr.length]; exact hn, fun p hp => p3.newT hh3 hp (rr.cut _ _)⟩)
  · split at p3
    · rename_i ds e
      obtain ⟨a, xs, rfl, hq, rr⟩ := lstOf_ok hh3 r3 e
      exact .inl ⟨a, xs, rfl, hq, fun p hp => p3.newL hh3 hp (rr.cut _ _)⟩
    · exact p3.elim
  · split at p3
    · rename_i hl
      cases r3
      exact .inr (.inr ⟨_, rfl, hl, p3.ok hh3 (.str _)⟩)
    · exact p3.elim
  · exact p3.elim
theorem RVs.rev {K : PySem.W.Frag} {ρ : List Addr} {H : Hp} : ∀ {ds : List D} {vs : List V}, RVs K CM ρ H ds vs → RVs K CM ρ H ds.reverse vs.reverse
  | _, _, .nil => .nil
  | _, _, .cons h t => by rw [List.reverse_cons, List.reverse_cons]; exact (RVs.rev t).append (.cons h .nil)
theorem isBack_ok {st : Expr} (h : isBack st = true) : ∃ k p1 p2, st = .UnaryOp .USub (.Constant (.int 1) k p1) p2 := by
  unfold isBack at h
  split at h
  · rename_i i k p1 p2
    obtain rfl : i = 1 := by simpa using h
    exact ⟨_, _, _, rfl⟩
  · cases h
theorem back_ok (S : Sound T CM R n) (C : Ck T CM X s n W) (a st : Expr) (p pos : Pos) (hb : isBack st = true) : IE X CM W (.Subscript a (.Slice none none (some st) p) pos) fun env ch => (R.E s a env ch).bind back := by
  obtain ⟨k, p1, p2, rfl⟩ := isBack_ok hb
  refine PE.of (pe_back (S.sE X s W C a)) fun σ H Q ⟨ρ, env, ch, re, rh, h⟩ => ?_
  refine ⟨ρ, env, ch, re, rh, h.bind fun d c ρ1 H1 v m1 k1 hh1 r1 p1 => ?_⟩
  unfold back at p1
  split at p1
  · cases r1 with
    | tup hq rr => exact ⟨_, true, _, rfl, hq.sq, fun q hq => p1.newT hh1 hq rr.rev⟩
  · split at p1
    · rename_i ds e
      obtain ⟨x, xs, rfl, hq, rr⟩ := lstOf_ok hh1 r1 e
      exact ⟨x, false, xs, rfl, hq, fun q hq => p1.newL hh1 hq rr.rev⟩
    · exact p1.elim
  · exact p1.elim
/-! ### calls of built-ins -/
def CallS (X : Cx) (CM : Str → Option Addr) (W : WX) (f : Value) (m : List D → CH → Rs D) : Prop :=
  ∀ (pins : List (Addr × Obj)) (s : Shared) (σ : L2.St) (H : Hp) (ρ : List Addr) (ch : CH) (ds : List D) (vs : List V) (us : List Value) (Q : VK), Inv X pins σ H s → Vals vs us → RVs X.K CM ρ H ds vs → RH X.K CM ρ ch H →
    Post X.K CM (rV X.K CM) (fun c d H => W c d σ H) ρ H Q (m ds ch) → wpAny (model X.prog X.w) X.A (call f us) (EP X pins σ Q) X.xe s
theorem intsOf_ok {K : PySem.W.Frag} {ρ : List Addr} {H : Hp} : ∀ {ds : List D} {vs : List V} {ns : List Int}, RVs K CM ρ H ds vs → intsOf ds = some ns → vs = ns.map V.int
  | [], _, _, r, h => by cases r; cases h; rfl
  | d :: ds, _, ns, r, h => by
    cases r with
    | cons h1 t =>
      cases h1 with
      | int i =>
        simp only [intsOf] at h
        cases q : intsOf ds with
        | none => rw [q] at h; cases h
        | some ms => rw [q] at h; cases h; rw [List.map_cons, ← intsOf_ok t q]
      | _ => cases h
theorem blsOf_ok {K : PySem.W.Frag} {ρ : List Addr} {H : Hp} : ∀ {ds : List D} {vs : List V} {ns : List Bool}, RVs K CM ρ H ds vs → blsOf ds = some ns → vs = ns.map V.bl
  | [], _, _, r, h => by cases r; cases h; rfl
  | d :: ds, _, ns, r, h => by
    cases r with
    | cons h1 t =>
      cases h1 with
      | bl i =>
        simp only [blsOf] at h
        cases q : blsOf ds with
        | none => rw [q] at h; cases h
        | some ms => rw [q] at h; cases h; rw [List.map_cons, ← blsOf_ok t q]
      | _ => cases h
theorem RVs.one {K : PySem.W.Frag} {ρ : List Addr} {H : Hp} {d : D} {vs : List V} (r : RVs K CM ρ H [d] vs) : ∃ v, vs = [v] ∧ RV K CM ρ H d v := by
  cases r with
  | cons h t => cases t; exact ⟨_, rfl, h⟩
theorem RVs.two {K : PySem.W.Frag} {ρ : List Addr} {H : Hp} {d e : D} {vs : List V} (r : RVs K CM ρ H [d, e] vs) : ∃ v w, vs = [v, w] ∧ RV K CM ρ H d v ∧ RV K CM ρ H e w := by
  cases r with
  | cons h t =>
    cases t with
    | cons h2 t => cases t; exact ⟨_, _, rfl, h, h2⟩
theorem lenD_ok {K : PySem.W.Frag} {ρ : List Addr} {H : Hp} {ch : CH} {d : D} {v : V} {k : Nat} (rh : RH K CM ρ ch H) (r : RV K CM ρ H d v) (h : lenD ch d = some k) : LenV K v H k ∨ ∃ p ws, v = .ref p ∧ H p = some (.dT ws) ∧ k = ws.length := by
  unfold lenD at h
  split at h
  · split at h
    · rename_i hl; cases h; cases r; exact .inl ⟨hl, rfl⟩
    · cases h
  · cases h
    cases r with
    | tup hq rr => exact .inl (.inr ⟨_, hq.sq, rr.length⟩)
  · cases r with
    | ref hr =>
      split at h
      · rename_i ds e
        cases h
        cases rh.ob _ _ _ e hr with
        | lst h1 rr => exact .inl (.inl ⟨_, SqL.of h1, rr.length⟩)
      · rename_i ds e
        cases h
        cases rh.ob _ _ _ e hr with
        | fz h1 rr => exact .inl (.inl ⟨_, .inl (.inr ⟨_, h1⟩), rr.length⟩)
      · rename_i kvs e
        cases h
        cases rh.ob _ _ _ e hr with
        | dt h1 rr => exact .inr ⟨_, _, rfl, h1, rr.length⟩
      · cases h
  · cases h
theorem tyName_ok {K : PySem.W.Frag} {ρ : List Addr} {H : Hp} {ch : CH} {d : D} {v : V} {t : String} (rh : RH K CM ρ ch H) (r : RV K CM ρ H d v) (h : tyName ch d = some t) : TyX K H v (.type t) := by
  cases r with
  | non => cases h; exact .base .non
  | bl b => cases h; exact .base (.bl b)
  | int i => cases h; exact .base (.int i)
  | str s => cases h; exact .base (.str s)
  | tup hq rr =>
    cases h
    rcases hq with h1 | ⟨_, o, its, k, e, c, _⟩
    · exact .base (.tup h1)
    · exact .kTuple e c
  | ref hr =>
    simp only [tyName] at h
    split at h
    · rename_i ds e
      cases h
      cases rh.ob _ _ _ e hr with
      | lst h1 rr => exact .base (.lst h1)
    · rename_i ds e
      cases h
      cases rh.ob _ _ _ e hr with
      | fz h1 rr => exact .base (.frz h1)
    · rename_i ds e
      cases h
      cases rh.ob _ _ _ e hr with
      | dk h1 rr => exact .base (.dK h1)
    · rename_i ds e
      cases h
      cases rh.ob _ _ _ e hr with
      | dt h1 rr => exact .base (.dT h1)
    · cases h
  | ty n => cases h
  | cl hc => cases h
theorem tysOf_ok {K : PySem.W.Frag} {ρ : List Addr} {H : Hp} : ∀ {ds : List D} {vs : List V} {ns : List String}, RVs K CM ρ H ds vs → tysOf ds = some ns → vs = ns.map V.ty
  | [], _, ys, r, h => by cases r; cases h; rfl
  | d :: ds, _, ys, r, h => by
    cases r with
    | cons r1 t =>
      cases r1 with
      | ty z =>
        simp only [tysOf] at h
        cases hq : tysOf ds with
        | none => rw [hq] at h; cases h
        | some zs =>
          rw [hq] at h
          cases h
          rw [tysOf_ok t hq]; rfl
      | _ => simp [tysOf] at h
theorem kits_ok {K : PySem.W.Frag} {t : String} : ∀ {ns : List String} {b : Bool}, kitsB t ns = some b → PySem.W.kitAny K (.type t) (ns.map Value.type) = some b
  | [], b, h => h
  | n :: r, b, h => by
    simp only [kitsB] at h
    simp only [List.map_cons, PySem.W.kitAny]
    split at h
    · rename_i e; rw [kit_ty e]; exact h
    · rename_i e; rw [kit_ty e]; exact kits_ok h
    · cases h
theorem clsV_tys : ∀ ns : List String, Paired ClsV (ns.map V.ty) (ns.map Value.type)
  | [] => .nil
  | n :: r => .cons (.ty n) (clsV_tys r)
theorem isiT_ok {pins : List (Addr × Obj)} {st : Shared} {σ : L2.St} {H : Hp} {x : V} {tp : Addr} {ns : List String} {us : List Value} {t : Value} {b : Bool} {Q : VK} {dss : List D} (I : Inv X pins σ H st) (rv : Vals [x, .ref tp] us) (hq : SqU X.K H dss tp (ns.map V.ty)) (ty : TyX X.K H x t) (e : PySem.W.kitAny X.K t (ns.map Value.type) = some b) (q : Q (.bl b) H) :
    wpAny (model X.prog X.w) X.A (call (.builtin "isinstance") us) (EP X pins σ Q) X.xe st := by
  rcases hq with h1 | ⟨_, o, its, k, hl, hc, hd, hz, hv⟩
  · exact call_isiT pins st σ H _ us Q I rv ⟨x, tp, _, t, _, b, rfl, h1, clsV_tys ns, ty, e, q⟩
  · obtain ⟨cls, dd, dt, sl⟩ := o
    simp only at hc hd
    subst hc hd
    have e3 := ClsV.all (clsV_tys ns) hv
    refine call_isiK pins st σ H _ us Q I rv ⟨x, tp, dd, ns.map Value.type, k, sl, t, b, rfl, ?_, ty, e, q⟩
    rw [← e3, Array.toArray_toList]; exact hl
theorem repr_obj {A' : Around} {E : Value → Shared → Prop} {pins : List (Addr × Obj)} {st : Shared} {σ : L2.St} {H : Hp} {ρ : List Addr} {a : Addr} {u : Value} {p : PyData} {Q : VK} (I : Inv X pins σ H st) (hv : RelV (V.ref a) u) (hd : Dp X.K H (V.ref a) p) (hgd : A'.guards = some []) (hun : A'.units + 66 < cLine)
    (hc : (PyData.showable p && (!PyData.hasDict p && (decide (PyData.depth p ≤ 60) && decide ((PyData.shown p).length ≤ sizeLine)))) = true) (q : ∀ w, RV X.K CM ρ H (.str (PyData.shown p)) w → Q w H) :
    wpAny (model X.prog X.w) A' (call (.builtin "repr") [u]) (EP X pins σ Q) E st := by
  obtain ⟨c1, hc⟩ := Bool.and_eq_true_iff.mp hc
  obtain ⟨c2, hc⟩ := Bool.and_eq_true_iff.mp hc
  obtain ⟨c3, c4⟩ := Bool.and_eq_true_iff.mp hc
  have c3 := of_decide_eq_true c3
  have c4 := of_decide_eq_true c4
  obtain ⟨as, rr⟩ := Dp.reads I p _ _ hd hv
  cases (show u = Value.ref a from hv)
  exact repr_of_reads' rr c1 (fun z => by rw [z] at c2; cases c2) hgd (by omega) (fun b o e => e) (fun h' t tk k => ⟨.str _, H, I.kept k, ⟨_, rfl⟩, q _ (.str _)⟩) c4
theorem repr_run {A' : Around} {E : Value → Shared → Prop} {pins : List (Addr × Obj)} {st : Shared} {σ : L2.St} {H : Hp} {ρ : List Addr} {d r : D} {v : V} {u : Value} {Q : VK} (I : Inv X pins σ H st) (hv : RelV v u) (rd : RV X.K CM ρ H d v) {ch : CH} (hh : RH X.K CM ρ ch H) (hgd : A'.guards = some []) (hun : A'.units + 66 < cLine) (e : reprD ch d = some r) (q : ∀ w, RV X.K CM ρ H r w → Q w H) :
    wpAny (model X.prog X.w) A' (call (.builtin "repr") [u]) (EP X pins σ Q) E st := by
  cases rd with
  | non =>
    cases (show u = Value.none from hv)
    cases e
    exact P.repr_of_none ⟨.str _, H, I.tok _, ⟨_, rfl⟩, q _ (.str _)⟩
  | bl b =>
    cases (show u = Value.bool b from hv)
    cases e
    exact P.repr_of_bool ⟨.str _, H, I.tok _, ⟨_, rfl⟩, q _ (.str _)⟩
  | int i =>
    obtain ⟨t, rfl⟩ := hv
    simp only [reprD] at e
    split at e
    · rename_i hi
      cases e
      exact P.repr_of_int hi ⟨.str _, H, I.tok _, ⟨_, rfl⟩, q _ (.str _)⟩
    · cases e
  | str x =>
    obtain ⟨t, rfl⟩ := hv
    simp only [reprD] at e
    split at e
    · rename_i hi
      cases e
      exact P.repr_of_str ⟨.str _, H, I.tok _, ⟨_, rfl⟩, q _ (.str _)⟩ hi
    · cases e
  | tup hq rr =>
    simp only [reprD] at e
    split at e
    · rename_i p ep
      split at e
      · rename_i hc
        cases e
        exact repr_obj I hv (toPy_ok hh _ _ _ _ (.tup hq rr) ep) hgd hun hc q
      · cases e
    · cases e
  | ref hr =>
    simp only [reprD] at e
    split at e
    · rename_i p ep
      split at e
      · rename_i hc
        cases e
        exact repr_obj I hv (toPy_ok hh _ _ _ _ (.ref hr) ep) hgd hun hc q
      · cases e
    · cases e
  | ty n => simp [reprD, toPy] at e
  | cl h => simp [reprD, toPy] at e
theorem bi_ok (hc : X.calm = true) (hgd : X.A.guards = some []) (hun : X.A.units + 66 < cLine) (id : String) : CallS X CM W (.builtin id) (bi id) := by
  intro pins st σ H ρ ch ds vs us Q I rv rs hh h
  unfold bi at h
  split at h
  · rename_i e; subst e
    split at h
    · obtain ⟨v, rfl, r⟩ := rs.one
      split at h
      · rename_i k e
        rcases lenD_ok hh r e with q | ⟨p, ws, e1, e2, e3⟩
        · exact call_len pins st σ H _ us Q I rv ⟨v, k, rfl, q, h.ok hh (.int _)⟩
        · exact call_len_dT pins st σ H _ us Q I rv ⟨p, ws, by rw [e1], e2, by rw [← e3]; exact h.ok hh (.int _)⟩
      · exact h.elim
    · exact h.elim
  split at h
  · rename_i e; subst e
    split at h
    · obtain ⟨v, rfl, r⟩ := rs.one
      cases r
      exact call_abs pins st σ H _ us Q I rv ⟨_, rfl, h.ok hh (.int _)⟩
    · exact h.elim
  split at h
  · rename_i e; subst e
    split at h
    · obtain ⟨v, w, rfl, r, r2⟩ := rs.two
      cases r; cases r2
      exact call_max2 hc pins st σ H _ us Q I rv ⟨_, _, rfl, h.ok hh (.int _)⟩
    · exact h.elim
  split at h
  · rename_i e; subst e
    split at h
    · obtain ⟨v, w, rfl, r, r2⟩ := rs.two
      cases r; cases r2
      exact call_min2 hc pins st σ H _ us Q I rv ⟨_, _, rfl, h.ok hh (.int _)⟩
    · exact h.elim
  split at h
  · rename_i e; subst e
    split at h
    · obtain ⟨v, w, rfl, r, r2⟩ := rs.two
      cases r2
      split at h
      · rename_i t e1
        split at h
        · rename_i b e2
          exact call_isi pins st σ H _ us Q I rv ⟨v, _, _, _, b, rfl, .ty _, tyName_ok hh r e1, kit_ty e2, h.ok hh (.bl _)⟩
        · exact h.elim
      · exact h.elim
    · obtain ⟨v, w, rfl, r, r2⟩ := rs.two
      cases r2 with
      | tup hq rr =>
        split at h
        · rename_i ns e1
          split at h
          · rename_i b e2
            obtain ⟨t, e3, e4⟩ := Option.bind_eq_some_iff.mp e2
            rw [tysOf_ok rr e1] at hq
            exact isiT_ok I rv hq (tyName_ok hh r e3) (kits_ok e4) (h.ok hh (.bl _))
          · exact h.elim
        · exact h.elim
    · exact h.elim
  split at h
  · rename_i e; subst e
    split at h
    · obtain ⟨v, rfl, r⟩ := rs.one
      split at h
      · rename_i ns e
        obtain ⟨es, e1, e2⟩ := Option.bind_eq_some_iff.mp e
        obtain ⟨a, xs, rfl, hq, rr⟩ := lstOf_ok hh r e1
        exact cr_sum hc pins st σ H _ us Q I rv ⟨a, ns, rfl, by rw [← intsOf_ok rr e2]; exact hq, h.ok hh (.int _)⟩
      · exact h.elim
    · exact h.elim
  split at h
  · rename_i e; subst e
    split at h
    · obtain ⟨v, rfl, r⟩ := rs.one
      split at h
      · rename_i ns e
        obtain ⟨es, e1, e2⟩ := Option.bind_eq_some_iff.mp e
        obtain ⟨a, xs, rfl, hq, rr⟩ := lstOf_ok hh r e1
        exact cr_any hc pins st σ H _ us Q I rv ⟨a, ns, rfl, by rw [← blsOf_ok rr e2]; exact hq, h.ok hh (.bl _)⟩
      · exact h.elim
    · exact h.elim
  split at h
  · rename_i e; subst e
    split at h
    · obtain ⟨v, rfl, r⟩ := rs.one
      split at h
      · rename_i ns e
        obtain ⟨es, e1, e2⟩ := Option.bind_eq_some_iff.mp e
        obtain ⟨a, xs, rfl, hq, rr⟩ := lstOf_ok hh r e1
        exact cr_all hc pins st σ H _ us Q I rv ⟨a, ns, rfl, by rw [← blsOf_ok rr e2]; exact hq, h.ok hh (.bl _)⟩
      · exact h.elim
    · exact h.elim
  split at h
  · rename_i e; subst e
    split at h
    · obtain ⟨v, rfl, r⟩ := rs.one
      split at h
      · rename_i r1 e
        cases rv with
        | cons hv hvs =>
          cases hvs
          exact repr_run I hv r hh hgd hun e fun w rw => h.ok hh rw
      · exact h.elim
    · exact h.elim
  exact h.elim
theorem keyD_ok' {K : PySem.W.Frag} {ρ : List Addr} {H : Hp} {d : D} {v : V} {k : L2.Key} (r : RV K CM ρ H d v) (h : keyD d = some k) : v = L2.kV k := by
  cases r <;> first
    | (simp only [keyD] at h; cases h; rfl)
    | (simp [keyD] at h)
theorem pairsOf_ok {K : PySem.W.Frag} {ρ : List Addr} {H : Hp} : ∀ {ds : List D} {xs : List V} {kvs : List (L2.Key × D)}, RVs K CM ρ H ds xs → pairsOf ds = some kvs →
    ∃ (ps : List Addr) (ws : List (L2.Key × V)), xs = ps.map V.ref ∧ Paired (fun p kv => SqT K H p [L2.kV kv.1, kv.2]) ps ws ∧ RKs K CM ρ H kvs ws
  | [], xs, kvs, r, e => by
    cases r
    cases e
    exact ⟨[], [], rfl, .nil, .nil⟩
  | d :: ds, xs, kvs, r, e => by
    unfold pairsOf at e
    split at e
    · rename_i z; cases z
    · rename_i kd vd ds' z
      cases z
      split at e
      · rename_i k l h1 h2
        cases e
        cases r with
        | cons r0 rt =>
          cases r0 with
          | tup hq rr =>
            cases rr with
            | cons ra rr =>
              cases rr with
              | cons rb rr =>
                cases rr
                obtain ⟨ps, ws, rfl, hp, hk⟩ := pairsOf_ok rt h2
                have := keyD_ok' ra h1
                subst this
                exact ⟨_ :: ps, (k, _) :: ws, rfl, .cons hq.sq hp, .cons rb hk⟩
      · cases e
    · cases e
theorem keys_ok {K : PySem.W.Frag} {ρ : List Addr} {H : Hp} : ∀ {kvs : List (L2.Key × D)} {ws : List (L2.Key × V)}, RKs K CM ρ H kvs ws → RVs K CM ρ H (kvs.map fun kv => kD kv.1) (ws.map fun kv => L2.kV kv.1)
  | _, _, .nil => .nil
  | _, _, .cons _ t => .cons (kD_ok _) (keys_ok t)
theorem bty_ok (hcalm : X.calm = true) (t : String) : CallS X CM W (.type t) (bty t) := by
  intro pins st σ H ρ ch ds vs us Q I rv rs hh h
  unfold bty at h
  split at h
  · rename_i e; subst e
    split at h
    · obtain ⟨v, rfl, r⟩ := rs.one; cases r; exact call_int1 pins st σ H _ us Q I rv (.inl ⟨_, rfl, h.ok hh (.int _)⟩)
    · obtain ⟨v, rfl, r⟩ := rs.one; cases r; exact call_int1 pins st σ H _ us Q I rv (.inr ⟨_, rfl, h.ok hh (.int _)⟩)
    · exact h.elim
  split at h
  · rename_i e; subst e
    split at h
    · obtain ⟨v, rfl, r⟩ := rs.one; cases r; exact call_bool1 pins st σ H _ us Q I rv (.inl ⟨_, rfl, h.ok hh (.bl _)⟩)
    · obtain ⟨v, rfl, r⟩ := rs.one; cases r; exact call_bool1 pins st σ H _ us Q I rv (.inr ⟨_, rfl, h.ok hh (.bl _)⟩)
    · exact h.elim
  split at h
  · rename_i e; subst e
    split at h
    · obtain ⟨v, rfl, r⟩ := rs.one
      cases r with
      | tup hq rr => exact call_list_of pins st σ H _ us Q I rv ⟨_, _, rfl, .inr hq.sq, fun p hp => h.newL hh hp rr⟩
    · obtain ⟨v, rfl, r⟩ := rs.one
      split at h
      · rename_i es e
        obtain ⟨a, xs, rfl, hq, rr⟩ := lstOf_ok hh r e
        exact call_list_of pins st σ H _ us Q I rv ⟨_, _, rfl, .inl hq, fun p hp => h.newL hh hp rr⟩
      · split at h
        · rename_i kvs e
          cases r with
          | ref hr =>
            cases hh.ob _ _ _ e hr with
            | @dk _ ws _ h1 rr => exact call_list_dK hcalm pins st σ H _ us Q I rv ⟨_, ws, rfl, h1, fun p hp => h.newL hh hp (keys_ok rr)⟩
        · exact h.elim
    · exact h.elim
  split at h
  · rename_i e; subst e
    split at h
    · obtain ⟨v, rfl, r⟩ := rs.one
      cases r with
      | tup hq rr => exact call_tuple_of pins st σ H _ us Q I rv ⟨_, _, rfl, .inr ⟨hq.sq, h.ok hh (.tup hq rr)⟩⟩
    · obtain ⟨v, rfl, r⟩ := rs.one
      split at h
      · rename_i es e
        obtain ⟨a, xs, rfl, hq, rr⟩ := lstOf_ok hh r e
        exact call_tuple_of pins st σ H _ us Q I rv ⟨_, _, rfl, .inl ⟨hq, fun p hp => h.newT hh hp rr⟩⟩
      · exact h.elim
    · exact h.elim
  split at h
  · rename_i e; subst e
    split at h
    · obtain ⟨v, rfl, r⟩ := rs.one
      cases r with
      | ref hr =>
        split at h
        · rename_i kvs e
          cases hh.ob _ _ _ e hr with
          | @dk _ ws _ h1 rr =>
            refine call_dictD pins st σ H _ us Q I rv ⟨_, ws, rfl, .inl h1, fun p hp => ?_⟩
            have hr2 := rr.mono (Mo.new (ρ := ρ) p) (Keep.new (o := .dK ws) hp)
            exact h _ _ _ (Mo.new p) (Keep.new hp) (hh.new hp (.dk upd_same hr2)) (.ref (by rw [← hh.len]; simp))
        · rename_i es e
          split at h
          · rename_i kvs ek
            cases hh.ob _ _ _ e hr with
            | @lst _ xs _ h1 rr =>
              obtain ⟨ps, ws, rfl, hp, hk⟩ := pairsOf_ok rr ek
              refine call_dictP hcalm pins st σ H _ us Q I rv ⟨_, ps, ws, rfl, SqL.of h1, hp, fun p hp => ?_⟩
              have hr2 := ((hk.merge .nil).mono (Mo.new (ρ := ρ) p) (Keep.new (o := .dK (L2.mergeK [] ws)) hp))
              exact h _ _ _ (Mo.new p) (Keep.new hp) (hh.new hp (.dk upd_same hr2)) (.ref (by rw [← hh.len]; simp))
          · exact h.elim
        · exact h.elim
    · exact h.elim
  exact h.elim
end
end LL
namespace LL
open PySem PySem.Spec PyProof.Rows L2
section
variable {T : Tab} {CM : Str → Option Addr} {R : Rc} {n : Nat} {X : Cx} {s : Sk} {W : WX}
theorem Post.of_nx {K : PySem.W.Frag} {ρ : List Addr} {H : Hp} {α β : Type} {rel : Rel α β} {W W' : XW} {Q : β → Hp → Prop} {r : Rs α} (h : Post K CM rel W ρ H Q r.nx) : Post K CM rel W' ρ H Q r := by
  cases r with
  | ok a ch => exact h
  | exc c fs ch => exact h.elim
  | bad => exact h.elim
theorem Ck.blk (C : Ck T CM X s n W) {scope : Scope} (hk : scope.kind = .function) (st : Shared) (H : Hp) (A : Addr) (cl : List (Str × Addr)) (fp : List Addr) :
    Ck T CM (X.blk st H scope (compEnvC scope cl A X.env) fp) (blkS s scope) n (fun _ _ _ _ => False) where
  N := C.N
  sc := by show relS scope X.env.scope = relS scope s.sc; rw [C.sc]
  nd := C.nd
  calm := C.calm
  knd := hk
  room := C.room
  gd := C.gd
  tk := L2.takes0
  po := PassesOwn.never
  stk := fun h => by cases h
  own := fun x h => by
    simp only [blkS, Bool.or_eq_true] at h
    rcases h with h | h
    · exact .inl h
    · refine .inr ?_
      show (relS scope X.env.scope).names.lookup x = some .local
      rw [C.sc]
      simpa using h
  tab := C.tab
/-! slots -/
theorem wipe_in {σ : L2.St} {j : Nat} : ∀ {vs : List Nat}, j ∈ vs → (wipe σ vs)[j]? = if j < σ.length then some none else none
  | v :: vs, h => by
    unfold wipe
    by_cases e : v = j
    · subst e
      rw [List.getElem?_set_self']
      by_cases hl : v < σ.length
      · rw [if_pos hl, List.getElem?_eq_getElem (by rw [wipe_length]; exact hl)]; rfl
      · rw [if_neg hl, List.getElem?_eq_none (by rw [wipe_length]; omega)]; rfl
    · rw [List.getElem?_set_ne e]
      exact wipe_in ((List.mem_cons.mp h).resolve_left (fun z => e z.symm))
theorem wipe_set {σ : L2.St} {i : Nat} {v : Option V} {vs : List Nat} (h : i ∈ vs) : wipe (σ.set i v) vs = wipe σ vs := by
  refine List.ext_getElem? fun j => ?_
  by_cases hj : j ∈ vs
  · rw [wipe_in hj, wipe_in hj, List.length_set]
  · rw [wipe_out hj, wipe_out hj, List.getElem?_set_ne (fun e => hj (by rw [← e]; exact h))]
theorem wipe_wipe {σ : L2.St} {vs : List Nat} : wipe (wipe σ vs) vs = wipe σ vs := by
  refine List.ext_getElem? fun j => ?_
  by_cases hj : j ∈ vs
  · rw [wipe_in hj, wipe_in hj, wipe_length]
  · rw [wipe_out hj]
theorem RE.wipe {K : PySem.W.Frag} {ρ : List Addr} {H : Hp} {env : En} {σ : L2.St} (h : RE K CM ρ H env σ) : ∀ vs, RE K CM ρ H (wipeE env vs) (L2.wipe σ vs)
  | [] => h
  | v :: vs => (RE.wipe h vs).set (.no _) v
def TgIn (vs : List Nat) : Tg → Prop
  | .one i => i ∈ vs
  | .many is => ∀ i ∈ is, i ∈ vs
def gNames : List Nat → TGs
  | [] => gNil
  | i :: is => gCons (gName i) (gNames is)
def gT (K : PySem.W.Frag) : Tg → TG
  | .one i => gName i
  | .many is => gTup K is.length (gNames is)
theorem slotOf_ok (C : Ck T CM X s n W) {x : Str} {vs : List Nat} {i : Nat} (h : slotOf s x vs = some i) (pos : Pos) : PG X (.Name x pos) (gName i) ∧ i ∈ vs := by
  unfold slotOf at h
  split at h
  · rename_i ho
    have go : ∀ {r : Option Nat}, (match ixOf x s.N with | some i => if i ∈ vs then some i else none | none => none) = some i → ixOf x s.N = some i ∧ i ∈ vs := fun {r} e => by
      cases hi : ixOf x s.N with
      | none => rw [hi] at e; cases e
      | some j =>
        rw [hi] at e
        dsimp only at e
        split at e
        · cases e; exact ⟨rfl, by assumption⟩
        · cases e
    have fin : Loc X.env.scope x → ixOf x s.N = some i → PG X (.Name x pos) (gName i) := fun hl hi => pg_name (by rw [C.N]; exact C.nd) (by rw [C.N]; exact ixOf_get hi) hl (C.own x ho)
    split at h
    · rename_i hl
      obtain ⟨h1, h2⟩ := go (r := none) h
      exact ⟨fin (.inl (by rw [C.sc]; exact hl)) h1, h2⟩
    · rename_i hl
      obtain ⟨h1, h2⟩ := go (r := none) h
      exact ⟨fin (.inr (by rw [C.sc]; exact hl)) h1, h2⟩
    · cases h
  · cases h
theorem slotsOf_ok (C : Ck T CM X s n W) {vs : List Nat} : ∀ {es : List Expr} {is : List Nat}, slotsOf s vs es = some is → PGs X es (gNames is) ∧ (∀ i ∈ is, i ∈ vs) ∧ (assignEach es X.env).length = is.length ∧ (assignEach es X.env).findIdx? (·.1) = none
  | [], is, h => by
    cases h
    exact ⟨pgs_nil, fun _ z => (by cases z), rfl, rfl⟩
  | e :: es, is, h => by
    cases e with
    | Name x p =>
      simp only [slotsOf] at h
      split at h
      · rename_i i is' h1 h2
        cases h
        obtain ⟨a, b⟩ := slotOf_ok C h1 p
        obtain ⟨c, d, e1, e2⟩ := slotsOf_ok C h2
        refine ⟨pgs_cons a c rfl, fun j hj => ?_, ?_, ?_⟩
        · rcases List.mem_cons.mp hj with z | z
          · rw [z]; exact b
          · exact d j z
        · show (assignEach es X.env).length + 1 = _
          rw [e1]; rfl
        · show ((false, assign (.Name x p) X.env) :: assignEach es X.env).findIdx? (·.1) = none
          rw [List.findIdx?_cons]
          simp [e2]
      · cases h
    | _ => simp [slotsOf] at h
theorem tgOf_ok (C : Ck T CM X s n W) {vs : List Nat} {tg : Expr} {t : Tg} (h : tgOf s vs tg = some t) : PG X tg (gT X.K t) ∧ TgIn vs t := by
  cases tg with
  | Name x p =>
    simp only [tgOf, Option.map_eq_some_iff] at h
    obtain ⟨i, h1, rfl⟩ := h
    exact slotOf_ok C h1 p
  | Tuple es k p =>
    simp only [tgOf, Option.map_eq_some_iff] at h
    obtain ⟨is, h1, rfl⟩ := h
    obtain ⟨a, b, c, d⟩ := slotsOf_ok C h1
    exact ⟨pg_tup C.calm a c d, b⟩
  | _ => simp [tgOf] at h
theorem slotOf_in {s : Sk} {x : Str} {vs : List Nat} {i : Nat} (h : slotOf s x vs = some i) : i ∈ vs := by
  unfold slotOf at h
  have go : (match ixOf x s.N with | some i => if i ∈ vs then some i else none | none => none) = some i → i ∈ vs := fun e => by
    cases hi : ixOf x s.N with
    | none => rw [hi] at e; cases e
    | some j =>
      rw [hi] at e
      dsimp only at e
      split at e
      · cases e; assumption
      · cases e
  split at h
  · split at h
    · exact go h
    · exact go h
    · cases h
  · cases h
theorem slotsOf_in {s : Sk} {vs : List Nat} : ∀ {es : List Expr} {is : List Nat}, slotsOf s vs es = some is → ∀ i ∈ is, i ∈ vs
  | [], is, h => by cases h; exact fun _ z => (by cases z)
  | e :: es, is, h => by
    cases e with
    | Name x p =>
      simp only [slotsOf] at h
      split at h
      · rename_i i is' h1 h2
        cases h
        intro j hj
        rcases List.mem_cons.mp hj with z | z
        · rw [z]; exact slotOf_in h1
        · exact slotsOf_in h2 j z
      · cases h
    | _ => simp [slotsOf] at h
theorem tgOf_in {s : Sk} {vs : List Nat} {tg : Expr} {t : Tg} (h : tgOf s vs tg = some t) : TgIn vs t := by
  cases tg with
  | Name x p =>
    simp only [tgOf, Option.map_eq_some_iff] at h
    obtain ⟨i, h1, rfl⟩ := h
    exact slotOf_in h1
  | Tuple es k p =>
    simp only [tgOf, Option.map_eq_some_iff] at h
    obtain ⟨is, h1, rfl⟩ := h
    exact slotsOf_in h1
  | _ => simp [tgOf] at h
theorem setsE_ok {K : PySem.W.Frag} {ρ : List Addr} {H : Hp} {vs : List Nat} {Q : L2.St → Hp → Prop} {w : L2.St} : ∀ {is : List Nat} {ds : List D} {xs : List V} {env : En} {σ : L2.St}, (∀ i ∈ is, i ∈ vs) → RVs K CM ρ H ds xs → ds.length = is.length → RE K CM ρ H env σ → L2.wipe σ vs = w →
    (∀ σ', RE K CM ρ H (setsE is ds env) σ' → L2.wipe σ' vs = w → Q σ' H) → gNames is xs σ H Q
  | [], [], _, env, σ, _, r, _, re, hw, q => by cases r; exact ⟨rfl, q σ re hw⟩
  | i :: is, d :: ds, _, env, σ, hi, r, hl, re, hw, q => by
    cases r with
    | cons h t =>
      refine ⟨_, _, rfl, ?_⟩
      exact setsE_ok (fun j hj => hi j (List.mem_cons_of_mem _ hj)) t (by simpa using hl) (re.set (.so h) i) (by rw [wipe_set (hi i List.mem_cons_self)]; exact hw) q
  | [], _ :: _, _, _, _, _, _, hl, _, _, _ => by simp at hl
  | _ :: _, [], _, _, _, _, _, hl, _, _, _ => by simp at hl
theorem bindT_ok {K : PySem.W.Frag} {ρ : List Addr} {H : Hp} {vs : List Nat} {t : Tg} {d : D} {x : V} {env env' : En} {σ : L2.St} {Q : L2.St → Hp → Prop} (hb : bindT t d env = some env') (r : RV K CM ρ H d x) (re : RE K CM ρ H env (L2.wipe σ vs))
    (ht : TgIn vs t) (q : ∀ σ', RE K CM ρ H env' σ' → L2.wipe σ' vs = L2.wipe σ vs → Q σ' H) : gT K t x (L2.wipe σ vs) H Q := by
  cases t with
  | one i =>
    simp only [bindT] at hb
    cases hb
    exact q _ (re.set (.so r) i) (by rw [wipe_set ht, wipe_wipe])
  | many is =>
    cases r with
    | tup hq rr =>
      simp only [bindT] at hb
      split at hb
      · rename_i hl
        cases hb
        exact ⟨_, _, rfl, hq.sq, by rw [← rr.length]; exact hl, setsE_ok ht rr hl re wipe_wipe q⟩
      · cases hb
    | _ => simp [bindT] at hb
theorem evIfs_ok (S : Sound T CM R n) (C : Ck T CM X s n W) : ∀ ifs, PTs X ifs fun σ H Q => ∃ ρ env ch, RE X.K CM ρ H env σ ∧ RH X.K CM ρ ch H ∧ Post X.K CM rB noX ρ H Q (evIfs R s ifs env ch)
  | [] => ⟨fun pins st σ H Q I ⟨ρ, env, ch, re, rh, h⟩ => pts_nil.run pins st σ H Q I (h.ok rh rfl)⟩
  | [e] => ⟨fun pins st σ H Q I ⟨ρ, env, ch, re, rh, h⟩ => (pts_one (S.sT X s W C e)).run pins st σ H Q I ⟨ρ, env, ch, re, rh, Post.of_nx h⟩⟩
  | _ :: _ :: _ => ⟨fun pins st σ H Q I ⟨ρ, env, ch, re, rh, h⟩ => h.elim⟩
/-- the reading of a comprehension -/
theorem lc_post {ρ : List Addr} {H : Hp} {σ : L2.St} {env : En} {ch : CH} {Q : VK} {s' : Sk} {elt : Expr} {ifs : List Expr} {t : Tg} {vs : List Nat} {m : En → CH → Rs Itm} (re : RE X.K CM ρ H env σ) (rh : RH X.K CM ρ ch H) (ht : TgIn vs t)
    (h : Post X.K CM (rV X.K CM) (fun c d H => W c d σ H) ρ H Q ((m env ch).bind fun w c => (cmpB R s' t ifs elt (okW w) (wipeE env vs) c.sz w.ds (c.push (.lst []))).bind fun _ c2 => .ok (.ref c.sz) c2)) :
    tLc (tIt X.K CM W m) (gT X.K t) (fun σ H Q => ∃ ρ env ch, RE X.K CM ρ H env σ ∧ RH X.K CM ρ ch H ∧ Post X.K CM rB noX ρ H Q (evIfs R s' ifs env ch)) (tI X.K CM (fun _ _ _ _ => False) (R.E s' elt)) vs σ H Q := by
  refine ⟨ρ, env, ch, re, rh, h.bind fun w c ρ1 H1 J m1 k1 hh1 wk p1 => ?_⟩
  intro La hD
  have hl : ρ1.length = c.sz := hh1.len
  have hn := hh1.new (co := .lst []) hD (.lst upd_same .nil)
  have re1 := (re.mono m1 k1)
  refine ⟨fun i m H2 => m = w.ds.length - i ∧ i ≤ w.ds.length ∧ ∃ ρ2 ch2, Mo (ρ1 ++ [La]) ρ2 ∧ Keep H1 H2 ∧ RH X.K CM ρ2 ch2 H2 ∧ Post X.K CM (rV X.K CM) (fun c d H => W c d σ H) ρ2 H2 Q ((cmpB R s' t ifs elt (okW w) (wipeE env vs) c.sz (w.ds.drop i) ch2).bind fun _ c2 => .ok (.ref c.sz) c2),
    ⟨w.ds.length, by simp, Nat.zero_le _, ρ1 ++ [La], _, Mo.refl _, Keep.new hD, hn, by simpa using Post.mono (Mo.new La) (Keep.new hD) p1⟩, ?_⟩
  rintro i m H2 ⟨rfl, hi, ρ2, ch2, m2, k2, hh2, p2⟩
  have hD2 : ρ2[c.sz]? = some La := m2 _ _ (by rw [← hl]; simp)
  cases hk : okW w ch2 with
  | false =>
    exfalso
    cases hd : w.ds.drop i with
    | nil => rw [hd] at p2; unfold cmpB at p2; rw [hk] at p2; exact p2
    | cons d ds => rw [hd] at p2; unfold cmpB at p2; rw [hk] at p2; exact p2
  | true =>
    obtain ⟨w1, w2⟩ := wk i ρ2 ch2 H2 ((Mo.new La).trans m2) k2 hh2 hk
    cases hd : w.ds.drop i with
    | nil =>
      rw [hd] at p2
      unfold cmpB at p2
      rw [hk] at p2
      have hlen : w.ds.length ≤ i := by
        have := congrArg List.length hd
        rw [List.length_drop] at this
        simp at this
        omega
      exact .inl ⟨w2 hlen, Post.ok p2 hh2 (.ref hD2)⟩
    | cons d ds =>
      have hlt : i < w.ds.length := by
        have := congrArg List.length hd
        rw [List.length_drop] at this
        simp at this
        omega
      have hx : w.ds[i]? = some d := by
        have := congrArg (fun l => l[0]?) hd
        simpa using this
      have hds : w.ds.drop (i + 1) = ds := by
        have := congrArg List.tail hd
        simpa using this
      obtain ⟨go, yl⟩ := w1 d hx
      rw [hd] at p2
      unfold cmpB at p2
      rw [hk, if_pos rfl] at p2
      cases hb : bindT t d (wipeE env vs) with
      | none => rw [hb] at p2; exact p2.elim
      | some env2 =>
        rw [hb] at p2
        dsimp only at p2
        refine .inr ⟨go, fun H' => w.ds.length - (i + 1) = w.ds.length - (i + 1) ∧ i + 1 ≤ w.ds.length ∧ ∃ ρ2 ch2, Mo (ρ1 ++ [La]) ρ2 ∧ Keep H1 H' ∧ RH X.K CM ρ2 ch2 H' ∧ Post X.K CM (rV X.K CM) (fun c d H => W c d σ H) ρ2 H' Q ((cmpB R s' t ifs elt (okW w) (wipeE env vs) c.sz (w.ds.drop (i + 1)) ch2).bind fun _ c2 => .ok (.ref c.sz) c2),
          fun H' z => ⟨w.ds.length - (i + 1), by omega, z⟩, fun x H' y => ?_⟩
        obtain ⟨k3, hh3, rv⟩ := yl x H' y
        have re3 : RE X.K CM ρ2 H' (wipeE env vs) (L2.wipe σ vs) := RE.wipe (re1.mono ((Mo.new La).trans m2) (k2.trans k3)) vs
        refine bindT_ok hb rv re3 ht fun σ2 re4 hw => ⟨hw, ?_⟩
        rw [hds]
        have p3 := Post.mono (Mo.refl _) k3 p2
        have as : ∀ {α β γ : Type} (r : Rs α) (f : α → CH → Rs β) (g : β → CH → Rs γ), (r.bind f).bind g = r.bind fun a c => (f a c).bind g := fun r f g => by cases r <;> rfl
        rw [as] at p3
        have noexc : ∀ {α β : Type} {r : Rs α} {f : α → CH → Rs D} {Q' : β → Hp → Prop} {rel : Rel α β} {ρ : List Addr} {H : Hp}, Post X.K CM (rV X.K CM) (fun c d H => W c d σ H) ρ H Q (r.nx.bind f) →
            (∀ x ch' ρ' H' y, Mo ρ ρ' → Keep H H' → RH X.K CM ρ' ch' H' → rel ρ' H' x y → Post X.K CM (rV X.K CM) (fun c d H => W c d σ H) ρ' H' Q (f x ch') → Q' y H') → Post X.K CM rel noX ρ H Q' r := fun {α β r f Q' rel ρ H} hp g => by
          cases r with
          | ok a ch => exact fun ρ' H' b m' k' hh hr => g a ch ρ' H' b m' k' hh hr (Post.mono m' k' hp)
          | exc c fs ch => exact hp.elim
          | bad => exact hp
        have ifx : (evIfs R s' ifs env2 ch2) = (evIfs R s' ifs env2 ch2).nx := by
          unfold evIfs
          split
          · rfl
          · rename_i e
            cases R.T s' e env2 ch2 <;> rfl
          · rfl
        rw [ifx] at p3
        refine ⟨ρ2, env2, ch2, re4, hh3, noexc p3 fun b c4 ρ4 H4 b' m4 k4 hh4 e4 p4 => ?_⟩
        subst e4
        cases b with
        | false =>
          refine iteF ⟨rfl, hlt, ρ4, c4, m2.trans m4, (k2.trans k3).trans k4, hh4, ?_⟩
          exact p4
        | true =>
          rw [if_pos rfl, as] at p4
          refine iteT ⟨ρ4, env2, c4, re4.mono m4 k4, hh4, noexc p4 fun y c5 ρ5 H5 vy m5 k5 hh5 ry p5 => ?_⟩
          split at p5
          · rename_i acc e5
            split at p5
            · rename_i hlen
              have hD5 : ρ5[c.sz]? = some La := m5 _ _ (m4 _ _ hD2)
              cases hh5.ob _ _ _ e5 hD5 with
              | lst h1 rr =>
                refine ⟨_, h1, by rw [← rr.length]; exact hlen, rfl, hlt, ρ5, _, (m2.trans m4).trans m5, ((((k2.trans k3).trans k4).trans k5)).trans (Keep.mut h1 fun z => z), hh5.mut hD5 h1 (fun z => z) (.lst upd_same ((rr.append (.cons ry .nil)).mono (Mo.refl _) (Keep.mut h1 fun z => z))), ?_⟩
                exact Post.mono (Mo.refl _) (Keep.mut h1 fun z => z) p5
            · exact p5.elim
          · exact p5.elim
theorem isSet_ok {e : Expr} (h : isSet e = false) (env : Env) (x : Value) : foldedSetIterable e env x = pure x := by
  cases e <;> first | rfl | (exact absurd h (by simp [isSet]))
theorem lc_ok (S : Sound T CM R n) (C : Ck T CM X s n W) (elt tg iter : Expr) (ifs : List Expr) (scope : Scope) (pos : Pos) : IE X CM W (.ListComp elt [⟨tg, iter, ifs, 0⟩] scope pos) (evLc T R s elt tg iter ifs scope) := by
  cases hc : (blkC s.N s.sc scope (ownOf s.N scope) && !isSet iter) with
  | false => exact PE.no fun σ H Q ⟨ρ, env, ch, re, rh, h⟩ => by unfold evLc at h; rw [hc] at h; exact h
  | true =>
    obtain ⟨h1, h2⟩ := Bool.and_eq_true_iff.mp hc
    have bk := blkOk_by h1
    cases ht : tgOf (blkS s scope) ((ownOf s.N scope).map (·.2)) tg with
    | none => exact PE.no fun σ H Q ⟨ρ, env, ch, re, rh, h⟩ => by unfold evLc at h; rw [hc, if_pos rfl, ht] at h; exact h
    | some t =>
      have C' := fun st H A cl fp => C.blk (scope := scope) bk.kind st H A cl fp
      refine PE.of (pe_lc (wi := tIt X.K CM W (evIt T R s (tuT t) iter)) (g := gT X.K t) (tt := fun σ H Q => ∃ ρ env ch, RE X.K CM ρ H env σ ∧ RH X.K CM ρ ch H ∧ Post X.K CM rB noX ρ H Q (evIfs R (blkS s scope) ifs env ch)) (te := tI X.K CM (fun _ _ _ _ => False) (R.E (blkS s scope) elt)) C.calm (by rw [C.N]; exact C.nd) (evIt_ok S C tg iter (tgOf_tu ht)) (by rw [C.N, C.sc]; exact bk) (fun st H A cl fp => (tgOf_ok (C' st H A cl fp) ht).1) (fun st H A cl fp => evIfs_ok S (C' st H A cl fp) ifs) (fun st H A cl fp => S.sE _ _ _ (C' st H A cl fp) elt) (isSet_ok (by simpa using h2) _)) fun σ H Q ⟨ρ, env, ch, re, rh, h⟩ => ?_
      unfold evLc at h
      rw [hc, if_pos rfl, ht] at h
      exact lc_post re rh (tgOf_in ht) h
end
end LL
namespace LL
open PySem PySem.Spec PyProof.Rows L2
section
variable {T : Tab} {CM : Str → Option Addr} {R : Rc} {n : Nat} {X : Cx} {s : Sk} {W : WX}
theorem noexc {K : PySem.W.Frag} {α β γ δ : Type} {rel0 : Rel γ δ} {W0 : XW} {Q : δ → Hp → Prop} {r : Rs α} {f : α → CH → Rs γ} {Q' : β → Hp → Prop} {rel : Rel α β} {ρ : List Addr} {H : Hp} (hp : Post K CM rel0 W0 ρ H Q (r.nx.bind f))
    (g : ∀ x ch' ρ' H' y, Mo ρ ρ' → Keep H H' → RH K CM ρ' ch' H' → rel ρ' H' x y → Post K CM rel0 W0 ρ' H' Q (f x ch') → Q' y H') : ∀ {W1 : XW}, Post K CM rel W1 ρ H Q' r := by
  intro W1
  cases r with
  | ok a ch => exact fun ρ' H' b m' k' hh hr => g a ch ρ' H' b m' k' hh hr (Post.mono m' k' hp)
  | exc c fs ch => exact hp.elim
  | bad => exact hp
theorem ifs_nx (s' : Sk) (ifs : List Expr) (env2 : En) (ch2 : CH) : (evIfs R s' ifs env2 ch2) = (evIfs R s' ifs env2 ch2).nx := by
  unfold evIfs
  split
  · rfl
  · rename_i e
    cases R.T s' e env2 ch2 <;> rfl
  · rfl
theorem bind_as {α β γ : Type} (r : Rs α) (f : α → CH → Rs β) (g : β → CH → Rs γ) : (r.bind f).bind g = r.bind fun a c => (f a c).bind g := by cases r <;> rfl
/-- what the tests of a comprehension read -/
abbrev ttOf (X : Cx) (CM : Str → Option Addr) (R : Rc) (s' : Sk) (ifs : List Expr) : TT := fun σ H Q => ∃ ρ env ch, RE X.K CM ρ H env σ ∧ RH X.K CM ρ ch H ∧ Post X.K CM rB noX ρ H Q (evIfs R s' ifs env ch)
theorem cmp_loop {α β : Type} {rel : Rel α β} {W0 : XW} {Q : β → Hp → Prop} {f : Unit → CH → Rs α} {ρ1 : List Addr} {H1 : Hp} {σ : L2.St} {env : En} {ch : CH} {s' : Sk} {elt : Expr} {ifs : List Expr} {t : Tg} {vs : List Nat} {l : Nat} {La : Addr} {w : Itm} {J : It} {Fin : Hp → Prop}
    (re1 : RE X.K CM ρ1 H1 env σ) (hh1 : RH X.K CM ρ1 ch H1) (ht : TgIn vs t) (hD : ρ1[l]? = some La) (wk : Wk X.K CM ρ1 H1 w J) (p1 : Post X.K CM rel W0 ρ1 H1 Q ((cmpB R s' t ifs elt (okW w) (wipeE env vs) l w.ds ch).bind f))
    (fin : ∀ ρ2 H2 ch2, Mo ρ1 ρ2 → Keep H1 H2 → RH X.K CM ρ2 ch2 H2 → Post X.K CM rel W0 ρ2 H2 Q (f () ch2) → Fin H2) :
    ∃ Wf : Nat → Nat → Hp → Prop, (∃ m, Wf 0 m H1) ∧ ∀ i m H, Wf i m H →
      (J.stop i H ∧ Fin H) ∨ (J.go i H ∧ ∃ Nx : Hp → Prop, (∀ H', Nx H' → ∃ m', m' < m ∧ Wf (i + 1) m' H') ∧ ∀ x H', J.yld i H x H' → gT X.K t x (L2.wipe σ vs) H' fun σ2 H2 => L2.wipe σ2 vs = L2.wipe σ vs ∧ ttOf X CM R s' ifs σ2 H2 fun b H3 =>
        if b = true then tI X.K CM (fun _ _ _ _ => False) (R.E s' elt) σ2 H3 fun y H4 => ∃ acc, H4 La = some (.lst acc) ∧ acc.length < sizeLine ∧ Nx (upd H4 La (.lst (acc ++ [y]))) else Nx H3) := by
  refine ⟨fun i m H2 => m = w.ds.length - i ∧ i ≤ w.ds.length ∧ ∃ ρ2 ch2, Mo ρ1 ρ2 ∧ Keep H1 H2 ∧ RH X.K CM ρ2 ch2 H2 ∧ Post X.K CM rel W0 ρ2 H2 Q ((cmpB R s' t ifs elt (okW w) (wipeE env vs) l (w.ds.drop i) ch2).bind f),
    ⟨w.ds.length, by simp, Nat.zero_le _, ρ1, ch, Mo.refl _, Keep.refl _, hh1, by simpa using p1⟩, ?_⟩
  rintro i m H2 ⟨rfl, hi, ρ2, ch2, m2, k2, hh2, p2⟩
  have hD2 : ρ2[l]? = some La := m2 _ _ hD
  cases hk : okW w ch2 with
  | false =>
    exfalso
    cases hd : w.ds.drop i with
    | nil => rw [hd] at p2; unfold cmpB at p2; rw [hk] at p2; exact p2
    | cons d ds => rw [hd] at p2; unfold cmpB at p2; rw [hk] at p2; exact p2
  | true =>
    obtain ⟨w1, w2⟩ := wk i ρ2 ch2 H2 m2 k2 hh2 hk
    cases hd : w.ds.drop i with
    | nil =>
      rw [hd] at p2
      unfold cmpB at p2
      rw [hk] at p2
      have hlen : w.ds.length ≤ i := by
        have := congrArg List.length hd
        rw [List.length_drop] at this
        simp at this
        omega
      exact .inl ⟨w2 hlen, fin ρ2 H2 ch2 m2 k2 hh2 p2⟩
    | cons d ds =>
      have hlt : i < w.ds.length := by
        have := congrArg List.length hd
        rw [List.length_drop] at this
        simp at this
        omega
      have hx : w.ds[i]? = some d := by
        have := congrArg (fun l => l[0]?) hd
        simpa using this
      have hds : w.ds.drop (i + 1) = ds := by
        have := congrArg List.tail hd
        simpa using this
      obtain ⟨go, yl⟩ := w1 d hx
      rw [hd] at p2
      unfold cmpB at p2
      rw [hk, if_pos rfl] at p2
      cases hb : bindT t d (wipeE env vs) with
      | none => rw [hb] at p2; exact p2.elim
      | some env2 =>
        rw [hb] at p2
        dsimp only at p2
        refine .inr ⟨go, fun H' => w.ds.length - (i + 1) = w.ds.length - (i + 1) ∧ i + 1 ≤ w.ds.length ∧ ∃ ρ2 ch2, Mo ρ1 ρ2 ∧ Keep H1 H' ∧ RH X.K CM ρ2 ch2 H' ∧ Post X.K CM rel W0 ρ2 H' Q ((cmpB R s' t ifs elt (okW w) (wipeE env vs) l (w.ds.drop (i + 1)) ch2).bind f),
          fun H' z => ⟨w.ds.length - (i + 1), by omega, z⟩, fun x H' y => ?_⟩
        obtain ⟨k3, hh3, rv⟩ := yl x H' y
        have re3 : RE X.K CM ρ2 H' (wipeE env vs) (L2.wipe σ vs) := RE.wipe (re1.mono m2 (k2.trans k3)) vs
        refine bindT_ok hb rv re3 ht fun σ2 re4 hw => ⟨hw, ?_⟩
        rw [hds]
        have p3 := Post.mono (Mo.refl _) k3 p2
        rw [bind_as, ifs_nx] at p3
        refine ⟨ρ2, env2, ch2, re4, hh3, noexc p3 fun b c4 ρ4 H4 b' m4 k4 hh4 e4 p4 => ?_⟩
        subst e4
        cases b with
        | false =>
          refine iteF ⟨rfl, hlt, ρ4, c4, m2.trans m4, (k2.trans k3).trans k4, hh4, ?_⟩
          exact p4
        | true =>
          rw [if_pos rfl, bind_as] at p4
          refine iteT ⟨ρ4, env2, c4, re4.mono m4 k4, hh4, noexc p4 fun y c5 ρ5 H5 vy m5 k5 hh5 ry p5 => ?_⟩
          split at p5
          · rename_i acc e5
            split at p5
            · rename_i hlen
              have hD5 : ρ5[l]? = some La := m5 _ _ (m4 _ _ hD2)
              cases hh5.ob _ _ _ e5 hD5 with
              | lst h1 rr =>
                refine ⟨_, h1, by rw [← rr.length]; exact hlen, rfl, hlt, ρ5, _, (m2.trans m4).trans m5, ((((k2.trans k3).trans k4).trans k5)).trans (Keep.mut h1 fun z => z), hh5.mut hD5 h1 (fun z => z) (.lst upd_same ((rr.append (.cons ry .nil)).mono (Mo.refl _) (Keep.mut h1 fun z => z))), ?_⟩
                exact Post.mono (Mo.refl _) (Keep.mut h1 fun z => z) p5
            · exact p5.elim
          · exact p5.elim
theorem Wk.mono {K : PySem.W.Frag} {ρ ρ' : List Addr} {H H' : Hp} {w : Itm} {J : It} (h : Wk K CM ρ H w J) (m : Mo ρ ρ') (k : Keep H H') : Wk K CM ρ' H' w J := fun i ρ2 ch H2 m2 k2 => h i ρ2 ch H2 (m.trans m2) (k.trans k2)
theorem tgVs_in (s : Sk) (t : Tg) : TgIn (tgVs s t) t := by
  cases t with
  | one i => exact List.mem_singleton.mpr rfl
  | many is => exact fun i h => h
theorem lc2_post {ρ : List Addr} {H : Hp} {σ : L2.St} {env : En} {ch : CH} {Q : VK} {s' : Sk} {elt it1 : Expr} {ifs ifs1 : List Expr} {t t1 : Tg} {vs vs1 : List Nat} {m : En → CH → Rs Itm} (re : RE X.K CM ρ H env σ) (rh : RH X.K CM ρ ch H) (ht : TgIn vs t) (ht1 : TgIn vs1 t1)
    (h : Post X.K CM (rV X.K CM) (fun c d H => W c d σ H) ρ H Q ((m env ch).bind fun w c => (cmpB2 T R s' t ifs t1 it1 ifs1 elt (okW w) (wipeE env vs) vs1 c.sz w.ds (c.push (.lst []))).bind fun _ c2 => .ok (.ref c.sz) c2)) :
    tLc2 (tIt X.K CM W m) (gT X.K t) (ttOf X CM R s' ifs) (tIt X.K CM (fun _ _ _ _ => False) (evIt T R s' (tuT t1) it1)) (gT X.K t1) (ttOf X CM R s' ifs1) (tI X.K CM (fun _ _ _ _ => False) (R.E s' elt)) vs vs1 σ H Q := by
  refine ⟨ρ, env, ch, re, rh, h.bind fun w c ρ1 H1 J m1 k1 hh1 wk p1 => ?_⟩
  intro La hD
  have hl : ρ1.length = c.sz := hh1.len
  have hn := hh1.new (co := .lst []) hD (.lst upd_same .nil)
  have re1 := (re.mono m1 k1)
  refine ⟨fun i m H2 => m = w.ds.length - i ∧ i ≤ w.ds.length ∧ ∃ ρ2 ch2, Mo (ρ1 ++ [La]) ρ2 ∧ Keep H1 H2 ∧ RH X.K CM ρ2 ch2 H2 ∧ Post X.K CM (rV X.K CM) (fun c d H => W c d σ H) ρ2 H2 Q ((cmpB2 T R s' t ifs t1 it1 ifs1 elt (okW w) (wipeE env vs) vs1 c.sz (w.ds.drop i) ch2).bind fun _ c2 => .ok (.ref c.sz) c2),
    ⟨w.ds.length, by simp, Nat.zero_le _, ρ1 ++ [La], _, Mo.refl _, Keep.new hD, hn, by simpa using Post.mono (Mo.new La) (Keep.new hD) p1⟩, ?_⟩
  rintro i m H2 ⟨rfl, hi, ρ2, ch2, m2, k2, hh2, p2⟩
  have hD2 : ρ2[c.sz]? = some La := m2 _ _ (by rw [← hl]; simp)
  cases hk : okW w ch2 with
  | false =>
    exfalso
    cases hd : w.ds.drop i with
    | nil => rw [hd] at p2; unfold cmpB2 at p2; rw [hk] at p2; exact p2
    | cons d ds => rw [hd] at p2; unfold cmpB2 at p2; rw [hk] at p2; exact p2
  | true =>
    obtain ⟨w1, w2⟩ := wk i ρ2 ch2 H2 ((Mo.new La).trans m2) k2 hh2 hk
    cases hd : w.ds.drop i with
    | nil =>
      rw [hd] at p2
      unfold cmpB2 at p2
      rw [hk] at p2
      have hlen : w.ds.length ≤ i := by
        have := congrArg List.length hd
        rw [List.length_drop] at this
        simp at this
        omega
      exact .inl ⟨w2 hlen, Post.ok p2 hh2 (.ref hD2)⟩
    | cons d ds =>
      have hlt : i < w.ds.length := by
        have := congrArg List.length hd
        rw [List.length_drop] at this
        simp at this
        omega
      have hx : w.ds[i]? = some d := by
        have := congrArg (fun l => l[0]?) hd
        simpa using this
      have hds : w.ds.drop (i + 1) = ds := by
        have := congrArg List.tail hd
        simpa using this
      obtain ⟨go, yl⟩ := w1 d hx
      rw [hd] at p2
      unfold cmpB2 at p2
      rw [hk, if_pos rfl] at p2
      cases hb : bindT t d (wipeE env vs) with
      | none => rw [hb] at p2; exact p2.elim
      | some env2 =>
        rw [hb] at p2
        dsimp only at p2
        refine .inr ⟨go, fun H' => w.ds.length - (i + 1) = w.ds.length - (i + 1) ∧ i + 1 ≤ w.ds.length ∧ ∃ ρ2 ch2, Mo (ρ1 ++ [La]) ρ2 ∧ Keep H1 H' ∧ RH X.K CM ρ2 ch2 H' ∧ Post X.K CM (rV X.K CM) (fun c d H => W c d σ H) ρ2 H' Q ((cmpB2 T R s' t ifs t1 it1 ifs1 elt (okW w) (wipeE env vs) vs1 c.sz (w.ds.drop (i + 1)) ch2).bind fun _ c2 => .ok (.ref c.sz) c2),
          fun H' z => ⟨w.ds.length - (i + 1), by omega, z⟩, fun x H' y => ?_⟩
        obtain ⟨k3, hh3, rv⟩ := yl x H' y
        have re3 : RE X.K CM ρ2 H' (wipeE env vs) (L2.wipe σ vs) := RE.wipe (re1.mono ((Mo.new La).trans m2) (k2.trans k3)) vs
        refine bindT_ok hb rv re3 ht fun σ2 re4 hw => ⟨hw, ?_⟩
        rw [hds]
        have p3 := Post.mono (Mo.refl _) k3 p2
        rw [bind_as, ifs_nx] at p3
        refine ⟨ρ2, env2, ch2, re4, hh3, noexc p3 fun b c4 ρ4 H4 b' m4 k4 hh4 e4 p4 => ?_⟩
        subst e4
        cases b with
        | false =>
          refine iteF ⟨rfl, hlt, ρ4, c4, m2.trans m4, (k2.trans k3).trans k4, hh4, ?_⟩
          exact p4
        | true =>
          rw [if_pos rfl, bind_as] at p4
          refine iteT ⟨ρ4, env2, c4, re4.mono m4 k4, hh4, noexc p4 fun w' c5 ρ5 H5 J1 m5 k5 hh5 wk1 p5 => ?_⟩
          rw [bind_as] at p5
          exact cmp_loop ((re4.mono m4 k4).mono m5 k5) hh5 ht1 (m5 _ _ (m4 _ _ hD2)) wk1 p5 fun ρ6 H6 c6 m6 k6 hh6 p6 => ⟨rfl, hlt, ρ6, c6, ((m2.trans m4).trans m5).trans m6, (((k2.trans k3).trans k4).trans k5).trans k6, hh6, p6⟩
theorem tgVs_sub {s : Sk} {vs : List Nat} {t : Tg} (h : TgIn vs t) : ∀ i ∈ tgVs s t, i ∈ vs := by
  cases t with
  | one i => intro j hj; rw [List.mem_singleton.mp hj]; exact h
  | many is => exact h
theorem lc2_ok (S : Sound T CM R n) (C : Ck T CM X s n W) (elt tg iter : Expr) (ifs : List Expr) (tg1 iter1 : Expr) (ifs1 : List Expr) (scope : Scope) (pos : Pos) : IE X CM W (.ListComp elt [⟨tg, iter, ifs, 0⟩, ⟨tg1, iter1, ifs1, 0⟩] scope pos) (evLc2 T R s elt tg iter ifs tg1 iter1 ifs1 scope) := by
  cases hc : (blkC s.N s.sc scope (ownOf s.N scope) && !isSet iter && !isSet iter1) with
  | false => exact PE.no fun σ H Q ⟨ρ, env, ch, re, rh, h⟩ => by unfold evLc2 at h; rw [hc] at h; exact h
  | true =>
    obtain ⟨h12, h3⟩ := Bool.and_eq_true_iff.mp hc
    obtain ⟨h1, h2⟩ := Bool.and_eq_true_iff.mp h12
    have bk := blkOk_by h1
    cases ht : tgOf (blkS s scope) ((ownOf s.N scope).map (·.2)) tg with
    | none => exact PE.no fun σ H Q ⟨ρ, env, ch, re, rh, h⟩ => by unfold evLc2 at h; rw [hc, if_pos rfl, ht] at h; exact h
    | some t =>
      cases ht1 : tgOf (blkS s scope) ((ownOf s.N scope).map (·.2)) tg1 with
      | none => exact PE.no fun σ H Q ⟨ρ, env, ch, re, rh, h⟩ => by unfold evLc2 at h; rw [hc, if_pos rfl, ht, ht1] at h; exact h
      | some t1 =>
        have C' := fun st H A cl fp => C.blk (scope := scope) bk.kind st H A cl fp
        refine PE.of (pe_lc2 (vs1 := tgVs s t1) (wi := tIt X.K CM W (evIt T R s (tuT t) iter)) (g := gT X.K t) (tt := ttOf X CM R (blkS s scope) ifs) (wi1 := tIt X.K CM (fun _ _ _ _ => False) (evIt T R (blkS s scope) (tuT t1) iter1)) (g1 := gT X.K t1) (tt1 := ttOf X CM R (blkS s scope) ifs1) (te := tI X.K CM (fun _ _ _ _ => False) (R.E (blkS s scope) elt)) C.calm (by rw [C.N]; exact C.nd) (evIt_ok S C tg iter (tgOf_tu ht)) (by rw [C.N, C.sc]; exact bk) (tgVs_sub (tgOf_in ht1)) (fun st H A cl fp => (tgOf_ok (C' st H A cl fp) ht).1) (fun st H A cl fp => evIfs_ok S (C' st H A cl fp) ifs) (fun st H A cl fp => evIt_ok S (C' st H A cl fp) tg1 iter1 (tgOf_tu ht1)) (fun st H A cl fp => (tgOf_ok (C' st H A cl fp) ht1).1) (fun st H A cl fp => evIfs_ok S (C' st H A cl fp) ifs1) (fun st H A cl fp => S.sE _ _ _ (C' st H A cl fp) elt) (isSet_ok (by simpa using h2) _) (fun env => isSet_ok (by simpa using h3) env)) fun σ H Q ⟨ρ, env, ch, re, rh, h⟩ => ?_
        unfold evLc2 at h
        rw [hc, if_pos rfl, ht, ht1] at h
        exact lc2_post re rh (tgOf_in ht) (tgVs_in s t1) h
end
end LL
namespace LL
open PySem PySem.Spec PyProof.Rows L2
section
variable {T : Tab} {CM : Str → Option Addr} {R : Rc} {n : Nat} {X : Cx} {s : Sk} {W : WX}
/-! ### arguments -/
theorem arrange_ok {K : PySem.W.Frag} {ρ : List Addr} {H : Hp} {ds zs : List D} {vs ws : List V} (r : RVs K CM ρ H ds vs) (r2 : RVs K CM ρ H zs ws) : ∀ {arr : List Arg} {as : List D}, arrange ds zs arr = some as → RVs K CM ρ H as (arrV arr vs ws)
  | [], as, h => by cases h; exact .nil
  | a :: arr, as, h => by
    simp only [arrange] at h
    split at h
    · rename_i d l h1 h2
      cases h
      refine .cons ?_ (arrange_ok r r2 h2)
      cases a with
      | pos j =>
        obtain ⟨v, hv, rv⟩ := r.get h1
        show RV K CM ρ H d (vs.getD j .non)
        rw [List.getD_eq_getElem?_getD, hv]; exact rv
      | kw j =>
        obtain ⟨v, hv, rv⟩ := r2.get h1
        show RV K CM ρ H d (ws.getD j .non)
        rw [List.getD_eq_getElem?_getD, hv]; exact rv
      | dfl e =>
        dsimp only at h1
        split at h1
        · rename_i hi
          cases h1
          cases d <;> first
            | exact .non
            | exact .bl _
            | exact .int _
            | exact .str _
            | (simp [isImm] at hi)
        · cases h1
    · cases h
theorem evk_ok (S : Sound T CM R n) (C : Ck T CM X s n W) : ∀ kws, PK X kws (tIs X.K CM W (evk R s kws))
  | [] => ⟨fun pos pins st σ H Q I ⟨ρ, env, ch, re, rh, h⟩ => pk_nil.run pos pins st σ H Q I (h.ok rh .nil)⟩
  | ⟨nm, e, p⟩ :: kws => ⟨fun pos pins st σ H Q I ⟨ρ, env, ch, re, rh, h⟩ => (pk_cons (S.sE X s W C e) (evk_ok S C kws)).run pos pins st σ H Q I
      ⟨ρ, env, ch, re, rh, Post.bind h fun x ch1 ρ1 H1 y m1 k1 hh1 r1 p1 => ⟨ρ1, env, ch1, re.mono m1 k1, hh1, Post.bind p1 fun xs ch2 ρ2 H2 ys m2 k2 hh2 r2 p2 => p2.ok hh2 (.cons (r1.mono m2 k2) r2)⟩⟩⟩
theorem kwNames_ok {env : Env} {pos : Pos} : ∀ {kws : List Keyword} {ks : List Str}, kwNames kws = some ks → (backToKw pos (keywordEach kws env)).all (·.1.isSome) = true ∧ (backToKw pos (keywordEach kws env)).filterMap (·.1) = ks ∧ (backToKw pos (keywordEach kws env)).any (·.1.isNone) = false ∧ ks.length = kws.length
  | [], ks, h => by cases h; exact ⟨rfl, rfl, rfl, rfl⟩
  | ⟨nm, e, p⟩ :: kws, ks, h => by
    cases nm with
    | none => simp [kwNames] at h
    | some x =>
      cases h2 : kwNames kws with
      | none => simp [kwNames, h2] at h
      | some xs =>
        simp only [kwNames, h2] at h
        cases h
        obtain ⟨a, b, c, d⟩ := kwNames_ok (env := env) (pos := pos) h2
        refine ⟨?_, ?_, ?_, ?_⟩
        · show (true && (backToKw pos (keywordEach kws env)).all (·.1.isSome)) = true
          rw [a]; rfl
        · show x :: (backToKw pos (keywordEach kws env)).filterMap (·.1) = _
          rw [b]
        · show (false || (backToKw pos (keywordEach kws env)).any (·.1.isNone)) = false
          rw [c]; rfl
        · simp [d]
/-- the arguments run, then the call -/
theorem callWith_args (S : Sound T CM R n) (C : Ck T CM X s n W) {pins : List (Addr × Obj)} {st : Shared} {σ : L2.St} {H : Hp} {ρ : List Addr} {env : En} {ch : CH} {Q : Value → Shared → Prop} {f : Value} {first : List Value} {es : List Expr} {kws : List Keyword} {ks : List Str} {pos : Pos} {α β : Type} {rel : Rel α β} {Q' : β → Hp → Prop} {g : List D × List D → CH → Rs α}
    (I : Inv X pins σ H st) (re : RE X.K CM ρ H env σ) (rh : RH X.K CM ρ ch H) (hk : PySem.W.keepIn X.K f = true) (hes : es.any isStar = false) (hks : kwNames kws = some ks)
    (h : Post X.K CM rel (fun c d H => W c d σ H) ρ H Q' ((args R s es kws env ch).bind g))
    (q : ∀ us ws s1 H1 ρ1 ds zs vs xs ch1, Inv X pins σ H1 s1 → Mo ρ ρ1 → Keep H H1 → RH X.K CM ρ1 ch1 H1 → RVs X.K CM ρ1 H1 ds vs → RVs X.K CM ρ1 H1 zs xs → Vals vs us → Vals xs ws → Post X.K CM rel (fun c d H => W c d σ H) ρ1 H1 Q' (g (ds, zs) ch1) →
      wpAny (model X.prog X.w) X.A (call f (first ++ us) (ks.zip ws)) Q X.xe s1) :
    wpAny (model X.prog X.w) X.A (callWith pos f first (backTo pos (starEach es X.env)) (backToKw pos (keywordEach kws X.env))) Q X.xe st := by
  obtain ⟨k1, k2, k3, k4⟩ := kwNames_ok (env := X.env) (pos := pos) hks
  unfold args at h
  have h' : Post X.K CM rel (fun c d H => W c d σ H) ρ H Q' ((evs R s es env ch).bind fun ds c => (evk R s kws env c).bind fun zs c => g (ds, zs) c) := by
    revert h
    cases evs R s es env ch with
    | ok a c => dsimp only [Rs.bind]; cases evk R s kws env c <;> exact fun z => z
    | exc a b c => exact fun z => z
    | bad => exact fun z => z
  have kwpart : ∀ {s1 H1 ρ1 ds vs us ch1}, Inv X pins σ H1 s1 → Mo ρ ρ1 → Keep H H1 → RH X.K CM ρ1 ch1 H1 → RVs X.K CM ρ1 H1 ds vs → Vals vs us → Post X.K CM rel (fun c d H => W c d σ H) ρ1 H1 Q' ((evk R s kws env ch1).bind fun zs c => g (ds, zs) c) →
      wpAny (model X.prog X.w) X.A (evalAll ((backToKw pos (keywordEach kws X.env)).map (·.2))) (fun ks' s₂ => X.K.In s₂.heap ∧ wpAny (model X.prog X.w) X.A (call f (first ++ us) (((backToKw pos (keywordEach kws X.env)).filterMap (·.1)).zip ks')) Q X.xe s₂) X.xe s1 := fun {s1 H1 ρ1 ds vs us ch1} I1 m1 kk1 hh1 rs1 rv1 p1 => by
    refine thn ((evk_ok S C kws).run pos pins s1 σ H1 _ I1 ⟨ρ1, env, ch1, re.mono m1 kk1, hh1, p1.af⟩) fun ws s2 ⟨xs, H2, I2, rw2, ρ2, zs, ch2, m2, kk2, hh2, rs2, p2⟩ => ⟨I2.kIn, ?_⟩
    rw [k2]
    exact q us ws s2 H2 ρ2 ds zs vs xs ch2 I2 (m1.trans m2) (kk1.trans kk2) hh2 (rs1.mono m2 kk2) rs2 rv1 rw2 p2
  cases es with
  | nil =>
    unfold evs at h'
    exact PySem.W.callWith_KW0 (h₀ := X.base) I.ok.mod.kin hk k1 (kwpart (us := []) I (Mo.refl _) (Keep.refl _) rh .nil .nil h') (by show (false || _) = false; rw [k3]; rfl)
  | cons e es =>
    obtain ⟨h1, h2⟩ := Bool.or_eq_false_iff.mp (List.any_cons ▸ hes)
    refine PySem.W.callWith_KW (h₀ := X.base) I.ok.mod.kin hk k1 (thn ((evs_ok S C (e :: es)).run pos pins st σ H _ I ⟨ρ, env, ch, re, rh, h'.af⟩) fun us s1 ⟨vs, H1, I1, rv1, ρ1, ds, ch1, m1, kk1, hh1, rs1, p1⟩ => kwpart I1 m1 kk1 hh1 rs1 rv1 p1) ?_ (star_of h1)
    rw [stars_of hes pos, k3]; rfl
/-! ### calls of the text's own defs -/
theorem patOf_ok {key : Str} {m : Nat} {ks : List Str} {p : Pat} (h : patOf T key m ks = some p) : ∃ i, T.fns.lookup key = some i ∧ p ∈ i.pats ∧ p.n = m ∧ p.ks = ks := by
  unfold patOf at h
  split at h
  · rename_i i hi
    have h1 := List.find?_some h
    exact ⟨i, hi, List.mem_of_find?_eq_some h, (of_decide_eq_true h1).1, (of_decide_eq_true h1).2⟩
  · cases h
/-- the callee runs with its arguments in order -/
theorem run_pat (S : Sound T CM R n) (C : Ck T CM X s n W) {A : Around} {E : Value → Shared → Prop} {pins : List (Addr × Obj)} {st : Shared} {σ : L2.St} {H : Hp} {ρ : List Addr} {ch : CH} {Q : VK} {key : Str} {m : Nat} {ks : List Str} {p : Pat} {ds zs : List D} {vs xs : List V} {us ws : List Value} (hp : patOf T key m ks = some p)
    (I : Inv X pins σ H st) (rh : RH X.K CM ρ ch H) (rs : RVs X.K CM ρ H ds vs) (rz : RVs X.K CM ρ H zs xs) (rv : Vals vs us) (rw : Vals xs ws)
    (h : Post X.K CM (rV X.K CM) (fun c d H => W c d σ H) ρ H Q (callP T R key p ds zs ch)) :
    ∃ f, CM key = some f ∧ PySem.W.keepIn X.K (.ref f) = true ∧ wpAny (model X.prog X.w) X.A (call (.ref f) us (ks.zip ws)) (EP X pins σ Q) X.xe st := by
  obtain ⟨i, hi, hm, e1, e2⟩ := patOf_ok hp
  obtain ⟨f, fd, mm, hmm, hc, kp, pt, F⟩ := S.sF X.prog X.w X.K X.mg X.base C.tab key i hi
  obtain ⟨g, B⟩ := pt p hm
  refine ⟨f, hc, kp, ?_⟩
  unfold callP at h
  split at h
  · rename_i hl
    split at h
    · rename_i as ha
      have r2 := B.rel rv rw
      have hsp : spI X.K CM (R.F key) (arrV p.arr vs xs) H Q (fun c d H => W c d σ H) := ⟨ρ, as, ch, arrange_ok rs rz ha, rh, h⟩
      have hb := B.to st us ws I.kIn (by rw [← rv.length, ← rs.length]; exact hl.1) (by rw [← rw.length, ← rz.length]; exact hl.2)
      rw [e2] at hb
      refine wpAny_call (codeAny_mono (F.go X.A X.stack st H ⟨us, ks.zip ws⟩ _ _ Q _ C.gd (C.room.mono (by omega)) I.env0 hb r2 hsp) fun r s' hq => ?_)
      cases r with
      | error e => exact passAt C.tk σ pins H st e s' I hq
      | ok fl =>
        cases fl with
        | ret u => exact I.after hq
        | next => exact False.elim hq
        | brk => exact False.elim hq
        | cont => exact False.elim hq
    · exact h.elim
  · exact h.elim
end
end LL
namespace LL
open PySem PySem.Spec PyProof.Rows L2
section
variable {T : Tab} {CM : Str → Option Addr} {R : Rc} {n : Nat} {X : Cx} {s : Sk} {W : WX}
theorem zip_lookup {K : PySem.W.Frag} {ρ : List Addr} {H : Hp} {f : Str} : ∀ {ns : List Str} {ds : List D} {vs : List V}, ns.length = ds.length → RVs K CM ρ H ds vs →
    (∀ d, (ns.zip ds).lookup f = some d → ∃ v, (ns.zip vs).lookup f = some v ∧ RV K CM ρ H d v) ∧ ((ns.zip ds).lookup f = none → (ns.zip vs).lookup f = none)
  | [], _, _, _, _ => ⟨fun d h => (by simp at h), fun _ => by simp⟩
  | x :: ns, [], _, hl, _ => by simp at hl
  | x :: ns, d :: ds, _, hl, .cons h t => by
    have ih := zip_lookup (f := f) (ns := ns) (by simpa using hl) t
    simp only [List.zip_cons_cons, List.lookup_cons]
    cases (f == x) with
    | true => exact ⟨fun d' e => by cases e; exact ⟨_, rfl, h⟩, fun e => by cases e⟩
    | false => exact ih
theorem methOf_ok (C : Ck T CM X s n W) {ρ : List Addr} {H : Hp} {ch : CH} {d : D} {v : V} {m key : Str} (rh : RH X.K CM ρ ch H) (r : RV X.K CM ρ H d v) (h : methOf T m d ch = some key) :
    ∃ a Ca dx fs f, v = .ref a ∧ H a = some (.ins Ca dx fs) ∧ Cls X.K Ca ∧ CM key = some f ∧ Meth X.K Ca m f ∧ fs.lookup m = none := by
  unfold methOf at h
  split at h
  · cases r with
    | ref hr =>
      split at h
      · rename_i c fs e
        split at h
        · rename_i hq
          obtain ⟨h1, h2⟩ := Bool.and_eq_true_iff.mp hq
          cases rh.ob _ _ _ e hr with
          | ins hC hH hl rr =>
            obtain ⟨C1, e1, cl⟩ := C.tab.cl _ (List.contains_iff_mem.mp h1)
            obtain ⟨C2, f, e2, e3, M⟩ := C.tab.mt _ _ _ h
            rw [hC] at e1 e2
            cases e1; cases e2
            exact ⟨_, _, _, _, f, rfl, hH, cl, e3, M, (zip_lookup hl rr).2 (Option.isNone_iff_eq_none.mp h2)⟩
        · cases h
      · cases h
  · cases h
theorem run_own (S : Sound T CM R n) (C : Ck T CM X s n W) {A' : Around} (hA : ∀ k, k + 1 ≤ n → Room k A') (hF : A'.frames = X.A.frames) (hG : A'.guards = X.A.guards) {pins : List (Addr × Obj)} {st : Shared} {σ : L2.St} {H : Hp} {ρ : List Addr} {ch : CH} {Q : VK} {key : Str} {m : Nat} {p : Pat} {ds : List D} {vs : List V} {us : List Value} (hp : patOf T key m [] = some p)
    (I : Inv X pins σ H st) (rh : RH X.K CM ρ ch H) (rs : RVs X.K CM ρ H ds vs) (rv : Vals vs us)
    (h : Post X.K CM (rV X.K CM) (fun c d H => W c d σ H) ρ H Q (callP T R key p ds [] ch)) :
    ∃ f, CM key = some f ∧ wpAny (model X.prog X.w) A' (call (.ref f) us) (EP X pins σ Q) X.xe st := by
  obtain ⟨i, hi, hm, e1, e2⟩ := patOf_ok hp
  obtain ⟨f, fd, mm, hmm, hc, kp, pt, F⟩ := S.sF X.prog X.w X.K X.mg X.base C.tab key i hi
  obtain ⟨g, B⟩ := pt p hm
  refine ⟨f, hc, ?_⟩
  unfold callP at h
  split at h
  · rename_i hl
    split at h
    · rename_i as ha
      have r2 := B.rel rv (.nil : Vals [] [])
      have hsp : spI X.K CM (R.F key) (arrV p.arr vs []) H Q (fun c d H => W c d σ H) := ⟨ρ, as, ch, arrange_ok rs .nil ha, rh, h⟩
      have hb := B.to st us [] I.kIn (by rw [← rv.length, ← rs.length]; exact hl.1) (by exact hl.2)
      rw [e2] at hb
      have e0 : Env0 X.prog X.w X.K X.mg X.base A' X.stack st H := ⟨hF.trans I.env0.frames, I.env0.mod, I.env0.bs, I.env0.bsz, I.env0.funs, I.env0.frf, I.env0.hok, I.env0.bare⟩
      refine wpAny_call (codeAny_mono (F.go A' X.stack st H ⟨us, []⟩ _ _ Q _ (hG.trans C.gd) (hA _ hmm) e0 hb r2 hsp) fun r s' hq => ?_)
      cases r with
      | error e => exact passAt C.tk σ pins H st e s' I hq
      | ok fl =>
        cases fl with
        | ret u => exact I.after hq
        | next => exact False.elim hq
        | brk => exact False.elim hq
        | cont => exact False.elim hq
    · exact h.elim
  · exact h.elim
theorem opM_run (S : Sound T CM R n) (C : Ck T CM X s n W) {A' : Around} (hA : ∀ k, k + 1 ≤ n → Room k A') (hF : A'.frames = X.A.frames) (hG : A'.guards = X.A.guards) {pins : List (Addr × Obj)} {st : Shared} {σ : L2.St} {H : Hp} {ρ : List Addr} {ch : CH} {Q : V → Hp → Prop} {key : Str} {f : Addr} {ds : List D} {vs : List V} {us : List Value} {g : D → CH → Rs D} (hk : CM key = some f)
    (I : Inv X pins σ H st) (rh : RH X.K CM ρ ch H) (rs : RVs X.K CM ρ H ds vs) (rv : Vals vs us)
    (h : Post X.K CM (rV X.K CM) (fun c d H => W c d σ H) ρ H Q ((opM T R key ds ch).bind g)) {P : Value → Shared → Prop}
    (q : ∀ u s1 v H1 ρ1 d c, Inv X pins σ H1 s1 → RelV v u → Mo ρ ρ1 → Keep H H1 → RH X.K CM ρ1 c H1 → RV X.K CM ρ1 H1 d v → Post X.K CM (rV X.K CM) (fun c d H => W c d σ H) ρ1 H1 Q (g d c) → P u s1) :
    wpAny (model X.prog X.w) A' (call (.ref f) us) P X.xe st := by
  unfold opM at h
  cases hp : patOf T key ds.length [] with
  | none => rw [hp] at h; exact h.elim
  | some p =>
    rw [hp] at h
    dsimp only at h
    obtain ⟨f', hc, hw⟩ := run_own (Q := fun v H1 => ∃ ρ1 d c, Mo ρ ρ1 ∧ Keep H H1 ∧ RH X.K CM ρ1 c H1 ∧ RV X.K CM ρ1 H1 d v ∧ Post X.K CM (rV X.K CM) (fun c d H => W c d σ H) ρ1 H1 Q (g d c)) S C hA hF hG hp I rh rs rv
      (h.bind fun d c ρ1 H1 v m1 k1 hh1 r1 p1 => ⟨ρ1, d, c, m1, k1, hh1, r1, p1⟩)
    rw [hk] at hc; cases hc
    exact thn hw fun u s1 ⟨v, H1, I1, r1, ρ1, d, c, m1, k1, hh1, rv1, p1⟩ => q u s1 v H1 ρ1 d c I1 r1 m1 k1 hh1 rv1 p1
theorem roomX (C : Ck T CM X s n W) : ∀ k, k + 1 ≤ n → Room k X.A := fun k h => C.room.mono (by omega)
theorem roomI (C : Ck T CM X s n W) : ∀ k, k + 1 ≤ n → Room k X.A.in1 := fun k h => (C.room.mono h).in1
/-- where an instance stands -/
theorem inst_at {pins : List (Addr × Obj)} {st : Shared} {σ : L2.St} {H : Hp} {a Ca dx : Addr} {fs : List (Str × V)} (I : Inv X pins σ H st) (h : H a = some (.ins Ca dx fs)) : ∃ od, PySem.W.InstAt st.heap a (PySem.W.instObj Ca dx) Ca (some od) := by
  obtain ⟨mA, O, _, _, _, _⟩ := ins_get I.hok h
  obtain ⟨od, J, _⟩ := O.look
  exact ⟨od, J⟩
theorem types_sub {K : PySem.W.Frag} {Ca : Addr} {t : String} (h : t ∈ ["NoneType", "bool", "int", "str", "tuple", "list", "dict"]) : PySem.W.subIn K (.type t) (.ref Ca) = some false := by
  have hs : (["NoneType", "bool", "int", "str", "tuple", "list", "dict"].all fun t => (fastFind? t).isSome) = true := by decide +kernel
  obtain ⟨z, hz⟩ := Option.isSome_iff_exists.mp (List.all_eq_true.mp hs t h)
  unfold PySem.W.subIn
  show (fastBuiltinMro t).map _ = _
  unfold fastBuiltinMro
  rw [hz]
  show some ((z.mro.map Value.type).contains (.ref Ca)) = some false
  congr 1
  rw [Bool.eq_false_iff]
  intro hc
  have := List.contains_iff_mem.mp hc
  simp at this

theorem isiC_ok (C : Ck T CM X s n W) {pins : List (Addr × Obj)} {st : Shared} {σ : L2.St} {H : Hp} {ρ : List Addr} {ch : CH} {d : D} {c : Str} {x y : V} {us : List Value} {b : Bool} {Q : VK} (I : Inv X pins σ H st) (rv : Vals [x, y] us) (rd : RV X.K CM ρ H d x) (rc : RV X.K CM ρ H (.cl c) y) (hh : RH X.K CM ρ ch H) (h : isiC T d c ch = some b) (q : Q (.bl b) H) :
    wpAny (model X.prog X.w) X.A (call (.builtin "isinstance") us) (EP X pins σ Q) X.xe st := by
  unfold isiC at h
  cases rc with
  | @cl _ Ca hc =>
    split at h
    · rename_i hi
      obtain ⟨C1, e1, ic⟩ := C.tab.isc _ (List.contains_iff_mem.mp hi)
      rw [hc] at e1; cases e1
      have nm : ∀ {o : Option Bool}, (match tyName ch d with | some t => if ["NoneType", "bool", "int", "str", "tuple", "list", "dict"].contains t then some false else none | none => none) = some b → wpAny (model X.prog X.w) X.A (call (.builtin "isinstance") us) (EP X pins σ Q) X.xe st := fun {o} h => by
        split at h
        · rename_i t e
          split at h
          · rename_i hm
            cases h
            refine call_isi pins st σ H _ us Q I rv ⟨x, .ref Ca, _, .ref Ca, false, rfl, .own Ca, tyName_ok hh rd e, ?_, q⟩
            unfold PySem.W.kitOne PySem.W.kitCls
            rw [if_neg (by simp)]
            dsimp only
            rw [if_pos ic.cd, types_sub (List.contains_iff_mem.mp hm)]
          · cases h
        · cases h
      split at h
      · rename_i nn
        split at h
        · rename_i c' fs e
          split at h
          · rename_i hq
            obtain ⟨h1, h2⟩ := Bool.and_eq_true_iff.mp hq
            cases rd with
            | @ref _ a hr =>
              cases hh.ob _ _ _ e hr with
              | @ins _ C2 dx ns ds vs _ hC hH hl rr =>
                obtain ⟨C3, e3, cl3⟩ := C.tab.cl _ (List.contains_iff_mem.mp h1)
                obtain ⟨C4, e4, ic4⟩ := C.tab.isc _ (List.contains_iff_mem.mp h2)
                rw [hC] at e3 e4
                cases e3; cases e4
                have ty : TyX X.K H (.ref a) (.ref C2) := .base (.ins hH cl3 ic4.ha ic4.hn ic4.tk ic4.hm)
                split at h
                · rename_i ec
                  cases h
                  subst ec
                  rw [hC] at hc; cases hc
                  exact call_isi pins st σ H _ us Q I rv ⟨_, _, _, _, true, rfl, .own _, ty, by unfold PySem.W.kitOne; rw [if_pos (by simp)], q⟩
                · split at h
                  · rename_i hu
                    cases h
                    obtain ⟨D1, D2, u1, u2, une, um⟩ := C.tab.unl _ _ (List.contains_iff_mem.mp hu)
                    rw [hC] at u1; rw [hc] at u2
                    cases u1; cases u2
                    refine call_isi pins st σ H _ us Q I rv ⟨_, _, _, _, false, rfl, .own _, ty, ?_, q⟩
                    unfold PySem.W.kitOne PySem.W.kitCls
                    rw [if_neg (by simpa using une)]
                    dsimp only
                    rw [if_pos ic.cd]
                    exact um
                  · cases h
          · cases h
        · exact nm (o := none) h
      · exact nm (o := none) h
    · cases h
/-- len, own or not -/
theorem biR_ok (S : Sound T CM R n) (C : Ck T CM X s n W) (id : String) : CallS X CM W (.builtin id) (biR T R id) := by
  have gen : ∀ ds ch, biR T R id ds ch = bi id ds ch → ∀ (pins : List (Addr × Obj)) (st : Shared) (σ : L2.St) (H : Hp) (ρ : List Addr) (vs : List V) (us : List Value) (Q : VK), Inv X pins σ H st → Vals vs us → RVs X.K CM ρ H ds vs → RH X.K CM ρ ch H → Post X.K CM (rV X.K CM) (fun c d H => W c d σ H) ρ H Q (biR T R id ds ch) → wpAny (model X.prog X.w) X.A (call (.builtin id) us) (EP X pins σ Q) X.xe st := fun ds ch he pins st σ H ρ vs us Q I rv rs hh h =>
    bi_ok C.calm C.gd (by have := C.room.un; omega) id pins st σ H ρ ch ds vs us Q I rv rs hh (by rw [he] at h; exact h)
  intro pins st σ H ρ ch ds vs us Q I rv rs hh h
  by_cases hid : id = "len"
  · subst hid
    match ds, rs with
    | [d], .cons (v := v) r .nil =>
      cases hm : methOf T "__len__" d ch with
      | none => exact gen [d] ch (by unfold biR; rw [if_pos rfl]; simp only [hm]) pins st σ H ρ _ us Q I rv (.cons r .nil) hh h
      | some key =>
        unfold biR at h
        rw [if_pos rfl] at h
        simp only [hm] at h
        obtain ⟨a, Ca, ax, fs, f, rfl, hH, cl, hcm, M, hn⟩ := methOf_ok C hh r hm
        obtain ⟨od, J⟩ := inst_at I hH
        obtain ⟨fm, F⟩ := I.fr
        rw [Vals.ref1 rv]
        refine PySem.W.len_K F I.ok.mod.kin J M.at_ M.fn ?_
        refine opM_run S C (roomI C) rfl rfl hcm I hh (.cons r .nil) (.cons rfl .nil) h fun u1 s1 v1 H1 ρ1 d c I1 r1 m1 k1 hh1 rv1 p1 => ?_
        cases rv1 with
        | int i =>
          dsimp only at p1
          split at p1
          · rename_i hi
            obtain ⟨t, rfl⟩ := (show ∃ t, u1 = Value.int i t from r1)
            exact ⟨⟨hi.1, hi.2⟩, .int i, H1, I1.tok _, ⟨_, rfl⟩, p1.ok hh1 (.int i)⟩
          · exact p1.elim
        | _ => exact p1.elim
    | [], .nil => exact gen [] ch rfl pins st σ H ρ _ us Q I rv .nil hh h
    | _ :: _ :: _, rs => exact gen _ ch rfl pins st σ H ρ _ us Q I rv rs hh h
  · by_cases hid2 : id = "isinstance"
    · subst hid2
      by_cases hc : ∃ d c, ds = [d, .cl c]
      · obtain ⟨d, c, rfl⟩ := hc
        unfold biR at h
        rw [if_neg hid, if_pos rfl] at h
        dsimp only at h
        obtain ⟨x, y, rfl, r, r2⟩ := rs.two
        cases hi : isiC T d c ch with
        | none => rw [hi] at h; exact h.elim
        | some b => rw [hi] at h; exact isiC_ok C I rv r r2 hh hi (h.ok hh (.bl _))
      · refine gen ds ch ?_ pins st σ H ρ vs us Q I rv rs hh h
        unfold biR
        rw [if_neg hid, if_pos rfl]
        split
        · rename_i d c; exact absurd ⟨d, c, rfl⟩ hc
        · rfl
    · exact gen ds ch (by unfold biR; rw [if_neg hid, if_neg hid2]) pins st σ H ρ vs us Q I rv rs hh h
end
end LL
namespace LL
open PySem PySem.Spec PyProof.Rows L2
section
variable {T : Tab} {CM : Str → Option Addr} {R : Rc} {n : Nat} {X : Cx} {s : Sk} {W : WX}
theorem isBt_false (C : Ck T CM X s n W) {x : Str} (h : s.sc.names.lookup x = some .globalImplicit) : Gl X x := by
  show X.env.kindOf x = _
  rw [← h, ← C.sc]; rfl
theorem callB_ok (S : Sound T CM R n) (C : Ck T CM X s n W) {f : Str} {p pos : Pos} {e : Expr} {es : List Expr} (hf : (f == ("__debug__" : Str)) = false) (hn : f ≠ "__name__") (hb : isBt T s f = true) (hi : isBi f = true) (hes : (e :: es).any isStar = false) :
    IE X CM W (.Call (.Name f p) (e :: es) [] pos) fun env ch => (evs R s (e :: es) env ch).bind fun ds c => match bootBuiltins f with
    | some (.builtin id) => biR T R id ds c
    | some (.type t) => bty t ds c
    | _ => .bad := by
  obtain ⟨hg, hm⟩ := isBt_ok C hb
  obtain ⟨he, hes'⟩ := Bool.or_eq_false_iff.mp (List.any_cons ▸ hes)
  refine ⟨fun pins st σ H Q I ⟨ρ, env, ch, re, rh, h⟩ => ?_⟩
  have ha := (evs_ok S C (e :: es)).run pos pins st σ H _ I ⟨ρ, env, ch, re, rh, h.af⟩
  cases hv : bootBuiltins f with
  | none => unfold isBi at hi; rw [hv] at hi; cases hi
  | some u =>
    cases u with
    | builtin id =>
      refine wpAny_Call_Name_kw (ld_blt I hg hm hv ?_ hn hf)
      refine PyProof.Rows.callWith_builtin1 (thn ha fun us s1 ⟨vs, H1, I1, r1, ρ1, ds, ch1, m1, k1, hh1, rs1, p1⟩ => ?_) (star_of he) (stars_of hes' pos)
      rw [hv] at p1
      exact biR_ok S C id pins s1 σ H1 ρ1 ch1 ds vs us Q I1 r1 rs1 hh1 p1
    | type t =>
      refine wpAny_Call_Name_kw (ld_blt I hg hm hv ?_ hn hf)
      refine PyProof.Rows.callWith_type1 (thn ha fun us s1 ⟨vs, H1, I1, r1, ρ1, ds, ch1, m1, k1, hh1, rs1, p1⟩ => ?_) (star_of he) (stars_of hes' pos)
      rw [hv] at p1
      exact bty_ok C.calm t pins s1 σ H1 ρ1 ch1 ds vs us Q I1 r1 rs1 hh1 p1
    | _ => unfold isBi at hi; rw [hv] at hi; cases hi
theorem callG_ok (S : Sound T CM R n) (C : Ck T CM X s n W) {f : Str} {fp pos : Pos} {es : List Expr} {kws : List Keyword} {ks : List Str} {p : Pat} (hf : (f == ("__debug__" : Str)) = false) (hl : s.sc.names.lookup f = some .globalImplicit) (hg : f ∈ T.gfn) (hes : es.any isStar = false) (hks : kwNames kws = some ks) (hp : patOf T f es.length ks = some p) :
    IE X CM W (.Call (.Name f fp) es kws pos) fun env ch => (args R s es kws env ch).bind fun as c => callP T R f p as.1 as.2 c := by
  obtain ⟨fa, hc, hm⟩ := C.tab.gl f hg
  obtain ⟨i, hi, _⟩ := patOf_ok hp
  obtain ⟨fa', fd, mm, hmm, hc', kp, _, _⟩ := S.sF X.prog X.w X.K X.mg X.base C.tab _ i hi
  rw [hc] at hc'; cases hc'
  refine ⟨fun pins st σ H Q I ⟨ρ, env, ch, re, rh, h⟩ => ?_⟩
  refine wpAny_Call_Name_kw (ld_glob I (isBt_false C hl) hm ?_ hf)
  refine callWith_args S C I re rh kp hes hks h fun us ws s1 H1 ρ1 ds zs vs xs ch1 I1 m1 k1 hh1 rs rz rv rw p1 => ?_
  obtain ⟨f2, hc2, _, hw⟩ := run_pat (A := X.A) (E := X.xe) S C hp I1 hh1 rs rz rv rw p1
  rw [hc] at hc2; cases hc2
  exact hw
theorem under_gd {A : Around} {us : List Value} {kw : List (Str × Value)} (h : A.guards = some []) : (A.under (.builtin "type.__call__" ⟨us, kw⟩)).guards = some [] := by
  have hg : (Code.builtin "type.__call__" ⟨us, kw⟩).isGuard = false := by
    show guardIds.contains "type.__call__" = false
    decide +kernel
  simp [Around.under, pushGuards, h, Code.guards, hg]
/-- an instance is made -/
theorem RC.putNew {K : PySem.W.Frag} {ρ : List Addr} {H : Hp} {C x dx : Addr} {c : Str} (hc : CM c = some C) : RC K CM ρ (upd H x (.ins C dx [])) (.ins c []) x := .ins (ns := []) (ds := []) (vs := []) hc upd_same rfl .nil
theorem makeG_ok (S : Sound T CM R n) (C : Ck T CM X s n W) {f : Str} {fp pos : Pos} {es : List Expr} {kws : List Keyword} {ks : List Str} {key : Str} {p : Pat} (hf : (f == ("__debug__" : Str)) = false) (hl : s.sc.names.lookup f = some .globalImplicit) (hg : T.mks.lookup f = some key) (hes : es.any isStar = false) (hks : kwNames kws = some ks) (hp : patOf T key (es.length + 1) ks = some p) :
    IE X CM W (.Call (.Name f fp) es kws pos) fun env ch => (args R s es kws env ch).bind fun as c => makeP T R f key p as.1 as.2 c := by
  obtain ⟨Ca, fa, hC, hc, hm, M⟩ := C.tab.mkc f key hg
  obtain ⟨i, hi, hmem, e1, e2⟩ := patOf_ok hp
  obtain ⟨fa', fd, mm, hmm, hc', kp, pt, F⟩ := S.sF X.prog X.w X.K X.mg X.base C.tab _ i hi
  rw [hc] at hc'; cases hc'
  obtain ⟨g, B⟩ := pt p hmem
  refine ⟨fun pins st σ H Q I ⟨ρ, env, ch, re, rh, h⟩ => ?_⟩
  refine wpAny_Call_Name_kw (ld_glob I (isBt_false C hl) hm ?_ hf)
  refine callWith_args S C I re rh M.kp hes hks h fun us ws s1 H1 ρ1 ds zs vs xs ch1 I1 m1 k1 hh1 rs rz rv rw p1 => ?_
  unfold makeP callP at p1
  have hl1 : ((D.ref ch1.sz :: ds).length = p.n ∧ zs.length = p.ks.length) := by
    by_cases hq : ((D.ref ch1.sz :: ds).length = p.n ∧ zs.length = p.ks.length)
    · exact hq
    · rw [if_neg hq] at p1; exact p1.elim
  rw [if_pos hl1] at p1
  cases ha : arrange (.ref ch1.sz :: ds) zs p.arr with
  | none => rw [ha] at p1; exact p1.elim
  | some as =>
    rw [ha] at p1
    dsimp only at p1
    have f1 : H1 s1.heap.objs.size = none := I1.hok.fresh (Nat.le_refl _)
    have f2 : H1 (s1.heap.objs.size + 1) = none := I1.hok.fresh (Nat.le_succ _)
    have ne : s1.heap.objs.size + 1 ≠ s1.heap.objs.size := Nat.ne_of_gt (Nat.lt_succ_self _)
    have I2 := Inv.made (C := Ca) I1
    have f3 : (upd H1 s1.heap.objs.size (.own (s1.heap.objs.size + 1))) (s1.heap.objs.size + 1) = none := by rw [upd_ne ne]; exact f2
    have hh2 := (hh1.laid (o := .own (s1.heap.objs.size + 1)) f1).new (o := .ins Ca s1.heap.objs.size []) (co := .ins f []) f3 (RC.putNew hC)
    have k2 : Keep H1 (upd (upd H1 s1.heap.objs.size (.own (s1.heap.objs.size + 1))) (s1.heap.objs.size + 1) (.ins Ca s1.heap.objs.size [])) := (Keep.new f1).trans (Keep.new f3)
    have m2 := Mo.new (ρ := ρ1) (s1.heap.objs.size + 1)
    have rself : RV X.K CM (ρ1 ++ [s1.heap.objs.size + 1]) (upd (upd H1 s1.heap.objs.size (.own (s1.heap.objs.size + 1))) (s1.heap.objs.size + 1) (.ins Ca s1.heap.objs.size [])) (.ref ch1.sz) (.ref (s1.heap.objs.size + 1)) := .ref (by rw [← hh1.len]; simp)
    have hsp : spI X.K CM (R.F key) (arrV p.arr (.ref (s1.heap.objs.size + 1) :: vs) xs) (upd (upd H1 s1.heap.objs.size (.own (s1.heap.objs.size + 1))) (s1.heap.objs.size + 1) (.ins Ca s1.heap.objs.size [])) (fun v H2 => v = .non ∧ Q (.ref (s1.heap.objs.size + 1)) H2) (fun c d H => W c d σ H) := by
      refine ⟨_, as, _, arrange_ok (.cons rself (rs.mono m2 k2)) (rz.mono m2 k2) ha, hh2, (Post.mono m2 k2 p1).bind fun d c ρ3 H3 y m3 k3 hh3 r3 p3 => ?_⟩
      cases r3 with
      | non => exact ⟨rfl, p3.ok hh3 (.ref (m3 _ _ (by rw [← hh1.len]; simp)))⟩
      | _ => exact p3.elim
    have r1 : Vals (V.ref (s1.heap.objs.size + 1) :: vs) (Value.ref (s1.heap.objs.size + 1) :: us) := .cons rfl rv
    have r2 := B.rel r1 rw
    have hb := B.to _ (Value.ref (s1.heap.objs.size + 1) :: us) ws I2.kIn (by rw [← r1.length, ← hl1.1]; show _ = ds.length + 1; rw [rs.length]; rfl) (by rw [← rw.length, ← rz.length]; exact hl1.2)
    rw [e2] at hb
    refine wpAny_call (make_map (f := fa) I1.kIn M.makes M.init (beq_iff_eq.mp M.fn) (codeAny_mono (F.go _ X.stack _ _ ⟨Value.ref (s1.heap.objs.size + 1) :: us, ks.zip ws⟩ _ _ _ _ (under_gd C.gd) ((C.room.mono hmm).make Ca us (ks.zip ws))
      (I2.env0.make Ca us (ks.zip ws)) hb r2 hsp) fun r s' hq' => ?_))
    cases r with
    | error e => exact passAt C.tk σ pins _ _ e s' I2 hq'
    | ok fl =>
      cases fl with
      | ret u =>
        obtain ⟨v, H', I3, rv3, ev, q3⟩ := I2.after hq'
        subst ev
        exact ⟨rv3, ⟨V.ref (s1.heap.objs.size + 1), H', I3, rfl, q3⟩⟩
      | next => exact False.elim hq'
      | brk => exact False.elim hq'
      | cont => exact False.elim hq'
/-- an imported built-in function -/
theorem biG_ok {id : String} {pins : List (Addr × Obj)} {st : Shared} {σ : L2.St} {H : Hp} {ρ : List Addr} {ch : CH} {ds : List D} {vs : List V} {us : List Value} {Q : VK} (I : Inv X pins σ H st) (rv : Vals vs us) (rs : RVs X.K CM ρ H ds vs) (hh : RH X.K CM ρ ch H)
    (h : Post X.K CM (rV X.K CM) (fun c d H => W c d σ H) ρ H Q (biG id ds ch)) : wpAny (model X.prog X.w) X.A (call (.builtin id) us) (EP X pins σ Q) X.xe st := by
  unfold biG at h
  split at h
  · rename_i hid
    subst hid
    split at h
    · rename_i a b
      cases rs with
      | cons r1 r2 =>
        cases r1 with
        | int =>
          cases r2 with
          | cons r3 r4 =>
            cases r3 with
            | int =>
              cases r4 with
              | nil => exact cr_gcd pins st σ H _ us Q I rv ⟨a, b, rfl, h.ok hh (.int _)⟩
    · exact h.elim
  · exact h.elim
theorem callI_ok (S : Sound T CM R n) (C : Ck T CM X s n W) {f : Str} {id : String} {p pos : Pos} {e : Expr} {es : List Expr} (hf : (f == ("__debug__" : Str)) = false) (hl : s.sc.names.lookup f = some .globalImplicit) (hb : T.bis.lookup f = some id) (hes : (e :: es).any isStar = false) :
    IE X CM W (.Call (.Name f p) (e :: es) [] pos) fun env ch => (evs R s (e :: es) env ch).bind fun ds c => biG id ds c := by
  have hm := C.tab.bis f id hb
  obtain ⟨he, hes'⟩ := Bool.or_eq_false_iff.mp (List.any_cons ▸ hes)
  refine ⟨fun pins st σ H Q I ⟨ρ, env, ch, re, rh, h⟩ => ?_⟩
  have ha := (evs_ok S C (e :: es)).run pos pins st σ H _ I ⟨ρ, env, ch, re, rh, h.af⟩
  refine wpAny_Call_Name_kw (ld_glob I (isBt_false C hl) hm ?_ hf)
  refine PyProof.Rows.callWith_builtin1 (thn ha fun us s1 ⟨vs, H1, I1, r1, ρ1, ds, ch1, m1, k1, hh1, rs1, p1⟩ => ?_) (star_of he) (stars_of hes' pos)
  exact biG_ok I1 r1 rs1 hh1 p1
/-- a def of the program runs, as code -/
theorem run_ownC (S : Sound T CM R n) (C : Ck T CM X s n W) {pins : List (Addr × Obj)} {st : Shared} {σ : L2.St} {H : Hp} {ρ : List Addr} {ch : CH} {Q : VK} {key : Str} {m : Nat} {p : Pat} {ds : List D} {vs : List V} {us : List Value} (hp : patOf T key m [] = some p)
    (I : Inv X pins σ H st) (rh : RH X.K CM ρ ch H) (rs : RVs X.K CM ρ H ds vs) (rv : Vals vs us)
    (h : Post X.K CM (rV X.K CM) (fun c d H => W c d σ H) ρ H Q (callP T R key p ds [] ch)) :
    ∃ f, CM key = some f ∧ codeAny (model X.prog X.w) X.A (.call (.ref f) ⟨us, []⟩) (fun r s' => match r with | .ok (.ret v) => EP X pins σ Q v s' | .ok _ => False | .error e => X.xe e s') st := by
  obtain ⟨i, hi, hm, e1, e2⟩ := patOf_ok hp
  obtain ⟨f, fd, mm, hmm, hc, kp, pt, F⟩ := S.sF X.prog X.w X.K X.mg X.base C.tab key i hi
  obtain ⟨g, B⟩ := pt p hm
  refine ⟨f, hc, ?_⟩
  unfold callP at h
  split at h
  · rename_i hl
    split at h
    · rename_i as ha
      have r2 := B.rel rv (.nil : Vals [] [])
      have hsp : spI X.K CM (R.F key) (arrV p.arr vs []) H Q (fun c d H => W c d σ H) := ⟨ρ, as, ch, arrange_ok rs .nil ha, rh, h⟩
      have hb := B.to st us [] I.kIn (by rw [← rv.length, ← rs.length]; exact hl.1) (by exact hl.2)
      rw [e2] at hb
      refine codeAny_mono (F.go X.A X.stack st H ⟨us, []⟩ _ _ Q _ C.gd (C.room.mono (by omega)) I.env0 hb r2 hsp) fun r s' hq => ?_
      cases r with
      | error e => exact passAt C.tk σ pins H st e s' I hq
      | ok fl =>
        cases fl with
        | ret u => exact I.after hq
        | next => exact False.elim hq
        | brk => exact False.elim hq
        | cont => exact False.elim hq
    · exact h.elim
  · exact h.elim
theorem methOf_cal (C : Ck T CM X s n W) {ρ : List Addr} {H : Hp} {ch : CH} {k : Nat} {a : Addr} {key : Str} (rh : RH X.K CM ρ ch H) (r : RV X.K CM ρ H (.ref k) (.ref a)) (h : methOf T "__call__" (.ref k) ch = some key) :
    ∃ Ca dx fs g, H a = some (.ins Ca dx fs) ∧ CM key = some g ∧ StX.CallO X.K Ca g := by
  unfold methOf at h
  cases r with
  | ref hr =>
    dsimp only at h
    split at h
    · rename_i c fs e
      split at h
      · cases rh.ob _ _ _ e hr with
        | ins hC hH hl rr =>
          obtain ⟨C2, g, e2, e3, M⟩ := C.tab.cal _ _ h
          rw [hC] at e2
          cases e2
          exact ⟨_, _, _, g, hH, e3, M⟩
      · cases h
    · cases h
/-- a variable that holds an instance is called -/
theorem callV_ok (S : Sound T CM R n) (C : Ck T CM X s n W) (f : Str) (fp pos : Pos) (es : List Expr) (kws : List Keyword) (hl : s.sc.names.lookup f = some .local) : IE X CM W (.Call (.Name f fp) es kws pos) (evCallV T R s f es kws) := by
  by_cases hq : (f == ("__debug__" : Str)) = false ∧ (f == ("__classdict__" : Str)) = false ∧ es.any isStar = false ∧ (kws.isEmpty && !es.isEmpty) = true
  · obtain ⟨q1, q2, q3, q4⟩ := id hq
    obtain ⟨k1, k2⟩ := Bool.and_eq_true_iff.mp q4
    cases es with
    | nil => simp at k2
    | cons e es =>
      cases kws with
      | cons _ _ => simp at k1
      | nil =>
        obtain ⟨he, hes'⟩ := Bool.or_eq_false_iff.mp (List.any_cons ▸ q3)
        have hv : Vis X.env.scope f := .inl (by rw [C.sc]; exact hl)
        refine ⟨fun pins st σ H Q I ⟨ρ, env, ch, re, rh, h⟩ => ?_⟩
        unfold evCallV at h
        rw [if_pos hq] at h
        refine wpAny_Call_Name_kw (thn ((evVar_ok (W := W) C hv q1 q2 (pos := fp)).run pins st σ H _ I ⟨ρ, env, ch, re, rh, h.af⟩) fun u s1 ⟨v, H1, I1, r1, ρ1, d, ch1, m1, k1, hh1, rd, p1⟩ => ?_)
        cases rd with
        | @ref k a hra =>
          have rd : RV X.K CM ρ1 H1 (.ref k) (.ref a) := .ref hra
          have p1 : Post X.K CM (rV X.K CM) (fun c d H => W c d σ H) ρ1 H1 Q ((evs R s (e :: es) env ch1).bind fun ds c => match methOf T "__call__" (.ref k) c with
            | some key => opM T R key (.ref k :: ds) c
            | none => .bad) := p1
          have ha := (evs_ok S C (e :: es)).run pos pins s1 σ H1 _ I1 ⟨ρ1, env, ch1, re.mono m1 k1, hh1, p1.af⟩
          obtain rfl : u = Value.ref a := r1
          refine StX.callO_with (thn ha fun us s2 ⟨vs, H2, I2, r2, ρ2, ds, ch2, m2, k2, hh2, rs, p2⟩ => ?_) (star_of he) (stars_of hes' pos)
          dsimp only at p2
          cases hk : methOf T "__call__" (.ref k) ch2 with
          | none => rw [hk] at p2; exact p2.elim
          | some key =>
            rw [hk] at p2
            dsimp only at p2
            have rd2 := rd.mono m2 k2
            obtain ⟨Ca, dx, fs, g, hH, hg, CO⟩ := methOf_cal C hh2 rd2 hk
            unfold opM at p2
            cases hp : patOf T key (D.ref k :: ds).length [] with
            | none => rw [hp] at p2; exact p2.elim
            | some p =>
              rw [hp] at p2
              dsimp only at p2
              obtain ⟨g', hg', hw⟩ := run_ownC S C hp I2 hh2 (.cons rd2 rs) (show Vals (V.ref a :: vs) (Value.ref a :: us) from .cons rfl r2) p2
              rw [hg] at hg'; cases hg'
              obtain ⟨od, J⟩ := inst_at I2 hH
              exact ⟨⟨Ca, _, _, J, rfl⟩, wpAny_call (PySem.W.kco_code I2.kIn J rfl CO.at_ CO.fn CO.fi hw)⟩
        | _ => exact p1.elim
  · exact PE.no fun σ H Q ⟨ρ, env, ch, re, rh, h⟩ => by unfold evCallV at h; rw [if_neg hq] at h; exact h
theorem evCallN_ok (S : Sound T CM R n) (C : Ck T CM X s n W) (f : Str) (fp pos : Pos) (es : List Expr) (kws : List Keyword) : IE X CM W (.Call (.Name f fp) es kws pos) (evCallN T R s f es kws) := by
  by_cases hq : (f == ("__debug__" : Str)) = false ∧ f ≠ "__name__" ∧ s.sc.names.lookup f = some .globalImplicit ∧ es.any isStar = false
  · cases hk : kwNames kws with
    | none => exact PE.no fun σ H Q ⟨ρ, env, ch, re, rh, h⟩ => by unfold evCallN at h; rw [if_pos hq, hk] at h; exact h
    | some ks =>
      obtain ⟨q1, q2, q3, q4⟩ := id hq
      cases hb : isBt T s f with
      | true =>
        cases hc : (isBi f && kws.isEmpty && !es.isEmpty) with
        | false => exact PE.no fun σ H Q ⟨ρ, env, ch, re, rh, h⟩ => by unfold evCallN at h; rw [if_pos hq, hk] at h; simp only [hb, hc] at h; exact h
        | true =>
          obtain ⟨h12, h3⟩ := Bool.and_eq_true_iff.mp hc
          obtain ⟨h1, h2⟩ := Bool.and_eq_true_iff.mp h12
          cases es with
          | nil => simp at h3
          | cons e es =>
            cases kws with
            | cons _ _ => simp at h2
            | nil =>
              refine PE.of (callB_ok S C q1 q2 hb h1 q4) fun σ H Q ⟨ρ, env, ch, re, rh, h⟩ => ?_
              unfold evCallN at h
              rw [if_pos hq, hk] at h
              simp only [hb, hc, if_true] at h
              exact ⟨ρ, env, ch, re, rh, h⟩
      | false =>
        cases hg : T.gfn.contains f with
        | true =>
          cases hp : patOf T f es.length ks with
          | none => exact PE.no fun σ H Q ⟨ρ, env, ch, re, rh, h⟩ => by unfold evCallN at h; rw [if_pos hq, hk] at h; simp only [hb, hg, hp] at h; exact h
          | some p =>
            refine PE.of (callG_ok S C q1 q3 (List.contains_iff_mem.mp hg) q4 hk hp) fun σ H Q ⟨ρ, env, ch, re, rh, h⟩ => ?_
            unfold evCallN at h
            rw [if_pos hq, hk] at h
            simp only [hb, hg, hp, Bool.false_eq_true, if_false, if_true] at h
            exact ⟨ρ, env, ch, re, rh, h⟩
        | false =>
          cases hm : T.mks.lookup f with
          | none =>
            cases hbi : T.bis.lookup f with
            | none => exact PE.no fun σ H Q ⟨ρ, env, ch, re, rh, h⟩ => by unfold evCallN at h; rw [if_pos hq, hk] at h; simp only [hb, hg, hm, hbi] at h; exact h
            | some id =>
              cases hc : (kws.isEmpty && !es.isEmpty) with
              | false => exact PE.no fun σ H Q ⟨ρ, env, ch, re, rh, h⟩ => by unfold evCallN at h; rw [if_pos hq, hk] at h; simp only [hb, hg, hm, hbi, hc] at h; exact h
              | true =>
                obtain ⟨h2, h3⟩ := Bool.and_eq_true_iff.mp hc
                cases es with
                | nil => simp at h3
                | cons e es =>
                  cases kws with
                  | cons _ _ => simp at h2
                  | nil =>
                    refine PE.of (callI_ok S C q1 q3 hbi q4) fun σ H Q ⟨ρ, env, ch, re, rh, h⟩ => ?_
                    unfold evCallN at h
                    rw [if_pos hq, hk] at h
                    simp only [hb, hg, hm, hbi, hc, Bool.false_eq_true, if_false, if_true] at h
                    exact ⟨ρ, env, ch, re, rh, h⟩
          | some key =>
            cases hp : patOf T key (es.length + 1) ks with
            | none => exact PE.no fun σ H Q ⟨ρ, env, ch, re, rh, h⟩ => by unfold evCallN at h; rw [if_pos hq, hk] at h; simp only [hb, hg, hm, hp] at h; exact h
            | some p =>
              refine PE.of (makeG_ok S C q1 q3 hm q4 hk hp) fun σ H Q ⟨ρ, env, ch, re, rh, h⟩ => ?_
              unfold evCallN at h
              rw [if_pos hq, hk] at h
              simp only [hb, hg, hm, hp, Bool.false_eq_true, if_false] at h
              exact ⟨ρ, env, ch, re, rh, h⟩
  · exact PE.no fun σ H Q ⟨ρ, env, ch, re, rh, h⟩ => by unfold evCallN at h; rw [if_neg hq] at h; exact h
end
end LL
namespace LL
open PySem PySem.Spec PyProof.Rows L2
section
variable {T : Tab} {CM : Str → Option Addr} {R : Rc} {n : Nat} {X : Cx} {s : Sk} {W : WX}
theorem base_of {o : Expr} (h : isCall o = false) (f : Str) (env : Env) (w : Sem Value) : attributeBase o f env w = w := by
  unfold attributeBase
  split
  · exact absurd h (by simp [isCall])
  · rfl
theorem pe_fldX {e : Expr} {te : TE} {pos : Pos} {nm : Str} (he : PE X e te) (hb : attributeBase e nm X.env (eval e X.env) = eval e X.env) :
    PE X (.Attribute e nm pos) (fun σ H Q => te σ H fun x H1 => ∃ (a Ca dd : Addr) (v : V), x = .ref a ∧ XfC X.K Ca ∧ PySem.W.findIn X.K (.ref Ca) nm = some none ∧ H1 a = some (exo a Ca (some dd)) ∧ H1 dd = some (.xd [(nm, v)]) ∧ Q v H1) := by
  refine ⟨fun pins st σ H Q I h => ?_⟩
  refine attr_of hb (thn (he.run pins st σ H _ I h) fun u s1 hh => ?_)
  obtain ⟨x, H1, I1, rx, a, Ca, dd, v, ex, T, hno, ea, ed, q⟩ := hh
  subst ex
  obtain rfl : u = Value.ref a := rx
  obtain ⟨t1, ho1⟩ := exo_at I1.hok ea
  have hx : ObjOk X.prog X.w H1 s1.heap dd (.xd [(nm, v)]) := I1.hok dd _ ed
  obtain ⟨mA, hns, hr⟩ := hx
  obtain ⟨od, ho, hl⟩ := lookIn_ns hns
  obtain ⟨u, hu, ru⟩ := RelO.some_of (v := v) (o := mA nm) (by have := hr nm; simpa [List.lookup] using this)
  have J : PySem.W.InstAt s1.heap a _ Ca (some od) := ⟨ho1, rfl, rfl, ho⟩
  exact PySem.HandSPX.exc_get I1.kIn J T.ga T.gg T.exC (PySem.W.findObj_own T.hdC hno rfl (by rw [hl, hu])) (handed_of ru) ⟨v, H1, I1.tok _, ru, q⟩
theorem fld_ok (S : Sound T CM R n) (C : Ck T CM X s n W) (o : Expr) (f : Str) (pos : Pos) (hc : isCall o = false) : IE X CM W (.Attribute o f pos) fun env ch => (R.E s o env ch).bind fun d c => fld T f d c := by
  refine ⟨fun pins st σ H Q I ⟨ρ, env, ch, re, rh, h⟩ => ?_⟩
  by_cases hx : ∃ (k : Nat) (c : CH) (cn g : Str) (v : D), R.E s o env ch = .ok (.ref k) c ∧ c.get k = some (.xc cn g v)
  · obtain ⟨k, c, cn, g, v, hr0, hg⟩ := hx
    refine (pe_fldX (S.sE X s W C o) (base_of hc _ _ _)).run pins st σ H Q I ⟨ρ, env, ch, re, rh, ?_⟩
    have h : Post X.K CM (rV X.K CM) (fun c d H => W c d σ H) ρ H Q ((R.E s o env ch).bind fun d c => fld T f d c) := h
    rw [hr0] at h ⊢
    intro ρ1 H1 w m1 k1 hh1 r1
    have p1 : Post X.K CM (rV X.K CM) (fun c d H => W c d σ H) ρ1 H1 Q (fld T f (.ref k) c) := Post.mono m1 k1 h
    simp only [fld, hg] at p1
    split at p1
    · rename_i hq
      obtain ⟨rfl, hq⟩ := hq
      cases r1 with
      | @ref _ a hr =>
        cases hh1.ob _ _ _ hg hr with
        | xc hc0 hH hd rv =>
          obtain ⟨C1, e1, xf, na⟩ := C.tab.xf _ _ hq
          rw [hc0] at e1
          cases e1
          exact ⟨_, _, _, _, rfl, xf, na, hH, hd, p1.ok hh1 rv⟩
    · exact p1.elim
  · refine (pe_fld (S.sE X s W C o) (base_of hc _ _ _)).run pins st σ H Q I ⟨ρ, env, ch, re, rh, ?_⟩
    have h : Post X.K CM (rV X.K CM) (fun c d H => W c d σ H) ρ H Q ((R.E s o env ch).bind fun d c => fld T f d c) := h
    cases hr0 : R.E s o env ch with
      | bad => rw [hr0] at h; exact h.elim
      | exc c fs c2 => rw [hr0] at h; exact h
      | ok d c =>
        rw [hr0] at h
        intro ρ1 H1 v m1 k1 hh1 r1
        have p1 : Post X.K CM (rV X.K CM) (fun c d H => W c d σ H) ρ1 H1 Q (fld T f d c) := Post.mono m1 k1 h
        unfold fld at p1
        split at p1
        · cases r1 with
          | ref hr =>
            split at p1
            · rename_i cn fs e
              split at p1
              · rename_i hq
                obtain ⟨h1, h2⟩ := Bool.and_eq_true_iff.mp hq
                split at p1
                · rename_i v e2
                  cases hh1.ob _ _ _ e hr with
                  | ins hC hH hl rr =>
                    obtain ⟨C1, e1, cl⟩ := C.tab.cl _ (List.contains_iff_mem.mp h1)
                    obtain ⟨C2, e3, na⟩ := C.tab.fl _ _ (List.contains_iff_mem.mp h2)
                    rw [hC] at e1 e3
                    cases e1; cases e3
                    obtain ⟨w, hw, rw'⟩ := (zip_lookup hl rr).1 _ e2
                    exact ⟨_, _, _, _, w, rfl, hH, cl, na, hw, p1.ok hh1 rw'⟩
                · exact p1.elim
              · exact p1.elim
            · rename_i cn g v e
              exact absurd ⟨_, _, _, _, _, hr0, e⟩ hx
            · exact p1.elim
        · exact p1.elim
/-- fields written -/
theorem putFD_zip {f : Str} {d : D} {v : V} : ∀ {ns : List Str} {ds : List D} {vs : List V}, ns.length = ds.length → ds.length = vs.length →
    ∃ (ns' : List Str) (ds' : List D) (vs' : List V), putFD f d (ns.zip ds) = ns'.zip ds' ∧ putF f v (ns.zip vs) = ns'.zip vs' ∧ ns'.length = ds'.length ∧ ∀ {K : PySem.W.Frag} {ρ : List Addr} {H : Hp}, RVs K CM ρ H ds vs → RV K CM ρ H d v → RVs K CM ρ H ds' vs'
  | [], [], [], _, _ => ⟨[f], [d], [v], rfl, rfl, rfl, fun _ r => .cons r .nil⟩
  | x :: ns, e :: ds, u :: vs, h1, h2 => by
    obtain ⟨ns', ds', vs', e1, e2, e3, k⟩ := putFD_zip (f := f) (d := d) (v := v) (ns := ns) (ds := ds) (vs := vs) (by simpa using h1) (by simpa using h2)
    by_cases hx : x = f
    · refine ⟨f :: ns, d :: ds, v :: vs, ?_, ?_, by simpa using h1, fun r rd => ?_⟩
      · show (if x = f then (f, d) :: ns.zip ds else _) = _
        rw [if_pos hx]; rfl
      · show (if x = f then _ else _) = _
        rw [if_pos hx, hx]; rfl
      · cases r with
        | cons _ t => exact .cons rd t
    · refine ⟨x :: ns', e :: ds', u :: vs', ?_, ?_, by simp [e3], fun r rd => ?_⟩
      · show (if x = f then _ else (x, e) :: putFD f d (ns.zip ds)) = _
        rw [if_neg hx, e1]; rfl
      · show (if x = f then _ else (x, u) :: putF f v (ns.zip vs)) = _
        rw [if_neg hx, e2]; rfl
      · cases r with
        | cons h t => exact .cons h (k t rd)
  | [], _ :: _, _, h, _ => by simp at h
  | _ :: _, [], _, h, _ => by simp at h
  | [], [], _ :: _, _, h => by simp at h
  | _ :: _, _ :: _, [], _, h => by simp at h
/-! ### methods -/
theorem meth_any {P : Program} {w : World} {A : Around} {E : Value → Shared → Prop} {st : Shared} {env : Env} {o : Expr} {name : Str} {apos pos : Pos} {es : List Expr} {kws : List Keyword} {ks : List Str} {Q : Value → Shared → Prop} (hc : isCall o = false) (hes : es.any isStar = false) (hks : kwNames kws = some ks) (hf : es.length + kws.length + 1 < 30) (hline : (apos.endLine == pos.line) = true)
    (h : wpAny (model P w) A (eval o env) (fun ov s₁ => wpAny (model P w) A (getMethod ov name (do return (← importBound o env).getD true)) (fun fx s₂ => wpAny (model P w) A (callWith pos fx.1 fx.2 (backTo pos (starEach es env)) (backToKw pos (keywordEach kws env))) Q E s₂) E s₁) E st) :
    wpAny (model P w) A (eval (.Call (.Attribute o name apos) es kws pos) env) Q E st := by
  obtain ⟨k1, k2, k3, k4⟩ := kwNames_ok (env := env) (pos := pos) hks
  have hall : (backTo pos (starEach es env)).all (!·.1) = true := by
    have := stars_of (env := env) hes pos
    rw [List.all_eq_true]
    intro x hx
    rw [List.any_eq_false] at this
    simpa using this x hx
  have hform : methodCallForm (es.length + kws.length) (backTo pos (starEach es env)) (backToKw pos (keywordEach kws env)) = true := by
    unfold methodCallForm
    rw [hall, k1]
    simp only [Bool.true_and, decide_eq_true_eq]
    split <;> omega
  have hpos : methodCallPos true o env apos pos = pure pos := by unfold methodCallPos; simp [hline]
  rw [arm_eval_Call, base_of hc]
  refine wpAny_bind (wpAny_mono h (fun ov s₁ h₁ => ?_) fun _ _ e => e)
  refine wpAny_bind (wpAny_standAt ?_)
  unfold methodCall
  rw [hform]
  refine wpAny_bind (wpAny_holding ?_)
  show wpAny _ _ (getMethod ov name _) _ _ _
  refine wpAny_mono h₁ (fun fx s₂ h₂ => ?_) fun _ _ e => e
  exact wpAny_bind (wpAny_of_eq hpos h₂)
/-! ### methods of lists and of the module's tuples -/
theorem lm_ids {m : Str} {id : String} (h : lmId m = some id) : Slot "list" m id ∧ typeOf (.builtin id) = pure (.type "method_descriptor") := by
  unfold lmId at h
  split at h
  · rename_i e; subst e; cases h; exact ⟨PySem.F.slot_list_append, PySem.F.type_list_append⟩
  · split at h
    · rename_i e; subst e; cases h; exact ⟨PySem.F.slot_list_extend, PySem.F.type_list_extend⟩
    · split at h
      · rename_i e; subst e; cases h; exact ⟨PySem.F.slot_list_reverse, PySem.F.type_list_reverse⟩
      · split at h
        · rename_i e; subst e; cases h; exact ⟨PySem.F.slot_list_pop, PySem.F.type_list_pop⟩
        · split at h
          · rename_i e; subst e; cases h; exact ⟨PySem.F.slot_list_index, PySem.F.type_list_index⟩
          · cases h
theorem RVs.reverse {K : PySem.W.Frag} {ρ : List Addr} {H : Hp} : ∀ {ds : List D} {vs : List V}, RVs K CM ρ H ds vs → RVs K CM ρ H ds.reverse vs.reverse
  | _, _, .nil => .nil
  | _, _, .cons h t => by rw [List.reverse_cons, List.reverse_cons]; exact (RVs.reverse t).append (.cons h .nil)
theorem RVs.dropLast {K : PySem.W.Frag} {ρ : List Addr} {H : Hp} {ds : List D} {vs : List V} (h : RVs K CM ρ H ds vs) : RVs K CM ρ H ds.dropLast vs.dropLast := by
  rw [List.dropLast_eq_take, List.dropLast_eq_take, h.length]; exact h.take _
theorem strsOf_ok {K : PySem.W.Frag} {ρ : List Addr} {H : Hp} : ∀ {ds : List D} {vs : List V} {ys : List Str}, RVs K CM ρ H ds vs → strsOf ds = some ys → vs = ys.map V.str
  | [], _, ys, r, h => by cases r; cases h; rfl
  | d :: ds, _, ys, r, h => by
    cases r with
    | cons r1 t =>
      cases r1 with
      | str z =>
        simp only [strsOf] at h
        cases hq : strsOf ds with
        | none => rw [hq] at h; cases h
        | some zs =>
          rw [hq] at h
          cases h
          rw [strsOf_ok t hq]; rfl
      | _ => simp [strsOf] at h
theorem firstAt_ok {z : Str} : ∀ {ys : List Str} {j : Nat}, firstAt z ys = some j → ys[j]? = some z ∧ ∀ m, m < j → ys[m]? ≠ some z
  | [], j, h => by cases h
  | y :: ys, j, h => by
    simp only [firstAt] at h
    split at h
    · rename_i e; cases h; subst e; exact ⟨rfl, fun m hm => by omega⟩
    · rename_i e
      cases hq : firstAt z ys with
      | none => rw [hq] at h; cases h
      | some i =>
        rw [hq] at h
        cases h
        obtain ⟨a, b⟩ := firstAt_ok hq
        refine ⟨by simpa using a, fun m hm => ?_⟩
        cases m with
        | zero => simp; exact e
        | succ m => simpa using b m (Nat.lt_of_succ_lt_succ hm)
theorem lmR_ok (id : String) {pins : List (Addr × Obj)} {st : Shared} {σ : L2.St} {H : Hp} {ρ : List Addr} {ch : CH} {d : D} {ds : List D} {x : V} {xs : List V} {v : Value} {us : List Value} {Q : VK} (I : Inv X pins σ H st) (rx : RelV x v) (rxs : Vals xs us) (rd : RV X.K CM ρ H d x) (rds : RVs X.K CM ρ H ds xs) (hh : RH X.K CM ρ ch H)
    (h : Post X.K CM (rV X.K CM) (fun c d H => W c d σ H) ρ H Q (lmR id d ds ch)) : wpAny (model X.prog X.w) X.A (call (.builtin id) (v :: us)) (EP X pins σ Q) X.xe st := by
  unfold lmR at h
  cases rd with
  | @ref nn a hr =>
    dsimp only at h
    cases hg : ch.get nn with
    | none => rw [hg] at h; exact h.elim
    | some co =>
      rw [hg] at h
      cases co with
      | lst es =>
        dsimp only at h
        cases hh.ob _ _ _ hg hr with
        | @lst _ ys _ h1 rr =>
          have put : ∀ {es' : List D} {ys' : List V} {r : D} {w : V}, RVs X.K CM ρ H es' ys' → RV X.K CM ρ H r w → Post X.K CM (rV X.K CM) (fun c d H => W c d σ H) ρ H Q (.ok r (ch.put nn (.lst es'))) → Q w (upd H a (.lst ys')) := fun {es' ys' r w} r1 r2 p => by
            have kk : Keep H (upd H a (.lst ys')) := Keep.mut h1 fun z => z
            exact p ρ _ _ (Mo.refl _) kk (hh.mut hr h1 (fun z => z) (.lst upd_same (r1.mono (Mo.refl _) kk))) (r2.mono (Mo.refl _) kk)
          split at h
          · rename_i e; subst e
            split at h
            · cases rds with
              | cons r1 t =>
                cases t
                split at h
                · rename_i hl
                  exact mt_append pins st σ H _ _ v us Q I rx rxs ⟨_, _, _, rfl, rfl, h1, by rw [← rr.length]; exact hl, put (rr.append (.cons r1 .nil)) .non h⟩
                · exact h.elim
            · exact h.elim
          · split at h
            · rename_i e; subst e
              split at h
              · cases rds with
                | cons r1 t =>
                  cases t
                  cases r1 with
                  | ref hk =>
                    split at h
                    · rename_i e2
                      cases hh.ob _ _ _ e2 hk with
                      | lst h2 rr2 =>
                        split at h
                        · rename_i hl
                          exact mt_extend pins st σ H _ _ v us Q I rx rxs ⟨_, _, _, _, rfl, rfl, h1, h2, by rw [← rr.length, ← rr2.length]; exact hl, put (rr.append rr2) .non h⟩
                        · exact h.elim
                    · exact h.elim
              · exact h.elim
            · split at h
              · rename_i e; subst e
                split at h
                · cases rds
                  exact mt_reverse pins st σ H _ _ v us Q I rx rxs ⟨_, _, rfl, rfl, h1, put rr.reverse .non h⟩
                · exact h.elim
              · split at h
                · rename_i e; subst e
                  split at h
                  · cases rds
                    split at h
                    · rename_i hx
                      obtain ⟨w, hw, rw'⟩ := rr.get hx
                      rw [rr.length] at hw
                      exact mt_pop pins st σ H _ _ v us Q I rx rxs ⟨_, _, _, rfl, rfl, h1, hw, put rr.dropLast rw' h⟩
                    · exact h.elim
                  · exact h.elim
                · split at h
                  · rename_i e; subst e
                    split at h
                    · rename_i ys z hy
                      split at h
                      · rename_i j hj
                        have e := strsOf_ok rr hy
                        subst e
                        cases rds with
                        | cons r1 t =>
                          cases t
                          cases r1
                          obtain ⟨a1, a2⟩ := firstAt_ok hj
                          refine mt_index pins st σ H _ _ v us Q I rx rxs ⟨a, _, .str z, j, .str z, rfl, rfl, SqL.of h1, rfl, flat_strs ys, by rw [List.getElem?_map, a1]; rfl, by simp [eqV], fun m z' hm hz => ?_, h.ok hh (.int _)⟩
                          rw [List.getElem?_map] at hz
                          obtain ⟨y, hy1, rfl⟩ := Option.map_eq_some_iff.mp hz
                          have hne : y ≠ z := fun e => a2 m hm (by rw [hy1, e])
                          simp [eqV, hne]
                      · exact h.elim
                    · exact h.elim
                  · exact h.elim
      | _ => exact h.elim
  | _ => exact h.elim
theorem conT_ok (C : Ck T CM X s n W) {o : Expr} {ts : List D} (h : conT T s o = some ts) : ∃ x p a ob, o = .Name x p ∧ (x == ("__debug__" : Str)) = false ∧ Gl X x ∧ X.mg x = some (.ref a) ∧ X.K.lookup a = some ob ∧ ob.cls = .type "tuple" ∧ ob.dict = none ∧ ∀ ρ H, RV X.K CM ρ H (.tup ts) (.ref a) := by
  unfold conT at h
  split at h
  · rename_i x p
    split at h
    · rename_i hq
      split at h
      · rename_i ds e
        cases h
        obtain ⟨v, u, hm, rvu, hr, hz⟩ := C.tab.con x _ e
        obtain ⟨a, ob, rfl, hk, hc, hd⟩ := hz ts rfl
        refine ⟨x, p, a, ob, rfl, hq.1, ?_, ?_, hk, hc, hd, hr⟩
        · show X.env.kindOf x = _
          rw [← hq.2.2.2, ← C.sc]; rfl
        · cases (show u = Value.ref a from rvu); exact hm
      · cases h
    · cases h
  · cases h
theorem tix_ok {pins : List (Addr × Obj)} {st : Shared} {σ : L2.St} {H : Hp} {ρ : List Addr} {ch : CH} {ts ds : List D} {a : Addr} {xs : List V} {us : List Value} {Q : VK} (I : Inv X pins σ H st) (rxs : Vals xs us) (rd : RV X.K CM ρ H (.tup ts) (.ref a)) (rds : RVs X.K CM ρ H ds xs) (hh : RH X.K CM ρ ch H)
    (h : Post X.K CM (rV X.K CM) (fun c d H => W c d σ H) ρ H Q (tixR ts ds ch)) : wpAny (model X.prog X.w) X.A (call (.builtin "tuple.index") (.ref a :: us)) (EP X pins σ Q) X.xe st := by
  unfold tixR at h
  split at h
  · rename_i ys z hy
    split at h
    · rename_i j hj
      cases rd with
      | tup hq rr =>
        have e := strsOf_ok rr hy
        subst e
        cases rds with
        | cons r1 t =>
          cases t
          cases r1
          obtain ⟨a1, a2⟩ := firstAt_ok hj
          exact mt_tup_index pins st σ H (.ref a) _ _ us Q I rfl rxs ⟨a, ys, z, j, rfl, rfl, hq.sq, a1, a2, h.ok hh (.int _)⟩
    · exact h.elim
  · exact h.elim
theorem bargs_ok (S : Sound T CM R n) (C : Ck T CM X s n W) {es : List Expr} {pos : Pos} {pins : List (Addr × Obj)} {st : Shared} {σ : L2.St} {H : Hp} {ρ : List Addr} {env : En} {ch : CH} {Q : VK} {id : String} {v : Value} {g : List D → CH → Rs D} (hes : es.any isStar = false) (I : Inv X pins σ H st) (re : RE X.K CM ρ H env σ) (rh : RH X.K CM ρ ch H)
    (h : Post X.K CM (rV X.K CM) (fun c d H => W c d σ H) ρ H Q ((evs R s es env ch).bind g))
    (q : ∀ us s1 H1 ρ1 ds vs ch1, Inv X pins σ H1 s1 → Mo ρ ρ1 → Keep H H1 → RH X.K CM ρ1 ch1 H1 → RVs X.K CM ρ1 H1 ds vs → Vals vs us → Post X.K CM (rV X.K CM) (fun c d H => W c d σ H) ρ1 H1 Q (g ds ch1) → wpAny (model X.prog X.w) X.A (call (.builtin id) (v :: us)) (EP X pins σ Q) X.xe s1) :
    wpAny (model X.prog X.w) X.A (callWith pos (.builtin id) [v] (backTo pos (starEach es X.env)) []) (EP X pins σ Q) X.xe st := by
  cases es with
  | nil =>
    exact Calls.callWith_builtin rfl (PySem.evalArgs_none (q [] st H ρ [] [] ch I (Mo.refl _) (Keep.refl _) rh .nil .nil h))
  | cons e es =>
    obtain ⟨h1, h2⟩ := Bool.or_eq_false_iff.mp (List.any_cons ▸ hes)
    have hA := (evs_ok S C (e :: es)).run pos pins st σ H _ I ⟨ρ, env, ch, re, rh, h.af⟩
    have hs : starEach (e :: es) X.env = (false, eval e X.env) :: starEach es X.env := star_of h1
    rw [hs] at hA ⊢
    refine Calls.callWith_builtin (by show (false || (backTo pos (starEach es X.env)).any (·.1)) = false; rw [stars_of h2 pos]; rfl) (Calls.evalArgs_plain ?_)
    exact thn hA fun us s1 ⟨vs, H1, I1, rv1, ρ1, ds, ch1, m1, k1, hh1, rs1, p1⟩ => q us s1 H1 ρ1 ds vs ch1 I1 m1 k1 hh1 rs1 rv1 p1
theorem evCallM_ok (S : Sound T CM R n) (C : Ck T CM X s n W) (o : Expr) (m : Str) (apos pos : Pos) (es : List Expr) (kws : List Keyword) : IE X CM W (.Call (.Attribute o m apos) es kws pos) (evCallM T R s o m apos pos es kws) := by
  by_cases hq : es.any isStar = false ∧ es.length + kws.length + 1 < 30 ∧ (apos.endLine == pos.line) = true ∧ isCall o = false
  · cases hk : kwNames kws with
    | none => exact PE.no fun σ H Q ⟨ρ, env, ch, re, rh, h⟩ => by unfold evCallM at h; rw [if_pos hq, hk] at h; exact h
    | some ks =>
      obtain ⟨q1, q2, q3, q4⟩ := id hq
      refine ⟨fun pins st σ H Q I ⟨ρ, env, ch, re, rh, h⟩ => ?_⟩
      unfold evCallM at h
      rw [if_pos hq, hk] at h
      dsimp only at h
      cases ht : (if m = "index" ∧ kws = [] then conT T s o else none) with
      | some ts =>
        rw [ht] at h
        dsimp only at h
        split at ht
        · rename_i hm
          obtain ⟨rfl, rfl⟩ := hm
          cases hk
          obtain ⟨x, p, a, ob, rfl, hdb, hgl, hmg, hkl, hcl, hdn, hrv⟩ := conT_ok C ht
          refine meth_any q4 q1 rfl q2 q3 (thn ((pe_glob (v := V.ref a) (pos := p) hgl hmg rfl hdb).run pins st σ H (fun v H1 => v = .ref a ∧ H1 = H) I ⟨rfl, rfl⟩) fun ov s1 ⟨v, H1, I1, r1, e1, e2⟩ => ?_)
          subst e1 e2
          cases (show ov = Value.ref a from r1)
          refine getMethod_builtin ⟨ob, I1.kIn a ob hkl, hcl⟩ PySem.F.plainAttrs_tuple PySem.F.slot_tuple_index PySem.F.type_tuple_index (fun b e => by cases e; exact ⟨ob, I1.kIn a ob hkl, hdn⟩) ?_
          refine bargs_ok (v := .ref a) S C q1 I1 re rh h fun us s2 H2 ρ2 ds vs ch2 I2 m2 k2 hh2 rs rv p2 => ?_
          exact tix_ok I2 rv (hrv _ _) rs hh2 p2
        · cases ht
      | none =>
        rw [ht] at h
        dsimp only at h
        refine meth_any q4 q1 hk q2 q3 (thn ((S.sE X s W C o).af I re rh h) fun ov s1 ⟨x, H1, I1, r1, ρ1, d, ch1, m1, k1, hh1, rv1, p1⟩ => ?_)
        cases hm : methOf T m d ch1 with
        | none =>
          dsimp only at p1
          rw [hm] at p1
          dsimp only at p1
          cases hl : (if isLst d ch1 = true ∧ kws = [] then lmId m else none) with
          | none => rw [hl] at p1; exact p1.elim
          | some id =>
            rw [hl] at p1
            dsimp only at p1
            split at hl
            · rename_i hlk
              obtain ⟨hl1, rfl⟩ := hlk
              cases hk
              obtain ⟨slot, hty⟩ := lm_ids hl
              have hT : s1.TypeIs ov "list" ∧ ∀ a, ov = .ref a → ∃ ob, s1.heap.get? a = some ob ∧ ob.dict = none := by
                refine tyV_is I1 r1 ?_
                cases rv1 with
                | ref hr =>
                  unfold isLst at hl1
                  dsimp only at hl1
                  split at hl1
                  · rename_i e
                    cases hh1.ob _ _ _ e hr with
                    | lst h1 _ => exact .inl ⟨rfl, _, SqL.of h1⟩
                  · cases hl1
                | _ => simp [isLst] at hl1
              refine getMethod_builtin hT.1 PySem.F.plainAttrs_list slot hty hT.2 ?_
              refine bargs_ok (v := ov) S C q1 I1 (re.mono m1 k1) hh1 p1 fun us s2 H2 ρ2 ds vs ch2 I2 m2 k2 hh2 rs rv p2 => ?_
              exact lmR_ok id I2 r1 rv (rv1.mono m2 k2) rs hh2 p2
            · cases hl
        | some key =>
          dsimp only at p1
          rw [hm] at p1
          dsimp only at p1
          obtain ⟨a, Ca, dx, fs, fa, rfl, hH, cl, hcm, M, hn⟩ := methOf_ok C hh1 rv1 hm
          cases r1
          cases hp : patOf T key (es.length + 1) ks with
          | none => rw [hp] at p1; exact p1.elim
          | some p =>
            rw [hp] at p1
            refine getmeth_ok I1 hH cl M hn ?_
            refine callWith_args S C I1 (re.mono m1 k1) hh1 M.kp q1 hk p1 fun us ws s2 H2 ρ2 ds zs vs xs ch2 I2 m2 k2 hh2 rs rz rv rw p2 => ?_
            obtain ⟨f2, hc2, _, hw⟩ := run_pat (A := X.A) (E := X.xe) S C hp I2 hh2 (.cons (rv1.mono m2 k2) rs) rz (.cons rfl rv) rw p2
            rw [hcm] at hc2; cases hc2
            exact hw
  · exact PE.no fun σ H Q ⟨ρ, env, ch, re, rh, h⟩ => by unfold evCallM at h; rw [if_neg hq] at h; exact h
end
end LL
namespace LL
open PySem PySem.Spec PySem.W PyProof.Rows
section
variable {prog : Program} {w : World} {A : Around} {E : Value → Shared → Prop} {s : Shared} {K : Frag} {x C L f : Addr} {h₀ : Heap} {m : Str → Option Value} {ox : Obj} {od : Option Obj} {b tb : Value}
theorem bindNe (self : Value) : bindSpecial (.builtin "object.__ne__") self = pure (.builtin "object.__ne__", [self]) := F.cmp_object.ne.bind self
theorem ifNe_K {M : Model} {args : List Value} {Q : Option Value → Shared → Prop} (X : K.In s.heap) (I : InstAt s.heap x ox C od) (hs : findIn K (.ref C) "__ne__" = some (some (.builtin "object.__ne__")))
    (h : wpAny M A (call (.builtin "object.__ne__") (.ref x :: args)) (fun v => Q (some v)) E s) : wpAny M A (callSpecialIfBound? (.ref x) "__ne__" args) Q E s := by
  simp only [callSpecialIfBound?, bindSpecialIfBound?]
  refine wpAny_holding (wpAny_bind (wpAny_bind (wpAny_bind (I.type.here ((looks_findIn X hs).here ?_)))))
  refine wpAny_bind (wpAny_askSetting (wpAny_ite ?_))
  have fin : wpAny M A (call (.builtin "object.__ne__") ([.ref x] ++ args) >>= fun v => pure (some v)) Q E s := wpAny_bind (wpAny_mono h (fun v s' h' => wpAny_pure h') fun _ _ h' => h')
  split
  · rw [bindNe]; exact wpAny_bind (wpAny_pure (wpAny_pure (by exact fin)))
  · rw [bindNe]; exact wpAny_tryCatch (wpAny_bind (wpAny_pure (wpAny_pure (by exact fin))))
theorem objNe_K (X : K.In s.heap) (I : InstAt s.heap x ox C od) (he : findIn K (.ref C) "__eq__" = some (some (.ref f))) (hf : isFn K (.ref f) = true) (hu : A.units < cLine) {Q : Fin → Shared → Prop}
    (hcall : wpAny (model prog w) A (call (.ref f) [.ref x, b]) (fun v s' => ∃ c, v = .bool c ∧ Q (.done (.ret (.bool (!c)))) s') E s) :
    wpAny (model prog w) A (Builtin.«object.__ne__» ⟨[.ref x, b], []⟩) Q E s := by
  unfold Builtin.«object.__ne__»
  repeat (first
    | with_reducible refine wpAny_cRoomFor hu ?_
    | (refine wpAny_bind (m := callSpecialIfBound? (.ref x) (Str.ofString "__eq__") [b])
        (ifBound_K X I he hf (wpAny_mono hcall (fun r s' hr => by
          obtain ⟨b, rfl, hq⟩ := hr
          repeat (first | exact hq | exact wpAny_pure hq | exact wpAny_truthy_bool hq | (refine wpAny_bind (m := truthy (.bool _)) (wpAny_truthy_bool ?_)) | wp_step)) fun _ _ e => e)))
    | wp_step)
/-- x.__ne__(b), where the class has its own __eq__ and object's __ne__ -/
theorem tryNe_K {Q : Option Value → Shared → Prop} (hu : A.units + 1 < cLine) (X : K.In s.heap) (I : InstAt s.heap x ox C od) (hs : findIn K (.ref C) "__ne__" = some (some (.builtin "object.__ne__"))) (ho : subIn K (.ref C) (.type "object") = some true)
    (he : findIn K (.ref C) "__eq__" = some (some (.ref f))) (hf : isFn K (.ref f) = true)
    (h : wpAny (model prog w) A.in1 (call (.ref f) [.ref x, b]) (fun v s' => ∃ c, v = .bool c ∧ Q (some (.bool (!c))) s') E s) : wpAny (model prog w) A (tryCompare (.ref x) "__ne__" b) Q E s := by
  simp only [tryCompare]
  refine wpAny_bind (ifNe_K X I hs (wpAny_call (codeAny_call_builtin F.cmp_object.ne.plain F.cmpEntry_ne
    (check_slot F.cmpKind_ne F.cmpSplit_ne (I.type.andThen (looks_subIn X ho)) (F.cmpArgs_ne _ _)
      (objNe_K (A := A.in1) X I he hf hu (wpAny_mono h (fun v s' hv => ?_) fun _ _ e => e))))))
  obtain ⟨b, rfl, hq⟩ := hv
  first | exact ⟨b, rfl, wpAny_pure hq⟩ | exact ⟨b, rfl, wpAny_pure (wpAny_pure hq)⟩ | exact ⟨b, rfl, hq⟩
/-- x != b -/
theorem ne_K {Q : Value → Shared → Prop} (hu : A.units + 1 < cLine) (X : K.In s.heap) (I : InstAt s.heap x ox C od) (hb : Looks (model prog w) s.heap (typeOf b) tb) (hn : notFirst K C tb = true) (hs : findIn K (.ref C) "__ne__" = some (some (.builtin "object.__ne__"))) (ho : subIn K (.ref C) (.type "object") = some true)
    (he : findIn K (.ref C) "__eq__" = some (some (.ref f))) (hf : isFn K (.ref f) = true)
    (h : wpAny (model prog w) A.in1 (call (.ref f) [.ref x, b]) (fun v s' => ∃ c, v = .bool c ∧ Q (.bool (!c)) s') E s) : wpAny (model prog w) A (compareOp .NotEq (.ref x) b) Q E s := by
  have one : wpAny (model prog w) A (tryCompare (.ref x) (cmpInfo .NotEq).2.1 b) (fun r s' => ∃ v, r = some v ∧ Q v s') E s :=
    tryNe_K hu X I hs ho he hf (wpAny_mono h (fun v s' ⟨c, e, q⟩ => ⟨c, e, _, rfl, q⟩) fun _ _ e => e)
  unfold compareOp
  unfold richCompare
  simp only [oneThing_ref]
  refine wpAny_holding (wpAny_bind (wpAny_cRoomFor (by omega) ?_))
  refine wpAny_bind (I.type.here (wpAny_bind (hb.here ?_)))
  split
  · rename_i q
    have e : subIn K tb (.ref C) = some false := by
      rcases Bool.or_eq_true_iff.mp hn with e | e
      · rw [beq_iff_eq.mp e] at q; simp at q
      · exact beq_iff_eq.mp e
    refine wpAny_bind ((looks_subIn X e).here ?_)
    simp only [Bool.false_eq_true, if_false]
    refine wpAny_bind (wpAny_mono one (fun r s' z => ?_) fun _ _ e => e)
    obtain ⟨v, rfl, hq⟩ := z
    exact wpAny_pure hq
  · refine wpAny_bind (wpAny_pure ?_)
    simp only [Bool.false_eq_true, if_false]
    refine wpAny_bind (wpAny_mono one (fun r s' z => ?_) fun _ _ e => e)
    obtain ⟨v, rfl, hq⟩ := z
    exact wpAny_pure hq
end
end LL
namespace LL
open PySem PySem.Spec PyProof.Rows L2
section
variable {T : Tab} {CM : Str → Option Addr} {R : Rc} {n : Nat} {X : Cx} {s : Sk} {W : WX}
/-! ### comparisons -/
/-- the type of what stands on the right -/
theorem right_ok {pins : List (Addr × Obj)} {st : Shared} {σ : L2.St} {H : Hp} {ρ : List Addr} {ch : CH} {dx dy : D} {x y : V} {u : Value} {a Ca ax : Addr} {fs : List (Str × V)} (I : Inv X pins σ H st) (rh : RH X.K CM ρ ch H) (rx : RV X.K CM ρ H dx x) (ry : RV X.K CM ρ H dy y) (ru : RelV y u) (ex : x = .ref a) (hx : H a = some (.ins Ca ax fs)) (h : rightOf dx dy ch = true) :
    ∃ tb, PySem.W.Looks (model X.prog X.w) st.heap (typeOf u) tb ∧ PySem.W.notFirst X.K Ca tb = true := by
  have nm : ∀ t, tyName ch dy = some t → t ∈ ["NoneType", "bool", "int", "str", "tuple", "list", "dict"] → ∃ tb, PySem.W.Looks (model X.prog X.w) st.heap (typeOf u) tb ∧ PySem.W.notFirst X.K Ca tb = true := fun t e m => by
    obtain ⟨P, Z, hp, _⟩ := kit_of I ru (tyName_ok rh ry e)
    exact ⟨_, Z.ty _ _ I.kIn hp, by unfold PySem.W.notFirst; rw [types_sub m]; simp⟩
  cases dy with
  | non => exact nm _ rfl (by simp)
  | bl b => exact nm _ rfl (by simp)
  | int i => exact nm _ rfl (by simp)
  | str z => exact nm _ rfl (by simp)
  | tup ds => exact nm _ rfl (by simp)
  | ty t => cases h
  | cl c => cases h
  | ref m =>
    unfold rightOf at h
    dsimp only at h
    split at h
    · rename_i c' fs' e
      split at h
      · rename_i k
        split at h
        · rename_i c fs2 e2
          cases ry with
          | ref hm =>
            cases rx with
            | ref hk =>
              cases ex
              cases rh.ob _ _ _ e hm with
              | ins hC1 hH1 _ _ =>
                generalize hq : CO.ins c fs2 = q at e2
                cases rh.ob _ _ _ e2 hk with
                | @ins _ C2 dx2 ns2 ds2 vs2 _ hC2 hH2 _ _ =>
                  cases hq
                  rw [hx] at hH2; cases hH2
                  rw [beq_iff_eq.mp h] at hC2
                  rw [hC1] at hC2; cases hC2
                  obtain ⟨od, J⟩ := inst_at I hH1
                  cases (show u = Value.ref _ from ru)
                  exact ⟨_, J.type, by unfold PySem.W.notFirst; simp⟩
                | _ => cases hq
        · cases h
      · cases h
    · rename_i e
      exact nm "list" (by simp only [tyName, e]) (by simp)
    · rename_i e
      exact nm "list" (by simp only [tyName, e]) (by simp)
    · rename_i e
      exact nm "dict" (by simp only [tyName, e]) (by simp)
    · rename_i e
      exact nm "dict" (by simp only [tyName, e]) (by simp)
    · cases h
theorem cmpO_ok (S : Sound T CM R n) (C : Ck T CM X s n W) (hu : X.A.units + 65 < cLine) (op : CmpOp) : OpS X CM W (compareOp op) (cmpO T R op) := by
  intro pins st σ H ρ ch dx dy x y u v Q I ru rv rx ry hh h
  unfold cmpO at h
  cases hm : cmpM op with
  | none => rw [hm] at h; exact cmp_ok hu op pins st σ H ρ ch dx dy x y u v Q I ru rv rx ry hh h
  | some m =>
    rw [hm] at h
    dsimp only at h
    cases hk : methOf T m dx ch with
    | none => rw [hk] at h; exact cmp_ok hu op pins st σ H ρ ch dx dy x y u v Q I ru rv rx ry hh h
    | some key =>
      rw [hk] at h
      dsimp only at h
      obtain ⟨a, Ca, ax, fs, f, rfl, hH, cl, hcm, M, hn⟩ := methOf_ok C hh rx hk
      split at h
      · rename_i hr
        obtain ⟨tb, L, nf⟩ := right_ok I hh rx ry rv rfl hH hr
        obtain ⟨od, J⟩ := inst_at I hH
        cases (show u = Value.ref a from ru)
        have hname : (cmpInfo op).2.1 = m ∧ compareOp op (.ref a) v = richCompare op (.ref a) v := by
          cases op <;> first
            | (cases hm; exact ⟨rfl, rfl⟩)
            | cases hm
        rw [hname.2]
        obtain ⟨fm, F⟩ := I.fr
        refine PySem.W.cmp_K (by omega) F I.ok.mod.kin J L nf (by rw [hname.1]; exact M.at_) M.fn ?_
        refine opM_run S C (roomX C) rfl rfl hcm I hh (.cons rx (.cons ry .nil)) (.cons rfl (.cons rv .nil)) h fun u1 s1 v1 H1 ρ1 d c I1 r1 m1 k1 hh1 rv1 p1 => ?_
        cases rv1 with
        | bl b =>
          cases (show u1 = Value.bool b from r1)
          exact ⟨.bl b, H1, I1, rfl, p1.ok hh1 (.bl b)⟩
        | _ => exact p1.elim
      · exact h.elim
theorem methOf_cls {m key : Str} {d : D} {ch : CH} (h : methOf T m d ch = some key) : ∃ n c fs, d = .ref n ∧ ch.get n = some (.ins c fs) ∧ T.mts.lookup (c, m) = some key := by
  unfold methOf at h
  split at h
  · split at h
    · split at h
      · rename_i e _
        exact ⟨_, _, _, rfl, e, h⟩
      · cases h
    · cases h
  · cases h
theorem neO_ok (S : Sound T CM R n) (C : Ck T CM X s n W) (hu : X.A.units + 65 < cLine) : OpS X CM W (compareOp .NotEq) (cmpR T R .NotEq) := by
  intro pins st σ H ρ ch dx dy x y u v Q I ru rv rx ry hh h
  unfold cmpR at h
  dsimp only at h
  cases hk : methOf T "__eq__" dx ch with
  | none => rw [hk] at h; exact cmp_ok hu .NotEq pins st σ H ρ ch dx dy x y u v Q I ru rv rx ry hh h
  | some key =>
    rw [hk] at h
    dsimp only at h
    obtain ⟨a, Ca, ax, fs, f, rfl, hH, cl, hcm, M, hn⟩ := methOf_ok C hh rx hk
    obtain ⟨n0, c0, fs0, rfl, hg0, hl0⟩ := methOf_cls hk
    obtain ⟨C1, e1, q1, q2⟩ := C.tab.ne _ _ hl0
    obtain rfl : C1 = Ca := by
      cases rx with
      | ref hr =>
        cases hh.ob _ _ _ hg0 hr with
        | ins hC hH2 _ _ =>
          rw [hH] at hH2; cases hH2
          rw [hC] at e1; exact (Option.some.inj e1).symm
    split at h
    · rename_i hr
      obtain ⟨tb, L, nf⟩ := right_ok I hh rx ry rv rfl hH hr
      obtain ⟨od, J⟩ := inst_at I hH
      cases (show u = Value.ref a from ru)
      refine ne_K (by omega) I.kIn J L nf q1 q2 M.at_ M.fn ?_
      refine opM_run S C (roomI C) rfl rfl hcm I hh (.cons rx (.cons ry .nil)) (.cons rfl (.cons rv .nil)) h fun u1 s1 v1 H1 ρ1 d c I1 r1 m1 k1 hh1 rv1 p1 => ?_
      cases rv1 with
      | bl b =>
        cases (show u1 = Value.bool b from r1)
        exact ⟨b, rfl, .bl (!b), H1, I1, rfl, p1.ok hh1 (.bl (!b))⟩
      | _ => exact p1.elim
    · exact h.elim
theorem keyD_ok {K : PySem.W.Frag} {ρ : List Addr} {H : Hp} {d : D} {v : V} {k : L2.Key} (r : RV K CM ρ H d v) (h : keyD d = some k) : v = L2.kV k := by
  cases r <;> first
    | (simp only [keyD] at h; cases h; rfl)
    | (simp [keyD] at h)
theorem dkOf_ok {K : PySem.W.Frag} {ρ : List Addr} {H : Hp} {ch : CH} {d : D} {v : V} {kvs : List (L2.Key × D)} (rh : RH K CM ρ ch H) (r : RV K CM ρ H d v) (h : dkOf d ch = some kvs) : ∃ a ws, v = .ref a ∧ Rd H a (.dK ws) ∧ RKs K CM ρ H kvs ws := by
  unfold dkOf at h
  split at h
  · cases r with
    | ref hr =>
      split at h
      · rename_i e
        cases h
        cases rh.ob _ _ _ e hr with
        | dk h1 rr => exact ⟨_, _, rfl, .inl h1, rr⟩
      · rename_i e
        cases h
        cases rh.ob _ _ _ e hr with
        | fk h1 rr => exact ⟨_, _, rfl, .inr ⟨_, h1⟩, rr⟩
      · cases h
  · cases h
theorem dgetR {H : Hp} {a : Addr} {kvs : List (L2.Key × V)} {k : L2.Key} (e : Rd H a (.dK kvs)) : DGet H a (L2.kV k) (L2.valV kvs k) := .inl ⟨kvs, k, e, rfl, rfl⟩
theorem inK_ok {pins : List (Addr × Obj)} {st : Shared} {σ : L2.St} {H : Hp} {ρ : List Addr} {ch : CH} {dx dy : D} {x y : V} {u v : Value} {Q : VK} {kvs : List (L2.Key × D)} {k : L2.Key} (hu : X.A.units + 65 < cLine) (I : Inv X pins σ H st) (ru : RelV x u) (rv : RelV y v) (rx : RV X.K CM ρ H dx x) (ry : RV X.K CM ρ H dy y) (hh : RH X.K CM ρ ch H) (h1 : dkOf dy ch = some kvs) (h2 : keyD dx = some k) :
    (Q (.bl (valD kvs k).isSome) H → wpAny (model X.prog X.w) X.A (compareOp .In u v) (EP X pins σ Q) X.xe st) ∧ (Q (.bl (!(valD kvs k).isSome)) H → wpAny (model X.prog X.w) X.A (compareOp .NotIn u v) (EP X pins σ Q) X.xe st) := by
  obtain ⟨a, ws, rfl, hH, rr⟩ := dkOf_ok hh ry h1
  have ek := keyD_ok rx h2
  subst ek
  cases (show v = Value.ref a from rv)
  have hv : (valD kvs k).isSome = (L2.valV ws k).isSome := by
    rcases rr.val k with ⟨d, w, e1, e2, _⟩ | ⟨e1, e2⟩ <;> rw [e1, e2] <;> rfl
  rw [hv]
  exact ⟨fun q => d_in (by omega) I (dgetR hH) ru fun s' I' => ⟨.bl _, H, I', rfl, q⟩, fun q => d_notIn (by omega) I (dgetR hH) ru fun s' I' => ⟨.bl _, H, I', rfl, q⟩⟩
theorem dtOf_ok {K : PySem.W.Frag} {ρ : List Addr} {H : Hp} {ch : CH} {d : D} {v : V} {kvs : List (List L2.Key × D)} (rh : RH K CM ρ ch H) (r : RV K CM ρ H d v) (h : dtOf d ch = some kvs) : ∃ a ws, v = .ref a ∧ H a = some (.dT ws) ∧ RKs K CM ρ H kvs ws := by
  unfold dtOf at h
  split at h
  · cases r with
    | ref hr =>
      split at h
      · rename_i e
        cases h
        cases rh.ob _ _ _ e hr with
        | dt h1 rr => exact ⟨_, _, rfl, h1, rr⟩
      · cases h
  · cases h
theorem inT_ok (hu : X.A.units + 65 < cLine) : OpS X CM W (compareOp .In) (inT .In fun b => b) ∧ OpS X CM W (compareOp .NotIn) (inT .NotIn fun b => !b) := by
  constructor
  · intro pins st σ H ρ ch dx dy x y u v Q I ru rv rx ry hh h
    unfold inT at h
    cases hd : dtOf dy ch with
    | none => rw [hd] at h; exact cmp_ok hu .In pins st σ H ρ ch dx dy x y u v Q I ru rv rx ry hh h
    | some kvs =>
      rw [hd] at h
      dsimp only at h
      cases hk : keyT dx with
      | none => rw [hk] at h; exact h.elim
      | some k =>
        rw [hk] at h
        obtain ⟨a, ws, rfl, hH, rr⟩ := dtOf_ok hh ry hd
        obtain ⟨b, rfl, hb⟩ := keyT_ok rx hk
        cases (show v = Value.ref a from rv)
        have hv : (valD kvs k).isSome = (L2.valV ws k).isSome := by
          rcases rr.val k with ⟨d, w, e1, e2, _⟩ | ⟨e1, e2⟩ <;> rw [e1, e2] <;> rfl
        have q := h.ok hh (.bl (valD kvs k).isSome)
        rw [hv] at q
        exact d_in (by omega) I (DGet.t hH hb) ru fun s' I' => ⟨.bl _, H, I', rfl, q⟩
  · intro pins st σ H ρ ch dx dy x y u v Q I ru rv rx ry hh h
    unfold inT at h
    cases hd : dtOf dy ch with
    | none => rw [hd] at h; exact cmp_ok hu .NotIn pins st σ H ρ ch dx dy x y u v Q I ru rv rx ry hh h
    | some kvs =>
      rw [hd] at h
      dsimp only at h
      cases hk : keyT dx with
      | none => rw [hk] at h; exact h.elim
      | some k =>
        rw [hk] at h
        obtain ⟨a, ws, rfl, hH, rr⟩ := dtOf_ok hh ry hd
        obtain ⟨b, rfl, hb⟩ := keyT_ok rx hk
        cases (show v = Value.ref a from rv)
        have hv : (valD kvs k).isSome = (L2.valV ws k).isSome := by
          rcases rr.val k with ⟨d, w, e1, e2, _⟩ | ⟨e1, e2⟩ <;> rw [e1, e2] <;> rfl
        have q := h.ok hh (.bl (!(valD kvs k).isSome))
        rw [hv] at q
        exact d_notIn (by omega) I (DGet.t hH hb) ru fun s' I' => ⟨.bl _, H, I', rfl, q⟩
theorem subTail_own {prog : Program} {w : World} {A : Around} {E : Value → Shared → Prop} {st : Shared} {a b : Expr} {o i : Value} {t id : String} {Q : Value → Shared → Prop} (hl : typeLookup (.type t) "__getitem__" = pure (some (.builtin id))) (hb : isSlice b = false) (hT : st.TypeIs o t)
    (h : wpAny (model prog w) A (getItem o i) Q E st) : wpAny (model prog w) A (subscriptTail a b o i) Q E st := by
  have fin : wpAny (model prog w) A (subscripted b false o i) (fun r s₃ => wpAny (model prog w) A (letTemporaryGo a o r >>= fun _ => pure r) Q E s₃) E st := by
    rw [plainIx hb]
    exact wpAny_operating (wpAny_mono h (fun r s₃ h₃ => wpAny_bind (wpAny_letTemporaryGo (wpAny_pure h₃))) fun _ _ x => x)
  unfold subscriptTail
  refine wpAny_bind ?_
  rw [getitemInPython_of_ne hT.not_modules]
  refine wpAny_bind (wpAny_specialOf hT hl ?_)
  first
    | exact wpAny_pure (wpAny_bind fin)
    | exact wpAny_bind (wpAny_pure (wpAny_bind fin))
    | exact wpAny_bind fin
theorem cmpR_ok (S : Sound T CM R n) (C : Ck T CM X s n W) (hu : X.A.units + 65 < cLine) (op : CmpOp) : OpS X CM W (compareOp op) (cmpR T R op) := by
  have hin : ∀ (o : CmpOp) (g : Bool → Bool), (∀ a b, compareOp o a b = (do return .bool (g (← contains b a)))) → (∀ x y ch, cmpR T R o x y ch = match methOf T "__contains__" y ch with
    | some key => (opM T R key [y, x] ch).bind fun d c => (tr d c).bind fun b c => .ok (.bl (g b)) c
    | none => (match dkOf y ch with
      | some kvs => (match keyD x with | some k => .ok (.bl (g (valD kvs k).isSome)) ch | none => .bad)
      | none => inT o g x y ch)) → OpS X CM W (compareOp o) (inT o g) → (∀ pins st σ H ρ ch dx dy x y u v Q kvs k, Inv X pins σ H st → RelV x u → RelV y v → RV X.K CM ρ H dx x → RV X.K CM ρ H dy y → RH X.K CM ρ ch H → dkOf dy ch = some kvs → keyD dx = some k → Q (.bl (g (valD kvs k).isSome)) H → wpAny (model X.prog X.w) X.A (compareOp o u v) (EP X pins σ Q) X.xe st) → OpS X CM W (compareOp o) (cmpR T R o) := fun o g hg hr hT hin => by
    intro pins st σ H ρ ch dx dy x y u v Q I ru rv rx ry hh h
    rw [hr] at h
    cases hk : methOf T "__contains__" dy ch with
    | none =>
      rw [hk] at h
      dsimp only at h
      cases hd : dkOf dy ch with
      | none => rw [hd] at h; exact hT pins st σ H ρ ch dx dy x y u v Q I ru rv rx ry hh h
      | some kvs =>
        rw [hd] at h
        dsimp only at h
        cases hkk : keyD dx with
        | none => rw [hkk] at h; exact h.elim
        | some k => rw [hkk] at h; exact hin pins st σ H ρ ch dx dy x y u v Q kvs k I ru rv rx ry hh hd hkk (h.ok hh (.bl _))
    | some key =>
      rw [hk] at h
      dsimp only at h
      obtain ⟨a, Ca, ax, fs, f, rfl, hH, cl, hcm, M, hn⟩ := methOf_ok C hh ry hk
      obtain ⟨od, J⟩ := inst_at I hH
      cases (show v = Value.ref a from rv)
      rw [hg]
      obtain ⟨fm, F⟩ := I.fr
      refine wpAny_bind (PySem.W.contains_K F I.ok.mod.kin J M.at_ M.fn ?_)
      refine opM_run S C (roomX C) rfl rfl hcm I hh (.cons ry (.cons rx .nil)) (.cons rfl (.cons ru .nil)) h fun u1 s1 v1 H1 ρ1 d c I1 r1 m1 k1 hh1 rv1 p1 => ?_
      exact tr_run I1 hh1 rv1 r1 p1 fun b s2 I2 p2 => wpAny_pure ⟨.bl (g b), H1, I2, rfl, p2.ok hh1 (.bl _)⟩
  cases op with
  | In => exact hin .In (fun b => b) (fun _ _ => rfl) (fun _ _ _ => rfl) (inT_ok hu).1 fun pins st σ H ρ ch dx dy x y u v Q kvs k I ru rv rx ry hh h1 h2 q => (inK_ok hu I ru rv rx ry hh h1 h2).1 q
  | NotIn => exact hin .NotIn (fun b => !b) (fun _ _ => rfl) (fun _ _ _ => rfl) (inT_ok hu).2 fun pins st σ H ρ ch dx dy x y u v Q kvs k I ru rv rx ry hh h1 h2 q => (inK_ok hu I ru rv rx ry hh h1 h2).2 q
  | NotEq => exact neO_ok S C hu
  | _ => exact cmpO_ok S C hu _
/-! ### [] -/
theorem ixR_ok (S : Sound T CM R n) (C : Ck T CM X s n W) (a b : Expr) (hb : isSlice b = false) : OpS X CM W (fun o i => subscriptTail a b o i) (ixR T R) := by
  intro pins st σ H ρ ch dx dy x y u v Q I ru rv rx ry hh h
  unfold ixR at h
  cases hk : methOf T "__getitem__" dx ch with
  | none =>
    rw [hk] at h
    dsimp only at h
    cases hd : dkOf dx ch with
    | none =>
      rw [hd] at h
      dsimp only at h
      unfold ixT at h
      cases hd2 : dtOf dx ch with
      | none => rw [hd2] at h; exact ix_ok a b hb pins st σ H ρ ch dx dy x y u v Q I ru rv rx ry hh h
      | some kvs =>
        rw [hd2] at h
        dsimp only at h
        cases hkk : keyT dy with
        | none => rw [hkk] at h; exact h.elim
        | some k =>
          rw [hkk] at h
          obtain ⟨p, ws, rfl, hH, rr⟩ := dtOf_ok hh rx hd2
          obtain ⟨kb, rfl, hkb⟩ := keyT_ok ry hkk
          cases (show u = Value.ref p from ru)
          rcases rr.val k with ⟨d, w, e1, e2, r1⟩ | ⟨e1, e2⟩
          · have h' : Post X.K CM (rV X.K CM) (fun c d H => W c d σ H) ρ H Q (.ok d ch) := by
              simp only [Option.bind, e1] at h; exact h
            have g : DGet H p (.ref kb) (some w) := by rw [← e2]; exact DGet.t hH hkb
            have hu2 : X.A.units + 1 < cLine := by have := C.room.un; omega
            exact subTail_own PySem.F.slot_dict_getitem.lookup hb (dict_typeIs I g) (d_getItem hu2 I g rv fun w' s' I' rw' => ⟨w, H, I', rw', h'.ok hh r1⟩)
          · simp only [Option.bind, e1] at h; exact h.elim
    | some kvs =>
      rw [hd] at h
      dsimp only at h
      cases hkk : keyD dy with
      | none => rw [hkk] at h; exact h.elim
      | some k =>
        rw [hkk] at h
        obtain ⟨p, ws, rfl, hH, rr⟩ := dkOf_ok hh rx hd
        have ek := keyD_ok ry hkk
        subst ek
        cases (show u = Value.ref p from ru)
        rcases rr.val k with ⟨d, w, e1, e2, r1⟩ | ⟨e1, e2⟩
        · have h' : Post X.K CM (rV X.K CM) (fun c d H => W c d σ H) ρ H Q (.ok d ch) := by
            simp only [Option.bind, e1] at h; exact h
          have g : DGet H p (L2.kV k) (some w) := by rw [← e2]; exact dgetR hH
          have hu2 : X.A.units + 1 < cLine := by have := C.room.un; omega
          exact subTail_own PySem.F.slot_dict_getitem.lookup hb (dict_typeIs I g) (d_getItem hu2 I g rv fun w' s' I' rw' => ⟨w, H, I', rw', h'.ok hh r1⟩)
        · simp only [Option.bind, e1] at h; exact h.elim
  | some key =>
    rw [hk] at h
    dsimp only at h
    obtain ⟨p, Ca, ax, fs, f, rfl, hH, cl, hcm, M, hn⟩ := methOf_ok C hh rx hk
    obtain ⟨od, J⟩ := inst_at I hH
    cases (show u = Value.ref p from ru)
    have h' : Post X.K CM (rV X.K CM) (fun c d H => W c d σ H) ρ H Q ((opM T R key [dx, dy] ch).bind fun d c => .ok d c) := by
      revert h
      cases opM T R key [dx, dy] ch <;> exact fun z => z
    have hfn : PySem.W.fnIn X.K f = true := by
      unfold opM at h
      cases hp : patOf T key [dx, dy].length [] with
      | none => rw [hp] at h; exact h.elim
      | some pt =>
        obtain ⟨i, hi, _⟩ := patOf_ok hp
        obtain ⟨⟨f', fd, oc, od', dV, kV, doc, pm, an, cdv, ct, osl, hc, _, lk, _⟩, _⟩ := C.tab.fn key i hi
        rw [hcm] at hc; cases hc
        unfold PySem.W.fnIn
        rw [lk]
    obtain ⟨fm, F⟩ := I.fr
    refine PySem.W.sub_K F I.ok.mod.kin J M.at_ hfn M.fn ?_ (by cases b <;> first | with_unfolding_all rfl | (exact absurd hb (by simp [isSlice])))
    exact opM_run S C (roomI C) rfl rfl hcm I hh (.cons rx (.cons ry .nil)) (.cons rfl (.cons rv .nil)) h' fun u1 s1 v1 H1 ρ1 d c I1 r1 m1 k1 hh1 rv1 p1 => ⟨v1, H1, I1, r1, p1.ok hh1 rv1⟩
end
end LL
namespace PySem.W
open PySem PySem.Calls PyProof.Rows Builtin
section
variable {prog : Program} {w : World} {A : Around} {E : Value → Shared → Prop} {s : Shared} {K : Frag} {h₀ : Heap} {L x : Addr} {ox : Obj} {C : Addr} {od : Option Obj} {f : Addr} {m : Str → Option Value}
/-- own + a list -/
theorem add_KL {b : Addr} {Q : Value → Shared → Prop} (F : Fr h₀ L s.heap m) (X₀ : K.In h₀) (I : InstAt s.heap x ox C od) (hb : Looks (model prog w) s.heap (typeOf (.ref b)) (.type "list")) (hc : selfFirst K C = true)
    (hs : findIn K (.ref C) "__add__" = some (some (.ref f))) (hf : isFn K (.ref f) = true)
    (h : wpAny (model prog w) A (call (.ref f) [.ref x, .ref b]) (CmpBack Q) E s) : wpAny (model prog w) A (binaryOp .Add (.ref x) (.ref b)) Q E s := by
  have X := X₀.keeps F.keep
  obtain ⟨cd, hcd, hm⟩ := any_some hc
  obtain ⟨rest, hm⟩ : ∃ rest, cd.mro = .ref C :: rest := by
    cases q : cd.mro with
    | nil => rw [q] at hm; cases hm
    | cons a r => rw [q] at hm; exact ⟨r, by rw [List.head?_cons] at hm; cases (beq_iff_eq.mp hm); rfl⟩
  have ne : (Value.ref C == Value.type "list") = false := rfl
  unfold binaryOp
  refine wpAny_holding (wpAny_bind ?_)
  unfold binaryOp1
  refine wpAny_bind (I.type.here (wpAny_bind (hb.here (wpAny_bind ((fills_K (nm := "add") X hcd hm hs).here ?_)))))
  simp only [ne, Bool.false_eq_true, if_false]
  rw [noFill_list_add]
  refine wpAny_bind (wpAny_pure ?_)
  simp only [Bool.and_false, Bool.false_eq_true, if_false, Bool.false_and]
  refine wpAny_bind (wpAny_pure ?_)
  simp only [Bool.false_eq_true, if_false]
  refine wpAny_bind (m := tryMethod (.ref x) _ (.ref b)) ?_
  unfold tryMethod
  refine wpAny_bind (special_fn X I hs (beq_iff_eq.mp hf) (wpAny_mono h (fun v s' hv => ?_) fun _ _ e => e))
  cases v <;> first | exact hv.elim | exact wpAny_pure (wpAny_pure (wpAny_pure hv))
end
end PySem.W
namespace LL
open PySem PySem.Spec PyProof.Rows L2
section
variable {T : Tab} {CM : Str → Option Addr} {R : Rc} {n : Nat} {X : Cx} {s : Sk} {W : WX}
theorem binR_ok (S : Sound T CM R n) (C : Ck T CM X s n W) (op : Operator) : OpS X CM W (binaryOp op) (binR T R op) := by
  intro pins st σ H ρ ch dx dy x y u v Q I ru rv rx ry hh h
  cases op with
  | Add =>
    unfold binR at h
    dsimp only at h
    cases hk : methOf T "__add__" dx ch with
    | none => rw [hk] at h; exact bin_ok .Add pins st σ H ρ ch dx dy x y u v Q I ru rv rx ry hh h
    | some key =>
      rw [hk] at h
      dsimp only at h
      obtain ⟨a, Ca, ax, fs, f, rfl, hH, cl, hcm, M, hn⟩ := methOf_ok C hh rx hk
      obtain ⟨n0, c0, fs0, rfl, hg0, hl0⟩ := methOf_cls hk
      obtain ⟨C1, e1, sf⟩ := C.tab.ad _ _ hl0
      obtain rfl : C1 = Ca := by
        cases rx with
        | ref hr =>
          cases hh.ob _ _ _ hg0 hr with
          | ins hC hH2 _ _ =>
            rw [hH] at hH2; cases hH2
            rw [hC] at e1; exact (Option.some.inj e1).symm
      split at h
      · rename_i hr
        unfold addOk at hr
        split at hr
        · rename_i m
          split at hr
          · rename_i ds e
            have ht : tyName ch (.ref m) = some "list" := by simp only [tyName, e]
            obtain ⟨P, Z, hp, _⟩ := kit_of I rv (tyName_ok hh ry ht)
            have L : PySem.W.Looks (model X.prog X.w) st.heap (typeOf v) (.type "list") := Z.ty _ _ I.kIn hp
            obtain ⟨od, J⟩ := inst_at I hH
            cases (show u = Value.ref a from ru)
            cases ry with
            | ref hm =>
              cases (show v = Value.ref _ from rv)
              obtain ⟨fm, F⟩ := I.fr
              refine PySem.W.add_KL F I.ok.mod.kin J L sf M.at_ M.fn ?_
              have h' : Post X.K CM (rV X.K CM) (fun c d H => W c d σ H) ρ H Q ((opM T R key [.ref n0, .ref m] ch).bind fun d c => .ok d c) := by
                revert h
                cases opM T R key [.ref n0, .ref m] ch <;> exact fun z => z
              refine opM_run S C (roomX C) rfl rfl hcm I hh (.cons rx (.cons (.ref hm) .nil)) (.cons rfl (.cons rfl .nil)) h' fun u1 s1 v1 H1 ρ1 d c I1 r1 m1 k1 hh1 rv1 p1 => ?_
              have q1 := p1.ok hh1 rv1
              have fin : EP X pins σ Q u1 s1 := ⟨v1, H1, I1, r1, q1⟩
              clear q1 p1 h' h
              cases u1 <;> first | exact fin | (exfalso; clear fin; cases rv1 <;> first | (obtain ⟨_, z⟩ := r1; cases z; done) | (cases r1; done))
          · cases hr
        · cases hr
      · exact h.elim
  | _ => exact bin_ok _ pins st σ H ρ ch dx dy x y u v Q I ru rv rx ry hh h
end
end LL
namespace LL
open PySem PySem.Spec PyProof.Rows L2
section
variable {T : Tab} {CM : Str → Option Addr} {R : Rc} {n : Nat} {X : Cx} {s : Sk} {W : WX}
theorem dc_post {ρ : List Addr} {H : Hp} {σ : L2.St} {env : En} {ch : CH} {Q : VK} {s' : Sk} {kx vx : Expr} {ifs : List Expr} {t : Tg} {vs : List Nat} {m : En → CH → Rs Itm} (re : RE X.K CM ρ H env σ) (rh : RH X.K CM ρ ch H) (ht : TgIn vs t)
    (h : Post X.K CM (rV X.K CM) (fun c d H => W c d σ H) ρ H Q ((m env ch).bind fun w c => (cmpD R s' t ifs kx vx (okW w) (wipeE env vs) c.sz w.ds (c.push (.dk []))).bind fun _ c2 => .ok (.ref c.sz) c2)) :
    tDc (tIt X.K CM W m) (gT X.K t) (fun σ H Q => ∃ ρ env ch, RE X.K CM ρ H env σ ∧ RH X.K CM ρ ch H ∧ Post X.K CM rB noX ρ H Q (evIfs R s' ifs env ch)) (tI X.K CM (fun _ _ _ _ => False) (R.E s' kx)) (tI X.K CM (fun _ _ _ _ => False) (R.E s' vx)) vs σ H Q := by
  refine ⟨ρ, env, ch, re, rh, h.bind fun w c ρ1 H1 J m1 k1 hh1 wk p1 => ?_⟩
  intro La hD
  have hl : ρ1.length = c.sz := hh1.len
  have hn := hh1.new (co := .dk []) hD (.dk upd_same .nil)
  have re1 := (re.mono m1 k1)
  refine ⟨fun i m H2 => m = w.ds.length - i ∧ i ≤ w.ds.length ∧ ∃ ρ2 ch2, Mo (ρ1 ++ [La]) ρ2 ∧ Keep H1 H2 ∧ RH X.K CM ρ2 ch2 H2 ∧ Post X.K CM (rV X.K CM) (fun c d H => W c d σ H) ρ2 H2 Q ((cmpD R s' t ifs kx vx (okW w) (wipeE env vs) c.sz (w.ds.drop i) ch2).bind fun _ c2 => .ok (.ref c.sz) c2),
    ⟨w.ds.length, by simp, Nat.zero_le _, ρ1 ++ [La], _, Mo.refl _, Keep.new hD, hn, by simpa using Post.mono (Mo.new La) (Keep.new hD) p1⟩, ?_⟩
  rintro i m H2 ⟨rfl, hi, ρ2, ch2, m2, k2, hh2, p2⟩
  have hD2 : ρ2[c.sz]? = some La := m2 _ _ (by rw [← hl]; simp)
  cases hk : okW w ch2 with
  | false =>
    exfalso
    cases hd : w.ds.drop i with
    | nil => rw [hd] at p2; unfold cmpD at p2; rw [hk] at p2; exact p2
    | cons d ds => rw [hd] at p2; unfold cmpD at p2; rw [hk] at p2; exact p2
  | true =>
    obtain ⟨w1, w2⟩ := wk i ρ2 ch2 H2 ((Mo.new La).trans m2) k2 hh2 hk
    cases hd : w.ds.drop i with
    | nil =>
      rw [hd] at p2
      unfold cmpD at p2
      rw [hk] at p2
      have hlen : w.ds.length ≤ i := by
        have := congrArg List.length hd
        rw [List.length_drop] at this
        simp at this
        omega
      exact .inl ⟨w2 hlen, Post.ok p2 hh2 (.ref hD2)⟩
    | cons d ds =>
      have hlt : i < w.ds.length := by
        have := congrArg List.length hd
        rw [List.length_drop] at this
        simp at this
        omega
      have hx : w.ds[i]? = some d := by
        have := congrArg (fun l => l[0]?) hd
        simpa using this
      have hds : w.ds.drop (i + 1) = ds := by
        have := congrArg List.tail hd
        simpa using this
      obtain ⟨go, yl⟩ := w1 d hx
      rw [hd] at p2
      unfold cmpD at p2
      rw [hk, if_pos rfl] at p2
      cases hb : bindT t d (wipeE env vs) with
      | none => rw [hb] at p2; exact p2.elim
      | some env2 =>
        rw [hb] at p2
        dsimp only at p2
        refine .inr ⟨go, fun H' => w.ds.length - (i + 1) = w.ds.length - (i + 1) ∧ i + 1 ≤ w.ds.length ∧ ∃ ρ2 ch2, Mo (ρ1 ++ [La]) ρ2 ∧ Keep H1 H' ∧ RH X.K CM ρ2 ch2 H' ∧ Post X.K CM (rV X.K CM) (fun c d H => W c d σ H) ρ2 H' Q ((cmpD R s' t ifs kx vx (okW w) (wipeE env vs) c.sz (w.ds.drop (i + 1)) ch2).bind fun _ c2 => .ok (.ref c.sz) c2),
          fun H' z => ⟨w.ds.length - (i + 1), by omega, z⟩, fun x H' y => ?_⟩
        obtain ⟨k3, hh3, rv⟩ := yl x H' y
        have re3 : RE X.K CM ρ2 H' (wipeE env vs) (L2.wipe σ vs) := RE.wipe (re1.mono ((Mo.new La).trans m2) (k2.trans k3)) vs
        refine bindT_ok hb rv re3 ht fun σ2 re4 hw => ⟨hw, ?_⟩
        rw [hds]
        have p3 := Post.mono (Mo.refl _) k3 p2
        have as : ∀ {α β γ : Type} (r : Rs α) (f : α → CH → Rs β) (g : β → CH → Rs γ), (r.bind f).bind g = r.bind fun a c => (f a c).bind g := fun r f g => by cases r <;> rfl
        rw [as] at p3
        have noexc : ∀ {α β : Type} {r : Rs α} {f : α → CH → Rs D} {Q' : β → Hp → Prop} {rel : Rel α β} {ρ : List Addr} {H : Hp}, Post X.K CM (rV X.K CM) (fun c d H => W c d σ H) ρ H Q (r.nx.bind f) →
            (∀ x ch' ρ' H' y, Mo ρ ρ' → Keep H H' → RH X.K CM ρ' ch' H' → rel ρ' H' x y → Post X.K CM (rV X.K CM) (fun c d H => W c d σ H) ρ' H' Q (f x ch') → Q' y H') → Post X.K CM rel noX ρ H Q' r := fun {α β r f Q' rel ρ H} hp g => by
          cases r with
          | ok a ch => exact fun ρ' H' b m' k' hh hr => g a ch ρ' H' b m' k' hh hr (Post.mono m' k' hp)
          | exc c fs ch => exact hp.elim
          | bad => exact hp
        have ifx : (evIfs R s' ifs env2 ch2) = (evIfs R s' ifs env2 ch2).nx := by
          unfold evIfs
          split
          · rfl
          · rename_i e
            cases R.T s' e env2 ch2 <;> rfl
          · rfl
        rw [ifx] at p3
        refine ⟨ρ2, env2, ch2, re4, hh3, noexc p3 fun b c4 ρ4 H4 b' m4 k4 hh4 e4 p4 => ?_⟩
        subst e4
        cases b with
        | false =>
          refine iteF ⟨rfl, hlt, ρ4, c4, m2.trans m4, (k2.trans k3).trans k4, hh4, ?_⟩
          exact p4
        | true =>
          rw [if_pos rfl, as] at p4
          refine iteT ⟨ρ4, env2, c4, re4.mono m4 k4, hh4, noexc p4 fun y c5 ρ5 H5 vy m5 k5 hh5 ry p5 => ?_⟩
          rw [as] at p5
          refine ⟨ρ5, env2, c5, (re4.mono m4 k4).mono m5 k5, hh5, noexc p5 fun z c6 ρ6 H6 vz m6 k6 hh6 rz p6 => ?_⟩
          split at p6
          · rename_i kk kvs ek e5
            split at p6
            · rename_i hlen
              have hD6 : ρ6[c.sz]? = some La := m6 _ _ (m5 _ _ (m4 _ _ hD2))
              cases hh6.ob _ _ _ e5 hD6 with
              | dk h1 rr =>
                refine ⟨_, kk, keyD_ok ry ek, h1, by rw [← rr.length]; exact hlen, rfl, hlt, ρ6, _, ((m2.trans m4).trans m5).trans m6, (((((k2.trans k3).trans k4).trans k5)).trans k6).trans (Keep.mut h1 fun z => z), hh6.mut hD6 h1 (fun z => z) (.dk upd_same ((rr.put rz).mono (Mo.refl _) (Keep.mut h1 fun z => z))), ?_⟩
                exact Post.mono (Mo.refl _) (Keep.mut h1 fun z => z) p6
            · exact p6.elim
          · exact p6.elim
theorem dc_ok (S : Sound T CM R n) (C : Ck T CM X s n W) (kx vx tg iter : Expr) (ifs : List Expr) (scope : Scope) (pos : Pos) : IE X CM W (.DictComp kx vx [⟨tg, iter, ifs, 0⟩] scope pos) (evDc T R s kx vx tg iter ifs scope) := by
  cases hc : (blkC s.N s.sc scope (ownOf s.N scope) && !isSet iter) with
  | false => exact PE.no fun σ H Q ⟨ρ, env, ch, re, rh, h⟩ => by unfold evDc at h; rw [hc] at h; exact h
  | true =>
    obtain ⟨h1, h2⟩ := Bool.and_eq_true_iff.mp hc
    have bk := blkOk_by h1
    cases ht : tgOf (blkS s scope) ((ownOf s.N scope).map (·.2)) tg with
    | none => exact PE.no fun σ H Q ⟨ρ, env, ch, re, rh, h⟩ => by unfold evDc at h; rw [hc, if_pos rfl, ht] at h; exact h
    | some t =>
      have C' := fun st H A cl fp => C.blk (scope := scope) bk.kind st H A cl fp
      refine PE.of (pe_dc (wi := tIt X.K CM W (evIt T R s (tuT t) iter)) (g := gT X.K t) (tt := fun σ H Q => ∃ ρ env ch, RE X.K CM ρ H env σ ∧ RH X.K CM ρ ch H ∧ Post X.K CM rB noX ρ H Q (evIfs R (blkS s scope) ifs env ch)) (tk := tI X.K CM (fun _ _ _ _ => False) (R.E (blkS s scope) kx)) (tv := tI X.K CM (fun _ _ _ _ => False) (R.E (blkS s scope) vx)) C.calm (by rw [C.N]; exact C.nd) (evIt_ok S C tg iter (tgOf_tu ht)) (by rw [C.N, C.sc]; exact bk) (fun st H A cl fp => (tgOf_ok (C' st H A cl fp) ht).1) (fun st H A cl fp => evIfs_ok S (C' st H A cl fp) ifs) (fun st H A cl fp => S.sE _ _ _ (C' st H A cl fp) kx) (fun st H A cl fp => S.sE _ _ _ (C' st H A cl fp) vx) (isSet_ok (by simpa using h2) _)) fun σ H Q ⟨ρ, env, ch, re, rh, h⟩ => ?_
      unfold evDc at h
      rw [hc, if_pos rfl, ht] at h
      exact dc_post re rh (tgOf_in ht) h
theorem lrgArg_ok {T : Tab} {s : Sk} {f : Str} {es : List Expr} {kws : List Keyword} {ab : Expr × Expr} (h : lrgArg T s f es kws = some ab) :
    ∃ (g : Str) (p1 p2 : Pos), f = "list" ∧ g = "range" ∧ es = [.Call (.Name g p1) [ab.1, ab.2] [] p2] ∧ kws = [] ∧ isBt T s f = true ∧ isBt T s g = true ∧ isStar ab.1 = false ∧ isStar ab.2 = false := by
  unfold lrgArg at h
  split at h
  · rename_i g p1 a b p2
    split at h
    · rename_i hc
      cases h
      obtain ⟨c1, hc⟩ := Bool.and_eq_true_iff.mp hc
      obtain ⟨c2, hc⟩ := Bool.and_eq_true_iff.mp hc
      obtain ⟨c3, hc⟩ := Bool.and_eq_true_iff.mp hc
      obtain ⟨c4, hc⟩ := Bool.and_eq_true_iff.mp hc
      obtain ⟨c5, c6⟩ := Bool.and_eq_true_iff.mp hc
      exact ⟨g, p1, p2, of_decide_eq_true c1, of_decide_eq_true c2, rfl, rfl, c3, c4, by simpa using c5, by simpa using c6⟩
    · cases h
  · cases h
theorem rvs_rg {K : PySem.W.Frag} {ρ : List Addr} {H : Hp} {i : Int} : ∀ l : List Nat, RVs K CM ρ H (l.map fun (k : Nat) => .int (i + (k : Int))) (l.map fun (k : Nat) => V.int (i + (k : Int)))
  | [] => .nil
  | k :: l => .cons (.int _) (rvs_rg l)
theorem lrg_ok (S : Sound T CM R n) (C : Ck T CM X s n W) {f : Str} {fp pos : Pos} {es : List Expr} {kws : List Keyword} {ab : Expr × Expr} (hq : lrgArg T s f es kws = some ab) :
    IE X CM W (.Call (.Name f fp) es kws pos) fun env ch => (R.E s ab.1 env ch).bind fun x c => (R.E s ab.2 env c).bind fun y c => lrg x y c := by
  obtain ⟨g, p1, p2, hf, hg, rfl, rfl, b1, b2, s1, s2⟩ := lrgArg_ok hq
  subst hf hg
  obtain ⟨g1, m1⟩ := isBt_ok C b1
  obtain ⟨g2, m2⟩ := isBt_ok C b2
  have hp : (backTo p2 (starEach [ab.2] X.env)).any (·.1) = false := by rw [star_of s2]; rfl
  refine PE.of (pe_listRg C.calm g1 m1 (prg_2 g2 m2 (S.sE X s W C ab.1) (S.sE X s W C ab.2) (star_of s1) (star_of s2) hp) (star_of rfl)) fun σ H Q ⟨ρ, env, ch, re, rh, h⟩ => ?_
  show tI X.K CM W (R.E s ab.1) σ H _
  refine ⟨ρ, env, ch, re, rh, h.bind fun x c ρ1 H1 v m1 k1 hh1 r1 p1 => ?_⟩
  refine ⟨ρ1, env, c, re.mono m1 k1, hh1, p1.bind fun y c2 ρ2 H2 w m2 k2 hh2 r2 p2 => ?_⟩
  unfold lrg at p2
  split at p2
  · rename_i i j
    split at p2
    · rename_i hb
      cases r1
      cases r2
      refine ⟨i, j, rfl, rfl, ⟨by omega, by omega, by omega, by omega, by omega⟩, fun q hq => ?_⟩
      exact p2.newL hh2 hq (rvs_rg _)
    · exact p2.elim
  · exact p2.elim
theorem lrgArg1_ok {T : Tab} {s : Sk} {f : Str} {es : List Expr} {kws : List Keyword} {a : Expr} (h : lrgArg1 T s f es kws = some a) :
    ∃ (g : Str) (p1 p2 : Pos), f = "list" ∧ g = "range" ∧ es = [.Call (.Name g p1) [a] [] p2] ∧ kws = [] ∧ isBt T s f = true ∧ isBt T s g = true ∧ isStar a = false := by
  unfold lrgArg1 at h
  split at h
  · rename_i g p1 a0 p2
    split at h
    · rename_i hc
      cases h
      obtain ⟨c1, hc⟩ := Bool.and_eq_true_iff.mp hc
      obtain ⟨c2, hc⟩ := Bool.and_eq_true_iff.mp hc
      obtain ⟨c3, hc⟩ := Bool.and_eq_true_iff.mp hc
      obtain ⟨c4, hc⟩ := Bool.and_eq_true_iff.mp hc
      exact ⟨g, p1, p2, of_decide_eq_true c1, of_decide_eq_true c2, rfl, rfl, c3, c4, by simpa using hc⟩
    · cases h
  · cases h
theorem lrg1_ok (S : Sound T CM R n) (C : Ck T CM X s n W) {f : Str} {fp pos : Pos} {es : List Expr} {kws : List Keyword} {a : Expr} (hq : lrgArg1 T s f es kws = some a) :
    IE X CM W (.Call (.Name f fp) es kws pos) fun env ch => (R.E s a env ch).bind fun y c => lrg (.int 0) y c := by
  obtain ⟨g, p1, p2, hf, hg, rfl, rfl, b1, b2, s1⟩ := lrgArg1_ok hq
  subst hf hg
  obtain ⟨g1, m1⟩ := isBt_ok C b1
  obtain ⟨g2, m2⟩ := isBt_ok C b2
  refine PE.of (pe_listRg C.calm g1 m1 (prg_1 g2 m2 (S.sE X s W C a) (star_of s1)) (star_of rfl)) fun σ H Q ⟨ρ, env, ch, re, rh, h⟩ => ?_
  show tI X.K CM W (R.E s a) σ H _
  refine ⟨ρ, env, ch, re, rh, h.bind fun y c2 ρ2 H2 w m2 k2 hh2 r2 p2 => ?_⟩
  unfold lrg at p2
  split at p2
  · rename_i i j e0
    split at p2
    · rename_i hb
      cases e0
      cases r2
      refine ⟨j, rfl, ⟨by omega, by omega, by omega, by omega, by omega⟩, fun q hq => ?_⟩
      exact p2.newL hh2 hq (rvs_rg _)
    · exact p2.elim
  · exact p2.elim
end
theorem ps_setDc {X : Cx} {i : Nat} {y : Str} {py : Pos} {kx vx tg iter : Expr} {ifs : List Expr} {scope : Scope} {own : List (Str × Nat)} {pos spos : Pos} {wi : TI} {g : TG} {tt : TT} {tk tv : TE} (hc : X.calm = true) (hN : X.N.Nodup) (hy : X.N[i]? = some y) (hyl : X.env.scope.names.lookup y = some .local)
    (hsw : swapsWith (.DictComp kx vx [⟨tg, iter, ifs, 0⟩] scope pos) (some (.Name y py)) spos.line X.env = pure true) (hi : PI X tg iter wi) (ok : BlkOk X.N X.env.scope scope own)
    (hg : ∀ (s : Shared) (H : Hp) (C : Addr) (cl : List (Str × Addr)) (fp : List Addr), PG (X.blk s H scope (compEnvC scope cl C X.env) fp) tg g) (ht : ∀ (s : Shared) (H : Hp) (C : Addr) (cl : List (Str × Addr)) (fp : List Addr), PTs (X.blk s H scope (compEnvC scope cl C X.env) fp) ifs tt)
    (hk : ∀ (s : Shared) (H : Hp) (C : Addr) (cl : List (Str × Addr)) (fp : List Addr), PE (X.blk s H scope (compEnvC scope cl C X.env) fp) kx tk)
    (he : ∀ (s : Shared) (H : Hp) (C : Addr) (cl : List (Str × Addr)) (fp : List Addr), PE (X.blk s H scope (compEnvC scope cl C X.env) fp) vx tv) (hs : ∀ x, foldedSetIterable iter X.env x = pure x) :
    PS X (.Assign [.Name y py] (.DictComp kx vx [⟨tg, iter, ifs, 0⟩] scope pos) spos) (tAsg (tDc wi g tt tk tv (own.map (·.2))) (gName i)) := by
  refine ⟨fun pins s σ H D I h => ?_⟩
  rw [exec_Assign_Name_used _ _ _ _ hsw]
  refine wpAny_bind (wpAny_standAt (wpAny_bind ?_))
  show wpAny _ X.A (do let _ ← comprehension (.DictComp kx vx [⟨tg, iter, ifs, 0⟩] scope pos) scope X.env (firstIterPos [⟨tg, iter, ifs, 0⟩] pos) newDict false (eval iter X.env) (some (assign (.Name y py) X.env))) _ _ s
  have h : tDc wi g tt tk tv (own.map (·.2)) σ H (fun x H1 => gName i x σ H1 D.nx) := h
  refine wpAny_bind (thn (dc_core (Qf := fun _ s' => SP X pins D .next s') hc hN I hi ok hg ht hk he hs h fun L C s' m H' I' q hn f => ?_) fun _ s' hq => wpAny_pure (wpAny_pure hq))
  refine wpAny_assign_Name (store_ok2 (v := V.ref L) I' hN hy (.inl hyl) rfl (fun s2 I2 w => ?_) (.inr hyl))
  obtain ⟨a, sb, ha⟩ := w
  obtain ⟨f0, f1, f2, f3, f4, f5⟩ := f
  have haC : C ≠ a := by
    rcases ha with z | z
    · rw [z]; exact f1
    · exact fun e => f4 y a z e.symm
  refine ⟨m, hn.sameBut sb haC, fun h3 sb3 => ?_⟩
  exact ⟨_, H', I2.turned (t' := s2.toks) (fun b o hb e => (sb3.2 b hb).trans e) f0 f1 f3 f4 f5, q⟩
end LL
namespace LL
open PySem PySem.Spec PyProof.Rows L2
/-! ## sorted(set(xs)), xs a list of tuples of ints -/
theorem mem_insT {x y : List Int} : ∀ {l : List (List Int)}, y ∈ insT x l ↔ y = x ∨ y ∈ l
  | [] => by simp [insT]
  | z :: r => by
    unfold insT
    split
    · simp
    · split
      · rename_i _ e
        subst e
        constructor
        · intro h; exact .inr h
        · rintro (rfl | h)
          · simp
          · exact h
      · rw [List.mem_cons, mem_insT (l := r), List.mem_cons]
        constructor
        · rintro (h | h | h)
          · exact .inr (.inl h)
          · exact .inl h
          · exact .inr (.inr h)
        · rintro (h | h | h)
          · exact .inr (.inl h)
          · exact .inl h
          · exact .inr (.inr h)
theorem mem_sortT {y : List Int} : ∀ {ks : List (List Int)}, y ∈ sortT ks ↔ y ∈ ks
  | [] => by simp [sortT]
  | k :: ks => by
    show y ∈ insT k (sortT ks) ↔ _
    rw [mem_insT, mem_sortT, List.mem_cons]
/-- tuples of one length, bounded: the code tells them apart -/
theorem code_inj {B : Int} : ∀ {r q : List Int}, r.length = q.length → TS.Bd B r → TS.Bd B q → TS.code B r = TS.code B q → r = q
  | [], [], _, _, _, _ => rfl
  | [], _ :: _, h, _, _, _ => by cases h
  | _ :: _, [], h, _, _, _ => by cases h
  | d :: r, e :: q, h, hr, hq, hc => by
    have hl : r.length = q.length := by simpa using h
    rcases Int.lt_trichotomy d e with z | z | z
    · have := TS.code_lt hl hr.tail hq.tail z
      omega
    · subst z
      rcases Int.lt_trichotomy (TS.code B r) (TS.code B q) with w | w | w
      · have := (TS.code_same (d := d) hl).mpr w
        omega
      · rw [code_inj hl hr.tail hq.tail w]
      · have := (TS.code_same (d := d) hl.symm).mpr w
        omega
    · have := TS.code_lt hl.symm hq.tail hr.tail z
      omega
theorem insT_up {x : List Int} {B : Int} : ∀ {l : List (List Int)}, B = BB → (∀ y ∈ l, TS.code B y = TS.code B x → y = x) → l.Pairwise (fun a b => TS.code BB a < TS.code BB b) → (insT x l).Pairwise fun a b => TS.code BB a < TS.code BB b
  | [], _, _, _ => by simp [insT]
  | z :: r, hB, hi, h => by
    have h1 := fun {b} => List.rel_of_pairwise_cons h (a' := b)
    have h2 := List.Pairwise.of_cons h
    unfold insT
    split
    · rename_i hlt
      refine List.pairwise_cons.mpr ⟨fun b hb => ?_, h⟩
      rcases List.mem_cons.mp hb with rfl | hb
      · exact hlt
      · have := h1 hb
        omega
    · rename_i hnl
      split
      · exact h
      · rename_i ne
        refine List.pairwise_cons.mpr ⟨fun b hb => ?_, insT_up hB (fun y hy => hi y (List.mem_cons_of_mem _ hy)) h2⟩
        rcases mem_insT.mp hb with rfl | hb
        · have : TS.code BB z ≠ TS.code BB b := fun e => ne (hi z List.mem_cons_self (by rw [hB]; exact e)).symm
          omega
        · exact h1 hb
theorem sortT_up : ∀ {ks : List (List Int)}, (∀ a ∈ ks, ∀ b ∈ ks, TS.code BB a = TS.code BB b → a = b) → (sortT ks).Pairwise fun a b => TS.code BB a < TS.code BB b
  | [], _ => List.Pairwise.nil
  | k :: ks, h => by
    show (insT k (sortT ks)).Pairwise _
    exact insT_up rfl (fun y hy e => h y (List.mem_cons_of_mem _ (mem_sortT.mp hy)) k List.mem_cons_self e) (sortT_up fun a ha b hb => h a (List.mem_cons_of_mem _ ha) b (List.mem_cons_of_mem _ hb))
/-- two ascending lists with the same members are one -/
theorem up_eq {f : List Int → Int} : ∀ {l m : List (List Int)}, l.Pairwise (fun a b => f a < f b) → m.Pairwise (fun a b => f a < f b) → (∀ x, x ∈ l ↔ x ∈ m) → l = m
  | [], [], _, _, _ => rfl
  | [], y :: m, _, _, h => by have := (h y).mpr List.mem_cons_self; cases this
  | x :: l, [], _, _, h => by have := (h x).mp List.mem_cons_self; cases this
  | x :: l, y :: m, h1, h2, h => by
    have a1 := fun {b} => List.rel_of_pairwise_cons h1 (a' := b)
    have a2 := fun {b} => List.rel_of_pairwise_cons h2 (a' := b)
    have e : x = y := by
      rcases List.mem_cons.mp ((h x).mp List.mem_cons_self) with e | hx
      · exact e
      · rcases List.mem_cons.mp ((h y).mpr List.mem_cons_self) with e | hy
        · exact e.symm
        · have := a2 hx
          have := a1 hy
          omega
    subst e
    congr 1
    refine up_eq (List.Pairwise.of_cons h1) (List.Pairwise.of_cons h2) fun z => ?_
    constructor
    · intro hz
      rcases List.mem_cons.mp ((h z).mp (List.mem_cons_of_mem _ hz)) with e | hz'
      · subst e; have := a1 hz; omega
      · exact hz'
    · intro hz
      rcases List.mem_cons.mp ((h z).mpr (List.mem_cons_of_mem _ hz)) with e | hz'
      · subst e; have := a2 hz; omega
      · exact hz'
theorem okT_bd {ks : List (List Int)} (h : okT ks = true) : ks.length < 64 ∧ ∃ d, 1 ≤ d ∧ ∀ k ∈ ks, k.length = d ∧ TS.Bd BB k := by
  cases ks with
  | nil => exact ⟨by simp, 1, by simp, fun k hk => by cases hk⟩
  | cons k r =>
    have h' : (decide ((k :: r).length < 64) && (decide (1 ≤ k.length) && (k :: r).all fun q => decide (q.length = k.length) && q.all fun i => decide (0 ≤ i) && decide (i < BB))) = true := h
    rw [Bool.and_eq_true, Bool.and_eq_true] at h'
    obtain ⟨h1, h2, h3⟩ := h'
    refine ⟨of_decide_eq_true h1, k.length, of_decide_eq_true h2, fun q hq => ?_⟩
    have h4 := List.all_eq_true.mp h3 q hq
    rw [Bool.and_eq_true] at h4
    refine ⟨of_decide_eq_true h4.1, fun m hm => ?_⟩
    have h5 := List.all_eq_true.mp h4.2 m hm
    rw [Bool.and_eq_true] at h5
    exact ⟨of_decide_eq_true h5.1, of_decide_eq_true h5.2⟩
section
variable {T : Tab} {CM : Str → Option Addr} {R : Rc} {n : Nat} {X : Cx} {s : Sk} {W : WX}
theorem intsOf_tup : ∀ {ds : List D} {k : List Int}, intsOf ds = some k → ds = k.map .int
  | [], k, h => by cases h; rfl
  | d :: ds, k, h => by
    cases d with
    | int i =>
      cases hq : intsOf ds with
      | none => simp [intsOf, hq] at h
      | some l =>
        have h : some (i :: l) = some k := by simpa [intsOf, hq] using h
        cases h
        rw [intsOf_tup hq]; rfl
    | _ => simp [intsOf] at h
theorem tupsOf_ok {K : PySem.W.Frag} {ρ : List Addr} {H : Hp} : ∀ {ds : List D} {xs : List V} {ks : List (List Int)}, RVs K CM ρ H ds xs → tupsOf ds = some ks → ∃ ps : List (Addr × List Int), xs = ps.map (fun p => V.ref p.1) ∧ ps.map (·.2) = ks ∧ ∀ p ∈ ps, SqT K H p.1 (p.2.map V.int) ∧ RV K CM ρ H (tupD p.2) (.ref p.1)
  | [], _, ks, r, h => by
    cases r
    cases h
    exact ⟨[], rfl, rfl, fun p hp => by cases hp⟩
  | d :: ds, _, ks, r, h => by
    cases r with
    | cons r1 t =>
      cases h1 : intsT d with
      | none => simp [tupsOf, h1] at h
      | some k =>
        cases h2 : tupsOf ds with
        | none => simp [tupsOf, h1, h2] at h
        | some l =>
          have h : some (k :: l) = some ks := by simpa [tupsOf, h1, h2] using h
          cases h
          obtain ⟨ps, e1, e2, e3⟩ := tupsOf_ok t h2
          cases d with
          | tup es =>
            have he : es = k.map .int := intsOf_tup h1
            subst he
            cases r1 with
            | @tup _ ad _ hq rr =>
              have hx := intsOf_ok rr h1
              subst hx
              refine ⟨(ad, k) :: ps, by simp [e1], by simp [e2], fun p hp => ?_⟩
              rcases List.mem_cons.mp hp with rfl | hp
              · exact ⟨hq.sq, .tup hq rr⟩
              · exact e3 p hp
          | _ => simp [intsT] at h1
theorem ssArg_ok {f : Str} {es : List Expr} {kws : List Keyword} {a : Expr} (h : ssArg T s f es kws = some a) :
    ∃ (g : Str) (p1 p2 : Pos), f = "sorted" ∧ g = "set" ∧ es = [.Call (.Name g p1) [a] [] p2] ∧ kws = [] ∧ isBt T s f = true ∧ isBt T s g = true ∧ isStar a = false := by
  unfold ssArg at h
  split at h
  · rename_i g p1 a0 p2
    split at h
    · rename_i hc
      cases h
      obtain ⟨c1, hc⟩ := Bool.and_eq_true_iff.mp hc
      obtain ⟨c2, hc⟩ := Bool.and_eq_true_iff.mp hc
      obtain ⟨c3, hc⟩ := Bool.and_eq_true_iff.mp hc
      obtain ⟨c4, hc⟩ := Bool.and_eq_true_iff.mp hc
      exact ⟨g, p1, p2, of_decide_eq_true c1, of_decide_eq_true c2, rfl, rfl, c3, c4, by simpa using hc⟩
    · cases h
  · cases h
theorem RVs_tups {K : PySem.W.Frag} {ρ : List Addr} {H : Hp} : ∀ {L : List (Addr × List Int)}, (∀ p ∈ L, RV K CM ρ H (tupD p.2) (.ref p.1)) → RVs K CM ρ H ((L.map (·.2)).map tupD) (L.map fun p => V.ref p.1)
  | [], _ => .nil
  | p :: L, h => .cons (h p List.mem_cons_self) (RVs_tups fun q hq => h q (List.mem_cons_of_mem _ hq))
theorem ss_ok (S : Sound T CM R n) (C : Ck T CM X s n W) {f : Str} {fp pos : Pos} {es : List Expr} {kws : List Keyword} {a : Expr} (hq : ssArg T s f es kws = some a) :
    IE X CM W (.Call (.Name f fp) es kws pos) fun env ch => (R.E s a env ch).bind fun x c => srt x c := by
  obtain ⟨g, p1, p2, hf, hg, rfl, rfl, b1, b2, s1⟩ := ssArg_ok hq
  subst hf hg
  obtain ⟨g1, m1⟩ := isBt_ok C b1
  obtain ⟨g2, m2⟩ := isBt_ok C b2
  have hu : X.A.units + 64 < cLine := by have := C.room.un; omega
  refine PE.of (pe_callB (cr_sortedT C.calm) g1 m1 (by rfl) (pa_cons (pe_callTy (cr_setOfT C.calm hu) g2 m2 (by rfl) (pa_cons (S.sE X s W C a) pa_nil (star_of s1)) (by decide) (by decide) (star_of s1) (by rfl)) pa_nil (star_of rfl)) (by decide) (by decide) (star_of rfl) (by rfl)) fun σ H Q ⟨ρ, env, ch, re, rh, h⟩ => ?_
  show tI X.K CM W (R.E s a) σ H _
  refine ⟨ρ, env, ch, re, rh, h.bind fun x c ρ1 H1 v m1 k1 hh1 r1 p1 => ?_⟩
  unfold srt at p1
  split at p1
  · rename_i ds e1
    split at p1
    · rename_i ks e2
      split at p1
      · rename_i e3
        obtain ⟨l, xs, rfl, hl, rr⟩ := lstOf_ok hh1 r1 e1
        obtain ⟨ps, rfl, hks, hps⟩ := tupsOf_ok rr e2
        subst hks
        obtain ⟨hlen, d, hd, hbd⟩ := okT_bd e3
        refine ⟨l, ps, rfl, hl, fun p hp => (hps p hp).1, by simpa using hlen, fun b L hb hsub hall => ?_⟩
        have kb : Keep H1 (upd H1 b (SetTO X.prog X.w b L)) := Keep.new hb
        have hL : ∀ p ∈ L, p.2.length = d ∧ TS.Bd BB p.2 := fun p hp => hbd _ (List.mem_map.mpr ⟨p, hsub p hp, rfl⟩)
        refine ⟨b, L, d, BB, rfl, upd_same, fun p hp => kb.sqT (hps p (hsub p hp)).1, hd, hL, fun L' p pm nd hfew pw hp => ?_⟩
        have inj : ∀ a ∈ ps.map (·.2), ∀ b ∈ ps.map (·.2), TS.code BB a = TS.code BB b → a = b := fun a ha b hb e => code_inj ((hbd a ha).1.trans (hbd b hb).1.symm) (hbd a ha).2 (hbd b hb).2 e
        have inL : ∀ q ∈ L', q ∈ ps := fun q hq => hsub q (pm.mem_iff.mp hq)
        have up : (L'.map (·.2)).Pairwise fun a b => TS.code BB a < TS.code BB b := by
          have pw' : (L'.map (·.2)).Pairwise fun a b => TS.code BB a ≤ TS.code BB b := List.pairwise_map.mpr pw
          refine List.Pairwise.imp_of_mem (fun {a b} ha hb h => ?_) (pw'.and nd)
          obtain ⟨qa, hqa, rfl⟩ := List.mem_map.mp ha
          obtain ⟨qb, hqb, rfl⟩ := List.mem_map.mp hb
          have : TS.code BB qa.2 ≠ TS.code BB qb.2 := fun e => h.2 (inj _ (List.mem_map.mpr ⟨qa, inL _ hqa, rfl⟩) _ (List.mem_map.mpr ⟨qb, inL _ hqb, rfl⟩) e)
          have := h.1
          omega
        have eq : L'.map (·.2) = sortT (ps.map (·.2)) := up_eq up (sortT_up inj) fun x => by
          rw [mem_sortT]
          constructor
          · intro hx
            obtain ⟨q, hq, rfl⟩ := List.mem_map.mp hx
            exact List.mem_map.mpr ⟨q, inL q hq, rfl⟩
          · intro hx
            obtain ⟨q, hq, rfl⟩ := List.mem_map.mp hx
            obtain ⟨r, hr, er⟩ := List.mem_map.mp (hall q hq)
            exact List.mem_map.mpr ⟨r, pm.mem_iff.mpr hr, er⟩
        rw [← eq] at p1
        exact (p1.mono (Mo.refl _) kb).newL (hh1.laid hb) hp (RVs_tups fun q hq => ((hps q (inL q hq)).2).mono (Mo.refl _) kb)
      · exact p1.elim
    · exact p1.elim
  · exact p1.elim
end
end LL
namespace LL
open PySem PySem.Spec PyProof.Rows L2
/-! ## errors as values -/
section
variable {T : Tab} {CM : Str → Option Addr} {R : Rc} {n : Nat} {X : Cx} {s : Sk} {W : WX}
theorem lookup_has {α β : Type} [BEq α] [LawfulBEq α] {a : α} {b : β} : ∀ {l : List (α × β)}, (a, b) ∈ l → ∃ c, l.lookup a = some c
  | [], h => by cases h
  | (x, y) :: r, h => by
    rw [List.lookup_cons]
    cases e : (a == x) with
    | true => exact ⟨y, rfl⟩
    | false =>
      rcases List.mem_cons.mp h with z | z
      · cases z
        simp at e
      · exact lookup_has z
theorem oex_keep {K : PySem.W.Frag} {C : Addr} (T : OexG K C) : PySem.W.keepIn K (.ref C) = true := by
  obtain ⟨b, XB, hb⟩ := T.ex
  exact (and_t (and_t (and_t (and_t (and_t (and_t hb).2).2).2).2).2).2
/-- C(a), C(f=a) -/
theorem errC_ok (S : Sound T CM R n) (C : Ck T CM X s n W) {x f : Str} (hx : T.excs.lookup x = some f) (hg : s.sc.names.lookup x = some .globalImplicit) (hd : (x == ("__debug__" : Str)) = false) {es : List Expr} {kws : List Keyword} {ks : List Str} {a : Expr} {p pos : Pos} (hes : es.any isStar = false) (hks : kwNames kws = some ks)
    (hq : (ks = [] ∧ ∀ env ch, args R s es kws env ch = (R.E s a env ch).bind fun d c => .ok ([d], []) c) ∨ (ks = [f] ∧ T.xkw.contains x = true ∧ ∀ env ch, args R s es kws env ch = (R.E s a env ch).bind fun d c => .ok ([], [d]) c)) :
    IE X CM W (.Call (.Name x p) es kws pos) fun env ch => (R.E s a env ch).bind fun d c1 => .ok (.ref c1.sz) (c1.push (.xc x f d)) := by
  obtain ⟨Ca, fI, fd, p', hcm, hmg, OX, hI, tI', hb, hk, hF⟩ := C.tab.exc x f hx
  have gl : Gl X x := by show X.env.scope.names.lookup x = _; rw [C.sc]; exact hg
  refine ⟨fun pins st σ H Q I ⟨ρ, env, ch, re, rh, h⟩ => ?_⟩
  refine wpAny_Call_Name_kw (ld_glob I gl hmg ?_ hd)
  have fin : ∀ {us : List Value} {kw : List (Str × Value)} {u : Value} {v : V} {d : D} {s1 : Shared} {H1 : Hp} {ρ1 : List Addr} {ch1 : CH}, Inv X pins σ H1 s1 → RH X.K CM ρ1 ch1 H1 → RV X.K CM ρ1 H1 d v → RelV v u → us.length ≤ sizeLine →
      (∀ (e : Addr) (s : Shared), X.K.In s.heap → BindsTo s fd ⟨Value.ref e :: us, kw⟩ ((["self", p'] : List Str).zip [Value.ref e, u])) → Post X.K CM (rV X.K CM) (fun c d H => W c d σ H) ρ1 H1 Q (.ok (.ref ch1.sz) (ch1.push (.xc x f d))) →
      wpAny (model X.prog X.w) X.A (call (.ref Ca) us kw) (EP X pins σ Q) X.xe s1 := fun {us kw u v d s1 H1 ρ1 ch1} I1 hh1 rd rv few bd p1 => by
    refine run_err (CX := CX0) OX ⟨hI, tI'⟩ (hF X.w X.base CX0) (C.room.mono S.two) pass0 few bd rv I1 fun ad dx n1 n2 ne => ?_
    have k1 : Keep H1 (upd H1 dx (.xd [(f, v)])) := Keep.new n2
    have n3 : (upd H1 dx (.xd [(f, v)])) ad = none := by rw [upd_ne (Ne.symm ne)]; exact n1
    have k2 : Keep H1 (upd (upd H1 dx (.xd [(f, v)])) ad (exo ad Ca (some dx))) := k1.trans (Keep.new n3)
    exact p1 (ρ1 ++ [ad]) _ (V.ref ad) (Mo.new ad) k2 ((hh1.laid n2).new n3 (.xc hcm upd_same (by rw [upd_ne ne, upd_same]) (rd.mono (Mo.new ad) k2))) (RV.ref (by rw [← hh1.len]; simp))
  have h : Post X.K CM (rV X.K CM) (fun c d H => W c d σ H) ρ H Q ((R.E s a env ch).bind fun d c1 => .ok (.ref c1.sz) (c1.push (.xc x f d))) := h
  rcases hq with ⟨rfl, ha⟩ | ⟨rfl, hxk, ha⟩
  · refine callWith_args S C (first := []) (rel := rV X.K CM) (Q' := Q) (g := fun (as : List D × List D) (c1 : CH) => (match as with | ([d], []) => (Rs.ok (D.ref c1.sz) (c1.push (.xc x f d)) : Rs D) | _ => .bad)) I re rh (oex_keep OX) hes hks ?_ fun us ws s1 H1 ρ1 ds zs vs xs ch1 I1 m1 k1 hh1 rs rz rv rw p1 => ?_
    · rw [ha]
      revert h
      cases R.E s a env ch <;> exact fun z => z
    · split at p1
      · rename_i d e
        cases e
        cases rs with
        | cons r1 rn =>
          cases rn
          cases rz
          cases rw
          cases rv with
          | @cons _ u _ _ v1 vn =>
            cases vn
            exact fin (us := [u]) (kw := []) I1 hh1 r1 v1 (by rw [sizeLine_eq]; simp) (fun e s0 ki => hb s0 [Value.ref e, u] ki rfl) p1
      · exact p1.elim
  · refine callWith_args S C (first := []) (rel := rV X.K CM) (Q' := Q) (g := fun (as : List D × List D) (c1 : CH) => (match as with | ([], [d]) => (Rs.ok (D.ref c1.sz) (c1.push (.xc x f d)) : Rs D) | _ => .bad)) I re rh (oex_keep OX) hes hks ?_ fun us ws s1 H1 ρ1 ds zs vs xs ch1 I1 m1 k1 hh1 rs rz rv rw p1 => ?_
    · rw [ha]
      revert h
      cases R.E s a env ch <;> exact fun z => z
    · split at p1
      · rename_i d e
        cases e
        cases rz with
        | cons r1 rn =>
          cases rn
          cases rs
          cases rv
          cases rw with
          | @cons _ u _ _ v1 vn =>
            cases vn
            exact fin (us := []) (kw := [(f, u)]) I1 hh1 r1 v1 (by rw [sizeLine_eq]; simp) (fun e s0 _ => hk hxk s0 (Value.ref e) u) p1
      · exact p1.elim
/-- isinstance(a, C), a an error -/
theorem errI_ok (S : Sound T CM R n) (C : Ck T CM X s n W) {x g : Str} (hb : isBt T s g = true) (hg : g = "isinstance") (hx : s.sc.names.lookup x = some .globalImplicit) {a : Expr} (hst : isStar a = false) (hkt : (T.kit.any fun q => decide (q.1.2 = x)) = true) {p p3 pos : Pos} :
    IE X CM W (.Call (.Name g p) [a, .Name x p3] [] pos) (runEr T R s (.isi a x)) := by
  subst hg
  obtain ⟨hgl, hm⟩ := isBt_ok C hb
  refine ⟨fun pins st σ H Q I ⟨ρ, env, ch, re, rh, h⟩ => ?_⟩
  have gc : Gl X x := by
    show X.env.kindOf x = _
    rw [← hx, ← C.sc]; rfl
  have h : Post X.K CM (rV X.K CM) (fun c d H => W c d σ H) ρ H Q ((R.E s a env ch).bind fun d c1 => (match xcOf d c1 with
    | some c => (match T.kit.lookup (c, x) with | some b => .ok (.bl b) c1 | none => .bad)
    | none => .bad)) := h
  obtain ⟨q0, hq0, hq1⟩ := List.any_eq_true.mp hkt
  have hq1 : q0.1.2 = x := of_decide_eq_true hq1
  obtain ⟨b0, hk⟩ := lookup_has (a := q0.1) (b := q0.2) (l := T.kit) hq0
  have hk : T.kit.lookup (q0.1.1, x) = some b0 := by rw [← hq1]; exact hk
  · skip
    obtain ⟨C1, cv, v, hc1, xc, hcl, hdb, ho, rv, hu, hmg⟩ := C.tab.kit _ _ _ hk
    have pc : PE X (.Name x p3) (tC v) := by
      rcases hmg with hmg | ⟨hmg, hbt, hnn⟩
      · exact pe_glob gc hmg rv hdb
      · exact pe_bltn gc hmg hbt rv hnn hdb
    refine wpAny_Call_Name_kw (ld_blt I hgl hm PyProof.Rows.boot_isinstance ?_ (by decide) (by decide))
    have pa := pa_cons (X := X) (S.sE X s W C a) (pa_cons pc pa_nil (star_of rfl)) (star_of hst)
    refine PyProof.Rows.callWith_builtin1 (thn (pa.run pos pins st σ H (fun vs H1 => ∃ ρ1 d w c1, vs = [w, v] ∧ Mo ρ ρ1 ∧ Keep H H1 ∧ RH X.K CM ρ1 c1 H1 ∧ RV X.K CM ρ1 H1 d w ∧ Post X.K CM (rV X.K CM) (fun c d H => W c d σ H) ρ1 H1 Q (match xcOf d c1 with
      | some c => (match T.kit.lookup (c, x) with | some b => .ok (.bl b) c1 | none => .bad)
      | none => .bad)) I ⟨ρ, env, ch, re, rh, h.bind fun d c1 ρ1 H1 w m1 k1 hh1 r1 p1 => ⟨ρ1, d, w, c1, rfl, m1, k1, hh1, r1, p1⟩⟩) fun us s1 ⟨vs, H1, I1, r1, ρ1, d, w, c1, ev, m1, k1, hh1, rd, p1⟩ => ?_) (star_of hst) rfl
    subst ev
    cases r1 with
    | cons ha hus =>
      cases hus with
      | cons hc2 hnil =>
        cases hnil
        split at p1
        · rename_i c hxc
          split at p1
          · rename_i b hkb
            obtain ⟨C2, cv2, v2, hc2', xc2, hcl2, hdb2, ho2, rv2, hu2, hmg2⟩ := C.tab.kit _ _ _ hkb
            have ecv : cv2 = cv := by
              rcases hmg with hmg | ⟨hmg, hbt, _⟩ <;> rcases hmg2 with hmg2 | ⟨hmg2, hbt2, _⟩
              · rw [hmg] at hmg2; exact (Option.some.inj hmg2).symm
              · rw [hmg] at hmg2; cases hmg2
              · rw [hmg] at hmg2; cases hmg2
              · rw [hbt] at hbt2; exact (Option.some.inj hbt2).symm
            have ecu := hu _ hc2
            rw [ecv] at ho2
            rw [ecu]
            unfold xcOf at hxc
            split at hxc
            · rename_i k
              split at hxc
              · rename_i cc g v0 hgk
                cases hxc
                cases rd with
                | @ref _ ad hr =>
                  cases hh1.ob _ _ _ hgk hr with
                  | xc hcc hH hd rvv =>
                    rw [hc2'] at hcc
                    cases hcc
                    cases (show _ = Value.ref ad from ha)
                    obtain ⟨t1, ho1⟩ := exo_at I1.hok hH
                    have hok : ObjOk X.prog X.w H1 s1.heap _ (.xd _) := I1.hok _ _ hd
                    obtain ⟨mA, hns, _⟩ := hok
                    obtain ⟨od, hod, _⟩ := lookIn_ns hns
                    have J : PySem.W.InstAt s1.heap ad _ C2 (some od) := ⟨ho1, rfl, rfl, hod⟩
                    exact PySem.W.kia_one (PySem.W.kitx_exc hcl2 xc2.hg xc2.hk xc2.hs xc2.ha xc2.hn xc2.ht xc2.hm) I1.kIn J ho2 (fun z => nomatch z) fun tk => ⟨.bl b, H1, I1.kept (t' := tk) fun _ _ y => y, rfl, p1.ok hh1 (.bl b)⟩
              · cases hxc
            · cases hxc
          · exact p1.elim
        · exact p1.elim
theorem runEr_ok (S : Sound T CM R n) (C : Ck T CM X s n W) {f : Str} {es : List Expr} {kws : List Keyword} {q : EF} {fp pos : Pos} (h : errOf T s f es kws = some q) : IE X CM W (.Call (.Name f fp) es kws pos) (runEr T R s q) := by
  unfold errOf at h
  split at h
  · split at h
    · rename_i fl hx
      split at h
      · rename_i hg
        split at h
        · rename_i a
          split at h
          · rename_i hst
            cases h
            exact errC_ok S C hx hg.1 hg.2 (es := [a]) (kws := []) (ks := []) (by simp [hst]) rfl (.inl ⟨rfl, fun env ch => by
              unfold args evs evs evk
              simp only [hst, Bool.false_eq_true, if_false]
              cases R.E s a env ch <;> rfl⟩)
          · cases h
        · rename_i k
          split at h
          · rename_i hq
            cases h
            obtain ⟨hk, hc⟩ := hq
            exact errC_ok S C hx hg.1 hg.2 (es := []) (kws := [k]) (ks := [fl]) rfl (by simp [kwNames, hk]) (.inr ⟨rfl, hc, fun env ch => by
              unfold args evs evk evk
              show ((R.E s k.value env ch).bind _).bind _ = _
              cases R.E s k.value env ch <;> rfl⟩)
          · cases h
        · cases h
      · cases h
    · split at h
      · rename_i hb
        split at h
        · rename_i a x p3
          split at h
          · rename_i hq
            cases h
            exact errI_ok S C hb.2 hb.1 hq.2.1 hq.1 hq.2.2
          · cases h
        · cases h
      · cases h
  · cases h
end
end LL
namespace LL
open PySem PySem.Spec PyProof.Rows L2
section
variable {T : Tab} {CM : Str → Option Addr} {R : Rc} {n : Nat} {X : Cx} {s : Sk} {W : WX}
theorem tup_ok (S : Sound T CM R n) (C : Ck T CM X s n W) (es : List Expr) (k : Nat) (pos : Pos) : IE X CM W (.Tuple es k pos) fun env ch => (evs R s es env ch).bind fun ds c => if ds.length ≤ 16777216 then .ok (.tup ds) c else .bad := by
  refine PE.of (pe_tup (evs_ok S C es)) fun σ H Q ⟨ρ, env, ch, re, rh, h⟩ => ?_
  refine ⟨ρ, env, ch, re, rh, h.bind fun ds c ρ1 H1 vs m1 k1 hh1 r1 p1 => ?_⟩
  split at p1
  · rename_i hl
    exact ⟨by rw [← r1.length]; exact hl, fun p hp => p1.newT hh1 hp r1⟩
  · exact p1.elim
theorem lst_ok (S : Sound T CM R n) (C : Ck T CM X s n W) (es : List Expr) (pos : Pos) : IE X CM W (.List es pos) fun env ch => (evs R s es env ch).bind fun ds c => if ds.length ≤ 16777216 then .ok (.ref c.sz) (c.push (.lst ds)) else .bad := by
  refine PE.of (pe_lst (evs_ok S C es)) fun σ H Q ⟨ρ, env, ch, re, rh, h⟩ => ?_
  refine ⟨ρ, env, ch, re, rh, h.bind fun ds c ρ1 H1 vs m1 k1 hh1 r1 p1 => ?_⟩
  split at p1
  · rename_i hl
    exact ⟨by rw [← r1.length]; exact hl, fun p hp => p1.newL hh1 hp r1⟩
  · exact p1.elim
theorem not_ok (S : Sound T CM R n) (C : Ck T CM X s n W) (a : Expr) (pos : Pos) : IE X CM W (.UnaryOp .Not a pos) fun env ch => (R.E s a env ch).bind fun d c => (tr d c).bind fun b c => .ok (.bl (!b)) c := by
  refine ⟨fun pins st σ H Q I ⟨ρ, env, ch, re, rh, h⟩ => ?_⟩
  refine UnaryOp_ (thn ((S.sE X s W C a).af I re rh h) fun v s1 ⟨x, H1, I1, r1, ρ1, d, ch1, m1, k1, hh1, rv1, p1⟩ => ?_)
  refine not_of (tr_run I1 hh1 rv1 r1 p1 fun b s2 I2 p2 => ?_)
  exact ⟨.bl (!b), H1, I2, rfl, p2.ok hh1 (.bl _)⟩
theorem neg_ok (S : Sound T CM R n) (C : Ck T CM X s n W) (a : Expr) (pos : Pos) : IE X CM W (.UnaryOp .USub a pos) fun env ch => (R.E s a env ch).bind fun d c => match d with | .int i => .ok (.int (-i)) c | _ => .bad := by
  refine PE.of (pe_un un_neg (S.sE X s W C a)) fun σ H Q ⟨ρ, env, ch, re, rh, h⟩ => ?_
  refine ⟨ρ, env, ch, re, rh, h.bind fun d c ρ1 H1 v m1 k1 hh1 r1 p1 => ?_⟩
  cases r1 <;> first
    | exact ⟨_, rfl, p1.ok hh1 (.int _)⟩
    | exact p1.elim
theorem if_ok (S : Sound T CM R n) (C : Ck T CM X s n W) (t a b : Expr) (pos : Pos) : IE X CM W (.IfExp t a b pos) fun env ch => (R.T s t env ch).bind fun q c => if q = true then R.E s a env c else R.E s b env c := by
  refine PE.of (pe_ifExp (S.sT X s W C t) (S.sE X s W C a) (S.sE X s W C b)) fun σ H Q ⟨ρ, env, ch, re, rh, h⟩ => ?_
  refine ⟨ρ, env, ch, re, rh, h.bind fun q c ρ1 H1 q' m1 k1 hh1 r1 p1 => ?_⟩
  subst r1
  cases q with
  | true => exact iteT ⟨ρ1, env, c, re.mono m1 k1, hh1, p1⟩
  | false => exact iteF ⟨ρ1, env, c, re.mono m1 k1, hh1, p1⟩
theorem subR_ok (S : Sound T CM R n) (C : Ck T CM X s n W) (a b : Expr) (pos : Pos) (hb : isSlice b = false) : IE X CM W (.Subscript a b pos) fun env ch => (R.E s a env ch).bind fun x c => (R.E s b env c).bind fun y c => ixR T R x y c :=
  ⟨fun pins st σ H Q I h => Subscript_ (two (ixR_ok S C a b hb) (S.sE X s W C a) (S.sE X s W C b) I h)⟩
/-! ### displays of dicts -/
def trsOf (CM : Str → Option Addr) (R : Rc) (s : Sk) (X : Cx) (W : WX) : List (Option Expr) → List Expr → List (TE × TE)
  | some k :: ks, v :: vs => (tI X.K CM W (R.E s k), tI X.K CM W (R.E s v)) :: trsOf CM R s X W ks vs
  | _, _ => []
abbrev rPs (K : PySem.W.Frag) (CM : Str → Option Addr) : Rel (List (L2.Key × D)) (List (V × V)) := fun ρ H ps qs => ∃ ws, qs = ws.map (fun kv => (L2.kV kv.1, kv.2)) ∧ RKs K CM ρ H ps ws
theorem pps_ok (S : Sound T CM R n) (C : Ck T CM X s n W) (pos : Pos) : ∀ ks vs, ks.length = vs.length → ks.all (·.isSome) = true → PPs X pos ks vs (trsOf CM R s X W ks vs)
  | [], [], _, _ => pps_nil
  | some k :: ks, v :: vs, hl, ha => pps_cons (S.sE X s W C k) (S.sE X s W C v) (pps_ok S C pos ks vs (by simpa using hl) (by simpa using ha))
  | none :: _, _ :: _, _, ha => by simp at ha
  | [], _ :: _, hl, _ => by simp at hl
  | _ :: _, [], hl, _ => by simp at hl
theorem evPs_ok {σ : L2.St} : ∀ {ks : List (Option Expr)} {vs : List Expr} {ρ : List Addr} {H : Hp} {env : En} {ch : CH} {Q : List (V × V) → Hp → Prop}, RE X.K CM ρ H env σ → RH X.K CM ρ ch H → Post X.K CM (rPs X.K CM) (fun c d H => W c d σ H) ρ H Q (evPs R s ks vs env ch) → tPairs (trsOf CM R s X W ks vs) σ H Q
  | [], [], ρ, H, env, ch, Q, re, rh, h => h.ok rh ⟨[], rfl, .nil⟩
  | some k :: ks, v :: vs, ρ, H, env, ch, Q, re, rh, h => by
    refine ⟨ρ, env, ch, re, rh, Post.bind h fun kd c ρ1 H1 x m1 k1 hh1 r1 p1 => ?_⟩
    refine ⟨ρ1, env, c, re.mono m1 k1, hh1, Post.bind p1 fun d c2 ρ2 H2 y m2 k2 hh2 r2 p2 => ?_⟩
    cases hk : keyD kd with
    | none => rw [hk] at p2; exact p2.elim
    | some kk =>
      rw [hk] at p2
      refine evPs_ok ((re.mono m1 k1).mono m2 k2) hh2 (Post.bind p2 fun ps c3 ρ3 H3 qs m3 k3 hh3 r3 p3 => ?_)
      obtain ⟨ws, rfl, rr⟩ := r3
      have ek := keyD_ok r1 hk
      subst ek
      exact p3.ok hh3 ⟨(kk, y) :: ws, rfl, .cons (r2.mono m3 k3) rr⟩
  | none :: _, _ :: _, _, _, _, _, _, _, _, h => h.elim
  | none :: _, [], _, _, _, _, _, _, _, h => h.elim
  | some _ :: _, [], _, _, _, _, _, _, _, h => h.elim
  | [], _ :: _, _, _, _, _, _, _, _, h => h.elim
theorem dict_ok (S : Sound T CM R n) (C : Ck T CM X s n W) (ks : List (Option Expr)) (vs : List Expr) (pos : Pos) : IE X CM W (.Dict ks vs pos) (evDict R s ks vs) := by
  by_cases hq : ks.length = vs.length ∧ ks.all (·.isSome) = true ∧ (ks.isEmpty || decide (15 < ks.length)) = false
  · obtain ⟨h1, h2, h3⟩ := hq
    obtain ⟨h4, h5⟩ := Bool.or_eq_false_iff.mp h3
    refine PE.of (pe_disp (pps_ok S C pos ks vs h1 h2) h2 h1 (by intro e; subst e; simp at h4) (by simpa using h5)) fun σ H Q ⟨ρ, env, ch, re, rh, h⟩ => ?_
    unfold evDict at h
    rw [if_pos ⟨h1, h2, h3⟩] at h
    intro p hp
    have hh1 := rh.new (o := .dK []) (co := .dk []) hp (.dk upd_same .nil)
    have mm := Mo.new (ρ := ρ) p
    have kk := Keep.new (o := .dK []) hp
    refine evPs_ok (re.mono mm kk) hh1 (Post.bind (Post.mono mm kk h) fun ps c ρ1 H1 qs m1 k1 hh2 r1 p1 => ?_)
    obtain ⟨ws, rfl, rr⟩ := r1
    have hat : ρ1[ch.sz]? = some p := m1 _ _ (by rw [← rh.len]; simp)
    cases hg : c.get ch.sz with
    | none => rw [hg] at p1; exact p1.elim
    | some co =>
      rw [hg] at p1
      cases co with
      | dk kvs =>
        cases kvs with
        | cons _ _ => exact p1.elim
        | nil =>
          cases hh2.ob _ _ _ hg hat with
          | dk h6 r6 =>
            cases r6
            dsimp only at p1
            by_cases hl : ps.length ≤ 15
            · rw [if_pos hl] at p1
              refine ⟨h6, ws, rfl, by rw [← rr.length]; exact hl, ?_⟩
              have k3 := Keep.mut (o := .dK (L2.mergeK [] ws)) h6 fun z => z
              exact p1 _ _ _ (Mo.refl _) k3 (hh2.mut hat h6 (fun z => z) (.dk upd_same ((RKs.merge rr .nil).mono (Mo.refl _) k3))) (.ref hat)
            · rw [if_neg hl] at p1; exact p1.elim
      | _ => exact p1.elim
  · exact PE.no fun σ H Q ⟨ρ, env, ch, re, rh, h⟩ => by unfold evDict at h; rw [if_neg hq] at h; exact h
theorem chain_ok (S : Sound T CM R n) (C : Ck T CM X s n W) (a b e : Expr) (op op' : CmpOp) (pos : Pos) (hm : lastMarks [op, op'] [b, e] = false) : IE X CM W (.Compare a [op, op'] [b, e] pos) fun env ch => (R.E s a env ch).bind fun x c => (R.E s b env c).bind fun y c => (cmpR T R op x y c).bind fun d c => (match d with
    | .bl true => (R.E s e env c).bind fun z c => cmpR T R op' y z c
    | .bl false => .ok (.bl false) c
    | _ => .bad) := by
  have hu : X.A.units + 65 < cLine := by have := C.room.un; omega
  refine ⟨fun pins st σ H Q I ⟨ρ, env, ch, re, rh, h⟩ => ?_⟩
  refine Compare_chain (thn ((S.sE X s W C a).af I re rh h) fun v s1 ⟨x, H1, I1, r1, ρ1, dx, ch1, m1, k1, hh1, rv1, p1⟩ => chain_link (thn ((S.sE X s W C b).af I1 (re.mono m1 k1) hh1 p1) fun u s2 ⟨y, H2, I2, r2, ρ2, dy, ch2, m2, k2, hh2, rv2, p2⟩ =>
    thn (cmpR_ok (CM := CM) (W := W) S C hu op pins s2 σ H2 ρ2 ch2 dx dy x y v u _ I2 r1 r2 (rv1.mono m2 k2) rv2 hh2 p2.af) fun d s3 ⟨z, H3, I3, r3, ρ3, dz, ch3, m3, k3, hh3, rv3, p3⟩ => ?_)) hm
  cases rv3 with
  | bl k =>
    cases r3
    refine wpAny_truthy_bool ?_
    cases k with
    | false => exact ite_ff ⟨.bl false, H3, I3, rfl, p3.ok hh3 (.bl _)⟩
    | true => exact ite_tt (chain_last (thn ((S.sE X s W C e).af I3 (((re.mono m1 k1).mono m2 k2).mono m3 k3) hh3 p3) fun w' s4 ⟨z', H4, I4, r4, ρ4, dz', ch4, m4, k4, hh4, rv4, p4⟩ =>
        cmpR_ok (CM := CM) (W := W) S C hu op' pins s4 σ H4 ρ4 ch4 dy dz' y z' u w' _ I4 r2 r4 (rv2.mono (m3.trans m4) (k3.trans k4)) rv4 hh4 p4))
  | _ => exact p3.elim
/-- {} -/
theorem dnewT_ok (pos : Pos) : IE X CM W (.Dict [] [] pos) (fun _ ch => .ok (.ref ch.sz) (ch.push (.dt []))) :=
  PE.of pe_dnewT fun σ H Q ⟨ρ, env, ch, re, rh, h⟩ => fun p hp =>
    h (ρ ++ [p]) _ _ (Mo.new p) (Keep.new hp) (rh.new hp (.dt upd_same .nil)) (.ref (by rw [← rh.len]; simp))
theorem dnew_ok (pos : Pos) : IE X CM W (.Dict [] [] pos) (fun _ ch => .ok (.ref ch.sz) (ch.push (.dk []))) :=
  PE.of pe_dnewK fun σ H Q ⟨ρ, env, ch, re, rh, h⟩ => fun p hp =>
    h (ρ ++ [p]) _ _ (Mo.new p) (Keep.new hp) (rh.new hp (.dk upd_same .nil)) (.ref (by rw [← rh.len]; simp))
theorem lcs_ok (S : Sound T CM R n) (C : Ck T CM X s n W) (elt : Expr) (gs : List Comprehension) (scope : Scope) (pos : Pos) : IE X CM W (.ListComp elt gs scope pos) (evLcs T R s elt gs scope) := by
  match gs with
  | [⟨tg, iter, ifs, as⟩] =>
    by_cases ha : as = 0
    · subst ha
      exact PE.of (lc_ok S C elt tg iter ifs scope pos) fun σ H Q ⟨ρ, env, ch, re, rh, h⟩ => ⟨ρ, env, ch, re, rh, by simp only [evLcs, if_true] at h; exact h⟩
    · exact PE.no fun σ H Q ⟨ρ, env, ch, re, rh, h⟩ => by simp only [evLcs, if_neg ha] at h; exact h
  | [] => exact PE.no fun σ H Q ⟨ρ, env, ch, re, rh, h⟩ => h
  | [⟨tg, iter, ifs, as⟩, ⟨tg1, iter1, ifs1, as1⟩] =>
    by_cases ha : as = 0 ∧ as1 = 0
    · obtain ⟨rfl, rfl⟩ := ha
      exact PE.of (lc2_ok S C elt tg iter ifs tg1 iter1 ifs1 scope pos) fun σ H Q ⟨ρ, env, ch, re, rh, h⟩ => ⟨ρ, env, ch, re, rh, by simp only [evLcs, and_self, if_true] at h; exact h⟩
    · exact PE.no fun σ H Q ⟨ρ, env, ch, re, rh, h⟩ => by simp only [evLcs, if_neg ha] at h; exact h
  | _ :: _ :: _ :: _ => exact PE.no fun σ H Q ⟨ρ, env, ch, re, rh, h⟩ => h
theorem evE_ok (S : Sound T CM R n) (C : Ck T CM X s n W) (e : Expr) : IE X CM W e (evE T R s e) := by
  have hu : X.A.units + 65 < cLine := by have := C.room.un; omega
  cases e with
  | Name x pos => exact evName_ok C x pos
  | Constant c k pos =>
    cases c with
    | none => exact ie_c pe_non fun _ _ => .non
    | bool b => exact ie_c pe_bl fun _ _ => .bl b
    | int i => exact ie_c pe_int fun _ _ => .int i
    | str x => exact ie_c pe_str fun _ _ => .str x
    | _ => exact PE.no fun σ H Q ⟨ρ, env, ch, re, rh, h⟩ => h
  | BinOp a op b pos => exact ie_bin (binR_ok S C op) (S.sE X s W C a) (S.sE X s W C b)
  | Compare a ops bs pos =>
    match ops, bs with
    | [op], [b] =>
      cases hm : behindInMarks op b with
      | true => exact PE.no fun σ H Q ⟨ρ, env, ch, re, rh, h⟩ => by simp only [evE, hm, if_true] at h; exact h
      | false =>
        refine PE.of (ie_cmp (cmpR_ok S C hu op) (S.sE X s W C a) (S.sE X s W C b) hm) fun σ H Q ⟨ρ, env, ch, re, rh, h⟩ => ?_
        simp only [evE, hm, Bool.false_eq_true, if_false] at h
        exact ⟨ρ, env, ch, re, rh, h⟩
    | [], _ => exact PE.no fun σ H Q ⟨ρ, env, ch, re, rh, h⟩ => h
    | [_], [] => exact PE.no fun σ H Q ⟨ρ, env, ch, re, rh, h⟩ => h
    | [_], _ :: _ :: _ => exact PE.no fun σ H Q ⟨ρ, env, ch, re, rh, h⟩ => h
    | [op, op'], [b, e] =>
      cases hm : lastMarks [op, op'] [b, e] with
      | true => exact PE.no fun σ H Q ⟨ρ, env, ch, re, rh, h⟩ => by simp only [evE, hm, if_true] at h; exact h
      | false =>
        refine PE.of (chain_ok S C a b e op op' pos hm) fun σ H Q ⟨ρ, env, ch, re, rh, h⟩ => ?_
        simp only [evE, hm, Bool.false_eq_true, if_false] at h
        exact ⟨ρ, env, ch, re, rh, h⟩
    | _ :: _ :: _ :: _, _ => exact PE.no fun σ H Q ⟨ρ, env, ch, re, rh, h⟩ => h
    | [_, _], [] => exact PE.no fun σ H Q ⟨ρ, env, ch, re, rh, h⟩ => h
    | [_, _], [_] => exact PE.no fun σ H Q ⟨ρ, env, ch, re, rh, h⟩ => h
    | [_, _], _ :: _ :: _ :: _ => exact PE.no fun σ H Q ⟨ρ, env, ch, re, rh, h⟩ => h
  | BoolOp op es pos => exact evBool_ok S C op pos es
  | UnaryOp op a pos =>
    cases op with
    | Not => exact not_ok S C a pos
    | USub => exact neg_ok S C a pos
    | _ => exact PE.no fun σ H Q ⟨ρ, env, ch, re, rh, h⟩ => h
  | IfExp t a b pos => exact if_ok S C t a b pos
  | Tuple es k pos => exact tup_ok S C es k pos
  | List es pos => exact lst_ok S C es pos
  | ListComp elt gs scope pos => exact lkdE_ok (o := lkG T s gs) (lcs_ok S C elt gs scope pos)
  | DictComp kx vx gs scope pos =>
    match gs with
    | [⟨tg, iter, ifs, as⟩] =>
      by_cases ha : as = 0
      · subst ha
        exact PE.of (dc_ok S C kx vx tg iter ifs scope pos) fun σ H Q ⟨ρ, env, ch, re, rh, h⟩ => ⟨ρ, env, ch, re, rh, by simp only [evE, evDcs, if_true] at h; exact h⟩
      · exact PE.no fun σ H Q ⟨ρ, env, ch, re, rh, h⟩ => by simp only [evE, evDcs, if_neg ha] at h; exact h
    | [] => exact PE.no fun σ H Q ⟨ρ, env, ch, re, rh, h⟩ => h
    | _ :: _ :: _ => exact PE.no fun σ H Q ⟨ρ, env, ch, re, rh, h⟩ => h
  | Subscript a b pos =>
    have gen : isSlice b = false → (∀ env ch, evE T R s (.Subscript a b pos) env ch = if isSlice b then .bad else (R.E s a env ch).bind fun x c => (R.E s b env c).bind fun y c => ixR T R x y c) → IE X CM W (.Subscript a b pos) (evE T R s (.Subscript a b pos)) := fun hb he =>
      PE.of (subR_ok S C a b pos hb) fun σ H Q ⟨ρ, env, ch, re, rh, h⟩ => ⟨ρ, env, ch, re, rh, by rw [he, hb] at h; exact h⟩
    cases b with
    | Slice lo hi st p =>
      cases st with
      | none => exact slice_ok S C a lo hi p pos
      | some st =>
        cases lo with
        | some _ => exact PE.no fun σ H Q ⟨ρ, env, ch, re, rh, h⟩ => h
        | none =>
          cases hi with
          | some _ => exact PE.no fun σ H Q ⟨ρ, env, ch, re, rh, h⟩ => h
          | none =>
            cases hb : isBack st with
            | false => exact PE.no fun σ H Q ⟨ρ, env, ch, re, rh, h⟩ => by simp only [evE, hb, Bool.false_eq_true, if_false] at h; exact h
            | true => exact PE.of (back_ok S C a st p pos hb) fun σ H Q ⟨ρ, env, ch, re, rh, h⟩ => ⟨ρ, env, ch, re, rh, by simp only [evE, hb, if_true] at h; exact h⟩
    | _ => exact gen rfl fun _ _ => rfl
  | Attribute o f pos =>
    cases hc : isCall o with
    | true => exact PE.no fun σ H Q ⟨ρ, env, ch, re, rh, h⟩ => by simp only [evE, hc, if_true] at h; exact h
    | false => exact PE.of (fld_ok S C o f pos hc) fun σ H Q ⟨ρ, env, ch, re, rh, h⟩ => ⟨ρ, env, ch, re, rh, by simp only [evE, hc, Bool.false_eq_true, if_false] at h; exact h⟩
  | Dict ks vs pos =>
    cases ks with
    | nil =>
      cases vs with
      | nil =>
        cases hd : T.dts.contains (pos.line, pos.col) with
        | true => exact PE.of (dnewT_ok pos) fun σ H Q ⟨ρ, env, ch, re, rh, h⟩ => ⟨ρ, env, ch, re, rh, by simp only [evE, hd, if_true] at h; exact h⟩
        | false => exact PE.of (dnew_ok pos) fun σ H Q ⟨ρ, env, ch, re, rh, h⟩ => ⟨ρ, env, ch, re, rh, by simp only [evE, hd, Bool.false_eq_true, if_false] at h; exact h⟩
      | cons _ _ => exact PE.of (dict_ok S C [] _ pos) fun σ H Q ⟨ρ, env, ch, re, rh, h⟩ => ⟨ρ, env, ch, re, rh, h⟩
    | cons k ks => exact PE.of (dict_ok S C (k :: ks) vs pos) fun σ H Q ⟨ρ, env, ch, re, rh, h⟩ => ⟨ρ, env, ch, re, rh, h⟩
  | Call f args kws pos =>
    cases f with
    | Name x p =>
      by_cases hl : s.sc.names.lookup x = some .local
      · exact PE.of (callV_ok S C x p pos args kws hl) fun σ H Q ⟨ρ, env, ch, re, rh, h⟩ => ⟨ρ, env, ch, re, rh, by simp only [evE, if_pos hl] at h; exact h⟩
      · cases hqe : errOf T s x args kws with
       | some eq => exact PE.of (runEr_ok S C hqe) fun σ H Q ⟨ρ, env, ch, re, rh, h⟩ => ⟨ρ, env, ch, re, rh, by simp only [evE, if_neg hl, hqe] at h; exact h⟩
       | none =>
        cases hq : lrgArg T s x args kws with
        | some ab => exact PE.of (lrg_ok S C hq) fun σ H Q ⟨ρ, env, ch, re, rh, h⟩ => ⟨ρ, env, ch, re, rh, by simp only [evE, if_neg hl, hqe, hq] at h; exact h⟩
        | none =>
          cases hq1 : lrgArg1 T s x args kws with
          | some a => exact PE.of (lrg1_ok S C hq1) fun σ H Q ⟨ρ, env, ch, re, rh, h⟩ => ⟨ρ, env, ch, re, rh, by simp only [evE, if_neg hl, hqe, hq, hq1] at h; exact h⟩
          | none =>
            cases hq2 : ssArg T s x args kws with
            | some a => exact PE.of (ss_ok S C hq2) fun σ H Q ⟨ρ, env, ch, re, rh, h⟩ => ⟨ρ, env, ch, re, rh, by simp only [evE, if_neg hl, hqe, hq, hq1, hq2] at h; exact h⟩
            | none => exact PE.of (evCallN_ok S C x p pos args kws) fun σ H Q ⟨ρ, env, ch, re, rh, h⟩ => ⟨ρ, env, ch, re, rh, by simp only [evE, if_neg hl, hqe, hq, hq1, hq2] at h; exact h⟩
    | Attribute o m apos => exact evCallM_ok S C o m apos pos args kws
    | _ => exact PE.no fun σ H Q ⟨ρ, env, ch, re, rh, h⟩ => h
  | _ => exact PE.no fun σ H Q ⟨ρ, env, ch, re, rh, h⟩ => h
end
end LL
namespace LL
open PySem PySem.Spec PyProof.Rows L2
section
variable {T : Tab} {CM : Str → Option Addr} {R : Rc} {n : Nat} {X : Cx} {s : Sk} {W : WX}
theorem cmpT_ok (S : Sound T CM R n) (C : Ck T CM X s n W) (a b : Expr) (op : CmpOp) (pos : Pos) (hm : behindInMarks op b = false) :
    IT X CM W (.Compare a [op] [b] pos) fun env ch => (R.E s a env ch).bind fun x c => (R.E s b env c).bind fun y c => (cmpR T R op x y c).bind fun d c => match d with | .bl k => .ok k c | _ => .bad := by
  have hu : X.A.units + 65 < cLine := by have := C.room.un; omega
  refine ⟨fun pins st σ H Q I ⟨ρ, env, ch, re, rh, h⟩ => ?_⟩
  refine wpAny_isTrue_Compare1 (thn ((S.sE X s W C a).af I re rh h) fun v s1 ⟨x, H1, I1, r1, ρ1, dx, ch1, m1, k1, hh1, rv1, p1⟩ => ?_) hm
  refine thn ((S.sE X s W C b).af I1 (re.mono m1 k1) hh1 p1) fun u s2 ⟨y, H2, I2, r2, ρ2, dy, ch2, m2, k2, hh2, rv2, p2⟩ => ?_
  refine thn (cmpR_ok S C hu op pins s2 σ H2 ρ2 ch2 dx dy x y v u _ I2 r1 r2 (rv1.mono m2 k2) rv2 hh2 p2.af) fun c s3 ⟨z, H3, I3, r3, ρ3, dz, ch3, m3, k3, hh3, rv3, p3⟩ => ?_
  cases rv3 with
  | bl k =>
    cases r3
    exact wpAny_truthy_bool ⟨H3, I3, p3.ok hh3 rfl⟩
  | _ => exact p3.elim
theorem chainT_ok (S : Sound T CM R n) (C : Ck T CM X s n W) (a b e : Expr) (op op' : CmpOp) (pos : Pos) (hm : lastMarks [op, op'] [b, e] = false) : IT X CM W (.Compare a [op, op'] [b, e] pos) fun env ch => (R.E s a env ch).bind fun x c => (R.E s b env c).bind fun y c => (cmpR T R op x y c).bind fun d c => (match d with
    | .bl true => (R.E s e env c).bind fun z c => (cmpR T R op' y z c).bind fun d c => (match d with | .bl k => .ok k c | _ => .bad)
    | .bl false => .ok false c
    | _ => .bad) := by
  have hu : X.A.units + 65 < cLine := by have := C.room.un; omega
  refine ⟨fun pins st σ H Q I ⟨ρ, env, ch, re, rh, h⟩ => ?_⟩
  refine isTrue_chain (thn ((S.sE X s W C a).af I re rh h) fun v s1 ⟨x, H1, I1, r1, ρ1, dx, ch1, m1, k1, hh1, rv1, p1⟩ => test_link (thn ((S.sE X s W C b).af I1 (re.mono m1 k1) hh1 p1) fun u s2 ⟨y, H2, I2, r2, ρ2, dy, ch2, m2, k2, hh2, rv2, p2⟩ =>
    thn (cmpR_ok (CM := CM) (W := W) S C hu op pins s2 σ H2 ρ2 ch2 dx dy x y v u _ I2 r1 r2 (rv1.mono m2 k2) rv2 hh2 p2.af) fun d s3 ⟨z, H3, I3, r3, ρ3, dz, ch3, m3, k3, hh3, rv3, p3⟩ => ?_)) hm
  cases rv3 with
  | bl k =>
    cases r3
    refine wpAny_truthy_bool ?_
    cases k with
    | false => exact ite_ff ⟨H3, I3, p3.ok hh3 rfl⟩
    | true =>
      refine ite_tt (test_last (thn ((S.sE X s W C e).af I3 (((re.mono m1 k1).mono m2 k2).mono m3 k3) hh3 p3) fun w' s4 ⟨z', H4, I4, r4, ρ4, dz', ch4, m4, k4, hh4, rv4, p4⟩ =>
        thn (cmpR_ok (CM := CM) (W := W) S C hu op' pins s4 σ H4 ρ4 ch4 dy dz' y z' u w' _ I4 r2 r4 (rv2.mono (m3.trans m4) (k3.trans k4)) rv4 hh4 p4.af) fun d' s5 ⟨z2, H5, I5, r5, ρ5, dz2, ch5, m5, k5, hh5, rv5, p5⟩ => ?_))
      cases rv5 with
      | bl k2 =>
        cases r5
        exact wpAny_truthy_bool ⟨H5, I5, p5.ok hh5 rfl⟩
      | _ => exact p5.elim
  | _ => exact p3.elim
theorem truT_ok (S : Sound T CM R n) (C : Ck T CM X s n W) (e : Expr) (he : ∀ whole, isTrue e X.env whole = (do let v ← whole; standAt e.pos; holding [v] (truthy v))) : IT X CM W e fun env ch => (R.E s e env ch).bind fun d c => tr d c := by
  refine ⟨fun pins st σ H Q I ⟨ρ, env, ch, re, rh, h⟩ => ?_⟩
  refine isTrue_plain (thn ((S.sE X s W C e).af I re rh h) fun v s1 ⟨x, H1, I1, r1, ρ1, d, ch1, m1, k1, hh1, rv1, p1⟩ => ?_) (he _)
  have p2 : Post X.K CM rB (fun c d H => W c d σ H) ρ1 H1 Q ((tr d ch1).bind fun b c => .ok b c) := by
    have p1' : Post X.K CM rB (fun c d H => W c d σ H) ρ1 H1 Q (tr d ch1) := p1
    revert p1'
    cases tr d ch1 <;> exact fun z => z
  exact tr_run I1 hh1 rv1 r1 p2 fun b s2 I2 p3 => ⟨H1, I2, p3.ok hh1 rfl⟩
theorem evT_ok (S : Sound T CM R n) (C : Ck T CM X s n W) (e : Expr) : IT X CM W e (evT T R s e) := by
  cases e with
  | UnaryOp op a pos =>
    cases op with
    | Not =>
      refine PT.of (pt_not (S.sT X s W C a)) fun σ H Q ⟨ρ, env, ch, re, rh, h⟩ => ?_
      exact ⟨ρ, env, ch, re, rh, h.bind fun b c ρ1 H1 b' m1 k1 hh1 r1 p1 => by subst r1; exact p1.ok hh1 rfl⟩
    | _ => exact truT_ok S C _ fun _ => rfl
  | BoolOp op es pos => exact ⟨fun pins st σ H Q I h => evAll_ok S C op es pins st σ H Q I h⟩
  | IfExp _ _ _ _ => exact PT.no fun σ H Q ⟨ρ, env, ch, re, rh, h⟩ => h
  | Compare a ops bs pos =>
    match ops, bs with
    | [op], [b] =>
      cases hm : behindInMarks op b with
      | true => exact PT.no fun σ H Q ⟨ρ, env, ch, re, rh, h⟩ => by simp only [evT, hm, if_true] at h; exact h
      | false =>
        refine PT.of (cmpT_ok S C a b op pos hm) fun σ H Q ⟨ρ, env, ch, re, rh, h⟩ => ?_
        simp only [evT, hm, Bool.false_eq_true, if_false] at h
        exact ⟨ρ, env, ch, re, rh, h⟩
    | [], _ => exact PT.no fun σ H Q ⟨ρ, env, ch, re, rh, h⟩ => h
    | [_], [] => exact PT.no fun σ H Q ⟨ρ, env, ch, re, rh, h⟩ => h
    | [_], _ :: _ :: _ => exact PT.no fun σ H Q ⟨ρ, env, ch, re, rh, h⟩ => h
    | [op, op'], [b, e] =>
      cases hm : lastMarks [op, op'] [b, e] with
      | true => exact PT.no fun σ H Q ⟨ρ, env, ch, re, rh, h⟩ => by simp only [evT, hm, if_true] at h; exact h
      | false =>
        refine PT.of (chainT_ok S C a b e op op' pos hm) fun σ H Q ⟨ρ, env, ch, re, rh, h⟩ => ?_
        simp only [evT, hm, Bool.false_eq_true, if_false] at h
        exact ⟨ρ, env, ch, re, rh, h⟩
    | _ :: _ :: _ :: _, _ => exact PT.no fun σ H Q ⟨ρ, env, ch, re, rh, h⟩ => h
    | [_, _], [] => exact PT.no fun σ H Q ⟨ρ, env, ch, re, rh, h⟩ => h
    | [_, _], [_] => exact PT.no fun σ H Q ⟨ρ, env, ch, re, rh, h⟩ => h
    | [_, _], _ :: _ :: _ :: _ => exact PT.no fun σ H Q ⟨ρ, env, ch, re, rh, h⟩ => h
  | _ => exact truT_ok S C _ fun _ => rfl
/-! ### targets -/
theorem PG.of {e : Expr} {t t' : TG} (h : PG X e t) (i : ∀ v σ H Q, t' v σ H Q → t v σ H Q) : PG X e t' := ⟨fun pins s σ H v u Q I r hh => h.run pins s σ H v u Q I r (i v σ H Q hh)⟩
theorem PG.no {e : Expr} {t : TG} (i : ∀ v σ H Q, t v σ H Q → False) : PG X e t := ⟨fun pins s σ H v u Q I r hh => (i v σ H Q hh).elim⟩
theorem setName_ok (C : Ck T CM X s n W) (x : Str) (pos : Pos) : PG X (.Name x pos) (tG X.K CM (setName s x)) := by
  have go : Loc X.env.scope x → (∀ d env ch, setName s x d env ch = setVar s x d env ch) → PG X (.Name x pos) (tG X.K CM (setName s x)) := fun hl e => by
    cases ho : s.own x with
    | false => exact PG.no fun v σ H Q ⟨ρ, env, ch, d, re, rh, rv, h⟩ => by rw [e] at h; unfold setVar at h; rw [ho] at h; exact h
    | true =>
      cases hi : ixOf x s.N with
      | none => exact PG.no fun v σ H Q ⟨ρ, env, ch, d, re, rh, rv, h⟩ => by rw [e] at h; unfold setVar at h; rw [ho, hi] at h; exact h
      | some i =>
        refine PG.of (pg_name (i := i) (by rw [C.N]; exact C.nd) (by rw [C.N]; exact ixOf_get hi) hl (C.own x ho)) fun v σ H Q ⟨ρ, env, ch, d, re, rh, rv, h⟩ => ?_
        rw [e] at h
        unfold setVar at h
        rw [ho, hi] at h
        exact h.ok rh (re.set (.so rv) i)
  have hs : ∀ k, X.env.scope.names.lookup x = some k ↔ s.sc.names.lookup x = some k := fun k => by rw [C.sc]
  cases hl : s.sc.names.lookup x with
  | none => exact PG.no fun v σ H Q ⟨ρ, env, ch, d, re, rh, rv, h⟩ => by unfold setName at h; rw [hl] at h; exact h
  | some k =>
    cases k with
    | «local» => exact go (.inl ((hs _).mpr hl)) fun d env ch => by unfold setName; rw [hl]
    | cell => exact go (.inr ((hs _).mpr hl)) fun d env ch => by unfold setName; rw [hl]
    | _ => exact PG.no fun v σ H Q ⟨ρ, env, ch, d, re, rh, rv, h⟩ => by unfold setName at h; rw [hl] at h; exact h
theorem asgs_ok (S : Sound T CM R n) (C : Ck T CM X s n W) : ∀ es, PGs X es fun vs σ H Q => ∃ ρ env ch ds, RE X.K CM ρ H env σ ∧ RH X.K CM ρ ch H ∧ RVs X.K CM ρ H ds vs ∧ Post X.K CM (rEn X.K CM) noX ρ H Q (asgs R s es ds env ch)
  | [] => ⟨fun pins st σ H vs us Q I r ⟨ρ, env, ch, ds, re, rh, rv, h⟩ => by
    cases rv with
    | nil => cases r; exact assignInOrder_nil ⟨σ, H, I, h.ok rh re⟩
    | cons _ _ => exact h.elim⟩
  | e :: es => ⟨fun pins st σ H vs us Q I r ⟨ρ, env, ch, ds, re, rh, rv, h⟩ => by
    cases rv with
    | nil => exact h.elim
    | @cons d v ds vs rv rt =>
      cases r with
      | cons ru rr =>
        unfold asgs at h
        cases hs : isStar e with
        | true => rw [hs] at h; exact h.elim
        | false =>
          rw [hs] at h
          have hq : (assignEach (e :: es) X.env).map (·.2) = assign e X.env :: (assignEach es X.env).map (·.2) := by
            cases e <;> first | rfl | (exact absurd hs (by simp [isStar]))
          rw [hq]
          refine assignInOrder_cons (thn ((S.sG X s W C e).run pins st σ H v _ (fun σ1 H1 => ∃ ρ1 env1 ch1, Mo ρ ρ1 ∧ Keep H H1 ∧ RE X.K CM ρ1 H1 env1 σ1 ∧ RH X.K CM ρ1 ch1 H1 ∧ Post X.K CM (rEn X.K CM) noX ρ1 H1 Q (asgs R s es ds env1 ch1)) I ru ⟨ρ, env, ch, d, re, rh, rv, ?_⟩) fun _ s1 ⟨σ1, H1, I1, ρ1, env1, ch1, m1, k1, re1, hh1, p1⟩ => ?_)
          · exact Post.bind h fun env1 c ρ1 H1 σ1 m1 k1 hh1 r1 p1 => ⟨ρ1, env1, c, m1, k1, r1, hh1, p1⟩
          · exact (asgs_ok S C es).run pins s1 σ1 H1 vs _ Q I1 rr ⟨ρ1, env1, ch1, ds, re1, hh1, rt.mono m1 k1, p1⟩⟩
def rSetU : TSet := fun o i v H Q => rSetL o i v H Q ∨ rSetD o i v H Q
theorem set_any (hu : X.A.units + 1 < cLine) : PSet X rSetU := fun pins s σ H o i v ov iv u Q I ro ri rv h => h.elim (fun h => set_list pins s σ H o i v ov iv u Q I ro ri rv h) fun h => set_dict hu pins s σ H o i v ov iv u Q I ro ri rv h
theorem setIx_ok {σ : L2.St} {H : Hp} {ρ : List Addr} {ch : CH} {o i d : D} {x y v : V} {Q : Hp → Prop} (rh : RH X.K CM ρ ch H) (rx : RV X.K CM ρ H o x) (ry : RV X.K CM ρ H i y) (rv : RV X.K CM ρ H d v)
    {W : XW} (h : Post X.K CM (fun _ _ (_ : Unit) (_ : Unit) => True) W ρ H (fun _ H' => Q H') (setIx o i d ch)) : rSetU x y v H Q := by
  unfold setIx at h
  split at h
  · rename_i nn
    split at h
    · rename_i ds e
      split at h
      · split at h
        · rename_i j hj
          cases rx with
          | ref hr =>
            cases ry
            cases rh.ob _ _ _ e hr with
            | lst h1 rr =>
              refine .inl ⟨_, _, _, j, rfl, rfl, h1, by rw [← rr.length]; exact hj, ?_⟩
              exact h ρ _ () (Mo.refl _) (Keep.mut h1 (fun z => z)) (rh.mut hr h1 (fun z => z) (.lst upd_same ((rr.set rv j).mono (Mo.refl _) (Keep.mut h1 fun z => z)))) trivial
        · exact h.elim
      · exact h.elim
    · rename_i kvs e
      split at h
      · rename_i k hk
        split at h
        · rename_i hl
          cases rx with
          | @ref _ a hr =>
            cases rh.ob _ _ _ e hr with
            | @dk _ ws _ h1 rr =>
              have ek := keyD_ok ry hk
              subst ek
              refine .inr ⟨_, _, rfl, DPut.k h1 (by rw [← rr.length]; exact hl), ?_⟩
              exact h ρ _ () (Mo.refl _) (Keep.mut h1 (fun z => z)) (rh.mut hr h1 (fun z => z) (.dk upd_same ((rr.put rv).mono (Mo.refl _) (Keep.mut h1 fun z => z)))) trivial
        · exact h.elim
      · exact h.elim
    · rename_i kvs e
      split at h
      · rename_i k hk
        split at h
        · rename_i hl
          cases rx with
          | @ref _ a hr =>
            cases rh.ob _ _ _ e hr with
            | @dt _ ws _ h1 rr =>
              obtain ⟨kb, rfl, hkb⟩ := keyT_ok ry hk
              refine .inr ⟨_, _, rfl, DPut.t h1 hkb (by rw [← rr.length]; exact hl), ?_⟩
              exact h ρ _ () (Mo.refl _) (Keep.mut h1 (fun z => z)) (rh.mut hr h1 (fun z => z) (.dt upd_same ((rr.put rv).mono (Mo.refl _) (Keep.mut h1 fun z => z)))) trivial
        · exact h.elim
      · exact h.elim
    · exact h.elim
  · exact h.elim
theorem evG_ok (S : Sound T CM R n) (C : Ck T CM X s n W) (tg : Expr) : PG X tg (tG X.K CM (evG T R s tg)) := by
  cases tg with
  | Name x pos => exact setName_ok C x pos
  | Tuple es k pos =>
    cases hs : es.any isStar with
    | true => exact PG.no fun v σ H Q ⟨ρ, env, ch, d, re, rh, rv, h⟩ => by simp only [evG, hs, if_true] at h; exact h
    | false =>
      have hst : (assignEach es X.env).findIdx? (·.1) = none ∧ (assignEach es X.env).length = es.length := by
        clear C S
        induction es with
        | nil => exact ⟨rfl, rfl⟩
        | cons e es ih =>
          obtain ⟨h1, h2⟩ := Bool.or_eq_false_iff.mp (List.any_cons ▸ hs)
          obtain ⟨i1, i2⟩ := ih h2
          have hq : assignEach (e :: es) X.env = (false, assign e X.env) :: assignEach es X.env := by
            cases e <;> first | rfl | (exact absurd h1 (by simp [isStar]))
          rw [hq, List.findIdx?_cons, List.length_cons, List.length_cons, i2]
          exact ⟨by simp [i1], rfl⟩
      have ht := pg_tup (pos := pos) (k := k) C.calm (asgs_ok S C es) hst.2 hst.1
      have hl := pg_unl (pos := pos) (k := k) C.calm (asgs_ok S C es) hst.2 hst.1
      refine ⟨fun pins st σ H v u Q I r ⟨ρ, env, ch, d, re, rh, rv, h⟩ => ?_⟩
      simp only [evG, hs, Bool.false_eq_true, if_false] at h
      cases hi : itemsOf ch d with
      | none => rw [hi] at h; exact h.elim
      | some ds =>
        rw [hi] at h
        dsimp only at h
        split at h
        · rename_i hlen
          cases d with
          | tup es' =>
            cases rv with
            | tup hq rr =>
              cases hi
              exact ht.run pins st σ H _ u Q I r ⟨_, _, rfl, hq.sq, by rw [← rr.length]; exact hlen, ρ, env, ch, _, re, rh, rr, h⟩
          | ref n =>
            have hlo : lstOf ch (.ref n) = some ds := by
              simp only [itemsOf] at hi
              simp only [lstOf]
              exact hi
            obtain ⟨a, xs, rfl, hq, rr⟩ := lstOf_ok rh rv hlo
            exact hl.run pins st σ H _ u Q I r ⟨_, _, rfl, hq, by rw [← rr.length]; exact hlen, ρ, env, ch, _, re, rh, rr, h⟩
          | _ => simp [itemsOf] at hi
        · exact h.elim
  | Subscript o i pos =>
    cases hs : isSlice i with
    | true => exact PG.no fun v σ H Q ⟨ρ, env, ch, d, re, rh, rv, h⟩ => by simp only [evG, hs, if_true] at h; exact h
    | false =>
      refine PG.of (pg_sub (S.sE X s W C o) (S.sE X s W C i) (set_any (by have := C.room.un; omega)) (by intro v; cases i <;> first | rfl | (exact absurd hs (by simp [isSlice])))) fun v σ H Q ⟨ρ, env, ch, d, re, rh, rv, h⟩ => ?_
      simp only [evG, hs, Bool.false_eq_true, if_false] at h
      have h' := h.wish (W' := fun c d H => W c d σ H) fun _ _ _ z => z.elim
      refine ⟨ρ, env, ch, re, rh, h'.bind fun od c ρ1 H1 y m1 k1 hh1 r1 p1 => ?_⟩
      refine ⟨ρ1, env, c, re.mono m1 k1, hh1, p1.bind fun id c2 ρ2 H2 y2 m2 k2 hh2 r2 p2 => ?_⟩
      refine setIx_ok (σ := σ) hh2 (r1.mono m2 k2) r2 (rv.mono (m1.trans m2) (k1.trans k2)) (p2.bind fun _ c3 ρ3 H3 _ m3 k3 hh3 _ p3 => ?_)
      exact p3.ok hh3 (re.mono ((m1.trans m2).trans m3) ((k1.trans k2).trans k3))
  | _ => exact PG.no fun v σ H Q ⟨ρ, env, ch, d, re, rh, rv, h⟩ => h
end
end LL
namespace LL
open PySem PySem.Spec PyProof.Rows L2
/-! ## try / except C as n: .. / except D as m: .. -/
/-- a clause with two classes and no name -/
def wAs2 (K : PySem.W.Frag) (c1 c2 : Value) (ts : Addr → Value → Option Addr → TS) (Wout : WX) (D : Ends) : WX := fun cls d σ H =>
  ∃ b, PySem.W.exmAny K cls [c1, c2] = some b ∧ (b = true → ∀ a, H a = none → ts a cls d D σ H) ∧ (b = false → Wout cls d σ H)
/-- the clauses, and what they wish of an exception of the body -/
inductive HCl (X : Cx) (Wout : WX) : List ExceptHandler → (Ends → WX) → Prop
  | nil : HCl X Wout [] fun _ => Wout
  | cons {x n : Str} {c : Value} {i : Nat} {b₀ : Stmt} {suite : List Stmt} {np pos' : Pos} {ts : Addr → Value → Option Addr → TS} {hs : List ExceptHandler} {wr : Ends → WX} (hc : Names X x c) (hi : X.N[i]? = some n) (hln : X.env.kindOf n = some .local)
      (hsu : ∀ (a : Addr) (oe : Obj) (cls : Value) (d : Option Addr) (pn : List (Addr × Obj)), Zc cls d oe → (∃ vs, oe.data = .fields vs) → PSs (X.suite a ((a, oe) :: pn)) (b₀ :: suite) (ts a cls d)) (r : HCl X Wout hs wr) :
      HCl X Wout (.ExceptHandler (some (.Name x np)) (some n) (b₀ :: suite) pos' :: hs) fun D => wAs X.K c i ts (wr D) D
  | tup {x y : Str} {c1 c2 : Value} {b₀ : Stmt} {suite : List Stmt} {np np2 tpos pos' : Pos} {kk : Nat} {ts : Addr → Value → Option Addr → TS} {hs : List ExceptHandler} {wr : Ends → WX} (hc1 : Names X x c1) (hc2 : Names X y c2)
      (hsu : ∀ (a : Addr) (oe : Obj) (cls : Value) (d : Option Addr) (pn : List (Addr × Obj)), Zc cls d oe → (∃ vs, oe.data = .fields vs) → PSs (X.suite a ((a, oe) :: pn)) (b₀ :: suite) (ts a cls d)) (r : HCl X Wout hs wr) :
      HCl X Wout (.ExceptHandler (some (.Tuple [.Name x np, .Name y np2] kk tpos)) none (b₀ :: suite) pos' :: hs) fun D => wAs2 X.K c1 c2 ts (wr D) D
theorem TracedZ.more {h h' B : Heap} {a : Addr} {Z : Obj → Prop} {fl : Value} (x : HandSPX.TracedZ h B a Z fl) (k : ∀ b o, h.get? b = some o → h'.get? b = some o) : HandSPX.TracedZ h' B a Z fl := by
  obtain ⟨oe, vs, T, oT, ts, he, hz, hd, h1, hnT, hTe, hT, hdT, h3⟩ := x
  exact ⟨oe, vs, T, oT, ts, k _ _ he, hz, hd, h1, hnT, hTe, k _ _ hT, hdT, h3⟩
theorem FlyingZ.more {h h' B : Heap} {l : List Env} {a : Addr} {Z : Obj → Prop} (x : HandSPX.FlyingZ B l a Z h) (k : ∀ b o, h.get? b = some o → h'.get? b = some o) : HandSPX.FlyingZ B l a Z h' :=
  ⟨fun b o e => k _ _ (x.1 b o e), x.2.1, x.2.2.1.of_keeps fun b o e _ => ⟨o, k _ _ e, rfl⟩, TracedZ.more x.2.2.2 k⟩
section
variable {X : Cx} {pins pins' : List (Addr × Obj)} {H' : Hp} {σ' : L2.St} {sI s' : Shared} {a : Addr} {B : Heap} {cls : Value} {d : Option Addr} {Wout : WX} {D : Ends}
theorem handle_ok (ok : X.Ok) (hs : X.stack = X.env :: X.outer) (hf : X.env.frame = some X.env.locals) (hN : X.N.Nodup) (tk : Takes X Wout) (J : Inv X pins σ' H' sI) (nb : ∀ b o, sI.heap.get? b = some o → b ∉ frs X.stack → B.get? b = some o)
    (up : sI.heap.UpToSlots s'.heap) (os : s'.os = sI.os) (ag : AllBare s'.gens) (na : H' a = none) :
    ∀ {cl : List ExceptHandler} {wr : Ends → WX}, HCl X Wout cl wr → ∀ {h3 : Heap}, HandSPX.FlyingZ B (X.env :: X.outer) a (Zc cls d) h3 → s'.heap.UpToSlots h3 → wr D cls d σ' H' → wpAny (model X.prog X.w) X.A (handleBy (.ref a) X.env cl) (SP X pins D) X.xe { s' with heap := h3 } := by
  have hfr : X.A.frames = some (X.env :: X.outer) := by rw [ok.frames, hs]
  have notFr : ∀ {h : Heap} {o : Obj} {vs : Array Value}, h.FunFrames B (X.env :: X.outer) → h.get? a = some o → o.data = .fields vs → a ∉ frs (X.env :: X.outer) := fun {h o vs} ff e dd hm => by
    obtain ⟨_, o', e', hnf⟩ := ff.mem hm
    rw [e] at e'; cases e'
    exact hnf _ dd
  intro cl wr hcl
  induction hcl with
  | nil =>
    intro h3 fl3 up3 w
    have J3 : Inv X pins σ' H' { s' with heap := h3 } := J.landed nb fl3.1 (up.trans up3) os ag
    refine wpAny_handleBy_nil ?_
    obtain ⟨k1, k2, k3, oe, vs, T, oT, ts', he, hz, hd, h1, hr⟩ := id fl3
    unfold PySem.passOn
    refine wpAny_bind (wpAny_field he hd h1 ?_)
    rw [if_neg (show ¬ ((Value.ref T == Value.none) = true) from by simp)]
    have fin : wpAny (model X.prog X.w) X.A (setFlight (.ref a) X.env.frame) (fun _ s4 => wpAny (model X.prog X.w) X.A (throw (.ref a) : Sem Flow) (SP X pins D) X.xe s4) X.xe { s' with heap := h3 } := by
      rw [hf]
      refine HandSPX.setFlight_upZ fl3 fun h4 hh4 up4 => wpAny_throw (tk _ _ ?_)
      exact ⟨a, B, sI, pins, σ', H', cls, d, rfl, J, nb, (up.trans up3).trans up4, .inr (.inr (by rw [hs]; exact hh4)), na, os, ag, w⟩
    first
      | exact wpAny_bind (wpAny_pure (wpAny_bind fin))
      | exact wpAny_bind fin
  | @cons x n c i b₀ suite np pos' ts rest wr hc hi hln hsu r ih =>
    intro h3 fl3 up3 w
    have J3 : Inv X pins σ' H' { s' with heap := h3 } := J.landed nb fl3.1 (up.trans up3) os ag
    obtain ⟨b, hb1, hyes, hno⟩ := w
    have hloc : Loc X.env.scope n := .inl hln
    obtain ⟨oe3, vs3, he3, hz3, hd3⟩ := fl3.there
    have nfr := notFr fl3.2.2.1 he3 hd3
    have nL : a ≠ X.env.locals := fun z => nfr (List.mem_filterMap.mpr ⟨X.env, List.mem_cons_self, by rw [hf, z]⟩)
    have nF : a ∉ X.fs := fun hm => by
      obtain ⟨e, he, q⟩ := List.mem_filterMap.mp hm
      exact nfr (List.mem_filterMap.mpr ⟨e, List.mem_cons_of_mem _ he, q⟩)
    have S3 := J3.suite he3 hd3 na nL nF
    refine wpAny_handleBy_cons (codeAny_handlers_test ?_) (by intro q; cases q)
    have LT : PySem.W.Looks (model X.prog X.w) h3 (typeOf (.ref a)) cls := fun A Q E s k q => wpAny_typeOf_ref (k _ _ he3) (by rw [hz3.1]; exact q)
    have LM := PySem.W.exm_one (M := model X.prog X.w) (J3.kIn) LT hb1
    have test : ∀ {Q : Value → Shared → Prop} {E : Value → Shared → Prop}, Q c { s' with heap := h3 } → wpAny (model X.prog X.w) (X.A.mark (some (.ref a))) (eval (.Name x np) X.env) Q E { s' with heap := h3 } := fun {Q E} q => by
      obtain ⟨hg, hdbg, hm | ⟨hm, hv, hnn⟩⟩ := hc
      · exact ld_glob (X := X.suite a ((a, oe3) :: (X.pn ++ pins))) S3 hg hm q hdbg
      · exact ld_blt (X := X.suite a ((a, oe3) :: (X.pn ++ pins))) S3 hg hm hv q hnn hdbg
    refine test (LM.here ?_)
    cases b with
    | true =>
      refine codeAny_handlers_suite_as ?_
      refine HandSPX.lands_againZ fl3 fun h4 fl4 up4 => ?_
      have J4 : Inv X pins σ' H' { s' with heap := h4 } := J.landed nb fl4.1 ((up.trans up3).trans up4) os ag
      obtain ⟨oe4, vs4, he4, hz4, hd4⟩ := fl4.there
      have S4 := J4.suite he4 hd4 na nL nF
      refine store_ok (X := X.suite a ((a, oe4) :: (X.pn ++ pins))) (v := .ref a) S4 hN hi hloc rfl (fun s5 S5 => ?_) (.inr hln)
      refine wpAny_mono ((hsu a oe4 cls d (X.pn ++ pins) hz4 ⟨_, hd4⟩).run [] s5 _ H' _ S5 (hyes rfl a na)) (fun f s6 hsp => ?_) (fun _ _ z => False.elim z)
      have end_ : ∀ {σ6 : L2.St} {H6 : Hp} {Q : Shared → Prop}, Inv (X.suite a ((a, oe4) :: (X.pn ++ pins))) [] σ6 H6 s6 → (∀ s7, Inv X pins (σ6.set i none) H6 s7 → Q s7) →
          wpAny (model X.prog X.w) X.A (do bindName X.env n .none; unbindBehindTheSuite X.env n pos') (fun _ s7 => Q s7) X.xe s6 := fun {σ6 H6 Q} S6 hq => gone_ok (S6.unsuite ok) hN hi hln hq
      cases f with
      | next =>
        obtain ⟨σ6, H6, S6, q6⟩ := hsp
        exact end_ S6 fun s7 J7 => ⟨_, _, J7, q6⟩
      | brk =>
        obtain ⟨σ6, H6, S6, q6⟩ := hsp
        exact end_ S6 fun s7 J7 => ⟨_, _, J7, q6⟩
      | cont =>
        obtain ⟨σ6, H6, S6, q6⟩ := hsp
        exact end_ S6 fun s7 J7 => ⟨_, _, J7, q6⟩
      | ret u =>
        obtain ⟨v6, σ6, H6, S6, r6, q6⟩ := hsp
        exact end_ S6 fun s7 J7 => ⟨_, _, _, J7, r6, q6⟩
    | false => exact ih fl3 up3 (hno rfl)
  | @tup x y c1 c2 b₀ suite np np2 tpos pos' kk ts rest wr hc1 hc2 hsu r ih =>
    intro h3 fl3 up3 w
    have J3 : Inv X pins σ' H' { s' with heap := h3 } := J.landed nb fl3.1 (up.trans up3) os ag
    obtain ⟨b, hb1, hyes, hno⟩ := w
    obtain ⟨oe3, vs3, he3, hz3, hd3⟩ := fl3.there
    have nfr := notFr fl3.2.2.1 he3 hd3
    have nL : a ≠ X.env.locals := fun z => nfr (List.mem_filterMap.mpr ⟨X.env, List.mem_cons_self, by rw [hf, z]⟩)
    have nF : a ∉ X.fs := fun hm => by
      obtain ⟨e, he, q⟩ := List.mem_filterMap.mp hm
      exact nfr (List.mem_filterMap.mpr ⟨e, List.mem_cons_of_mem _ he, q⟩)
    have S3 := J3.suite he3 hd3 na nL nF
    refine wpAny_handleBy_cons (codeAny_handlers_test ?_) (by intro q; cases q)
    have test : ∀ {x : Str} {c : Value} {np : Pos}, Names X x c → ∀ {Q : Value → Shared → Prop} {E : Value → Shared → Prop}, Q c { s' with heap := h3 } → wpAny (model X.prog X.w) (X.A.mark (some (.ref a))) (eval (.Name x np) X.env) Q E { s' with heap := h3 } := fun {x c np} hc {Q E} q => by
      obtain ⟨hg, hdbg, hm | ⟨hm, hv, hnn⟩⟩ := hc
      · exact ld_glob (X := X.suite a ((a, oe3) :: (X.pn ++ pins))) S3 hg hm q hdbg
      · exact ld_blt (X := X.suite a ((a, oe3) :: (X.pn ++ pins))) S3 hg hm hv q hnn hdbg
    refine wpAny_Tuple ?_
    refine wpAny_items_cons (test hc1 ?_)
    refine wpAny_items_cons (test hc2 ?_)
    refine wpAny_items_nil ⟨by size_fits, ?_⟩
    have kp : ∀ q o, h3.get? q = some o → (h3.push { cls := .type "tuple", data := .seq [c1, c2].toArray }).get? q = some o := fun _ _ z => Heap.get?_push_of_some _ z
    have fl5 := FlyingZ.more fl3 kp
    have up5 := up3.trans (Heap.UpToSlots.of_keeps kp)
    have J5 : Inv X pins σ' H' { s' with heap := h3.push { cls := .type "tuple", data := .seq [c1, c2].toArray } } := J.landed nb fl5.1 (up.trans up5) os ag
    have LT : PySem.W.Looks (model X.prog X.w) (h3.push { cls := .type "tuple", data := .seq [c1, c2].toArray }) (typeOf (.ref a)) cls := fun A Q E s k q => wpAny_typeOf_ref (k _ _ (kp _ _ he3)) (by rw [hz3.1]; exact q)
    have LM := PySem.W.exm_tup2 (M := model X.prog X.w) (J5.kIn) LT (Heap.get?_push_size h3 rfl) hb1
    refine LM.here ?_
    cases b with
    | true =>
      refine codeAny_handlers_suite ?_
      refine HandSPX.lands_againZ fl5 fun h4 fl4 up4 => ?_
      have J4 : Inv X pins σ' H' { s' with heap := h4 } := J.landed nb fl4.1 ((up.trans up5).trans up4) os ag
      obtain ⟨oe4, vs4, he4, hz4, hd4⟩ := fl4.there
      have S4 := J4.suite he4 hd4 na nL nF
      refine wpAny_mono ((hsu a oe4 cls d (X.pn ++ pins) hz4 ⟨_, hd4⟩).run [] _ _ H' _ S4 (hyes rfl a na)) (fun f s6 hsp => ?_) (fun _ _ z => False.elim z)
      cases f with
      | next =>
        obtain ⟨σ6, H6, S6, q6⟩ := hsp
        exact ⟨_, _, S6.unsuite ok, q6⟩
      | brk =>
        obtain ⟨σ6, H6, S6, q6⟩ := hsp
        exact ⟨_, _, S6.unsuite ok, q6⟩
      | cont =>
        obtain ⟨σ6, H6, S6, q6⟩ := hsp
        exact ⟨_, _, S6.unsuite ok, q6⟩
      | ret u =>
        obtain ⟨v6, σ6, H6, S6, r6, q6⟩ := hsp
        exact ⟨_, _, _, S6.unsuite ok, r6, q6⟩
    | false => exact ih fl5 up5 (hno rfl)
/-- try: body / except C as n: .. -/
theorem ps_try_cl {body : List Stmt} {pos : Pos} {tb : WX → TS} {h0 : ExceptHandler} {cl : List ExceptHandler} {wr : Ends → WX} (hs : X.stack = X.env :: X.outer) (hf : X.env.frame = some X.env.locals) (hN : X.N.Nodup) (tk : Takes X Wout)
    (hb : ∀ (W : WX) (pn : List (Addr × Obj)) (xe : Value → Shared → Prop), Takes (X.tr pn xe) W → PassesOwn (model X.prog X.w) X.A X.env xe → PSs (X.tr pn xe) body (tb W)) (hcl : HCl X Wout (h0 :: cl) wr) :
    PS X (.Try body (h0 :: cl) [] [] pos) (fun D σ H => tb (wr D) D σ H) := by
  refine ⟨fun pins s σ H D I h => ?_⟩
  have ok := I.ok
  have hfr : X.A.frames = some (X.env :: X.outer) := by rw [ok.frames, hs]
  refine wpAny_Try_except ?_
  refine wpAny_mono ((hb (wr D) (X.pn ++ pins) (fun e s₁ => wpAny (model X.prog X.w) X.A (noteFrame e X.env) (fun _ s₂ => wpAny (model X.prog X.w) X.A (setFlight e none) (fun _ s₃ =>
    wpAny (model X.prog X.w) X.A (handleBy e X.env (h0 :: cl)) (SP X pins D) X.xe s₃) X.xe s₂) X.xe s₁) (fun u s' xx => ?_) PassesOwn.looking).run [] s σ H D (I.toTry _) h) (fun f s1 hsp => ?_) (fun e s1 he => he)
  · obtain ⟨a, B, sI, pins', σ', H', cls, d, rfl, J', nb, up, sky, na, os, ag, w⟩ := xx
    have J : Inv X pins σ' H' sI := J'.ofTry ok
    have sky' : Sky B (X.env :: X.outer) a (Zc cls d) X.env.locals s'.heap := by rw [← hs]; exact sky
    show wpAny (model X.prog X.w) X.A (noteFrame (.ref a) X.env) _ _ _
    refine Sky.land Zc.steady hfr hf sky' fun h3 fl3 up3 => ?_
    exact handle_ok ok hs hf hN tk J nb up os ag na hcl fl3 up3 w
  · cases f with
    | next =>
      obtain ⟨σ', H', J', q⟩ := hsp
      exact wpAny_execs_nil ⟨σ', H', J'.ofTry ok, q⟩
    | brk =>
      obtain ⟨σ', H', J', q⟩ := hsp
      exact ⟨σ', H', J'.ofTry ok, q⟩
    | cont =>
      obtain ⟨σ', H', J', q⟩ := hsp
      exact ⟨σ', H', J'.ofTry ok, q⟩
    | ret u =>
      obtain ⟨v, σ', H', J', r, q⟩ := hsp
      exact ⟨v, σ', H', J'.ofTry ok, r, q⟩
end
end LL
namespace LL
open PySem PySem.Spec PyProof.Rows L2
/-! ## what a clause tells of the exception that it caught -/
structure Cau (K : PySem.W.Frag) (CM : Str → Option Addr) (ρ : List Addr) (H : Hp) (c : Str) (fs : List (Str × D)) (C dd : Addr) : Prop where
  hc : CM c = some C
  ex : ∃ vs, H dd = some (.xd ((fs.map (·.1)).zip vs)) ∧ RVs K CM ρ H (fs.map (·.2)) vs
theorem Cau.mono {K : PySem.W.Frag} {CM : Str → Option Addr} {ρ ρ' : List Addr} {H H' : Hp} {c : Str} {fs : List (Str × D)} {C dd : Addr} (h : Cau K CM ρ H c fs C dd) (m : Mo ρ ρ') (k : Keep H H') : Cau K CM ρ' H' c fs C dd := by
  obtain ⟨vs, e, r⟩ := h.ex
  exact ⟨h.hc, vs, k _ _ e trivial, r.mono m k⟩
theorem zip_two {α β : Type} : ∀ l : List (α × β), (l.map (·.1)).zip (l.map (·.2)) = l
  | [] => rfl
  | p :: l => by simp only [List.map_cons, List.zip_cons_cons, zip_two l]
/-- the reading of a part of what a clause returns: i the slot, a the exception -/
def tHA (T : Tab) (K : PySem.W.Frag) (CM : Str → Option Addr) (i : Nat) (a : Addr) (cls : Value) (d : Option Addr) (h : HA) : TE := fun σ H Q => ∃ ρ env ch c fs C dd r, cls = .ref C ∧ d = some dd ∧ Cau K CM ρ H c fs C dd ∧ σ[i]? = some (some (.ref a)) ∧ RE K CM ρ H env σ ∧ RH K CM ρ ch H ∧ haV T.excs T.kit c fs env ch h = some r ∧ ∀ v, RV K CM ρ H r v → Q v H
section
variable {T : Tab} {CM : Str → Option Addr} {R : Rc} {n : Nat} {X : Cx} {s : Sk} {W : WX}
theorem xfld_ok (C : Ck T CM X s n W) {nm f : Str} {i : Nat} (hi : ixOf nm s.N = some i) (hl : s.sc.names.lookup nm = some .local) (h1 : (nm == ("__debug__" : Str)) = false) (h2 : (nm == ("__classdict__" : Str)) = false) {p pos : Pos} {a : Addr} {oe : Obj} {cls : Value} {d : Option Addr} {pn : List (Addr × Obj)} (hz : Zc cls d oe) (hf : ∃ vs, oe.data = .fields vs) :
    PE (X.suite a ((a, oe) :: pn)) (.Attribute (.Name nm p) f pos) (tHA T X.K CM i a cls d (.fld f)) := by
  refine ⟨fun pins st σ H Q I ⟨ρ, env, ch, c, fs, Ca, dd, r, e1, e2, cau, hs, re, rh, hv, q⟩ => ?_⟩
  simp only [haV] at hv
  split at hv
  · rename_i hx
    obtain ⟨C1, hc1, xf, hno⟩ := C.tab.xf _ _ hx
    have hCa := cau.hc
    rw [hc1] at hCa
    cases hCa
    obtain ⟨vs, hdd, rr⟩ := cau.ex
    have zl := (zip_lookup (f := f) (ns := fs.map (·.1)) (ds := fs.map (·.2)) (by simp) rr).1 r (by rw [zip_two]; exact hv)
    obtain ⟨v, hv', rv⟩ := zl
    have hN : (X.suite a ((a, oe) :: pn)).N[i]? = some nm := by show X.N[i]? = _; rw [C.N]; exact ixOf_get hi
    have vis : Vis X.env.scope nm := .inl (by rw [C.sc]; exact hl)
    exact (pe_xf xf hno hz hf (pe_var (X := X.suite a ((a, oe) :: pn)) hN vis h1 h2)).run pins st σ H Q I ⟨.ref a, hs, rfl, e1, dd, _, v, e2, hdd, hv', q v rv⟩
  · cases hv
theorem xvar_ok (C : Ck T CM X s n W) {x : Str} {j i : Nat} (hi : ixOf x s.N = some j) (hl : s.sc.names.lookup x = some .local) (h1 : (x == ("__debug__" : Str)) = false) (h2 : (x == ("__classdict__" : Str)) = false) {pos : Pos} {a : Addr} {oe : Obj} {cls : Value} {d : Option Addr} {pn : List (Addr × Obj)} :
    PE (X.suite a ((a, oe) :: pn)) (.Name x pos) (tHA T X.K CM i a cls d (.var j)) := by
  refine ⟨fun pins st σ H Q I ⟨ρ, env, ch, c, fs, Ca, dd, r, e1, e2, cau, hs, re, rh, hv, q⟩ => ?_⟩
  simp only [haV] at hv
  split at hv
  · rename_i z hz
    cases hv
    obtain ⟨v, hv, rv⟩ := re.get hz
    have hN : (X.suite a ((a, oe) :: pn)).N[j]? = some x := by show X.N[j]? = _; rw [C.N]; exact ixOf_get hi
    have vis : Vis X.env.scope x := .inl (by rw [C.sc]; exact hl)
    exact (pe_var (X := X.suite a ((a, oe) :: pn)) hN vis h1 h2).run pins st σ H Q I ⟨v, hv, q v rv⟩
  · cases hv
theorem xcon_ok {i : Nat} {a : Addr} {oe : Obj} {cls : Value} {d : Option Addr} {pn : List (Addr × Obj)} {e : Expr} {u : V} {r0 : D} (hr : ∀ ρ H, RV X.K CM ρ H r0 u) (he : PE (X.suite a ((a, oe) :: pn)) e (tC u)) :
    PE (X.suite a ((a, oe) :: pn)) e (tHA T X.K CM i a cls d (.con r0)) :=
  PE.of he fun σ H Q ⟨ρ, env, ch, c, fs, Ca, dd, r, e1, e2, cau, hs, re, rh, hv, q⟩ => by
    cases hv
    exact q u (hr ρ H)
theorem xrep_ok (C : Ck T CM X s n W) {nm f g : Str} {i : Nat} (hb : isBt T s g = true) (hg : g = "repr") (hi : ixOf nm s.N = some i) (hl : s.sc.names.lookup nm = some .local) (h1 : (nm == ("__debug__" : Str)) = false) (h2 : (nm == ("__classdict__" : Str)) = false) {p p2 p3 pos : Pos} {a : Addr} {oe : Obj} {cls : Value} {d : Option Addr} {pn : List (Addr × Obj)} (hz : Zc cls d oe) (hf : ∃ vs, oe.data = .fields vs) :
    PE (X.suite a ((a, oe) :: pn)) (.Call (.Name g p) [.Attribute (.Name nm p2) f p3] [] pos) (tHA T X.K CM i a cls d (.rep f)) := by
  subst hg
  obtain ⟨hgl, hm⟩ := isBt_ok C hb
  refine ⟨fun pins st σ H Q I ⟨ρ, env, ch, c, fs, Ca, dd, r, e1, e2, cau, hs, re, rh, hv, q⟩ => ?_⟩
  simp only [haV] at hv
  split at hv
  · rename_i hx
    obtain ⟨z, hz1, hz2⟩ := Option.bind_eq_some_iff.mp hv
    refine wpAny_Call_Name_kw (ld_blt I hgl hm PyProof.Rows.boot_repr ?_ (by decide) (by decide))
    have pa := pa_cons (xfld_ok (T := T) C hi hl h1 h2 (p := p2) (pos := p3) (f := f) hz hf (pn := pn)) pa_nil (X := X.suite a ((a, oe) :: pn)) (star_of rfl)
    refine PyProof.Rows.callWith_builtin1 (thn (pa.run pos pins st σ H (fun vs H1 => ∃ v, vs = [v] ∧ H1 = H ∧ RV X.K CM ρ H z v) I ⟨ρ, env, ch, c, fs, Ca, dd, z, e1, e2, cau, hs, re, rh, by simp only [haV]; rw [if_pos hx]; exact hz1, fun v rv => ⟨v, rfl, rfl, rv⟩⟩) fun us s1 ⟨vs, H1, I1, r1, v, ev, eH, rv⟩ => ?_) (star_of rfl) rfl
    subst ev eH
    cases r1 with
    | cons hu hus =>
      cases hus
      exact repr_run (X := X.suite a ((a, oe) :: pn)) I1 hu rv rh C.gd (by have := C.room.un; show X.A.units + 66 < cLine; omega) hz2 q
  · cases hv
theorem xisi_ok (C : Ck T CM X s n W) {nm c0 g : Str} {i : Nat} (hb : isBt T s g = true) (hg : g = "isinstance") (hgc : s.sc.names.lookup c0 = some .globalImplicit) (hi : ixOf nm s.N = some i) (hl : s.sc.names.lookup nm = some .local) (h1 : (nm == ("__debug__" : Str)) = false) (h2 : (nm == ("__classdict__" : Str)) = false) {p p2 p3 pos : Pos} {a : Addr} {oe : Obj} {cls : Value} {d : Option Addr} {pn : List (Addr × Obj)} (hz : Zc cls d oe) (hf : ∃ vs, oe.data = .fields vs) :
    PE (X.suite a ((a, oe) :: pn)) (.Call (.Name g p) [.Name nm p2, .Name c0 p3] [] pos) (tHA T X.K CM i a cls d (.isi c0)) := by
  subst hg
  obtain ⟨hgl, hm⟩ := isBt_ok C hb
  refine ⟨fun pins st σ H Q I ⟨ρ, env, ch, c, fs, Ca, dd, r, e1, e2, cau, hs, re, rh, hv, q⟩ => ?_⟩
  simp only [haV] at hv
  obtain ⟨b, hk, rfl⟩ := Option.map_eq_some_iff.mp hv
  obtain ⟨C1, cv, v, hc1, xc, hcl, hdb, ho, rv, hu, hmg⟩ := C.tab.kit _ _ _ hk
  have hCa := cau.hc
  rw [hc1] at hCa
  cases hCa
  have hN : (X.suite a ((a, oe) :: pn)).N[i]? = some nm := by show X.N[i]? = _; rw [C.N]; exact ixOf_get hi
  have vis : Vis X.env.scope nm := .inl (by rw [C.sc]; exact hl)
  have gc : Gl X c0 := by
    show X.env.kindOf c0 = _
    rw [← hgc, ← C.sc]; rfl
  have pc : PE (X.suite a ((a, oe) :: pn)) (.Name c0 p3) (tC v) := by
    rcases hmg with hmg | ⟨hmg, hbt, hnn⟩
    · exact pe_glob (X := X.suite a ((a, oe) :: pn)) gc hmg rv hdb
    · exact pe_bltn (X := X.suite a ((a, oe) :: pn)) gc hmg hbt rv hnn hdb
  refine wpAny_Call_Name_kw (ld_blt I hgl hm PyProof.Rows.boot_isinstance ?_ (by decide) (by decide))
  have pa := pa_cons (X := X.suite a ((a, oe) :: pn)) (pe_var (X := X.suite a ((a, oe) :: pn)) (pos := p2) hN vis h1 h2) (pa_cons pc pa_nil (star_of rfl)) (star_of rfl)
  refine PyProof.Rows.callWith_builtin1 (thn (pa.run pos pins st σ H (fun vs H1 => vs = [.ref a, v] ∧ H1 = H) I ⟨.ref a, hs, rfl, rfl⟩) fun us s1 ⟨vs, H1, I1, r1, ev, eH⟩ => ?_) (star_of rfl) rfl
  subst ev eH
  cases r1 with
  | cons ha hus =>
    cases hus with
    | cons hc2 hnil =>
      cases hnil
      obtain rfl := hu _ hc2
      cases (show _ = Value.ref a from ha)
      obtain ⟨hget, _⟩ := I1.pin (a, oe) (List.mem_append.mpr (.inl List.mem_cons_self))
      obtain ⟨vs0, hfv⟩ := hf
      obtain ⟨vs, hdd, rr⟩ := cau.ex
      have hok : ObjOk X.prog X.w H1 s1.heap dd (.xd ((fs.map (·.1)).zip vs)) := I1.hok dd _ hdd
      obtain ⟨mA, hns, _⟩ := hok
      obtain ⟨od, hod, _⟩ := lookIn_ns hns
      have J : PySem.W.InstAt s1.heap a oe Ca (some od) := ⟨hget, by rw [hz.1, e1], by unfold PySem.W.notCls; rw [hfv] <;> rfl, by rw [hz.2, e2]; exact hod⟩
      exact PySem.W.kia_one (PySem.W.kitx_exc hcl xc.hg xc.hk xc.hs xc.ha xc.hn xc.ht xc.hm) I1.kIn J ho (fun z => nomatch z) fun tk => ⟨.bl b, H1, I1.kept (t' := tk) fun _ _ y => y, rfl, q _ (.bl b)⟩
/-- a part of what a clause returns -/
theorem rdA_ok (C : Ck T CM X s n W) {nm : Str} {i : Nat} (hi : ixOf nm s.N = some i) (hl : s.sc.names.lookup nm = some .local) (h1 : (nm == ("__debug__" : Str)) = false) (h2 : (nm == ("__classdict__" : Str)) = false) {a : Addr} {oe : Obj} {cls : Value} {d : Option Addr} {pn : List (Addr × Obj)} (hz : Zc cls d oe) (hf : ∃ vs, oe.data = .fields vs)
    {e : Expr} {h : HA} (hr : rdA T s nm e = some h) : PE (X.suite a ((a, oe) :: pn)) e (tHA T X.K CM i a cls d h) ∧ isStar e = false := by
  unfold rdA at hr
  split at hr
  · cases hr; exact ⟨xcon_ok (fun _ _ => .non) pe_non, rfl⟩
  · cases hr; exact ⟨xcon_ok (fun _ _ => .bl _) pe_bl, rfl⟩
  · cases hr; exact ⟨xcon_ok (fun _ _ => .int _) pe_int, rfl⟩
  · cases hr; exact ⟨xcon_ok (fun _ _ => .str _) pe_str, rfl⟩
  · split at hr
    · rename_i hm
      subst hm
      cases hr
      exact ⟨xfld_ok C hi hl h1 h2 hz hf, rfl⟩
    · cases hr
  · split at hr
    · rename_i hm
      obtain ⟨hg, rfl, hb⟩ := hm
      cases hr
      exact ⟨xrep_ok C hb hg hi hl h1 h2 hz hf, rfl⟩
    · cases hr
  · split at hr
    · rename_i hm
      obtain ⟨hg, rfl, hb, hgc⟩ := hm
      cases hr
      exact ⟨xisi_ok C hb hg hgc hi hl h1 h2 hz hf, rfl⟩
    · cases hr
  · split at hr
    · rename_i hm
      obtain ⟨hx, hl2, k1, k2⟩ := hm
      obtain ⟨j, hj, rfl⟩ := Option.map_eq_some_iff.mp hr
      exact ⟨xvar_ok C hj hl2 k1 k2, rfl⟩
    · cases hr
  · cases hr
/-- the parts -/
def tHAs (T : Tab) (K : PySem.W.Frag) (CM : Str → Option Addr) (i : Nat) (a : Addr) (cls : Value) (d : Option Addr) (hs : List HA) : TA := fun σ H Q => ∃ ρ env ch c fs C dd rs, cls = .ref C ∧ d = some dd ∧ Cau K CM ρ H c fs C dd ∧ σ[i]? = some (some (.ref a)) ∧ RE K CM ρ H env σ ∧ RH K CM ρ ch H ∧ haVs T.excs T.kit c fs env ch hs = some rs ∧ ∀ vs, RVs K CM ρ H rs vs → Q vs H
theorem rdAs_ok (C : Ck T CM X s n W) {nm : Str} {i : Nat} (hi : ixOf nm s.N = some i) (hl : s.sc.names.lookup nm = some .local) (h1 : (nm == ("__debug__" : Str)) = false) (h2 : (nm == ("__classdict__" : Str)) = false) {a : Addr} {oe : Obj} {cls : Value} {d : Option Addr} {pn : List (Addr × Obj)} (hz : Zc cls d oe) (hf : ∃ vs, oe.data = .fields vs) :
    ∀ {es : List Expr} {hs : List HA}, rdAs T s nm es = some hs → PA (X.suite a ((a, oe) :: pn)) es (tHAs T X.K CM i a cls d hs)
  | [], hs, hr => by
    cases hr
    exact PA.of pa_nil fun σ H Q ⟨ρ, env, ch, c, fs, Ca, dd, rs, e1, e2, cau, hs, re, rh, hv, q⟩ => by
      cases hv
      exact q [] .nil
  | e :: es, hs, hr => by
    unfold rdAs at hr
    split at hr
    · rename_i h hs' q1 q2
      cases hr
      obtain ⟨pe, ns⟩ := rdA_ok C hi hl h1 h2 hz hf (pn := pn) q1
      refine PA.of (pa_cons pe (rdAs_ok C hi hl h1 h2 hz hf q2) (star_of ns)) fun σ H Q ⟨ρ, env, ch, c, fs, Ca, dd, rs, e1, e2, cau, hs, re, rh, hv, q⟩ => ?_
      unfold haVs at hv
      split at hv
      · rename_i r rs' v1 v2
        cases hv
        exact ⟨ρ, env, ch, c, fs, Ca, dd, r, e1, e2, cau, hs, re, rh, v1, fun v rv => ⟨ρ, env, ch, c, fs, Ca, dd, rs', e1, e2, cau, hs, re, rh, v2, fun vs rvs => q (v :: vs) (.cons rv rvs)⟩⟩
      · cases hv
    · cases hr
/-- what a clause returns -/
def tHX (T : Tab) (K : PySem.W.Frag) (CM : Str → Option Addr) (i : Nat) (a : Addr) (cls : Value) (d : Option Addr) (hx : HX) : TE := fun σ H Q => ∃ ρ env ch c fs C dd r ch', cls = .ref C ∧ d = some dd ∧ Cau K CM ρ H c fs C dd ∧ σ[i]? = some (some (.ref a)) ∧ RE K CM ρ H env σ ∧ RH K CM ρ ch H ∧ runX T.excs T.kit c fs env ch hx = .ok r ch' ∧
  ∀ ρ' H' v, Mo ρ ρ' → Keep H H' → RH K CM ρ' ch' H' → RE K CM ρ' H' env σ → RV K CM ρ' H' r v → Q v H'
theorem rdX_ok (C : Ck T CM X s n W) {nm : Str} {i : Nat} (hi : ixOf nm s.N = some i) (hl : s.sc.names.lookup nm = some .local) (h1 : (nm == ("__debug__" : Str)) = false) (h2 : (nm == ("__classdict__" : Str)) = false) {a : Addr} {oe : Obj} {cls : Value} {d : Option Addr} {pn : List (Addr × Obj)} (hz : Zc cls d oe) (hf : ∃ vs, oe.data = .fields vs)
    {e : Expr} {hx : HX} (hr : rdX T s nm e = some hx) : PE (X.suite a ((a, oe) :: pn)) e (tHX T X.K CM i a cls d hx) := by
  have one : ∀ h, rdA T s nm e = some h → hx = .one h → PE (X.suite a ((a, oe) :: pn)) e (tHX T X.K CM i a cls d hx) := fun h q1 eh => by
    subst eh
    refine PE.of (rdA_ok C hi hl h1 h2 hz hf (pn := pn) q1).1 fun σ H Q ⟨ρ, env, ch, c, fs, Ca, dd, r, ch', e1, e2, cau, hs, re, rh, hv, q⟩ => ?_
    simp only [runX] at hv
    split at hv
    · rename_i d0 hd
      cases hv
      exact ⟨ρ, env, ch, c, fs, Ca, dd, r, e1, e2, cau, hs, re, rh, hd, fun v rv => q ρ H v (Mo.refl _) (Keep.refl _) rh re rv⟩
    · cases hv
  unfold rdX at hr
  split at hr
  · obtain ⟨as, q1, rfl⟩ := Option.map_eq_some_iff.mp hr
    refine PE.of (pe_lst (rdAs_ok C hi hl h1 h2 hz hf (pn := pn) q1)) fun σ H Q ⟨ρ, env, ch, c, fs, Ca, dd, r, ch', e1, e2, cau, hs, re, rh, hv, q⟩ => ?_
    simp only [runX] at hv
    split at hv
    · rename_i ds hd
      split at hv
      · rename_i hlen
        cases hv
        refine ⟨ρ, env, ch, c, fs, Ca, dd, ds, e1, e2, cau, hs, re, rh, hd, fun vs rvs => ⟨by rw [sizeLine_eq, ← rvs.length]; exact hlen, fun p hp => ?_⟩⟩
        exact q (ρ ++ [p]) _ _ (Mo.new p) (Keep.new hp) (rh.new hp (.lst upd_same (rvs.mono (Mo.new p) (Keep.new hp)))) (re.mono (Mo.new p) (Keep.new hp)) (.ref (by rw [← rh.len]; simp))
      · cases hv
    · cases hv
  · obtain ⟨h, q1, rfl⟩ := Option.map_eq_some_iff.mp hr
    exact one h q1 rfl
end
end LL
namespace LL
open PySem PySem.Spec PyProof.Rows L2
section
variable {T : Tab} {CM : Str → Option Addr} {R : Rc} {n : Nat} {X : Cx} {s : Sk} {W : WX}
theorem PS.of {st : Stmt} {t t' : TS} (h : PS X st t) (i : ∀ Dn σ H, t' Dn σ H → t Dn σ H) : PS X st t' := ⟨fun pins s σ H Dn I hh => h.run pins s σ H Dn I (i Dn σ H hh)⟩
theorem PS.no {st : Stmt} {t : TS} (i : ∀ Dn σ H, t Dn σ H → False) : PS X st t := ⟨fun pins s σ H Dn I hh => (i Dn σ H hh).elim⟩
theorem PSs.of {st : List Stmt} {t t' : TS} (h : PSs X st t) (i : ∀ Dn σ H, t' Dn σ H → t Dn σ H) : PSs X st t' := ⟨fun pins s σ H Dn I hh => h.run pins s σ H Dn I (i Dn σ H hh)⟩
/-- an expression's part of a statement -/
theorem lift_post {K : PySem.W.Frag} {ρ : List Addr} {H : Hp} {σ : L2.St} {env : En} {α β : Type} {rel : Rel α β} {Dn : Ends} {r : Rs α} {k : α → CH → RsS} {Q : β → Hp → Prop} (re : RE K CM ρ H env σ) (h : PostS K CM W ρ H Dn (lift env r k))
    (g : ∀ x ch' ρ' H' y, Mo ρ ρ' → Keep H H' → RH K CM ρ' ch' H' → rel ρ' H' x y → PostS K CM W ρ' H' Dn (k x ch') → Q y H') : Post K CM rel (fun c d H => W c d σ H) ρ H Q r := by
  cases r with
  | ok a ch => exact fun ρ' H' b m k' hh hr => g a ch ρ' H' b m k' hh hr (PostS.mono m k' h)
  | exc c fs ch => exact fun ρ' H' C dd vs m k' hh hc hd rv => h ρ' σ H' C dd vs m k' (re.mono m k') hh hc hd rv
  | bad => exact h
theorem liftG_post {K : PySem.W.Frag} {ρ : List Addr} {H : Hp} {α β : Type} {rel : Rel α β} {Dn : Ends} {r : Rs α} {k : α → CH → RsS} {Q : β → Hp → Prop} (h : PostS K CM W ρ H Dn (liftG r k))
    (g : ∀ x ch' ρ' H' y, Mo ρ ρ' → Keep H H' → RH K CM ρ' ch' H' → rel ρ' H' x y → PostS K CM W ρ' H' Dn (k x ch') → Q y H') : Post K CM rel noX ρ H Q r := by
  cases r with
  | ok a ch => exact fun ρ' H' b m k' hh hr => g a ch ρ' H' b m k' hh hr (PostS.mono m k' h)
  | exc c fs ch => exact h.elim
  | bad => exact h
theorem PostS.go {K : PySem.W.Frag} {ρ : List Addr} {H : Hp} {σ : L2.St} {env : En} {ch : CH} {Dn : Ends} (h : PostS K CM W ρ H Dn (.ok env .nx ch)) (re : RE K CM ρ H env σ) (rh : RH K CM ρ ch H) : Dn.nx σ H := h ρ σ H (Mo.refl _) (Keep.refl _) re rh
/-- loops -/
theorem for_ok (S : Sound T CM R n) (C : Ck T CM X s n W) (tg it : Expr) (body : List Stmt) (pos : Pos) : PS X (.For tg it body [] pos) (tS X.K CM W fun env ch => lift env (evIt T R s (isTup tg) it env ch) fun w c => forB R s tg body (okW w) w.ds env c) := by
  by_cases hset : ∃ elts k p, it = .Set elts k p
  · obtain ⟨elts, k, p, rfl⟩ := hset
    exact PS.no fun Dn σ H ⟨ρ, env, ch, re, rh, h⟩ => h
  refine PS.of (ps_for C.po C.calm (evIt_ok S C tg it id) (S.sG X s W C tg) (S.sB X s W C body) (foldS X.env fun elts k p e => hset ⟨elts, k, p, e⟩)) fun Dn σ H ⟨ρ, env, ch, re, rh, h⟩ => ?_
  refine ⟨ρ, env, ch, re, rh, lift_post re h fun w c ρ1 H1 J m1 k1 hh1 wk p1 => ?_⟩
  refine ⟨fun i m σ2 H2 => m = w.ds.length - i ∧ i ≤ w.ds.length ∧ ∃ ρ2 env2 ch2, Mo ρ1 ρ2 ∧ Keep H1 H2 ∧ RE X.K CM ρ2 H2 env2 σ2 ∧ RH X.K CM ρ2 ch2 H2 ∧ PostS X.K CM W ρ2 H2 Dn (forB R s tg body (okW w) (w.ds.drop i) env2 ch2),
    ⟨w.ds.length, by simp, Nat.zero_le _, ρ1, env, c, Mo.refl _, Keep.refl _, re.mono m1 k1, hh1, by simpa using p1⟩, ?_⟩
  rintro i m σ2 H2 ⟨rfl, hi, ρ2, env2, ch2, m2, k2, re2, hh2, p2⟩
  cases hk : okW w ch2 with
  | false =>
    exfalso
    cases hd : w.ds.drop i with
    | nil => rw [hd] at p2; unfold forB at p2; rw [hk] at p2; exact p2
    | cons d ds => rw [hd] at p2; unfold forB at p2; rw [hk] at p2; exact p2
  | true =>
    obtain ⟨w1, w2⟩ := wk i ρ2 ch2 H2 m2 k2 hh2 hk
    cases hd : w.ds.drop i with
    | nil =>
      rw [hd] at p2
      unfold forB at p2
      rw [hk] at p2
      have hl : w.ds.length ≤ i := by
        have := congrArg List.length hd
        rw [List.length_drop] at this
        simp at this
        omega
      exact .inl ⟨w2 hl, p2.go re2 hh2⟩
    | cons d ds =>
      have hlt : i < w.ds.length := by
        have := congrArg List.length hd
        rw [List.length_drop] at this
        simp at this
        omega
      have hx : w.ds[i]? = some d := by
        have := congrArg (fun l => l[0]?) hd
        simpa using this
      have hds : w.ds.drop (i + 1) = ds := by
        have := congrArg List.tail hd
        simpa using this
      obtain ⟨go, yl⟩ := w1 d hx
      rw [hd] at p2
      unfold forB at p2
      rw [hk, if_pos rfl] at p2
      refine .inr ⟨go, fun σ' H' => w.ds.length - (i + 1) = w.ds.length - (i + 1) ∧ i + 1 ≤ w.ds.length ∧ ∃ ρ2 env2 ch2, Mo ρ1 ρ2 ∧ Keep H1 H' ∧ RE X.K CM ρ2 H' env2 σ' ∧ RH X.K CM ρ2 ch2 H' ∧ PostS X.K CM W ρ2 H' Dn (forB R s tg body (okW w) (w.ds.drop (i + 1)) env2 ch2),
        fun σ' H' z => ⟨w.ds.length - (i + 1), by omega, z⟩, fun x H' y => ?_⟩
      obtain ⟨k3, hh3, rv⟩ := yl x H' y
      refine ⟨ρ2, env2, ch2, d, re2.mono (Mo.refl _) k3, hh3, rv, liftG_post (PostS.mono (Mo.refl _) k3 p2) fun env4 ch4 ρ4 H4 σ4 m4 k4 hh4 re4 p4 => ?_⟩
      refine ⟨ρ4, env4, ch4, re4, hh4, ?_⟩
      have mm : ∀ {ρ'}, Mo ρ4 ρ' → Mo ρ1 ρ' := fun z => m2.trans (m4.trans z)
      have kk : ∀ {H'}, Keep H4 H' → Keep H1 H' := fun z => k2.trans (k3.trans (k4.trans z))
      cases hr : R.B s body env4 ch4 with
      | bad => rw [hr] at p4; exact p4
      | exc e c fs h => rw [hr] at p4; exact p4
      | ok env5 f ch5 =>
        rw [hr] at p4
        cases f with
        | nx => exact fun ρ' σ' H' m k re' rh' => ⟨rfl, hlt, ρ', env5, ch5, mm m, kk k, re', rh', by rw [hds]; exact PostS.mono m k p4⟩
        | ct => exact fun ρ' σ' H' m k re' rh' => ⟨rfl, hlt, ρ', env5, ch5, mm m, kk k, re', rh', by rw [hds]; exact PostS.mono m k p4⟩
        | br => exact fun ρ' σ' H' m k re' rh' => p4 ρ' σ' H' m k re' rh'
        | rt v => exact p4
theorem while_ok (S : Sound T CM R n) (C : Ck T CM X s n W) (t : Expr) (body : List Stmt) (pos : Pos) (N : Nat) : PS X (.While t body [] pos) (tS X.K CM W (whB R s t body N)) := by
  refine PS.of (ps_while C.po (S.sT X s W C t) (S.sB X s W C body)) fun Dn σ H ⟨ρ, env, ch, re, rh, h⟩ => ?_
  refine ⟨fun m σ2 H2 => ∃ ρ2 env2 ch2, RE X.K CM ρ2 H2 env2 σ2 ∧ RH X.K CM ρ2 ch2 H2 ∧ PostS X.K CM W ρ2 H2 Dn (whB R s t body m env2 ch2), ⟨N, ρ, env, ch, re, rh, h⟩, ?_⟩
  rintro m σ2 H2 ⟨ρ2, env2, ch2, re2, hh2, p2⟩
  cases m with
  | zero => exact p2.elim
  | succ m =>
    unfold whB at p2
    refine ⟨ρ2, env2, ch2, re2, hh2, lift_post re2 p2 fun b c ρ3 H3 b' m3 k3 hh3 e3 p3 => ?_⟩
    subst e3
    cases b with
    | false => exact iteF (p3.go (re2.mono m3 k3) hh3)
    | true =>
      refine iteT ⟨fun σ' H' => ∃ ρ2 env2 ch2, RE X.K CM ρ2 H' env2 σ' ∧ RH X.K CM ρ2 ch2 H' ∧ PostS X.K CM W ρ2 H' Dn (whB R s t body m env2 ch2), fun σ' H' z => ⟨m, Nat.lt_succ_self _, z⟩, ρ3, env2, c, re2.mono m3 k3, hh3, ?_⟩
      rw [if_pos rfl] at p3
      cases hr : R.B s body env2 c with
      | bad => rw [hr] at p3; exact p3
      | exc e c fs h => rw [hr] at p3; exact p3
      | ok env5 f ch5 =>
        rw [hr] at p3
        cases f with
        | nx => exact fun ρ' σ' H' m k re' rh' => ⟨ρ', env5, ch5, re', rh', PostS.mono m k p3⟩
        | ct => exact fun ρ' σ' H' m k re' rh' => ⟨ρ', env5, ch5, re', rh', PostS.mono m k p3⟩
        | br => exact fun ρ' σ' H' m k re' rh' => p3 ρ' σ' H' m k re' rh'
        | rt v => exact p3
end
end LL
namespace LL
open PySem PySem.Spec PyProof.Rows L2
section
variable {T : Tab} {CM : Str → Option Addr} {R : Rc} {n : Nat} {X : Cx} {s : Sk} {W : WX}
theorem asgG_ok {tg e : Expr} {pos : Pos} {m0 : En → CH → Rs D} {m : D → En → CH → Rs En} (he : IE X CM W e m0) (hg : PG X tg (tG X.K CM m)) (hsw : swapsWith e (some tg) pos.line X.env = pure false) (hst : swappedStores [tg] e X.env = pure none) (hs : isStar tg = false) :
    PS X (.Assign [tg] e pos) (tS X.K CM W fun env ch => lift env (m0 env ch) fun d c => liftG (m d env c) fun env c => .ok env .nx c) := by
  refine PS.of (ps_asg he hg hsw hst (by cases tg <;> first | rfl | (exact absurd hs (by simp [isStar])))) fun Dn σ H ⟨ρ, env, ch, re, rh, h⟩ => ?_
  refine ⟨ρ, env, ch, re, rh, lift_post re h fun d c ρ1 H1 v m1 k1 hh1 r1 p1 => ?_⟩
  refine ⟨ρ1, env, c, d, re.mono m1 k1, hh1, r1, liftG_post p1 fun env2 c2 ρ2 H2 σ2 m2 k2 hh2 r2 p2 => p2.go r2 hh2⟩
theorem swNames_ok (C : Ck T CM X s n W) {ts vs : List Expr} {k k2 : Nat} {p p2 : Pos} {r : Option (List Str)} (h : swNames s.sc ts vs = some r) : swappedStores [.Tuple ts k p] (.Tuple vs k2 p2) X.env = pure r := by
  have hb : X.env.blockKind = .function := by unfold Env.blockKind; rw [C.knd]; rfl
  have hk : ∀ x, X.env.kindOf x = s.sc.names.lookup x := fun x => by rw [← C.sc]; rfl
  unfold swNames at h
  unfold swappedStores
  simp only [hb, hk]
  have hz : ((ScopeKind.function : ScopeKind) != ScopeKind.function) = false := rfl
  simp only [hz, Bool.or_false]
  split at h
  · rename_i e; cases h; exact if_pos e
  · rename_i e
    refine (if_neg e).trans ?_
    split at h
    · rename_i e2; cases h; exact if_pos e2
    · rename_i e2
      refine (if_neg e2).trans ?_
      dsimp only at h ⊢
      split at h
      · rename_i e3; cases h; exact if_pos e3
      · rename_i e3
        refine (if_neg e3).trans ?_
        split at h
        · rename_i e4; cases h; exact if_pos e4
        · rename_i e4
          refine (if_neg e4).trans ?_
          split at h
          · cases h
          · rename_i e5; cases h; exact if_neg e5
theorem setLc_ok (S : Sound T CM R n) (C : Ck T CM X s n W) (x : Str) (px pos sp : Pos) (elt : Expr) (gs : List Comprehension) (scope : Scope) : PS X (.Assign [.Name x px] (.ListComp elt gs scope pos) sp) (tS X.K CM W fun env ch => if (ixOf x s.N).isNone then .bad else lift env (evLcs T R s elt gs scope env ch) fun d c => liftG (setName s x d env c) fun env c => .ok env .nx c) := by
  cases hix : ixOf x s.N with
  | none => exact PS.no fun Dn σ H ⟨ρ, env, ch, re, rh, h⟩ => h
  | some i =>
  match gs with
  | [] => exact PS.no fun Dn σ H ⟨ρ, env, ch, re, rh, h⟩ => h
  | [⟨tg, iter, ifs, as⟩, ⟨tg1, iter1, ifs1, as1⟩] =>
    by_cases ha : as = 0 ∧ as1 = 0
    · obtain ⟨rfl, rfl⟩ := ha
      have hsw : swapsWith (.ListComp elt [⟨tg, iter, ifs, 0⟩, ⟨tg1, iter1, ifs1, 0⟩] scope pos) (some (.Name x px)) sp.line X.env = pure (X.env.blockKind == .function && X.env.kindOf x == some .local && px.line == pos.line && !(scope.names.any fun (n, k) => n == x && (k == .local || k == .cell))) := rfl
      cases hb : (X.env.blockKind == .function && X.env.kindOf x == some .local && px.line == pos.line && !(scope.names.any fun (n, k) => n == x && (k == .local || k == .cell))) with
      | false =>
        rw [hb] at hsw
        refine PS.of (asgG_ok (lc2_ok S C elt tg iter ifs tg1 iter1 ifs1 scope pos) (setName_ok C x px) hsw rfl rfl) fun Dn σ H ⟨ρ, env, ch, re, rh, h⟩ => ⟨ρ, env, ch, re, rh, by simp only [evLcs, and_self, if_true, hix] at h; exact h⟩
      | true =>
        rw [hb] at hsw
        simp only [Bool.and_eq_true] at hb
        have hxl : X.env.scope.names.lookup x = some .local := beq_iff_eq.mp hb.1.1.2
        cases hc : (blkC s.N s.sc scope (ownOf s.N scope) && !isSet iter && !isSet iter1) with
        | false => exact PS.no fun Dn σ H ⟨ρ, env, ch, re, rh, h⟩ => by simp only [evLcs, and_self, if_true, evLc2, hc] at h; exact h
        | true =>
          obtain ⟨h12, h3⟩ := Bool.and_eq_true_iff.mp hc
          obtain ⟨h1, h2⟩ := Bool.and_eq_true_iff.mp h12
          have bk := blkOk_by h1
          cases ht : tgOf (blkS s scope) ((ownOf s.N scope).map (·.2)) tg with
          | none => exact PS.no fun Dn σ H ⟨ρ, env, ch, re, rh, h⟩ => by simp only [evLcs, and_self, if_true, evLc2, hc, ht] at h; exact h
          | some t =>
            cases ht1 : tgOf (blkS s scope) ((ownOf s.N scope).map (·.2)) tg1 with
            | none => exact PS.no fun Dn σ H ⟨ρ, env, ch, re, rh, h⟩ => by simp only [evLcs, and_self, if_true, evLc2, hc, ht, ht1] at h; exact h
            | some t1 =>
              have C' := fun st H A cl fp => C.blk (scope := scope) bk.kind st H A cl fp
              refine PS.of (ps_setLc2 (i := i) (vs1 := tgVs s t1) (wi := tIt X.K CM W (evIt T R s (tuT t) iter)) (g := gT X.K t) (tt := ttOf X CM R (blkS s scope) ifs) (wi1 := tIt X.K CM (fun _ _ _ _ => False) (evIt T R (blkS s scope) (tuT t1) iter1)) (g1 := gT X.K t1) (tt1 := ttOf X CM R (blkS s scope) ifs1) (te := tI X.K CM (fun _ _ _ _ => False) (R.E (blkS s scope) elt)) C.calm (by rw [C.N]; exact C.nd) (by rw [C.N]; exact ixOf_get hix) hxl hsw (evIt_ok S C tg iter (tgOf_tu ht)) (by rw [C.N, C.sc]; exact bk) (tgVs_sub (tgOf_in ht1)) (fun st H A cl fp => (tgOf_ok (C' st H A cl fp) ht).1) (fun st H A cl fp => evIfs_ok S (C' st H A cl fp) ifs) (fun st H A cl fp => evIt_ok S (C' st H A cl fp) tg1 iter1 (tgOf_tu ht1)) (fun st H A cl fp => (tgOf_ok (C' st H A cl fp) ht1).1) (fun st H A cl fp => evIfs_ok S (C' st H A cl fp) ifs1) (fun st H A cl fp => S.sE _ _ _ (C' st H A cl fp) elt) (isSet_ok (by simpa using h2) _) (fun env => isSet_ok (by simpa using h3) env)) fun Dn σ H ⟨ρ, env, ch, re, rh, h⟩ => ?_
              refine lc2_post re rh (tgOf_in ht) (tgVs_in s t1) (lift_post re (r := (evIt T R s (tuT t) iter env ch).bind fun w c => (cmpB2 T R (blkS s scope) t ifs t1 iter1 ifs1 elt (okW w) (wipeE env ((ownOf s.N scope).map (·.2))) (tgVs s t1) c.sz w.ds (c.push (.lst []))).bind fun _ c2 => .ok (.ref c.sz) c2) (k := fun d c => liftG (setName s x d env c) fun env c => .ok env .nx c) (by simp only [evLcs, and_self, if_true, evLc2, hc, ht, ht1] at h; exact h) fun d c ρ1 H1 v m1 k1 hh1 r1 p1 => ?_)
              have hsn : setName s x d env c = setVar s x d env c := by unfold setName; rw [← C.sc, hxl]
              rw [hsn] at p1
              unfold setVar at p1
              cases ho : s.own x with
              | false => rw [ho] at p1; exact p1.elim
              | true =>
                rw [ho, hix] at p1
                exact PostS.go p1 ((re.mono m1 k1).set (.so r1) i) hh1
    · exact PS.no fun Dn σ H ⟨ρ, env, ch, re, rh, h⟩ => by simp only [evLcs, if_neg ha] at h; exact h
  | _ :: _ :: _ :: _ => exact PS.no fun Dn σ H ⟨ρ, env, ch, re, rh, h⟩ => h
  | [⟨tg, iter, ifs, as⟩] =>
    by_cases ha : as = 0
    · subst ha
      have hsw : swapsWith (.ListComp elt [⟨tg, iter, ifs, 0⟩] scope pos) (some (.Name x px)) sp.line X.env = pure (X.env.blockKind == .function && X.env.kindOf x == some .local && px.line == pos.line && !(scope.names.any fun (n, k) => n == x && (k == .local || k == .cell))) := rfl
      cases hb : (X.env.blockKind == .function && X.env.kindOf x == some .local && px.line == pos.line && !(scope.names.any fun (n, k) => n == x && (k == .local || k == .cell))) with
      | false =>
        rw [hb] at hsw
        refine PS.of (asgG_ok (lc_ok S C elt tg iter ifs scope pos) (setName_ok C x px) hsw rfl rfl) fun Dn σ H ⟨ρ, env, ch, re, rh, h⟩ => ⟨ρ, env, ch, re, rh, by simp only [evLcs, if_true, hix] at h; exact h⟩
      | true =>
        rw [hb] at hsw
        simp only [Bool.and_eq_true] at hb
        have hxl : X.env.scope.names.lookup x = some .local := beq_iff_eq.mp hb.1.1.2
        cases hc : (blkC s.N s.sc scope (ownOf s.N scope) && !isSet iter) with
        | false => exact PS.no fun Dn σ H ⟨ρ, env, ch, re, rh, h⟩ => by simp only [evLcs, if_true, evLc, hc] at h; exact h
        | true =>
          obtain ⟨h1, h2⟩ := Bool.and_eq_true_iff.mp hc
          have bk := blkOk_by h1
          cases ht : tgOf (blkS s scope) ((ownOf s.N scope).map (·.2)) tg with
          | none => exact PS.no fun Dn σ H ⟨ρ, env, ch, re, rh, h⟩ => by simp only [evLcs, if_true, evLc, hc, ht] at h; exact h
          | some t =>
            have C' := fun st H A cl fp => C.blk (scope := scope) bk.kind st H A cl fp
            refine PS.of (ps_setLc (i := i) (wi := tIt X.K CM W (evIt T R s (tuT t) iter)) (g := gT X.K t) (tt := fun σ H Q => ∃ ρ env ch, RE X.K CM ρ H env σ ∧ RH X.K CM ρ ch H ∧ Post X.K CM rB noX ρ H Q (evIfs R (blkS s scope) ifs env ch)) (te := tI X.K CM (fun _ _ _ _ => False) (R.E (blkS s scope) elt)) C.calm (by rw [C.N]; exact C.nd) (by rw [C.N]; exact ixOf_get hix) hxl hsw (evIt_ok S C tg iter (tgOf_tu ht)) (by rw [C.N, C.sc]; exact bk) (fun st H A cl fp => (tgOf_ok (C' st H A cl fp) ht).1) (fun st H A cl fp => evIfs_ok S (C' st H A cl fp) ifs) (fun st H A cl fp => S.sE _ _ _ (C' st H A cl fp) elt) (isSet_ok (by simpa using h2) _)) fun Dn σ H ⟨ρ, env, ch, re, rh, h⟩ => ?_
            refine lc_post re rh (tgOf_in ht) (lift_post re (r := (evIt T R s (tuT t) iter env ch).bind fun w c => (cmpB R (blkS s scope) t ifs elt (okW w) (wipeE env ((ownOf s.N scope).map (·.2))) c.sz w.ds (c.push (.lst []))).bind fun _ c2 => .ok (.ref c.sz) c2) (k := fun d c => liftG (setName s x d env c) fun env c => .ok env .nx c) (by simp only [evLcs, if_true, evLc, hc, ht] at h; exact h) fun d c ρ1 H1 v m1 k1 hh1 r1 p1 => ?_)
            have hsn : setName s x d env c = setVar s x d env c := by unfold setName; rw [← C.sc, hxl]
            rw [hsn] at p1
            unfold setVar at p1
            cases ho : s.own x with
            | false => rw [ho] at p1; exact p1.elim
            | true =>
              rw [ho, hix] at p1
              exact PostS.go p1 ((re.mono m1 k1).set (.so r1) i) hh1
    · exact PS.no fun Dn σ H ⟨ρ, env, ch, re, rh, h⟩ => by simp only [evLcs, if_neg ha] at h; exact h
theorem setDc_ok (S : Sound T CM R n) (C : Ck T CM X s n W) (x : Str) (px pos sp : Pos) (kx vx : Expr) (gs : List Comprehension) (scope : Scope) : PS X (.Assign [.Name x px] (.DictComp kx vx gs scope pos) sp) (tS X.K CM W fun env ch => if (ixOf x s.N).isNone then .bad else lift env (evDcs T R s kx vx gs scope env ch) fun d c => liftG (setName s x d env c) fun env c => .ok env .nx c) := by
  cases hix : ixOf x s.N with
  | none => exact PS.no fun Dn σ H ⟨ρ, env, ch, re, rh, h⟩ => h
  | some i =>
  match gs with
  | [] => exact PS.no fun Dn σ H ⟨ρ, env, ch, re, rh, h⟩ => h
  | [⟨tg, iter, ifs, as⟩] =>
    by_cases ha : as = 0
    · subst ha
      have hsw : swapsWith (.DictComp kx vx [⟨tg, iter, ifs, 0⟩] scope pos) (some (.Name x px)) sp.line X.env = pure (X.env.blockKind == .function && X.env.kindOf x == some .local && px.line == pos.line && !(scope.names.any fun (n, k) => n == x && (k == .local || k == .cell))) := rfl
      cases hb : (X.env.blockKind == .function && X.env.kindOf x == some .local && px.line == pos.line && !(scope.names.any fun (n, k) => n == x && (k == .local || k == .cell))) with
      | false =>
        rw [hb] at hsw
        refine PS.of (asgG_ok (dc_ok S C kx vx tg iter ifs scope pos) (setName_ok C x px) hsw rfl rfl) fun Dn σ H ⟨ρ, env, ch, re, rh, h⟩ => ⟨ρ, env, ch, re, rh, by simp only [evDcs, if_true, hix] at h; exact h⟩
      | true =>
        rw [hb] at hsw
        simp only [Bool.and_eq_true] at hb
        have hxl : X.env.scope.names.lookup x = some .local := beq_iff_eq.mp hb.1.1.2
        cases hc : (blkC s.N s.sc scope (ownOf s.N scope) && !isSet iter) with
        | false => exact PS.no fun Dn σ H ⟨ρ, env, ch, re, rh, h⟩ => by simp only [evDcs, if_true, evDc, hc] at h; exact h
        | true =>
          obtain ⟨h1, h2⟩ := Bool.and_eq_true_iff.mp hc
          have bk := blkOk_by h1
          cases ht : tgOf (blkS s scope) ((ownOf s.N scope).map (·.2)) tg with
          | none => exact PS.no fun Dn σ H ⟨ρ, env, ch, re, rh, h⟩ => by simp only [evDcs, if_true, evDc, hc, ht] at h; exact h
          | some t =>
            have C' := fun st H A cl fp => C.blk (scope := scope) bk.kind st H A cl fp
            refine PS.of (ps_setDc (i := i) (wi := tIt X.K CM W (evIt T R s (tuT t) iter)) (g := gT X.K t) (tt := fun σ H Q => ∃ ρ env ch, RE X.K CM ρ H env σ ∧ RH X.K CM ρ ch H ∧ Post X.K CM rB noX ρ H Q (evIfs R (blkS s scope) ifs env ch)) (tk := tI X.K CM (fun _ _ _ _ => False) (R.E (blkS s scope) kx)) (tv := tI X.K CM (fun _ _ _ _ => False) (R.E (blkS s scope) vx)) C.calm (by rw [C.N]; exact C.nd) (by rw [C.N]; exact ixOf_get hix) hxl hsw (evIt_ok S C tg iter (tgOf_tu ht)) (by rw [C.N, C.sc]; exact bk) (fun st H A cl fp => (tgOf_ok (C' st H A cl fp) ht).1) (fun st H A cl fp => evIfs_ok S (C' st H A cl fp) ifs) (fun st H A cl fp => S.sE _ _ _ (C' st H A cl fp) kx) (fun st H A cl fp => S.sE _ _ _ (C' st H A cl fp) vx) (isSet_ok (by simpa using h2) _)) fun Dn σ H ⟨ρ, env, ch, re, rh, h⟩ => ?_
            refine dc_post re rh (tgOf_in ht) (lift_post re (r := (evIt T R s (tuT t) iter env ch).bind fun w c => (cmpD R (blkS s scope) t ifs kx vx (okW w) (wipeE env ((ownOf s.N scope).map (·.2))) c.sz w.ds (c.push (.dk []))).bind fun _ c2 => .ok (.ref c.sz) c2) (k := fun d c => liftG (setName s x d env c) fun env c => .ok env .nx c) (by simp only [evDcs, if_true, evDc, hc, ht] at h; exact h) fun d c ρ1 H1 v m1 k1 hh1 r1 p1 => ?_)
            have hsn : setName s x d env c = setVar s x d env c := by unfold setName; rw [← C.sc, hxl]
            rw [hsn] at p1
            unfold setVar at p1
            cases ho : s.own x with
            | false => rw [ho] at p1; exact p1.elim
            | true =>
              rw [ho, hix] at p1
              exact PostS.go p1 ((re.mono m1 k1).set (.so r1) i) hh1
    · exact PS.no fun Dn σ H ⟨ρ, env, ch, re, rh, h⟩ => by simp only [evDcs, if_neg ha] at h; exact h
  | _ :: _ :: _ => exact PS.no fun Dn σ H ⟨ρ, env, ch, re, rh, h⟩ => h
theorem parS_ok (S : Sound T CM R n) (C : Ck T CM X s n W) (ts vs : List Expr) (k k2 : Nat) (p p2 pos : Pos) : PS X (.Assign [.Tuple ts k p] (.Tuple vs k2 p2) pos) (tS X.K CM W (parS R s ts vs)) := by
  unfold parS
  split
  · rename_i x px y py a b
    split
    · rename_i i j hi hj
      by_cases hq : i ≠ j ∧ s.sc.names.lookup x = some .local ∧ s.sc.names.lookup y = some .local ∧ swNames s.sc [.Name x px, .Name y py] [a, b] = some (some [x, y])
      · refine PS.of (ps_par (i := i) (j := j) C.calm (by rw [C.N]; exact C.nd) (by rw [C.N]; exact ixOf_get hi) (by rw [C.N]; exact ixOf_get hj) hq.1 (by rw [C.sc]; exact hq.2.1) (by rw [C.sc]; exact hq.2.2.1) (evs_ok S C [a, b]) (swNames_ok C hq.2.2.2)) fun Dn σ H ⟨ρ, env, ch, re, rh, h⟩ => ?_
        dsimp only at h
        rw [if_pos hq] at h
        refine ⟨ρ, env, ch, re, rh, lift_post re h fun ds c ρ1 H1 ws m1 k1 hh1 r1 p1 => ?_⟩
        split at p1
        · rename_i d e
          cases r1 with
          | cons rd r1 =>
            cases r1 with
            | cons rf r1 =>
              cases r1
              exact ⟨_, _, rfl, p1.go (((re.mono m1 k1).set (.so rd) i).set (.so rf) j) hh1⟩
        · exact p1.elim
      · exact PS.no fun Dn σ H ⟨ρ, env, ch, re, rh, h⟩ => by dsimp only at h; rw [if_neg hq] at h; exact h
    · exact PS.no fun Dn σ H ⟨ρ, env, ch, re, rh, h⟩ => h
  · rename_i x px y py z pz a b g
    split
    · rename_i i j l hi hj hl
      by_cases hq : i ≠ j ∧ i ≠ l ∧ j ≠ l ∧ s.sc.names.lookup x = some .local ∧ s.sc.names.lookup y = some .local ∧ s.sc.names.lookup z = some .local ∧ swNames s.sc [.Name x px, .Name y py, .Name z pz] [a, b, g] = some (some [x, y, z])
      · refine PS.of (ps_par3 (i := i) (j := j) (l := l) C.calm (by rw [C.N]; exact C.nd) (by rw [C.N]; exact ixOf_get hi) (by rw [C.N]; exact ixOf_get hj) (by rw [C.N]; exact ixOf_get hl) hq.1 hq.2.1 hq.2.2.1 (by rw [C.sc]; exact hq.2.2.2.1) (by rw [C.sc]; exact hq.2.2.2.2.1) (by rw [C.sc]; exact hq.2.2.2.2.2.1) (evs_ok S C [a, b, g]) (swNames_ok C hq.2.2.2.2.2.2)) fun Dn σ H ⟨ρ, env, ch, re, rh, h⟩ => ?_
        dsimp only at h
        rw [if_pos hq] at h
        refine ⟨ρ, env, ch, re, rh, lift_post re h fun ds c ρ1 H1 ws m1 k1 hh1 r1 p1 => ?_⟩
        split at p1
        · rename_i d e f
          cases r1 with
          | cons rd r1 =>
            cases r1 with
            | cons rf r1 =>
              cases r1 with
              | cons rg r1 =>
                cases r1
                exact ⟨_, _, _, rfl, p1.go ((((re.mono m1 k1).set (.so rd) i).set (.so rf) j).set (.so rg) l) hh1⟩
        · exact p1.elim
      · exact PS.no fun Dn σ H ⟨ρ, env, ch, re, rh, h⟩ => by dsimp only at h; rw [if_neg hq] at h; exact h
    · exact PS.no fun Dn σ H ⟨ρ, env, ch, re, rh, h⟩ => h
  · exact PS.no fun Dn σ H ⟨ρ, env, ch, re, rh, h⟩ => h
theorem tupS_ok (S : Sound T CM R n) (C : Ck T CM X s n W) (ts vs : List Expr) (k k2 : Nat) (p p2 pos : Pos) : PS X (.Assign [.Tuple ts k p] (.Tuple vs k2 p2) pos) (tS X.K CM W fun env ch => match swNames s.sc ts vs with
    | some none => lift env (R.E s (.Tuple vs k2 p2) env ch) fun d c => liftG (R.G s (.Tuple ts k p) d env c) fun env c => .ok env .nx c
    | some (some _) => parS R s ts vs env ch
    | none => .bad) := by
  cases hq : swNames s.sc ts vs with
  | none => exact PS.no fun Dn σ H ⟨ρ, env, ch, re, rh, h⟩ => h
  | some r =>
    cases r with
    | none => exact PS.of (asgG_ok (S.sE X s W C _) (S.sG X s W C _) rfl (swNames_ok C hq) rfl) fun Dn σ H ⟨ρ, env, ch, re, rh, h⟩ => ⟨ρ, env, ch, re, rh, h⟩
    | some ns => exact PS.of (parS_ok S C ts vs k k2 p p2 pos) fun Dn σ H ⟨ρ, env, ch, re, rh, h⟩ => ⟨ρ, env, ch, re, rh, h⟩
end
end LL
namespace LL
open PySem PySem.Spec PyProof.Rows L2
/-! ## try, except -/
theorem lookup_any {α β : Type} [BEq α] [LawfulBEq α] {a : α} {b : β} : ∀ {l : List (α × β)}, (a, b) ∈ l → ∃ c, l.lookup a = some c
  | [], h => by cases h
  | (x, y) :: r, h => by
    rw [List.lookup_cons]
    cases e : (a == x) with
    | true => exact ⟨y, rfl⟩
    | false =>
      rcases List.mem_cons.mp h with z | z
      · cases z
        simp at e
      · exact lookup_any z
theorem conD_ok {e : Expr} {d : D} (h : conD e = some d) : ∃ u : V, (∀ X : Cx, PE X e (tC u)) ∧ ∀ K CM ρ H, RV K CM ρ H d u := by
  unfold conD at h
  split at h
  · cases h; exact ⟨.non, fun _ => pe_non, fun _ _ _ _ => .non⟩
  · cases h; exact ⟨.bl _, fun _ => pe_bl, fun _ _ _ _ => .bl _⟩
  · cases h; exact ⟨.int _, fun _ => pe_int, fun _ _ _ _ => .int _⟩
  · cases h; exact ⟨.str _, fun _ => pe_str, fun _ _ _ _ => .str _⟩
  · cases h
section
variable {T : Tab} {CM : Str → Option Addr} {R : Rc} {n : Nat} {X : Cx} {s : Sk} {W : WX}
theorem RE.len {K : PySem.W.Frag} {ρ : List Addr} {H : Hp} : ∀ {e : En} {σ : L2.St}, RE K CM ρ H e σ → σ.length = e.length
  | _, _, .nil => rfl
  | _, _, .cons _ t => congrArg (· + 1) (RE.len t)
theorem rdX_two {nm : Str} {e : Expr} {hx : HX} (h : rdX T s nm e = some hx) : ∀ y d, hx ≠ .two y d := by
  unfold rdX at h
  split at h
  · obtain ⟨_, _, rfl⟩ := Option.map_eq_some_iff.mp h
    exact fun _ _ z => by cases z
  · obtain ⟨_, _, rfl⟩ := Option.map_eq_some_iff.mp h
    exact fun _ _ z => by cases z
theorem catE_one {cat : List ((Str × Str) × Bool)} {exs : List (Str × Str)} {kit : List ((Str × Str) × Bool)} {c : Str} {fs : List (Str × D)} {env : En} {ch : CH} {x : Str} {i : Nat} {hx : HX} {r : List Hd} (h : ∀ y d, hx ≠ .two y d) :
    catE cat exs kit c fs env ch (⟨x, i, hx⟩ :: r) = (match cat.lookup (c, x) with
    | some true => if i < env.length then (match runX exs kit c fs (env.set i none) ch hx with
      | .ok d ch' => .ok (env.set i none) (.rt d) ch'
      | _ => .bad) else .bad
    | some false => catE cat exs kit c fs env ch r
    | none => .bad) := by
  cases hx with
  | two y d => exact absurd rfl (h y d)
  | one a => rfl
  | lst as => rfl
theorem cl_ok (C : Ck T CM X s n W) : ∀ {cl : List ExceptHandler} {hds : List Hd}, rdHs T s cl = some hds → ∃ wr, HCl X W cl wr ∧
    ∀ (D : Ends) ρ σ H Ca dd c fs env ch, RE X.K CM ρ H env σ → RH X.K CM ρ ch H → Cau X.K CM ρ H c fs Ca dd → PostS X.K CM W ρ H D (catE T.cat T.excs T.kit c fs env ch hds) → wr D (.ref Ca) (some dd) σ H
  | [], hds, hr => by
    cases hr
    refine ⟨_, .nil, fun D ρ σ H Ca dd c fs env ch re rh cau p => ?_⟩
    obtain ⟨vs, e, r⟩ := cau.ex
    exact p ρ σ H Ca dd vs (Mo.refl _) (Keep.refl _) re rh cau.hc e r
  | h :: cl, hds, hr => by
    unfold rdHs at hr
    split at hr
    · rename_i hd hds' q1 q2
      cases hr
      obtain ⟨wr, hcl, hw⟩ := cl_ok C q2
      unfold rdH at q1
      split at q1
      · rename_i x np nm e rp pos'
        split at q1
        · rename_i hq
          obtain ⟨g1, g2, g3, g4, g5⟩ := hq
          split at q1
          · rename_i i hx hi hrx
            cases q1
            obtain ⟨q, hqm, hqx⟩ := List.any_eq_true.mp g5
            have hqx : q.1.2 = x := of_decide_eq_true hqx
            obtain ⟨b0, hb0⟩ := lookup_any (a := q.1) (b := q.2) (l := T.cat) hqm
            obtain ⟨C0, cv, hC0, hdb, hmg, _⟩ := C.tab.cat q.1.1 x b0 (by rw [← hqx]; exact hb0)
            have gx : Gl X x := by
              show X.env.kindOf x = _
              rw [← g1, ← C.sc]; rfl
            have hN : X.N[i]? = some nm := by rw [C.N]; exact ixOf_get hi
            have hln : X.env.kindOf nm = some .local := by rw [← g2, ← C.sc]; rfl
            refine ⟨_, .cons (ts := fun a cls d => tRet (tHX T X.K CM i a cls d hx)) ⟨gx, hdb, .inl hmg⟩ hN hln (fun a oe cls d pn hz hf => pss_one (ps_ret (rdX_ok C hi g2 g3 g4 hz hf hrx))) hcl, fun D ρ σ H Ca dd c fs env ch re rh cau p => ?_⟩
            rw [catE_one (rdX_two hrx)] at p
            split at p
            · rename_i hb
              obtain ⟨C1, cv1, hC1, _, hmg1, hex⟩ := C.tab.cat _ _ _ hb
              have z := cau.hc
              rw [hC1] at z; cases z
              rw [hmg] at hmg1; cases hmg1
              split at p
              · rename_i hlt
                split at p
                · rename_i r ch' hrun
                  refine ⟨true, hex, fun _ a ha => ?_, fun z => by cases z⟩
                  have hset : (σ.set i (some (V.ref a)))[i]? = some (some (.ref a)) := by rw [List.getElem?_set_self (by rw [re.len]; exact hlt)]
                  exact ⟨ρ, env.set i none, ch, c, fs, Ca, dd, r, ch', rfl, rfl, cau, hset, RE.set (.no _) i re, rh, hrun, fun ρ' H' v m k rh' re' rv => p ρ' _ H' m k re' rh' v rv⟩
                · exact p.elim
              · exact p.elim
            · rename_i hb
              obtain ⟨C1, cv1, hC1, _, hmg1, hex⟩ := C.tab.cat _ _ _ hb
              have z := cau.hc
              rw [hC1] at z; cases z
              rw [hmg] at hmg1; cases hmg1
              exact ⟨false, hex, (fun z => by cases z), fun _ => hw D ρ σ H Ca dd c fs env ch re rh cau p⟩
            · exact p.elim
          · cases q1
        · cases q1
      · rename_i x np y np2 kk tp e rp pos'
        split at q1
        · rename_i hq
          obtain ⟨g1, g2, g5, g6⟩ := hq
          obtain ⟨d0, hd0, rfl⟩ := Option.map_eq_some_iff.mp q1
          obtain ⟨u, pu, ru⟩ := conD_ok hd0
          have nm : ∀ {x : Str}, s.sc.names.lookup x = some .globalImplicit → (T.cat.any fun q => decide (q.1.2 = x)) = true → ∃ cv, Names X x cv ∧ ∀ c b, T.cat.lookup (c, x) = some b → ∃ C1, CM c = some C1 ∧ PySem.W.exmOne X.K (.ref C1) cv = some b := fun {x} g1 g5 => by
            obtain ⟨q, hqm, hqx⟩ := List.any_eq_true.mp g5
            have hqx : q.1.2 = x := of_decide_eq_true hqx
            obtain ⟨b0, hb0⟩ := lookup_any (a := q.1) (b := q.2) (l := T.cat) hqm
            obtain ⟨C0, cv, hC0, hdb, hmg, _⟩ := C.tab.cat q.1.1 x b0 (by rw [← hqx]; exact hb0)
            have gx : Gl X x := by
              show X.env.kindOf x = _
              rw [← g1, ← C.sc]; rfl
            refine ⟨cv, ⟨gx, hdb, .inl hmg⟩, fun c b hb => ?_⟩
            obtain ⟨C1, cv1, hC1, _, hmg1, hex⟩ := C.tab.cat _ _ _ hb
            rw [hmg] at hmg1; cases hmg1
            exact ⟨C1, hC1, hex⟩
          obtain ⟨cx, nx, ex⟩ := nm g1 g5
          obtain ⟨cy, ny, ey⟩ := nm g2 g6
          refine ⟨_, .tup (ts := fun a cls d => tRet (tC u)) nx ny (fun a oe cls d pn hz hf => pss_one (ps_ret (pu _))) hcl, fun D ρ σ H Ca dd c fs env ch re rh cau p => ?_⟩
          have e0 : catE T.cat T.excs T.kit c fs env ch (⟨x, 0, .two y d0⟩ :: hds') = (match T.cat.lookup (c, x), T.cat.lookup (c, y) with
            | some b1, some b2 => if (b1 || b2) = true then .ok env (.rt d0) ch else catE T.cat T.excs T.kit c fs env ch hds'
            | _, _ => .bad) := rfl
          rw [e0] at p
          split at p
          · rename_i b1 b2 h1 h2
            obtain ⟨C1, k1, m1⟩ := ex _ _ h1
            obtain ⟨C2, k2, m2⟩ := ey _ _ h2
            have z := cau.hc
            rw [k1] at z; cases z
            rw [k1] at k2; cases k2
            have hm : PySem.W.exmAny X.K (.ref Ca) [cx, cy] = some (b1 || b2) := by
              unfold PySem.W.exmAny
              rw [m1]
              unfold PySem.W.exmAny
              rw [m2]
              unfold PySem.W.exmAny
              simp
            split at p
            · rename_i hb
              rw [hb] at hm
              exact ⟨true, hm, fun _ a ha => p ρ σ H (Mo.refl _) (Keep.refl _) re rh u (ru _ _ _ _), fun z => by cases z⟩
            · rename_i hb
              have hb : (b1 || b2) = false := by cases hq : (b1 || b2) with
                | true => exact absurd hq hb
                | false => rfl
              rw [hb] at hm
              exact ⟨false, hm, (fun z => by cases z), fun _ => hw D ρ σ H Ca dd c fs env ch re rh cau p⟩
          · exact p.elim
        · cases q1
      · cases q1
    · cases hr
theorem try_okS (S : Sound T CM R n) (C : Ck T CM X s n W) (ht : s.top = true) {body : List Stmt} {h0 : ExceptHandler} {hs : List ExceptHandler} {hds : List Hd} (hr : rdHs T s (h0 :: hs) = some hds) (pos : Pos) :
    PS X (.Try body (h0 :: hs) [] [] pos) (tS X.K CM W fun env ch => tryE T.cat T.excs T.kit hds (R.B s body env ch)) := by
  obtain ⟨wr, hcl, hw⟩ := cl_ok C hr
  obtain ⟨k1, k2⟩ := C.stk ht
  refine PS.of (ps_try_cl (tb := fun W' => tS X.K CM W' (R.B s body)) k1 k2 (by rw [C.N]; exact C.nd) C.tk (fun W' pn xe tk po => S.sB (X.tr pn xe) s W' ⟨C.N, C.sc, C.nd, C.calm, C.knd, C.room, C.gd, tk, po, C.own, C.stk, C.tab⟩ body) hcl) fun D σ H ⟨ρ, env, ch, re, rh, p⟩ => ⟨ρ, env, ch, re, rh, ?_⟩
  dsimp only at p
  cases hb : R.B s body env ch with
  | ok env' f c => rw [hb] at p; exact p
  | bad => rw [hb] at p; exact p
  | exc env' c fs ch' =>
    rw [hb] at p
    intro ρ' σ' H' Ca dd vs m k re' rh' hc hdd rvs
    exact hw D ρ' σ' H' Ca dd c fs env' ch' re' rh' ⟨hc, vs, hdd, rvs⟩ (PostS.mono m k p)
end
end LL
namespace LL
open PySem PySem.Spec PyProof.Rows L2
section
variable {T : Tab} {CM : Str → Option Addr} {R : Rc} {n : Nat} {X : Cx} {s : Sk} {W : WX}
theorem swaps_no {e : Expr} (h : isComp e = false) (t : Option Expr) (l : Nat) (env : Env) : swapsWith e t l env = pure false := by
  cases e <;> first | rfl | (exact absurd h (by simp [isComp]))
theorem stores_no {tg e : Expr} (h : (isTupE tg && isTupE e) = false) (ht : ∀ ts p, tg ≠ .List ts p) (env : Env) : swappedStores [tg] e env = pure none := by
  cases tg with
  | Tuple ts k p =>
    cases e <;> first
      | rfl
      | (exact absurd h (by simp [isTupE]))
  | List ts p => exact absurd rfl (ht ts p)
  | _ => rfl
theorem asg_ok (S : Sound T CM R n) (C : Ck T CM X s n W) (tg e : Expr) (pos : Pos) {m : D → En → CH → Rs En} (hg : PG X tg (tG X.K CM m)) (hc : isComp e = false) (ht : (isTupE tg && isTupE e) = false) (hl : ∀ ts p, tg ≠ .List ts p) (hs : isStar tg = false) :
    PS X (.Assign [tg] e pos) (tS X.K CM W fun env ch => lift env (R.E s e env ch) fun d c => liftG (m d env c) fun env c => .ok env .nx c) := by
  refine PS.of (ps_asg (S.sE X s W C e) hg (swaps_no hc _ _ _) (stores_no ht hl _) (by cases tg <;> first | rfl | (exact absurd hs (by simp [isStar])))) fun Dn σ H ⟨ρ, env, ch, re, rh, h⟩ => ?_
  refine ⟨ρ, env, ch, re, rh, lift_post re h fun d c ρ1 H1 v m1 k1 hh1 r1 p1 => ?_⟩
  refine ⟨ρ1, env, c, d, re.mono m1 k1, hh1, r1, liftG_post p1 fun env2 c2 ρ2 H2 σ2 m2 k2 hh2 r2 p2 => p2.go r2 hh2⟩
theorem augF_ok {op : Operator} {f : Int → Int → Int} (h : augF op = some f) : PIp X op (ipI f) := by
  unfold augF at h
  split at h
  · cases h; exact ip_add
  · cases h; exact ip_sub
  · cases h
theorem augS_ok (S : Sound T CM R n) (C : Ck T CM X s n W) {x : Str} {p pos : Pos} {op : Operator} {e : Expr} {i : Nat} {f : Int → Int → Int} (hp : PIp X op (ipI f)) (hl : s.sc.names.lookup x = some .local) (hi : ixOf x s.N = some i) (ho : s.own x = true) :
    PS X (.AugAssign (.Name x p) op e pos) (tS X.K CM W (augS R s f i e)) := by
  have hx : Loc X.env.scope x := .inl (by rw [C.sc]; exact hl)
  refine PS.of (ps_aug (i := i) (by rw [C.N]; exact C.nd) (by rw [C.N]; exact ixOf_get hi) hx (S.sE X s W C e) hp (C.own x ho)) fun Dn σ H ⟨ρ, env, ch, re, rh, h⟩ => ?_
  unfold augS at h
  split at h
  · rename_i d0 e0
    obtain ⟨v0, hv0, r0⟩ := re.get e0
    refine ⟨v0, hv0, ρ, env, ch, re, rh, lift_post re h fun d c ρ1 H1 v m1 k1 hh1 r1 p1 => ?_⟩
    split at p1
    · cases r0; cases r1
      exact ⟨_, _, rfl, rfl, p1.go ((re.mono m1 k1).set (.so (.int _)) i) hh1⟩
    · exact p1.elim
  · exact h.elim
theorem if_okS (S : Sound T CM R n) (C : Ck T CM X s n W) (c : Expr) (a b : List Stmt) (pos : Pos) : PS X (.If c a b pos) (tS X.K CM W fun env ch => lift env (R.T s c env ch) fun q c => if q = true then R.B s a env c else R.B s b env c) := by
  refine PS.of (ps_if (S.sT X s W C c) (S.sB X s W C a) (S.sB X s W C b)) fun Dn σ H ⟨ρ, env, ch, re, rh, h⟩ => ?_
  refine ⟨ρ, env, ch, re, rh, lift_post re h fun q c ρ1 H1 q' m1 k1 hh1 e1 p1 => ?_⟩
  subst e1
  cases q with
  | true => exact iteT ⟨ρ1, env, c, re.mono m1 k1, hh1, p1⟩
  | false => exact iteF ⟨ρ1, env, c, re.mono m1 k1, hh1, p1⟩
theorem putFld_ok (S : Sound T CM R n) (C : Ck T CM X s n W) (o e : Expr) (f : Str) (p pos : Pos) (hc : isComp e = false) :
    PS X (.Assign [.Attribute o f p] e pos) (tS X.K CM W fun env ch => lift env (R.E s e env ch) fun v c => lift env (R.E s o env c) fun d c => match putFld T f d v c with
    | some c => .ok env .nx c
    | none => .bad) := by
  refine PS.of (ps_fld (S.sE X s W C o) (S.sE X s W C e) (swaps_no hc _ _ _)) fun Dn σ H ⟨ρ, env, ch, re, rh, h⟩ => ?_
  refine ⟨ρ, env, ch, re, rh, lift_post re h fun v c ρ1 H1 y m1 k1 hh1 r1 p1 => ?_⟩
  refine ⟨ρ1, env, c, re.mono m1 k1, hh1, lift_post (re.mono m1 k1) p1 fun d c2 ρ2 H2 x m2 k2 hh2 r2 p2 => ?_⟩
  have r1' := r1.mono m2 k2
  have re2 := (re.mono m1 k1).mono m2 k2
  unfold putFld at p2
  cases r2 with
  | @ref nn a hr =>
    dsimp only at p2
    cases hg : c2.get nn with
    | none => rw [hg] at p2; exact p2.elim
    | some co =>
      rw [hg] at p2
      cases co with
      | ins cn fs =>
        dsimp only at p2
        cases hq : (T.cls.contains cn && T.flds.contains (cn, f) && decide (fs.length < 1000)) with
        | false => rw [hq] at p2; exact p2.elim
        | true =>
          rw [hq] at p2
          obtain ⟨hq1, h3⟩ := Bool.and_eq_true_iff.mp hq
          obtain ⟨h1, h2⟩ := Bool.and_eq_true_iff.mp hq1
          have h3 := of_decide_eq_true h3
          cases hh2.ob _ _ _ hg hr with
          | @ins _ Ca dx ns ds vs _ hC hH hl rr =>
            obtain ⟨C1, e1, cl⟩ := C.tab.cl _ (List.contains_iff_mem.mp h1)
            obtain ⟨C2, e3, na⟩ := C.tab.fl _ _ (List.contains_iff_mem.mp h2)
            rw [hC] at e1 e3
            cases e1; cases e3
            obtain ⟨ns', ds', vs', z1, z2, z3, zk⟩ := putFD_zip (CM := CM) (f := f) (d := v) (v := y) hl rr.length
            have kk : Keep H2 (upd H2 a (.ins Ca dx (putF f y (ns.zip vs)))) := Keep.mut hH fun z => z
            refine ⟨a, Ca, dx, _, rfl, hH, cl, na, by rw [List.length_zip] at h3 ⊢; rw [← rr.length]; exact h3, ?_⟩
            refine p2 ρ2 σ _ (Mo.refl _) kk (re2.mono (Mo.refl _) kk) (hh2.mut hr hH (fun z => z) ?_)
            rw [z1]
            exact .ins (dx := dx) hC (by rw [upd_same, z2]) z3 (zk (rr.mono (Mo.refl _) kk) (r1'.mono (Mo.refl _) kk))
      | _ => exact p2.elim
  | _ => exact p2.elim
theorem asgE_ok (S : Sound T CM R n) (C : Ck T CM X s n W) (tg e : Expr) (pos : Pos) : PS X (.Assign [tg] e pos) (tS X.K CM W (asgE T R s tg e)) := by
  have bad : ∀ {m : En → CH → RsS}, (∀ env ch, m env ch = .bad) → PS X (.Assign [tg] e pos) (tS X.K CM W m) := fun {m} hm => PS.no fun Dn σ H ⟨ρ, env, ch, re, rh, h⟩ => by rw [hm] at h; exact h
  have gen : (∀ ts p, tg ≠ .List ts p) → isStar tg = false → (isTupE tg && isTupE e) = false → PS X (.Assign [tg] e pos) (tS X.K CM W fun env ch => if isComp e then .bad else lift env (R.E s e env ch) fun d c => liftG (R.G s tg d env c) fun env c => .ok env .nx c) := fun hl hs ht => by
    cases hc : isComp e with
    | true => exact bad fun _ _ => rfl
    | false => exact PS.of (asg_ok S C tg e pos (S.sG X s W C tg) hc ht hl hs) fun Dn σ H ⟨ρ, env, ch, re, rh, h⟩ => ⟨ρ, env, ch, re, rh, h⟩
  cases tg with
  | Name x px =>
    cases e with
    | DictComp kx vx gs scope p => exact setDc_ok S C x px p pos kx vx gs scope
    | ListComp elt gs scope p => exact setLc_ok S C x px p pos elt gs scope
    | _ => exact gen (fun _ _ z => by cases z) rfl rfl
  | Tuple ts k p =>
    cases e with
    | Tuple vs k2 p2 => exact tupS_ok S C ts vs k k2 p p2 pos
    | _ => exact gen (fun _ _ z => by cases z) rfl rfl
  | Attribute o f p =>
    have ha : ∀ env ch, asgE T R s (.Attribute o f p) e env ch = if isComp e then .bad else lift env (R.E s e env ch) fun v c => lift env (R.E s o env c) fun d c => (match putFld T f d v c with
      | some c => .ok env .nx c
      | none => .bad) := fun _ _ => by cases e <;> rfl
    cases hc : isComp e with
    | true => exact bad fun env ch => by rw [ha, hc]; rfl
    | false => exact PS.of (putFld_ok S C o e f p pos hc) fun Dn σ H ⟨ρ, env, ch, re, rh, h⟩ => ⟨ρ, env, ch, re, rh, by rw [ha, hc] at h; exact h⟩
  | Starred _ _ => exact bad fun _ _ => by cases e <;> rfl
  | List _ _ => exact bad fun _ _ => by cases e <;> rfl
  | Subscript o k p =>
    cases e with
    | ListComp elt gs scope lp => exact PS.of (asgG_ok (S.sE X s W C _) (S.sG X s W C _) rfl rfl rfl) fun Dn σ H ⟨ρ, env, ch, re, rh, h⟩ => ⟨ρ, env, ch, re, rh, h⟩
    | _ => exact gen (fun _ _ z => by cases z) rfl rfl
  | _ => cases e <;> exact gen (fun _ _ z => by cases z) rfl rfl
theorem raise_ok (S : Sound T CM R n) (C : Ck T CM X s n W) {x f : Str} (hx : T.excs.lookup x = some f) (hg : s.sc.names.lookup x = some .globalImplicit) (hd : (x == ("__debug__" : Str)) = false) (a : Expr) (hst : isStar a = false) (p p2 pos : Pos) :
    PS X (.Raise (some (.Call (.Name x p) [a] [] p2)) none pos) (tS X.K CM W fun env ch => lift env (R.E s a env ch) fun d c => .exc env x [(f, d)] c) := by
  obtain ⟨Ca, fI, fd, p', hcm, hmg, OX, hI, tI', hb, _, hF⟩ := C.tab.exc x f hx
  have gl : Gl X x := by show X.env.scope.names.lookup x = _; rw [C.sc]; exact hg
  have st : starEach [a] X.env = (false, eval a X.env) :: starEach [] X.env := by
    cases a <;> first | rfl | (simp [isStar] at hst)
  have mk : PMk X (.Call (.Name x p) [a] [] p2) (tMkO Ca (spX Ca f) [] (tCons (tI X.K CM W (R.E s a)) tNil)) :=
    pmk_young (CX := CX0) OX ⟨hI, tI'⟩ (hF X.w X.base CX0) (C.room.mono S.two) hb .nil pass0 ⟨gl, hmg⟩ (pa_cons (S.sE X s W C a) pa_nil st) hd st rfl
  refine PS.of (ps_raise C.calm C.tk mk) fun Dn σ H ⟨ρ, env, ch, re, rh, h⟩ => ?_
  refine ⟨ρ, env, ch, re, rh, lift_post re h fun d c ρ1 H1 v m1 k1 hh1 r1 p1 => ?_⟩
  refine ⟨by simp, fun e he => ⟨e, v, rfl, upd_same, fun dx n1 n2 => ?_⟩⟩
  rw [upd_ne n2] at n1
  refine ⟨rfl, dx, [(f, v)], upd_same, by rw [upd_ne n2, upd_same], n1, ?_⟩
  have eH : upd (L2.del (upd (upd (upd H1 e (exo e Ca none)) dx (exd dx [(f, v)])) e (exo e Ca (some dx))) e) dx (.xd [(f, v)]) = upd H1 dx (.xd [(f, v)]) := by
    funext b
    by_cases hb : b = dx
    · rw [hb, upd_same, upd_same]
    · rw [upd_ne hb, upd_ne hb]
      by_cases hbe : b = e
      · rw [hbe, L2.del_same, he]
      · rw [L2.del_ne hbe, upd_ne hbe, upd_ne hb, upd_ne hbe]
  rw [eH]
  exact p1 ρ1 σ (upd H1 dx (.xd [(f, v)])) Ca dx [v] (Mo.refl _) (Keep.new n1) ((re.mono m1 k1).mono (Mo.refl _) (Keep.new n1)) (hh1.laid n1) hcm upd_same (.cons (r1.mono (Mo.refl _) (Keep.new n1)) .nil)
theorem exS_ok (S : Sound T CM R n) (C : Ck T CM X s n W) (st : Stmt) : PS X st (tS X.K CM W (exS T R s st)) := by
  cases st with
  | Expr e pos =>
    cases hc : isComp e with
    | true => exact PS.no fun Dn σ H ⟨ρ, env, ch, re, rh, h⟩ => by simp only [exS, hc, if_true] at h; exact h
    | false =>
      refine PS.of (ps_expr (S.sE X s W C e) (swaps_no hc _ _ _)) fun Dn σ H ⟨ρ, env, ch, re, rh, h⟩ => ?_
      simp only [exS, hc, Bool.false_eq_true, if_false] at h
      exact ⟨ρ, env, ch, re, rh, lift_post re h fun d c ρ1 H1 v m1 k1 hh1 r1 p1 => p1.go (re.mono m1 k1) hh1⟩
  | Assign tgs e pos =>
    match tgs with
    | [tg] => exact asgE_ok S C tg e pos
    | [] => exact PS.no fun Dn σ H ⟨ρ, env, ch, re, rh, h⟩ => h
    | _ :: _ :: _ => exact PS.no fun Dn σ H ⟨ρ, env, ch, re, rh, h⟩ => h
  | AugAssign tg op e pos =>
    cases tg with
    | Name x p =>
      cases hf : augF op with
      | none => exact PS.no fun Dn σ H ⟨ρ, env, ch, re, rh, h⟩ => by simp only [exS, hf] at h; exact h
      | some f =>
        cases hi : ixOf x s.N with
        | none => exact PS.no fun Dn σ H ⟨ρ, env, ch, re, rh, h⟩ => by simp only [exS, hf, hi] at h; exact h
        | some i =>
          by_cases hq : s.sc.names.lookup x = some .local ∧ s.own x = true
          · refine PS.of (augS_ok S C (augF_ok hf) hq.1 hi hq.2) fun Dn σ H ⟨ρ, env, ch, re, rh, h⟩ => ?_
            simp only [exS, hf, hi] at h
            rw [if_pos hq] at h
            exact ⟨ρ, env, ch, re, rh, h⟩
          · exact PS.no fun Dn σ H ⟨ρ, env, ch, re, rh, h⟩ => by simp only [exS, hf, hi] at h; rw [if_neg hq] at h; exact h
    | _ => exact PS.no fun Dn σ H ⟨ρ, env, ch, re, rh, h⟩ => h
  | If c a b pos => exact if_okS S C c a b pos
  | For tg it body els pos =>
    cases els with
    | nil => exact lkdS_ok (o := lkI T s it) (for_ok S C tg it body pos)
    | cons _ _ => exact PS.no fun Dn σ H ⟨ρ, env, ch, re, rh, h⟩ => h
  | While t body els pos =>
    cases els with
    | nil => exact while_ok S C t body pos _
    | cons _ _ => exact PS.no fun Dn σ H ⟨ρ, env, ch, re, rh, h⟩ => h
  | Return v pos =>
    cases v with
    | none =>
      refine PS.of ps_retN fun Dn σ H ⟨ρ, env, ch, re, rh, h⟩ => ?_
      exact h ρ σ H (Mo.refl _) (Keep.refl _) re rh .non .non
    | some e =>
      refine PS.of (ps_ret (S.sE X s W C e)) fun Dn σ H ⟨ρ, env, ch, re, rh, h⟩ => ?_
      exact ⟨ρ, env, ch, re, rh, lift_post re h fun d c ρ1 H1 v m1 k1 hh1 r1 p1 => p1 ρ1 σ H1 (Mo.refl _) (Keep.refl _) (re.mono m1 k1) hh1 v r1⟩
  | Pass pos => exact PS.of ps_pass fun Dn σ H ⟨ρ, env, ch, re, rh, h⟩ => h.go re rh
  | Break pos => exact PS.of ps_break fun Dn σ H ⟨ρ, env, ch, re, rh, h⟩ => h ρ σ H (Mo.refl _) (Keep.refl _) re rh
  | Continue pos => exact PS.of ps_continue fun Dn σ H ⟨ρ, env, ch, re, rh, h⟩ => h ρ σ H (Mo.refl _) (Keep.refl _) re rh
  | Try body hs els fin pos =>
    cases hs with
    | nil => exact PS.no fun Dn σ H ⟨ρ, env, ch, re, rh, h⟩ => h
    | cons h0 hs =>
      cases els with
      | cons _ _ => exact PS.no fun Dn σ H ⟨ρ, env, ch, re, rh, h⟩ => h
      | nil =>
        cases fin with
        | cons _ _ => exact PS.no fun Dn σ H ⟨ρ, env, ch, re, rh, h⟩ => h
        | nil =>
          have e : ∀ env ch, exS T R s (.Try body (h0 :: hs) [] [] pos) env ch = if s.top = true then (match rdHs T s (h0 :: hs) with
            | some hds => tryE T.cat T.excs T.kit hds (R.B s body env ch)
            | none => .bad) else .bad := fun _ _ => rfl
          by_cases ht : s.top = true
          · cases hr : rdHs T s (h0 :: hs) with
            | none => exact PS.no fun Dn σ H ⟨ρ, env, ch, re, rh, h⟩ => by rw [e, if_pos ht, hr] at h; exact h
            | some hds => exact PS.of (try_okS S C ht hr pos) fun Dn σ H ⟨ρ, env, ch, re, rh, h⟩ => ⟨ρ, env, ch, re, rh, by rw [e, if_pos ht, hr] at h; exact h⟩
          · exact PS.no fun Dn σ H ⟨ρ, env, ch, re, rh, h⟩ => by rw [e, if_neg ht] at h; exact h
  | Raise ex cause pos =>
    have bad : (∀ env ch, raiseE T R s (raiseOf ex cause) env ch = .bad) → PS X (.Raise ex cause pos) (tS X.K CM W (exS T R s (.Raise ex cause pos))) := fun hb => PS.no fun Dn σ H ⟨ρ, env, ch, re, rh, h⟩ => by
      have : exS T R s (.Raise ex cause pos) env ch = raiseE T R s (raiseOf ex cause) env ch := rfl
      rw [this, hb] at h; exact h
    cases ho : raiseOf ex cause with
    | none => exact bad fun env ch => by rw [ho]; rfl
    | some q =>
      obtain ⟨x, a⟩ := q
      cases hx : T.excs.lookup x with
      | none => exact bad fun env ch => by rw [ho]; simp only [raiseE, hx]
      | some f =>
        by_cases hq : s.sc.names.lookup x = some .globalImplicit ∧ (x == ("__debug__" : Str)) = false ∧ isStar a = false
        · obtain ⟨p, p2, rfl, rfl⟩ := raiseOf_ok ho
          refine PS.of (raise_ok S C hx hq.1 hq.2.1 a hq.2.2 p p2 pos) fun Dn σ H ⟨ρ, env, ch, re, rh, h⟩ => ⟨ρ, env, ch, re, rh, ?_⟩
          have : exS T R s (.Raise (some (.Call (.Name x p) [a] [] p2)) none pos) env ch = raiseE T R s (some (x, a)) env ch := rfl
          rw [this] at h
          simp only [raiseE, hx] at h
          rw [if_pos hq] at h
          exact h
        · exact bad fun env ch => by rw [ho]; simp only [raiseE, hx]; rw [if_neg hq]
  | _ => exact PS.no fun Dn σ H ⟨ρ, env, ch, re, rh, h⟩ => h
theorem exB_ok (S : Sound T CM R n) (C : Ck T CM X s n W) : ∀ b, PSs X b (tS X.K CM W (exB T R s b))
  | [] => PSs.of pss_nil fun Dn σ H ⟨ρ, env, ch, re, rh, h⟩ => h.go re rh
  | st :: r => by
    refine PSs.of (pss_cons (exS_ok S C st) (exB_ok S C r)) fun Dn σ H ⟨ρ, env, ch, re, rh, h⟩ => ?_
    refine ⟨ρ, env, ch, re, rh, ?_⟩
    unfold exB at h
    cases hr : exS T R s st env ch with
    | bad => rw [hr] at h; exact h
    | exc e c fs h' => rw [hr] at h; exact h
    | ok env2 f c =>
      rw [hr] at h
      cases f with
      | nx => exact fun ρ' σ' H' m k re' rh' => ⟨ρ', env2, c, re', rh', PostS.mono m k h⟩
      | _ => exact h
theorem step_ok (S : Sound T CM R n) : Sound T CM (step T R) n :=
  ⟨fun X s W C e => evE_ok S C e, fun X s W C e => evT_ok S C e, fun X s W C b => exB_ok S C b, S.sF, fun X s W C tg => evG_ok S C tg, S.two⟩
end
/-- what a table of functions promises -/
def SoundF (T : Tab) (CM : Str → Option Addr) (F : Str → List D → CH → Rs D) (n : Nat) : Prop := ∀ (prog : Program) (w : World) (K : PySem.W.Frag) (mg : Str → Option Value) (base : Heap), TabS T prog K mg CM → ∀ key i, T.fns.lookup key = some i → ∃ (f : Addr) (fd : FuncData) (m : Nat), m + 1 ≤ n ∧ CM key = some f ∧ PySem.W.keepIn K (.ref f) = true ∧ (∀ p ∈ i.pats, PatOk K fd i.ps p) ∧ GnOk prog w K mg base (L2.CX prog w) m f fd i.ps (spI K CM (F key))
theorem runA_ok {T : Tab} {CM : Str → Option Addr} {F : Str → List D → CH → Rs D} {n : Nat} (h : SoundF T CM F n) (two : 2 ≤ n) : ∀ k, Sound T CM (runA T F k) n
  | 0 => ⟨fun X s W C e => PE.no fun σ H Q ⟨ρ, env, ch, re, rh, h⟩ => h, fun X s W C e => PT.no fun σ H Q ⟨ρ, env, ch, re, rh, h⟩ => h,
    fun X s W C b => ⟨fun pins st σ H Dn I ⟨ρ, env, ch, re, rh, h⟩ => h.elim⟩, h, fun X s W C tg => PG.no fun v σ H Q ⟨ρ, env, ch, d, re, rh, rv, h⟩ => h, two⟩
  | k + 1 => step_ok (runA_ok h two k)
theorem lvl_ok (T : Tab) (CM : Str → Option Addr) : ∀ d, SoundF T CM (lvl T d) (2 * d + 2)
  | 0 => fun prog w K mg base tb key i hi => by
    obtain ⟨⟨f, fd, oc, od, dV, kV, doc, pm, an, cdv, ct, osl, hcm, hfd, lk, hcd, kp, pt⟩, sc⟩ := tb.fn key i hi
    refine ⟨f, fd, 1, Nat.le_refl _, hcm, kp, pt, ?_⟩
    subst hfd
    refine gn_of lk hcd sc (fun vs H Q E h => ?_) (fun A outer s H vs Q E gd hr h => ?_)
    · obtain ⟨ρ, ds, ch, rv, rh, p⟩ := h; exact p.elim
    · obtain ⟨ρ, ds, ch, rv, rh, p⟩ := h; exact p.elim
  | d + 1 => fun prog w K mg base tb key i hi => by
    obtain ⟨f, fd, hcm, kp, pt, F⟩ := callB_fn (runA_ok (lvl_ok T CM d) (by omega) 60) (prog := prog) (w := w) (base := base) tb hi
    exact ⟨f, fd, 2 * d + 3, Nat.le_refl _, hcm, kp, pt, F⟩
end LL
namespace LL
open PySem PySem.Spec PyProof.Rows L2
/-! ## closures: the text of a def, read once -/
def Rs.le {α : Type} (r r' : Rs α) : Prop := r = .bad ∨ r = r'
def RsS.le (r r' : RsS) : Prop := r = .bad ∨ r = r'
theorem Rs.le.rfl {α : Type} {r : Rs α} : Rs.le r r := .inr _root_.rfl
theorem RsS.le.rfl {r : RsS} : RsS.le r r := .inr _root_.rfl
theorem Rs.le.of {α : Type} {r r' : Rs α} (h : r = r') : Rs.le r r' := .inr h
theorem Rs.le.bad {α : Type} {r : Rs α} : Rs.le .bad r := .inl _root_.rfl
theorem RsS.le.bad {r : RsS} : RsS.le .bad r := .inl _root_.rfl
theorem Rs.le.bind {α β : Type} {r r' : Rs α} {f g : α → CH → Rs β} (h : Rs.le r r') (k : ∀ a c, Rs.le (f a c) (g a c)) : Rs.le (r.bind f) (r'.bind g) := by
  rcases h with h | h
  · subst h; exact .inl _root_.rfl
  · subst h
    cases r with
    | ok a c => exact k a c
    | exc c fs h => exact .inr _root_.rfl
    | bad => exact .inl _root_.rfl
theorem Rs.le.bindS {α β : Type} {r : Rs α} {f g : α → CH → Rs β} (k : ∀ a c, Rs.le (f a c) (g a c)) : Rs.le (r.bind f) (r.bind g) := Rs.le.bind .rfl k
theorem Rs.le.nx {α : Type} {r r' : Rs α} (h : Rs.le r r') : Rs.le r.nx r'.nx := by
  rcases h with h | h
  · subst h; exact .inl _root_.rfl
  · subst h; exact .inr _root_.rfl
abbrev CE := En → CH → Rs D
abbrev CQ := En → CH → Rs Bool
abbrev CB := En → CH → RsS
abbrev CG := D → En → CH → Rs En
abbrev CI := En → CH → Rs Itm
abbrev Fn := List D → CH → Rs D
structure MI where
  f : Fn
  pats : List Pat
/-- what a def's closure may know of the program -/
structure Hn where
  fn : List (Str × Fn)
  mks : List (Str × Fn)
  ms : List ((Str × Str) × MI)
  fl : List (Str × List Str)
  isc : List Str
  unl : List (Str × Str)
/-! ### combinators -/
def cVar (i : Nat) : CE := fun env ch => match env[i]? with
  | some (some d) => .ok d ch
  | _ => .bad
def cCon (d : D) : CE := fun _ ch => .ok d ch
def cBin (op : Operator) (a b : CE) : CE := fun env ch => (a env ch).bind fun x c => (b env c).bind fun y c => bin op x y c
def runEs : List CE → En → CH → Rs (List D)
  | [], _, ch => .ok [] ch
  | e :: es, env, ch => (e env ch).bind fun d c => (runEs es env c).bind fun ds c => .ok (d :: ds) c
def callQ (f : Fn) (p : Pat) (ds zs : List D) (ch : CH) : Rs D := if ds.length = p.n ∧ zs.length = p.ks.length then (match arrange ds zs p.arr with
  | some as => f as ch
  | none => .bad) else .bad
def MI.call (m : MI) (n : Nat) (ks : List Str) (ds zs : List D) (ch : CH) : Rs D := match m.pats.find? (fun p => decide (p.n = n ∧ p.ks = ks)) with
  | some p => callQ m.f p ds zs ch
  | none => .bad
def MI.op (m : MI) (as : List D) (ch : CH) : Rs D := m.call as.length [] as [] ch
/-- the class of an instance, its fields -/
def insOf (d : D) (ch : CH) : Option (Str × List (Str × D)) := match d with
  | .ref n => (match ch.get n with
    | some (.ins c fs) => some (c, fs)
    | _ => none)
  | _ => none
abbrev MT := List ((Str × Str) × MI)
def methH (ms : MT) (m : Str) (c : Str) (fs : List (Str × D)) : Option MI := if (fs.lookup m).isNone then ms.lookup (c, m) else none
def cmpOH (ms : MT) (op : CmpOp) (x y : D) (ch : CH) : Rs D := match cmpM op with
  | some m => (match insOf x ch with
    | some (c, fs) => (match methH ms m c fs with
      | some mi => if rightOf x y ch then (mi.op [x, y] ch).bind fun d c => (match d with | .bl b => .ok (.bl b) c | _ => .bad) else .bad
      | none => .bad)
    | none => cmp op x y ch)
  | none => cmp op x y ch
def cmpH (ms : MT) (op : CmpOp) (x y : D) (ch : CH) : Rs D := match op with
  | .In => (match insOf y ch with
    | some (c, fs) => (match methH ms "__contains__" c fs with
      | some mi => (mi.op [y, x] ch).bind fun d c => (tr d c).bind fun b c => .ok (.bl b) c
      | none => .bad)
    | none => (match dkOf y ch with
      | some kvs => (match keyD x with | some k => .ok (.bl (valD kvs k).isSome) ch | none => .bad)
      | none => inT .In (fun b => b) x y ch))
  | .NotIn => (match insOf y ch with
    | some (c, fs) => (match methH ms "__contains__" c fs with
      | some mi => (mi.op [y, x] ch).bind fun d c => (tr d c).bind fun b c => .ok (.bl (!b)) c
      | none => .bad)
    | none => (match dkOf y ch with
      | some kvs => (match keyD x with | some k => .ok (.bl (!(valD kvs k).isSome)) ch | none => .bad)
      | none => inT .NotIn (fun b => !b) x y ch))
  | .NotEq => (match insOf x ch with
    | some (c, fs) => (match methH ms "__eq__" c fs with
      | some mi => if rightOf x y ch then (mi.op [x, y] ch).bind fun d c => (match d with | .bl b => .ok (.bl (!b)) c | _ => .bad) else .bad
      | none => .bad)
    | none => cmp .NotEq x y ch)
  | op => cmpOH ms op x y ch
def addH (ms : MT) (x y : D) (ch : CH) : Rs D := match insOf x ch with
  | some (c, fs) => (match methH ms "__add__" c fs with
    | some mi => if addOk y ch then mi.op [x, y] ch else .bad
    | none => .bad)
  | none => bin .Add x y ch
def cAdd (ms : MT) (a b : CE) : CE := fun env ch => (a env ch).bind fun x c => (b env c).bind fun y c => addH ms x y c
def cCmp (ms : MT) (op : CmpOp) (a b : CE) : CE := fun env ch => (a env ch).bind fun x c => (b env c).bind fun y c => cmpH ms op x y c
def cCmp2 (ms : MT) (op op' : CmpOp) (a b e : CE) : CE := fun env ch => (a env ch).bind fun x c => (b env c).bind fun y c => (cmpH ms op x y c).bind fun d c => (match d with
  | .bl true => (e env c).bind fun z c => cmpH ms op' y z c
  | .bl false => .ok (.bl false) c
  | _ => .bad)
def ixH (ms : MT) (x y : D) (ch : CH) : Rs D := match insOf x ch with
  | some (c, fs) => (match methH ms "__getitem__" c fs with
    | some mi => mi.op [x, y] ch
    | none => .bad)
  | none => (match dkOf x ch with
    | some kvs => (match (keyD y).bind (valD kvs) with | some d => .ok d ch | none => .bad)
    | none => ixT x y ch)
def cIx (ms : MT) (a b : CE) : CE := fun env ch => (a env ch).bind fun x c => (b env c).bind fun y c => ixH ms x y c
def runP : Option CE → En → CH → Rs (Option Int)
  | none, _, ch => .ok none ch
  | some e, env, ch => (e env ch).bind fun d c => match d with | .int i => .ok (some i) c | _ => .bad
def cSl (a : CE) (lo hi : Option CE) : CE := fun env ch => (a env ch).bind fun x c => (runP lo env c).bind fun l c => (runP hi env c).bind fun h c => sl x l h c
def cBool (op : BoolOp) : List CE → CE
  | [], _, _ => .bad
  | [e], env, ch => e env ch
  | e :: es, env, ch => (e env ch).bind fun d c => (tr d c).bind fun b c => match op, b with
    | .And, false => .ok d c
    | .Or, true => .ok d c
    | _, _ => cBool op es env c
def cNot (a : CE) : CE := fun env ch => (a env ch).bind fun d c => (tr d c).bind fun b c => .ok (.bl (!b)) c
def cNeg (a : CE) : CE := fun env ch => (a env ch).bind fun d c => match d with | .int i => .ok (.int (-i)) c | _ => .bad
def cIf (t : CQ) (a b : CE) : CE := fun env ch => (t env ch).bind fun q c => if q = true then a env c else b env c
def cTup (es : List CE) : CE := fun env ch => (runEs es env ch).bind fun ds c => if ds.length ≤ 16777216 then .ok (.tup ds) c else .bad
def cLst (es : List CE) : CE := fun env ch => (runEs es env ch).bind fun ds c => if ds.length ≤ 16777216 then .ok (.ref c.sz) (c.push (.lst ds)) else .bad
def fldH (cs : List Str) (f : Str) (d : D) (ch : CH) : Rs D := match insOf d ch with
  | some (c, fs) => if cs.contains c then (match fs.lookup f with | some v => .ok v ch | none => .bad) else .bad
  | none => .bad
/-- an error that is told, whole -/
def xcAt (d : D) (ch : CH) : Option (Str × Str × D) := match d with
  | .ref n => (match ch.get n with
    | some (.xc c f v) => some (c, f, v)
    | _ => none)
  | _ => none
def cFldX (exs : List (Str × Str)) (cs : List Str) (f : Str) (a : CE) : CE := fun env ch => (a env ch).bind fun d c => (match xcAt d c with
  | some (x, g, v) => if g = f ∧ exs.lookup x = some f then .ok v c else .bad
  | none => fldH cs f d c)
def cErr (c f : Str) (a : CE) : CE := fun env ch => (a env ch).bind fun d c1 => .ok (.ref c1.sz) (c1.push (.xc c f d))
def cEIs (kl : List ((Str × Str) × Bool)) (x : Str) (a : CE) : CE := fun env ch => (a env ch).bind fun d c1 => (match xcOf d c1 with
  | some c => (match kl.lookup (c, x) with | some b => .ok (.bl b) c1 | none => .bad)
  | none => .bad)
def cFld (cs : List Str) (f : Str) (a : CE) : CE := fun env ch => (a env ch).bind fun d c => fldH cs f d c
def runPs : List CE → List CE → En → CH → Rs (List (L2.Key × D))
  | [], [], _, ch => .ok [] ch
  | k :: ks, v :: vs, env, ch => (k env ch).bind fun kd c => (v env c).bind fun d c => (match keyD kd with
    | some k => (runPs ks vs env c).bind fun ps c => .ok ((k, d) :: ps) c
    | none => .bad)
  | _, _, _, _ => .bad
def cDict (ks vs : List CE) : CE := fun env ch => (runPs ks vs env (ch.push (.dk []))).bind fun ps c => (match c.get ch.sz with
  | some (.dk []) => if ps.length ≤ 15 then .ok (.ref ch.sz) (c.put ch.sz (.dk (mergeD [] ps))) else .bad
  | _ => .bad)
/-! calls -/
def isiH (isc : List Str) (unl : List (Str × Str)) (d : D) (c : Str) (ch : CH) : Option Bool := if isc.contains c then (match insOf d ch with
  | some (c', _) => if isc.contains c' then (if c' = c then some true else if unl.contains (c', c) then some false else none) else none
  | none => (match tyName ch d with | some t => if ["NoneType", "bool", "int", "str", "tuple", "list", "dict"].contains t then some false else none | none => none)) else none
def biH (ms : MT) (isc : List Str) (unl : List (Str × Str)) (id : String) (ds : List D) (ch : CH) : Rs D := if id = "len" then (match ds with
  | [d] => (match insOf d ch with
    | some (c, fs) => (match methH ms "__len__" c fs with
      | some mi => (mi.op [d] ch).bind fun r c => (match r with | .int i => if 0 ≤ i ∧ i < 9223372036854775808 then .ok (.int i) c else .bad | _ => .bad)
      | none => .bad)
    | none => bi id ds ch)
  | _ => bi id ds ch)
  else if id = "isinstance" then (match ds with
    | [d, .cl c] => (match isiH isc unl d c ch with | some b => .ok (.bl b) ch | none => .bad)
    | _ => bi id ds ch)
  else bi id ds ch
def cLen (ms : MT) (es : List CE) : CE := fun env ch => (runEs es env ch).bind fun ds c => biH ms [] [] "len" ds c
def cIsI (isc : List Str) (unl : List (Str × Str)) (es : List CE) : CE := fun env ch => (runEs es env ch).bind fun ds c => biH [] isc unl "isinstance" ds c
def cBi (id : String) (es : List CE) : CE := fun env ch => (runEs es env ch).bind fun ds c => bi id ds c
def cTy (t : String) (es : List CE) : CE := fun env ch => (runEs es env ch).bind fun ds c => bty t ds c
def cFn (f : Fn) (p : Pat) (es zs : List CE) : CE := fun env ch => (runEs es env ch).bind fun ds c => (runEs zs env c).bind fun us c => callQ f p ds us c
def cMk (cl : Str) (f : Fn) (p : Pat) (es zs : List CE) : CE := fun env ch => (runEs es env ch).bind fun ds c => (runEs zs env c).bind fun us ch => (callQ f p (.ref ch.sz :: ds) us (ch.push (.ins cl []))).bind fun d c2 => match d with
  | .non => .ok (.ref ch.sz) c2
  | _ => .bad
def cBg (id : String) (es : List CE) : CE := fun env ch => (runEs es env ch).bind fun ds c => biG id ds c
/-- an instance is called -/
def calO (ms : MT) (d : D) (ds : List D) (c : CH) : Rs D := match insOf d c with
  | some (cl, fs) => (match methH ms "__call__" cl fs with
    | some mi => mi.op (d :: ds) c
    | none => .bad)
  | none => .bad
def calK (ms : MT) (es : List CE) (env : En) (d : D) (c : CH) : Rs D := match d with
  | .ref k => (runEs es env c).bind fun ds c => calO ms (.ref k) ds c
  | _ => .bad
def cCal (ms : MT) (i : Nat) (es : List CE) : CE := fun env ch => (cVar i env ch).bind fun d c => calK ms es env d c
def cTix (ts : List D) (es : List CE) : CE := fun env ch => (runEs es env ch).bind fun ds c => tixR ts ds c
def cMeth (ms : MT) (m : Str) (lid : Option String) (ks : List Str) (o : CE) (es zs : List CE) : CE := fun env ch => (o env ch).bind fun d c => match insOf d c with
  | some (cl, fs) => (match methH ms m cl fs with
    | some mi => (match mi.pats.find? (fun p => decide (p.n = es.length + 1 ∧ p.ks = ks)) with
      | some p => (runEs es env c).bind fun ds c => (runEs zs env c).bind fun us c => callQ mi.f p (d :: ds) us c
      | none => .bad)
    | none => .bad)
  | none => if isLst d c = true then (match lid with
    | some id => (runEs es env c).bind fun ds c => lmR id d ds c
    | none => .bad) else .bad
/-! what is walked, comprehensions -/
def iRng1 (a : CE) : CI := fun env ch => (a env ch).bind fun d c => match d with | .int j => rng 0 j c | _ => .bad
def iRng2 (a b : CE) : CI := fun env ch => (runEs [a, b] env ch).bind fun ds c => match ds with | [.int i, .int j] => rng i j c | _ => .bad
def iEn (a : CE) : CI := fun env ch => (a env ch).bind enumW
def iZip (a b : CE) : CI := fun env ch => (runEs [a, b] env ch).bind zipW
def iVal (a : CE) : CI := fun env ch => (a env ch).bind walkD
def runIfs : Option CQ → En → CH → Rs Bool
  | none, _, ch => .ok true ch
  | some e, env, ch => (e env ch).nx
def lcB (t : Tg) (ifs : Option CQ) (elt : CE) (ok : CH → Bool) (env0 : En) (l : Nat) : List D → CH → Rs Unit
  | [], ch => if ok ch then .ok () ch else .bad
  | d :: ds, ch => if ok ch then (match bindT t d env0 with
    | some env => (runIfs ifs env ch).bind fun b c => if b = true then (elt env c).nx.bind fun y c2 => (match c2.get l with
        | some (.lst acc) => if acc.length < 16777216 then lcB t ifs elt ok env0 l ds (c2.put l (.lst (acc ++ [y]))) else .bad
        | _ => .bad) else lcB t ifs elt ok env0 l ds c
    | none => .bad) else .bad
def cLc (t : Tg) (ifs : Option CQ) (elt : CE) (it : CI) (vs : List Nat) : CE := fun env ch => (it env ch).bind fun w c => (lcB t ifs elt (okW w) (wipeE env vs) c.sz w.ds (c.push (.lst []))).bind fun _ c2 => .ok (.ref c.sz) c2
def dcB (t : Tg) (ifs : Option CQ) (kx vx : CE) (ok : CH → Bool) (env0 : En) (l : Nat) : List D → CH → Rs Unit
  | [], ch => if ok ch then .ok () ch else .bad
  | d :: ds, ch => if ok ch then (match bindT t d env0 with
    | some env => (runIfs ifs env ch).bind fun b c => if b = true then (kx env c).nx.bind fun y c1 => (vx env c1).nx.bind fun z c2 => (match keyD y, c2.get l with
        | some k, some (.dk kvs) => if kvs.length < 16777216 then dcB t ifs kx vx ok env0 l ds (c2.put l (.dk (putD kvs k z))) else .bad
        | _, _ => .bad) else dcB t ifs kx vx ok env0 l ds c
    | none => .bad) else .bad
def cDc (t : Tg) (ifs : Option CQ) (kx vx : CE) (it : CI) (vs : List Nat) : CE := fun env ch => (it env ch).bind fun w c => (dcB t ifs kx vx (okW w) (wipeE env vs) c.sz w.ds (c.push (.dk []))).bind fun _ c2 => .ok (.ref c.sz) c2
def cLrg1 (a : CE) : CE := fun env ch => (a env ch).bind fun y c => lrg (.int 0) y c
def cBack (a : CE) : CE := fun env ch => (a env ch).bind back
def cSs (a : CE) : CE := fun env ch => (a env ch).bind fun x c => srt x c
def cLrg (a b : CE) : CE := fun env ch => (a env ch).bind fun x c => (b env c).bind fun y c => lrg x y c
def lcB2 (t : Tg) (ifs : Option CQ) (t1 : Tg) (it1 : CI) (ifs1 : Option CQ) (elt : CE) (ok : CH → Bool) (env0 : En) (vs1 : List Nat) (l : Nat) : List D → CH → Rs Unit
  | [], ch => if ok ch then .ok () ch else .bad
  | d :: ds, ch => if ok ch then (match bindT t d env0 with
    | some env => (runIfs ifs env ch).bind fun b c => if b = true then (it1 env c).nx.bind fun w c2 => (lcB t1 ifs1 elt (okW w) (wipeE env vs1) l w.ds c2).bind fun _ c3 => lcB2 t ifs t1 it1 ifs1 elt ok env0 vs1 l ds c3 else lcB2 t ifs t1 it1 ifs1 elt ok env0 vs1 l ds c
    | none => .bad) else .bad
def cLc2 (t : Tg) (ifs : Option CQ) (t1 : Tg) (it1 : CI) (ifs1 : Option CQ) (elt : CE) (it : CI) (vs vs1 : List Nat) : CE := fun env ch => (it env ch).bind fun w c => (lcB2 t ifs t1 it1 ifs1 elt (okW w) (wipeE env vs) vs1 c.sz w.ds (c.push (.lst []))).bind fun _ c2 => .ok (.ref c.sz) c2
/-! tests -/
def qNot (a : CQ) : CQ := fun env ch => (a env ch).bind fun b c => .ok (!b) c
def qAll (op : BoolOp) : List CQ → CQ
  | [], _, ch => .ok (op == .And) ch
  | e :: es, env, ch => (e env ch).bind fun b c => match op, b with
    | .And, false => .ok false c
    | .Or, true => .ok true c
    | _, _ => qAll op es env c
def qCmp (ms : MT) (op : CmpOp) (a b : CE) : CQ := fun env ch => (a env ch).bind fun x c => (b env c).bind fun y c => (cmpH ms op x y c).bind fun d c => match d with | .bl k => .ok k c | _ => .bad
def qCmp2 (ms : MT) (op op' : CmpOp) (a b e : CE) : CQ := fun env ch => (a env ch).bind fun x c => (b env c).bind fun y c => (cmpH ms op x y c).bind fun d c => (match d with
  | .bl true => (e env c).bind fun z c => (cmpH ms op' y z c).bind fun d c => (match d with | .bl k => .ok k c | _ => .bad)
  | .bl false => .ok false c
  | _ => .bad)
def qVal (a : CE) : CQ := fun env ch => (a env ch).bind fun d c => tr d c
/-! targets -/
def gSet (i : Nat) : CG := fun d env ch => .ok (env.set i (some d)) ch
def runGs : List CG → List D → En → CH → Rs En
  | [], [], env, ch => .ok env ch
  | e :: es, d :: ds, env, ch => (e d env ch).bind fun env c => runGs es ds env c
  | _, _, _, _ => .bad
def gTup (gs : List CG) : CG := fun d env ch => match itemsOf ch d with
  | some ds => if ds.length = gs.length then runGs gs ds env ch else .bad
  | none => .bad
def gIx (o i : CE) : CG := fun d env ch => (o env ch).bind fun od c => (i env c).bind fun id c => (setIx od id d c).bind fun _ c => .ok env c
/-! statements -/
def sSkip : CB := fun env ch => .ok env .nx ch
def sBad : CB := fun _ _ => .bad
def sSeq (a b : CB) : CB := fun env ch => match a env ch with
  | .ok env .nx c => b env c
  | .ok env f c => .ok env f c
  | .exc e c fs h => .exc e c fs h
  | .bad => .bad
def sExpr (e : CE) : CB := fun env ch => lift env (e env ch) fun _ c => .ok env .nx c
def sAsg (g : CG) (e : CE) : CB := fun env ch => lift env (e env ch) fun d c => liftG (g d env c) fun env c => .ok env .nx c
def putFldH (cs : List Str) (f : Str) (d v : D) (ch : CH) : Option CH := match d with
  | .ref n => (match ch.get n with
    | some (.ins c fs) => if cs.contains c && decide (fs.length < 1000) then some (ch.put n (.ins c (putFD f v fs))) else none
    | _ => none)
  | _ => none
def sFld (cs : List Str) (f : Str) (o e : CE) : CB := fun env ch => lift env (e env ch) fun v c => lift env (o env c) fun d c => (match putFldH cs f d v c with
  | some c => .ok env .nx c
  | none => .bad)
def sPar2 (i j : Nat) (a b : CE) : CB := fun env ch => lift env (runEs [a, b] env ch) fun ds c => (match ds with
  | [d, e] => .ok ((env.set i (some d)).set j (some e)) .nx c
  | _ => .bad)
def sPar3 (i j l : Nat) (a b g : CE) : CB := fun env ch => lift env (runEs [a, b, g] env ch) fun ds c => (match ds with
  | [d, e, f] => .ok (((env.set i (some d)).set j (some e)).set l (some f)) .nx c
  | _ => .bad)
def sAug (sub : Bool) (i : Nat) (e : CE) : CB := fun env ch => match env[i]? with
  | some (some d0) => lift env (e env ch) fun d c => (match d0, d with
    | .int a, .int b => .ok (env.set i (some (.int (if sub then a - b else a + b)))) .nx c
    | _, _ => .bad)
  | _ => .bad
def sIf (t : CQ) (a b : CB) : CB := fun env ch => lift env (t env ch) fun q c => if q = true then a env c else b env c
def forC (g : CG) (body : CB) (ok : CH → Bool) : List D → En → CH → RsS
  | [], env, ch => if ok ch then .ok env .nx ch else .bad
  | d :: ds, env, ch => if ok ch then liftG (g d env ch) fun env1 c1 => match body env1 c1 with
    | .ok env2 .nx c2 => forC g body ok ds env2 c2
    | .ok env2 .ct c2 => forC g body ok ds env2 c2
    | .ok env2 .br c2 => .ok env2 .nx c2
    | .ok env2 (.rt v) c2 => .ok env2 (.rt v) c2
    | .exc e c fs h => .exc e c fs h
    | .bad => .bad else .bad
def sFor (g : CG) (it : CI) (body : CB) : CB := fun env ch => lift env (it env ch) fun w c => forC g body (okW w) w.ds env c
def whC (t : CQ) (body : CB) : Nat → En → CH → RsS
  | 0, _, _ => .bad
  | k + 1, env, ch => lift env (t env ch) fun b c1 => if b = true then (match body env c1 with
    | .ok env2 .nx c2 => whC t body k env2 c2
    | .ok env2 .ct c2 => whC t body k env2 c2
    | .ok env2 .br c2 => .ok env2 .nx c2
    | .ok env2 (.rt v) c2 => .ok env2 (.rt v) c2
    | .exc e c fs h => .exc e c fs h
    | .bad => .bad) else .ok env .nx c1
def sWhile (t : CQ) (body : CB) : CB := whC t body 1000000
def sRet (e : CE) : CB := fun env ch => lift env (e env ch) fun d c => .ok env (.rt d) c
def sRetN : CB := fun env ch => .ok env (.rt .non) ch
def sTry (cat : List ((Str × Str) × Bool)) (exs : List (Str × Str)) (kit : List ((Str × Str) × Bool)) (hds : List Hd) (b : CB) : CB := fun env ch => tryE cat exs kit hds (b env ch)
def cDict0 : CE := fun _ ch => .ok (.ref ch.sz) (ch.push (.dk []))
def cDictT0 : CE := fun _ ch => .ok (.ref ch.sz) (ch.push (.dt []))
def sRaise (x f : Str) (e : CE) : CB := fun env ch => lift env (e env ch) fun d c => .exc env x [(f, d)] c
def sBrk : CB := fun env ch => .ok env .br ch
def sCnt : CB := fun env ch => .ok env .ct ch
/-- a def -/
def runFn (ps ns : Nat) (b : CB) : Fn := fun ds ch => if ds.length = ps then (match b (ds.map some ++ List.replicate (ns - ds.length) none) ch with
  | .ok _ .nx c => .ok .non c
  | .ok _ (.rt d) c => .ok d c
  | .exc _ c fs h => .exc c fs h
  | _ => .bad) else .bad
end LL
namespace LL
open PySem PySem.Spec PyProof.Rows L2
/-! ## reading a text into closures -/
structure Cr where
  E : Sk → Expr → Option CE
  T : Sk → Expr → Option CQ
  B : Sk → List Stmt → Option CB
  G : Sk → Expr → Option CG
def cGlo (T : Tab) (x : Str) : Option CE := match T.cons.lookup x with
  | some d => some (cCon d)
  | none => if x ∈ T.names then none else (match bootBuiltins x with
    | some (.type n) => some (cCon (.ty n))
    | _ => none)
def cName (T : Tab) (s : Sk) (x : Str) : Option CE :=
  if (x == ("__debug__" : Str)) = false ∧ (x == ("__classdict__" : Str)) = false ∧ x ≠ "__name__" then (match s.sc.names.lookup x with
    | some .globalImplicit => cGlo T x
    | some .local => (ixOf x s.N).map cVar
    | some .cell => (ixOf x s.N).map cVar
    | some .free => (ixOf x s.N).map cVar
    | _ => none) else none
def cEs (c : Cr) (s : Sk) : List Expr → Option (List CE)
  | [] => some []
  | e :: es => if isStar e then none else (match c.E s e, cEs c s es with
    | some x, some xs => some (x :: xs)
    | _, _ => none)
def cQs (c : Cr) (s : Sk) : List Expr → Option (List CQ)
  | [] => some []
  | e :: es => (match c.T s e, cQs c s es with
    | some x, some xs => some (x :: xs)
    | _, _ => none)
def cBs (c : Cr) (s : Sk) : List Expr → Option (List CE)
  | [] => some []
  | e :: es => (match c.E s e, cBs c s es with
    | some x, some xs => some (x :: xs)
    | _, _ => none)
def cKs (c : Cr) (s : Sk) : List Keyword → Option (List CE)
  | [] => some []
  | k :: r => (match c.E s k.value, cKs c s r with
    | some x, some xs => some (x :: xs)
    | _, _ => none)
def msOf (h : Hn) (m : Str) : MT := h.ms.filter fun p => p.1.2 == m
def cOp (ms : MT) (op : Operator) (x y : CE) : CE := match op, ms with
  | .Add, p :: r => cAdd (p :: r) x y
  | _, _ => cBin op x y
def msOp (h : Hn) (op : CmpOp) : MT := match op with
  | .In => msOf h "__contains__"
  | .NotIn => msOf h "__contains__"
  | .NotEq => msOf h "__eq__"
  | op => (match cmpM op with
    | some m => msOf h m
    | none => [])
def cPart (c : Cr) (s : Sk) : Option Expr → Option (Option CE)
  | none => some none
  | some e => (c.E s e).map some
def cCallN (T : Tab) (h : Hn) (c : Cr) (s : Sk) (f : Str) (es : List Expr) (kws : List Keyword) : Option CE :=
  if (f == ("__debug__" : Str)) = false ∧ f ≠ "__name__" ∧ s.sc.names.lookup f = some .globalImplicit ∧ es.any isStar = false then (match kwNames kws, cEs c s es, cKs c s kws with
    | some ks, some xs, some zs =>
      if isBt T s f then (if isBi f && kws.isEmpty && !es.isEmpty then (match bootBuiltins f with
        | some (.builtin id) => some (if id = "len" then cLen (msOf h "__len__") xs else if id = "isinstance" then cIsI h.isc h.unl xs else cBi id xs)
        | some (.type t) => some (cTy t xs)
        | _ => none) else none)
      else if T.gfn.contains f then (match patOf T f es.length ks, h.fn.lookup f with
        | some p, some g => some (cFn g p xs zs)
        | _, _ => none)
      else (match T.mks.lookup f with
        | some key => (match patOf T key (es.length + 1) ks, h.mks.lookup f with
          | some p, some g => some (cMk f g p xs zs)
          | _, _ => none)
        | none => (match T.bis.lookup f with
          | some id => if kws.isEmpty && !es.isEmpty then some (cBg id xs) else none
          | none => none))
    | _, _, _ => none) else none
def cCallV (h : Hn) (c : Cr) (s : Sk) (f : Str) (es : List Expr) (kws : List Keyword) : Option CE :=
  if (f == ("__debug__" : Str)) = false ∧ (f == ("__classdict__" : Str)) = false ∧ es.any isStar = false ∧ (kws.isEmpty && !es.isEmpty) = true then (match ixOf f s.N, cEs c s es with
    | some i, some xs => some (cCal (msOf h "__call__") i xs)
    | _, _ => none) else none
def cCallM (T : Tab) (h : Hn) (c : Cr) (s : Sk) (o : Expr) (m : Str) (apos pos : Pos) (es : List Expr) (kws : List Keyword) : Option CE :=
  if es.any isStar = false ∧ es.length + kws.length + 1 < 30 ∧ (apos.endLine == pos.line) = true ∧ isCall o = false then (match kwNames kws, cEs c s es, cKs c s kws with
    | some ks, some xs, some zs => (match (if m = "index" ∧ kws = [] then conT T s o else none) with
      | some ts => some (cTix ts xs)
      | none => (match c.E s o with
        | some x => some (cMeth (msOf h m) m (if kws = [] then lmId m else none) ks x xs zs)
        | none => none))
    | _, _, _ => none) else none
def cIt (T : Tab) (c : Cr) (s : Sk) (tu : Bool) (e : Expr) : Option CI := match e with
  | .Set _ _ _ => none
  | .Call (.Name f _) [a] [] _ =>
    if f = "range" then (if isBt T s f then (if isStar a then none else (c.E s a).map iRng1) else none)
    else if f = "enumerate" then (if (isBt T s f && tu && !isStar a) = true then (c.E s a).map iEn else none)
    else (c.E s e).map iVal
  | .Call (.Name f _) [a, b] [] _ =>
    if f = "range" then (if isBt T s f then (if isStar a || isStar b then none else (match c.E s a, c.E s b with
      | some x, some y => some (iRng2 x y)
      | _, _ => none)) else none)
    else if f = "zip" then (if (isBt T s f && tu && !isStar a && !isStar b) = true then (match c.E s a, c.E s b with
      | some x, some y => some (iZip x y)
      | _, _ => none) else none)
    else (c.E s e).map iVal
  | e => (c.E s e).map iVal
def cIfs (c : Cr) (s : Sk) : List Expr → Option (Option CQ)
  | [] => some none
  | [e] => (c.T s e).map some
  | _ => none
def cLcs (T : Tab) (c : Cr) (s : Sk) (elt : Expr) (gs : List Comprehension) (scope : Scope) : Option CE := match gs with
  | [g] => if g.is_async = 0 ∧ (blkC s.N s.sc scope (ownOf s.N scope) && !isSet g.iter) = true then (match tgOf (blkS s scope) ((ownOf s.N scope).map (·.2)) g.target with
    | some t => (match cIt T c s (tuT t) g.iter, cIfs c (blkS s scope) g.ifs, c.E (blkS s scope) elt with
      | some it, some i, some x => some (cLc t i x it ((ownOf s.N scope).map (·.2)))
      | _, _, _ => none)
    | none => none) else none
  | [g, g1] => if (g.is_async = 0 ∧ g1.is_async = 0) ∧ (blkC s.N s.sc scope (ownOf s.N scope) && !isSet g.iter && !isSet g1.iter) = true then (match tgOf (blkS s scope) ((ownOf s.N scope).map (·.2)) g.target, tgOf (blkS s scope) ((ownOf s.N scope).map (·.2)) g1.target with
    | some t, some t1 => (match cIt T c s (tuT t) g.iter, cIfs c (blkS s scope) g.ifs, cIt T c (blkS s scope) (tuT t1) g1.iter, cIfs c (blkS s scope) g1.ifs, c.E (blkS s scope) elt with
      | some it, some i, some it1, some i1, some x => some (cLc2 t i t1 it1 i1 x it ((ownOf s.N scope).map (·.2)) (tgVs (blkS s scope) t1))
      | _, _, _, _, _ => none)
    | _, _ => none) else none
  | _ => none
def cDcs (T : Tab) (c : Cr) (s : Sk) (kx vx : Expr) (gs : List Comprehension) (scope : Scope) : Option CE := match gs with
  | [g] => if g.is_async = 0 ∧ (blkC s.N s.sc scope (ownOf s.N scope) && !isSet g.iter) = true then (match tgOf (blkS s scope) ((ownOf s.N scope).map (·.2)) g.target with
    | some t => (match cIt T c s (tuT t) g.iter, cIfs c (blkS s scope) g.ifs, c.E (blkS s scope) kx, c.E (blkS s scope) vx with
      | some it, some i, some x, some y => some (cDc t i x y it ((ownOf s.N scope).map (·.2)))
      | _, _, _, _ => none)
    | none => none) else none
  | _ => none
def cKeys (c : Cr) (s : Sk) : List (Option Expr) → Option (List CE)
  | [] => some []
  | some k :: ks => (match c.E s k, cKeys c s ks with
    | some x, some xs => some (x :: xs)
    | _, _ => none)
  | none :: _ => none
def cEr (T : Tab) (c : Cr) (s : Sk) (q : EF) : Option CE := match q with
  | .mk x f a _ => (c.E s a).map (cErr x f)
  | .isi a x => (c.E s a).map (cEIs T.kit x)
def stepE (T : Tab) (h : Hn) (c : Cr) (s : Sk) (e : Expr) : Option CE := match e with
  | .Name x _ => cName T s x
  | .Constant .none _ _ => some (cCon .non)
  | .Constant (.bool b) _ _ => some (cCon (.bl b))
  | .Constant (.int i) _ _ => some (cCon (.int i))
  | .Constant (.str x) _ _ => some (cCon (.str x))
  | .BinOp a op b _ => (match c.E s a, c.E s b with
    | some x, some y => some (cOp (msOf h "__add__") op x y)
    | _, _ => none)
  | .Compare a [op] [b] _ => if behindInMarks op b then none else (match c.E s a, c.E s b with
    | some x, some y => some (cCmp (msOp h op) op x y)
    | _, _ => none)
  | .Compare a [op, op'] [b, e] _ => if lastMarks [op, op'] [b, e] then none else (match c.E s a, c.E s b, c.E s e with
    | some x, some y, some z => some (cCmp2 (msOp h op ++ msOp h op') op op' x y z)
    | _, _, _ => none)
  | .BoolOp op es _ => (cBs c s es).map (cBool op)
  | .UnaryOp .Not a _ => (c.E s a).map cNot
  | .UnaryOp .USub a _ => (c.E s a).map cNeg
  | .IfExp t a b _ => (match c.T s t, c.E s a, c.E s b with
    | some q, some x, some y => some (cIf q x y)
    | _, _, _ => none)
  | .Tuple es _ _ => (cEs c s es).map cTup
  | .List es _ => (cEs c s es).map cLst
  | .Subscript a (.Slice lo hi none _) _ => (match c.E s a, cPart c s lo, cPart c s hi with
    | some x, some l, some h => some (cSl x l h)
    | _, _, _ => none)
  | .Subscript a (.Slice none none (some st) _) _ => if isBack st then (c.E s a).map cBack else none
  | .Subscript a b _ => if isSlice b then none else (match c.E s a, c.E s b with
    | some x, some y => some (cIx (msOf h "__getitem__") x y)
    | _, _ => none)
  | .ListComp elt gs scope _ => (cLcs T c s elt gs scope).map (lkdE (lkG T s gs))
  | .DictComp kx vx gs scope _ => cDcs T c s kx vx gs scope
  | .Attribute o f _ => if isCall o then none else (c.E s o).map (if T.erv = true then cFldX T.excs ((h.fl.lookup f).getD []) f else cFld ((h.fl.lookup f).getD []) f)
  | .Dict [] [] pos => some (if T.dts.contains (pos.line, pos.col) then cDictT0 else cDict0)
  | .Dict ks vs _ => if ks.length = vs.length ∧ ks.all (·.isSome) = true ∧ (ks.isEmpty || decide (15 < ks.length)) = false then (match cKeys c s ks, cBs c s vs with
    | some x, some y => some (cDict x y)
    | _, _ => none) else none
  | .Call (.Name f _) es kws _ => if s.sc.names.lookup f = some .local then cCallV h c s f es kws else (match errOf T s f es kws with
  | some q => cEr T c s q
  | none => match lrgArg T s f es kws with
    | some ab => (match c.E s ab.1, c.E s ab.2 with
      | some x, some y => some (cLrg x y)
      | _, _ => none)
    | none => (match lrgArg1 T s f es kws with
      | some a => (c.E s a).map cLrg1
      | none => (match ssArg T s f es kws with
        | some a => (c.E s a).map cSs
        | none => cCallN T h c s f es kws)))
  | .Call (.Attribute o m apos) es kws pos => cCallM T h c s o m apos pos es kws
  | _ => none
def stepT (h : Hn) (c : Cr) (s : Sk) (e : Expr) : Option CQ := match e with
  | .UnaryOp .Not a _ => (c.T s a).map qNot
  | .BoolOp op es _ => (cQs c s es).map (qAll op)
  | .IfExp _ _ _ _ => none
  | .Compare a [op] [b] _ => if behindInMarks op b then none else (match c.E s a, c.E s b with
    | some x, some y => some (qCmp (msOp h op) op x y)
    | _, _ => none)
  | .Compare a [op, op'] [b, e] _ => if lastMarks [op, op'] [b, e] then none else (match c.E s a, c.E s b, c.E s e with
    | some x, some y, some z => some (qCmp2 (msOp h op ++ msOp h op') op op' x y z)
    | _, _, _ => none)
  | .Compare _ _ _ _ => none
  | e => (c.E s e).map qVal
def cSetN (s : Sk) (x : Str) : Option CG := match s.sc.names.lookup x with
  | some .local => if s.own x then (ixOf x s.N).map gSet else none
  | some .cell => if s.own x then (ixOf x s.N).map gSet else none
  | _ => none
def cGs (c : Cr) (s : Sk) : List Expr → Option (List CG)
  | [] => some []
  | e :: es => if isStar e then none else (match c.G s e, cGs c s es with
    | some x, some xs => some (x :: xs)
    | _, _ => none)
def stepG (c : Cr) (s : Sk) (tg : Expr) : Option CG := match tg with
  | .Name x _ => cSetN s x
  | .Tuple es _ _ => if es.any isStar then none else (cGs c s es).map gTup
  | .Subscript o i _ => if isSlice i then none else (match c.E s o, c.E s i with
    | some x, some y => some (gIx x y)
    | _, _ => none)
  | _ => none
def cParS (c : Cr) (s : Sk) (ts vs : List Expr) : Option CB := match ts, vs with
  | [.Name x _, .Name y _], [a, b] => (match ixOf x s.N, ixOf y s.N with
    | some i, some j => if i ≠ j ∧ s.sc.names.lookup x = some .local ∧ s.sc.names.lookup y = some .local ∧ swNames s.sc ts vs = some (some [x, y]) then (match cEs c s [a, b] with
      | some [p, q] => some (sPar2 i j p q)
      | _ => none) else none
    | _, _ => none)
  | [.Name x _, .Name y _, .Name z _], [a, b, g] => (match ixOf x s.N, ixOf y s.N, ixOf z s.N with
    | some i, some j, some l => if i ≠ j ∧ i ≠ l ∧ j ≠ l ∧ s.sc.names.lookup x = some .local ∧ s.sc.names.lookup y = some .local ∧ s.sc.names.lookup z = some .local ∧ swNames s.sc ts vs = some (some [x, y, z]) then (match cEs c s [a, b, g] with
      | some [p, q, r] => some (sPar3 i j l p q r)
      | _ => none) else none
    | _, _, _ => none)
  | _, _ => none
def cAsgG (c : Cr) (s : Sk) (tg e : Expr) : Option CB := if isComp e then none else (match c.E s e, c.G s tg with
  | some x, some g => some (sAsg g x)
  | _, _ => none)
def cAsg (T : Tab) (h : Hn) (c : Cr) (s : Sk) (tg e : Expr) : Option CB := match tg, e with
  | .Name x _, .ListComp elt gs scope _ => if (ixOf x s.N).isNone then none else (match cLcs T c s elt gs scope, cSetN s x with
    | some y, some g => some (sAsg g y)
    | _, _ => none)
  | .Name x _, .DictComp kx vx gs scope _ => if (ixOf x s.N).isNone then none else (match cDcs T c s kx vx gs scope, cSetN s x with
    | some y, some g => some (sAsg g y)
    | _, _ => none)
  | .Tuple ts k p, .Tuple vs k2 p2 => (match swNames s.sc ts vs with
    | some none => (match c.E s (.Tuple vs k2 p2), c.G s (.Tuple ts k p) with
      | some x, some g => some (sAsg g x)
      | _, _ => none)
    | some (some _) => cParS c s ts vs
    | none => none)
  | .Attribute o f _, e => if isComp e then none else (match c.E s e, c.E s o with
    | some x, some y => some (sFld ((h.fl.lookup f).getD []) f y x)
    | _, _ => none)
  | .Starred _ _, _ => none
  | .List _ _, _ => none
  | .Subscript o k p, .ListComp elt gs scope lp => (match c.E s (.ListComp elt gs scope lp), c.G s (.Subscript o k p) with
    | some x, some g => some (sAsg g x)
    | _, _ => none)
  | tg, e => cAsgG c s tg e
def augSub : Operator → Option Bool
  | .Add => some false
  | .Sub => some true
  | _ => none
def stepS (T : Tab) (h : Hn) (c : Cr) (s : Sk) (st : Stmt) : Option CB := match st with
  | .Expr e _ => if isComp e then none else (c.E s e).map sExpr
  | .Assign [tg] e _ => cAsg T h c s tg e
  | .AugAssign (.Name x _) op e _ => (match augSub op, ixOf x s.N with
    | some b, some i => if s.sc.names.lookup x = some .local ∧ s.own x = true then (c.E s e).map (sAug b i) else none
    | _, _ => none)
  | .If q a b _ => (match c.T s q, c.B s a, c.B s b with
    | some t, some x, some y => some (sIf t x y)
    | _, _, _ => none)
  | .For tg it body [] _ => (match c.G s tg, cIt T c s (isTup tg) it, c.B s body with
    | some g, some i, some b => some (lkdS (lkI T s it) (sFor g i b))
    | _, _, _ => none)
  | .While t body [] _ => (match c.T s t, c.B s body with
    | some q, some b => some (sWhile q b)
    | _, _ => none)
  | .Return (some e) _ => (c.E s e).map sRet
  | .Return none _ => some sRetN
  | .Pass _ => some sSkip
  | .Break _ => some sBrk
  | .Continue _ => some sCnt
  | .Try body (h0 :: hs) [] [] _ => if s.top = true then (match rdHs T s (h0 :: hs), c.B s body with
    | some hds, some b => some (sTry T.cat T.excs T.kit hds b)
    | _, _ => none) else none
  | .Raise ex cause _ => (match raiseOf ex cause with
    | some q => (match T.excs.lookup q.1 with
      | some f => if s.sc.names.lookup q.1 = some .globalImplicit ∧ (q.1 == ("__debug__" : Str)) = false ∧ isStar q.2 = false then (c.E s q.2).map (sRaise q.1 f) else none
      | none => none)
    | none => none)
  | _ => none
def stepB (T : Tab) (h : Hn) (c : Cr) (s : Sk) : List Stmt → Option CB
  | [] => some sSkip
  | st :: r => (match stepS T h c s st with
    | some a => (stepB T h c s r).map (sSeq a)
    | none => some sBad)
def stepC (T : Tab) (h : Hn) (c : Cr) : Cr := ⟨stepE T h c, stepT h c, stepB T h c, stepG c⟩
def cAt (T : Tab) (h : Hn) : Nat → Cr
  | 0 => ⟨fun _ _ => none, fun _ _ => none, fun _ _ => none, fun _ _ => none⟩
  | n + 1 => stepC T h (cAt T h n)
/-- closures as a running -/
def ofC (c : Cr) (F : Str → List D → CH → Rs D) : Rc := ⟨fun s e env ch => match c.E s e with | some f => f env ch | none => .bad, fun s e env ch => match c.T s e with | some f => f env ch | none => .bad,
  fun s b env ch => match c.B s b with | some f => f env ch | none => .bad, fun s e d env ch => match c.G s e with | some f => f d env ch | none => .bad, F⟩
/-- what the hints say is so -/
structure HnOk (T : Tab) (F : Str → List D → CH → Rs D) (h : Hn) : Prop where
  fn : ∀ p ∈ h.fn, ∀ ds ch, Rs.le (p.2 ds ch) (F p.1 ds ch)
  mks : ∀ p ∈ h.mks, ∀ key, T.mks.lookup p.1 = some key → ∀ ds ch, Rs.le (p.2 ds ch) (F key ds ch)
  ms : ∀ p ∈ h.ms, T.cls.contains p.1.1 = true ∧ ∃ key i, T.mts.lookup p.1 = some key ∧ T.fns.lookup key = some i ∧ i.pats = p.2.pats ∧ ∀ ds ch, Rs.le (p.2.f ds ch) (F key ds ch)
  fl : ∀ p ∈ h.fl, ∀ c ∈ p.2, (T.cls.contains c && T.flds.contains (c, p.1)) = true
  isc : ∀ c ∈ h.isc, T.isc.contains c = true ∧ T.cls.contains c = true
  unl : ∀ p ∈ h.unl, T.unl.contains p = true
end LL
namespace LL
open PySem PySem.Spec PyProof.Rows L2
theorem lookup_mem {α β : Type} [BEq α] [LawfulBEq α] {a : α} {b : β} : ∀ {l : List (α × β)}, l.lookup a = some b → (a, b) ∈ l
  | [], h => by cases h
  | (x, y) :: r, h => by
    rw [List.lookup_cons] at h
    cases e : (a == x) with
    | true =>
      rw [e] at h
      cases h
      rw [eq_of_beq e]
      exact List.mem_cons_self
    | false =>
      rw [e] at h
      exact List.mem_cons_of_mem _ (lookup_mem h)
section
variable {T : Tab} {F : Str → List D → CH → Rs D} {h : Hn} {c : Cr} {s : Sk}
theorem kE {e : Expr} {f : CE} (hx : c.E s e = some f) (env : En) (ch : CH) : (ofC c F).E s e env ch = f env ch := by simp only [ofC, hx]
theorem kT {e : Expr} {f : CQ} (hx : c.T s e = some f) (env : En) (ch : CH) : (ofC c F).T s e env ch = f env ch := by simp only [ofC, hx]
theorem kB {e : List Stmt} {f : CB} (hx : c.B s e = some f) (env : En) (ch : CH) : (ofC c F).B s e env ch = f env ch := by simp only [ofC, hx]
theorem kG {e : Expr} {f : CG} (hx : c.G s e = some f) (d : D) (env : En) (ch : CH) : (ofC c F).G s e d env ch = f d env ch := by simp only [ofC, hx]
theorem kE' {e : Expr} {f : CE} (hx : c.E s e = some f) : (ofC c F).E s e = f := funext fun env => funext fun ch => kE hx env ch
theorem kT' {e : Expr} {f : CQ} (hx : c.T s e = some f) : (ofC c F).T s e = f := funext fun env => funext fun ch => kT hx env ch
theorem kB' {e : List Stmt} {f : CB} (hx : c.B s e = some f) : (ofC c F).B s e = f := funext fun env => funext fun ch => kB hx env ch
theorem kG' {e : Expr} {f : CG} (hx : c.G s e = some f) : (ofC c F).G s e = f := funext fun d => funext fun env => funext fun ch => kG hx d env ch
theorem evs_eq : ∀ {es : List Expr} {xs : List CE}, cEs c s es = some xs → ∀ env ch, evs (ofC c F) s es env ch = runEs xs env ch
  | [], xs, hx, env, ch => by cases hx; rfl
  | e :: es, xs, hx, env, ch => by
    unfold cEs at hx
    split at hx
    · cases hx
    · rename_i hs
      split at hx
      · rename_i x ys h1 h2
        cases hx
        unfold evs runEs
        rw [if_neg hs, kE h1]
        congr 1; funext d c'
        rw [evs_eq h2]
      · cases hx
theorem evk_eq : ∀ {es : List Keyword} {xs : List CE}, cKs c s es = some xs → ∀ env ch, evk (ofC c F) s es env ch = runEs xs env ch
  | [], xs, hx, env, ch => by cases hx; rfl
  | e :: es, xs, hx, env, ch => by
    unfold cKs at hx
    split at hx
    · rename_i x ys h1 h2
      cases hx
      unfold evk runEs
      rw [kE h1]
      congr 1; funext d c'
      rw [evk_eq h2]
    · cases hx
theorem evBool_eq {op : BoolOp} : ∀ {es : List Expr} {xs : List CE}, cBs c s es = some xs → ∀ env ch, evBool (ofC c F) s op es env ch = cBool op xs env ch
  | [], xs, hx, env, ch => by cases hx; rfl
  | [e], xs, hx, env, ch => by
    unfold cBs at hx
    split at hx
    · rename_i x ys h1 h2
      cases h2; cases hx
      exact kE h1 env ch
    · cases hx
  | e :: e2 :: es, xs, hx, env, ch => by
    unfold cBs at hx
    split at hx
    · rename_i x ys h1 h2
      cases hx
      have h3 := h2
      unfold cBs at h3
      split at h3
      · rename_i x2 ys2 h4 h5
        cases h3
        unfold evBool cBool
        rw [kE h1]
        congr 1; funext d c'
        congr 1; funext b c''
        cases op <;> cases b <;> first | rfl | exact evBool_eq h2 env c''
      · cases h3
    · cases hx
theorem evAll_eq {op : BoolOp} : ∀ {es : List Expr} {xs : List CQ}, cQs c s es = some xs → ∀ env ch, evAll (ofC c F) s op es env ch = qAll op xs env ch
  | [], xs, hx, env, ch => by cases hx; rfl
  | e :: es, xs, hx, env, ch => by
    unfold cQs at hx
    split at hx
    · rename_i x ys h1 h2
      cases hx
      unfold evAll qAll
      rw [kT h1]
      congr 1; funext b c'
      cases op <;> cases b <;> first | rfl | exact evAll_eq h2 env c'
    · cases hx
theorem evP_eq {o : Option Expr} {x : Option CE} (hx : cPart c s o = some x) (env : En) (ch : CH) : evP (ofC c F) s o env ch = runP x env ch := by
  cases o with
  | none => cases hx; rfl
  | some e =>
    simp only [cPart] at hx
    cases h1 : c.E s e with
    | none => rw [h1] at hx; cases hx
    | some f =>
      rw [h1] at hx; cases hx
      simp only [evP, runP, kE h1] <;> congr 1
/-! methods -/
theorem insOf_none {m : Str} {d : D} {ch : CH} (e : insOf d ch = none) : methOf T m d ch = none := by
  unfold insOf at e
  unfold methOf
  cases d with
  | ref n =>
    dsimp only at e ⊢
    cases hg : ch.get n with
    | none => rfl
    | some co =>
      rw [hg] at e
      cases co with
      | ins _ _ => cases e
      | _ => rfl
  | _ => rfl
theorem insOf_some {d : D} {ch : CH} {cl : Str} {fs : List (Str × D)} (e : insOf d ch = some (cl, fs)) : ∃ n, d = .ref n ∧ ch.get n = some (.ins cl fs) := by
  unfold insOf at e
  cases d with
  | ref n =>
    dsimp only at e
    cases hg : ch.get n with
    | none => rw [hg] at e; cases e
    | some co =>
      rw [hg] at e
      cases co with
      | ins _ _ => cases e; exact ⟨n, rfl, hg⟩
      | _ => cases e
  | _ => cases e
theorem meth_at (H : HnOk T F h) {ms : MT} (hm : ∀ p ∈ ms, p ∈ h.ms) {m : Str} {d : D} {ch : CH} {cl : Str} {fs : List (Str × D)} {mi : MI} (e : insOf d ch = some (cl, fs)) (q : methH ms m cl fs = some mi) :
    ∃ key, methOf T m d ch = some key ∧ ∀ n ks ds zs ch', Rs.le (mi.call n ks ds zs ch') (match patOf T key n ks with | some p => callP T (ofC c F) key p ds zs ch' | none => .bad) := by
  obtain ⟨n, rfl, hg⟩ := insOf_some e
  unfold methH at q
  split at q
  · rename_i hf
    have hmem := hm _ (lookup_mem q)
    obtain ⟨hc, key, i, h1, h2, h3, h4⟩ := H.ms _ hmem
    refine ⟨key, ?_, fun n ks ds zs ch' => ?_⟩
    · unfold methOf
      dsimp only
      rw [hg]
      dsimp only
      rw [show T.cls.contains cl = true from hc, hf]
      exact h1
    · unfold MI.call patOf
      rw [h2]
      dsimp only
      rw [← h3]
      cases i.pats.find? fun p => decide (p.n = n ∧ p.ks = ks) with
      | none => exact .rfl
      | some p =>
        dsimp only
        unfold callQ callP
        split
        · cases arrange ds zs p.arr with
          | none => exact .rfl
          | some as => exact h4 as ch'
        · exact .rfl
  · cases q
theorem meth_pat (H : HnOk T F h) {ms : MT} (hm : ∀ p ∈ ms, p ∈ h.ms) {m : Str} {d : D} {ch : CH} {cl : Str} {fs : List (Str × D)} {mi : MI} (e : insOf d ch = some (cl, fs)) (q : methH ms m cl fs = some mi) :
    ∃ key, methOf T m d ch = some key ∧ (∀ n ks, patOf T key n ks = mi.pats.find? (fun p => decide (p.n = n ∧ p.ks = ks))) ∧ ∀ ds ch', Rs.le (mi.f ds ch') (F key ds ch') := by
  obtain ⟨n, rfl, hg⟩ := insOf_some e
  unfold methH at q
  split at q
  · rename_i hf
    have hmem := hm _ (lookup_mem q)
    obtain ⟨hc, key, i, h1, h2, h3, h4⟩ := H.ms _ hmem
    refine ⟨key, ?_, fun n ks => ?_, h4⟩
    · unfold methOf
      dsimp only
      rw [hg]
      dsimp only
      rw [show T.cls.contains cl = true from hc, hf]
      exact h1
    · unfold patOf
      rw [h2]
      dsimp only
      rw [← h3]
  · cases q
theorem cEs_len {es : List Expr} {xs : List CE} (h1 : cEs c s es = some xs) : xs.length = es.length := by
  induction es generalizing xs with
  | nil => cases h1; rfl
  | cons e es ih =>
    unfold cEs at h1
    split at h1
    · cases h1
    · split at h1
      · rename_i x2 ys h6 h7
        cases h1
        simp [ih h7]
      · cases h1
theorem op_at (H : HnOk T F h) {ms : MT} (hm : ∀ p ∈ ms, p ∈ h.ms) {m : Str} {d : D} {ch : CH} {cl : Str} {fs : List (Str × D)} {mi : MI} (e : insOf d ch = some (cl, fs)) (q : methH ms m cl fs = some mi) :
    ∃ key, methOf T m d ch = some key ∧ ∀ as ch', Rs.le (mi.op as ch') (opM T (ofC c F) key as ch') := by
  obtain ⟨key, h1, h2⟩ := meth_at (c := c) H hm e q
  exact ⟨key, h1, fun as ch' => h2 as.length [] as [] ch'⟩
theorem cmpOH_le (H : HnOk T F h) {ms : MT} (hm : ∀ p ∈ ms, p ∈ h.ms) (op : CmpOp) (x y : D) (ch : CH) : Rs.le (cmpOH ms op x y ch) (cmpO T (ofC c F) op x y ch) := by
  unfold cmpOH cmpO
  cases cmpM op with
  | none => exact .rfl
  | some m =>
    dsimp only
    cases hi : insOf x ch with
    | none => rw [insOf_none hi]; exact .rfl
    | some p =>
      obtain ⟨cl, fs⟩ := p
      dsimp only
      cases hq : methH ms m cl fs with
      | none => exact .bad
      | some mi =>
        obtain ⟨key, h1, h2⟩ := op_at (c := c) H hm hi hq
        rw [h1]
        dsimp only
        split
        · exact Rs.le.bind (h2 _ _) fun d c' => .rfl
        · exact .rfl
theorem cmpH_le (H : HnOk T F h) {ms : MT} (hm : ∀ p ∈ ms, p ∈ h.ms) (op : CmpOp) (x y : D) (ch : CH) : Rs.le (cmpH ms op x y ch) (cmpR T (ofC c F) op x y ch) := by
  cases op with
  | In =>
    unfold cmpH cmpR
    dsimp only
    cases hi : insOf y ch with
    | none => rw [insOf_none hi]; exact .rfl
    | some p =>
      obtain ⟨cl, fs⟩ := p
      dsimp only
      cases hq : methH ms "__contains__" cl fs with
      | none => exact .bad
      | some mi =>
        obtain ⟨key, h1, h2⟩ := op_at (c := c) H hm hi hq
        rw [h1]
        exact Rs.le.bind (h2 _ _) fun d c' => .rfl
  | NotIn =>
    unfold cmpH cmpR
    dsimp only
    cases hi : insOf y ch with
    | none => rw [insOf_none hi]; exact .rfl
    | some p =>
      obtain ⟨cl, fs⟩ := p
      dsimp only
      cases hq : methH ms "__contains__" cl fs with
      | none => exact .bad
      | some mi =>
        obtain ⟨key, h1, h2⟩ := op_at (c := c) H hm hi hq
        rw [h1]
        exact Rs.le.bind (h2 _ _) fun d c' => .rfl
  | Eq => unfold cmpH cmpR; exact cmpOH_le H hm .Eq x y ch
  | NotEq =>
    unfold cmpH cmpR
    dsimp only
    cases hi : insOf x ch with
    | none => rw [insOf_none hi]; exact .rfl
    | some p =>
      obtain ⟨cl, fs⟩ := p
      dsimp only
      cases hq : methH ms "__eq__" cl fs with
      | none => exact .bad
      | some mi =>
        obtain ⟨key, h1, h2⟩ := op_at (c := c) H hm hi hq
        rw [h1]
        dsimp only
        split
        · exact Rs.le.bind (h2 _ _) fun d c' => .rfl
        · exact .rfl
  | Lt => unfold cmpH cmpR; exact cmpOH_le H hm .Lt x y ch
  | LtE => unfold cmpH cmpR; exact cmpOH_le H hm .LtE x y ch
  | Gt => unfold cmpH cmpR; exact cmpOH_le H hm .Gt x y ch
  | GtE => unfold cmpH cmpR; exact cmpOH_le H hm .GtE x y ch
  | Is => unfold cmpH cmpR; exact cmpOH_le H hm .Is x y ch
  | IsNot => unfold cmpH cmpR; exact cmpOH_le H hm .IsNot x y ch
theorem bin_le {op : Operator} (x y : D) (ch : CH) : Rs.le (bin op x y ch) (binR T (ofC c F) op x y ch) := by
  cases op with
  | Add =>
    unfold binR
    dsimp only
    cases hk : methOf T "__add__" x ch with
    | none => exact .rfl
    | some key =>
      obtain ⟨n0, c0, fs0, rfl, hg0, _⟩ := methOf_cls hk
      have : bin .Add (.ref n0) y ch = .bad := by
        cases y <;> simp only [bin, hg0]
      rw [this]
      exact .bad
  | _ => exact .rfl
theorem addH_le (H : HnOk T F h) {ms : MT} (hm : ∀ p ∈ ms, p ∈ h.ms) (x y : D) (ch : CH) : Rs.le (addH ms x y ch) (binR T (ofC c F) .Add x y ch) := by
  unfold addH binR
  dsimp only
  cases hi : insOf x ch with
  | none => rw [insOf_none hi]; exact .rfl
  | some p =>
    obtain ⟨cl, fs⟩ := p
    dsimp only
    cases hq : methH ms "__add__" cl fs with
    | none => exact .bad
    | some mi =>
      obtain ⟨key, h1, h2⟩ := op_at (c := c) H hm hi hq
      rw [h1]
      dsimp only
      split
      · exact h2 _ _
      · exact .rfl
theorem cOp_le (H : HnOk T F h) {ms : MT} (hm : ∀ p ∈ ms, p ∈ h.ms) {op : Operator} {x y : CE} {env : En} {ch : CH} : Rs.le (cOp ms op x y env ch) ((x env ch).bind fun d c1 => (y env c1).bind fun d2 c2 => binR T (ofC c F) op d d2 c2) := by
  have k1 : Rs.le (cBin op x y env ch) ((x env ch).bind fun d c1 => (y env c1).bind fun d2 c2 => binR T (ofC c F) op d d2 c2) := Rs.le.bindS fun _ _ => Rs.le.bindS fun _ _ => bin_le _ _ _
  unfold cOp
  split
  · exact Rs.le.bindS fun _ _ => Rs.le.bindS fun _ _ => addH_le H hm _ _ _
  · exact k1
theorem ixH_le (H : HnOk T F h) {ms : MT} (hm : ∀ p ∈ ms, p ∈ h.ms) (x y : D) (ch : CH) : Rs.le (ixH ms x y ch) (ixR T (ofC c F) x y ch) := by
  unfold ixH ixR
  cases hi : insOf x ch with
  | none => rw [insOf_none hi]; exact .rfl
  | some p =>
    obtain ⟨cl, fs⟩ := p
    dsimp only
    cases hq : methH ms "__getitem__" cl fs with
    | none => exact .bad
    | some mi =>
      obtain ⟨key, h1, h2⟩ := op_at (c := c) H hm hi hq
      rw [h1]
      exact h2 _ _
theorem msOf_sub {m : Str} : ∀ p ∈ msOf h m, p ∈ h.ms := fun p hp => (List.mem_filter.mp hp).1
theorem msOp_sub {op : CmpOp} : ∀ p ∈ msOp h op, p ∈ h.ms := fun p hp => by
  have g : ∀ m : Str, p ∈ msOf h m → p ∈ h.ms := fun m hq => (List.mem_filter.mp hq).1
  cases op <;> first
    | exact g _ hp
    | (exact absurd hp (by simp [msOp, cmpM]))
theorem msOp2_sub {op op' : CmpOp} : ∀ p ∈ msOp h op ++ msOp h op', p ∈ h.ms := fun p hp => (List.mem_append.mp hp).elim (msOp_sub p) (msOp_sub p)
/-! fields -/
theorem fl_ok (H : HnOk T F h) {f : Str} {cl : Str} (hc : ((h.fl.lookup f).getD []).contains cl = true) : (T.cls.contains cl && T.flds.contains (cl, f)) = true := by
  cases e : h.fl.lookup f with
  | none => rw [e] at hc; simp at hc
  | some cs =>
    rw [e] at hc
    exact H.fl _ (lookup_mem e) cl (List.contains_iff_mem.mp hc)
theorem fldH_le (H : HnOk T F h) (f : Str) (d : D) (ch : CH) : Rs.le (fldH ((h.fl.lookup f).getD []) f d ch) (fld T f d ch) := by
  unfold fldH
  cases hi : insOf d ch with
  | none => exact .bad
  | some p =>
    obtain ⟨cl, fs⟩ := p
    obtain ⟨n, rfl, hg⟩ := insOf_some hi
    dsimp only
    split
    · rename_i hc
      unfold fld
      dsimp only
      rw [hg]
      dsimp only
      rw [fl_ok H hc]
      rw [if_pos rfl]
      cases List.lookup f fs <;> exact .rfl
    · exact .bad
theorem putFldH_eq (H : HnOk T F h) (f : Str) (d v : D) (ch ch' : CH) (e : putFldH ((h.fl.lookup f).getD []) f d v ch = some ch') : putFld T f d v ch = some ch' := by
  unfold putFldH at e
  unfold putFld
  cases d with
  | ref n =>
    dsimp only at e ⊢
    cases hg : ch.get n with
    | none => rw [hg] at e; cases e
    | some co =>
      rw [hg] at e
      cases co with
      | ins cl fs =>
        dsimp only at e ⊢
        split at e
        · rename_i hc
          obtain ⟨h1, h2⟩ := Bool.and_eq_true_iff.mp hc
          rw [fl_ok H h1, h2]
          exact e
        · cases e
      | _ => cases e
  | _ => cases e
/-! calls -/
theorem isiH_ok (H : HnOk T F h) {d : D} {cl : Str} {ch : CH} {b : Bool} (e : isiH h.isc h.unl d cl ch = some b) : isiC T d cl ch = some b := by
  unfold isiH at e
  split at e
  · rename_i hc
    have h1 := (H.isc _ (List.contains_iff_mem.mp hc)).1
    unfold isiC
    rw [if_pos h1]
    cases hi : insOf d ch with
    | none =>
      rw [hi] at e
      dsimp only at e
      unfold insOf at hi
      cases d with
      | ref n =>
        dsimp only at hi ⊢
        cases hg : ch.get n with
        | none => rw [hg] at hi; exact e
        | some co =>
          rw [hg] at hi
          cases co with
          | ins _ _ => cases hi
          | _ => exact e
      | _ => exact e
    | some p =>
      obtain ⟨c', fs⟩ := p
      rw [hi] at e
      obtain ⟨n, rfl, hg⟩ := insOf_some hi
      dsimp only at e ⊢
      rw [hg]
      dsimp only
      split at e
      · rename_i hc'
        obtain ⟨h2, h3⟩ := H.isc _ (List.contains_iff_mem.mp hc')
        rw [h2, h3]
        split at e
        · rename_i he; rw [if_pos he]; exact e
        · rename_i he
          rw [if_neg he]
          split at e
          · rename_i hu
            rw [H.unl _ (List.contains_iff_mem.mp hu)]
            exact e
          · cases e
      · cases e
  · cases e
theorem len_le (H : HnOk T F h) {ms : MT} (hm : ∀ p ∈ ms, p ∈ h.ms) (ds : List D) (ch : CH) (isc : List Str) (unl : List (Str × Str)) : Rs.le (biH ms isc unl "len" ds ch) (biR T (ofC c F) "len" ds ch) := by
  unfold biH biR
  rw [if_pos rfl, if_pos rfl]
  split
  · rename_i d
    try dsimp only
    cases hi : insOf d ch with
    | none => rw [insOf_none hi]; exact .rfl
    | some p =>
      obtain ⟨cl, fs⟩ := p
      dsimp only
      cases hq : methH ms "__len__" cl fs with
      | none => exact .bad
      | some mi =>
        obtain ⟨key, h1, h2⟩ := op_at (c := c) H hm hi hq
        rw [h1]
        exact Rs.le.bind (h2 _ _) fun d c' => .rfl
  · rename_i hn
    first
      | exact Rs.le.rfl
      | (split
         · exact absurd rfl (hn _)
         · exact Rs.le.rfl)
theorem isI_le (H : HnOk T F h) (ds : List D) (ch : CH) (ms : MT) : Rs.le (biH ms h.isc h.unl "isinstance" ds ch) (biR T (ofC c F) "isinstance" ds ch) := by
  unfold biH biR
  rw [if_neg (by decide : ¬ "isinstance" = "len"), if_pos rfl, if_neg (by decide : ¬ "isinstance" = "len"), if_pos rfl]
  split
  · rename_i d cl
    try dsimp only
    cases e : isiH h.isc h.unl d cl ch with
    | none => exact .bad
    | some b => rw [isiH_ok H e]; exact .rfl
  · rename_i hn
    first
      | exact Rs.le.rfl
      | (split
         · exact absurd rfl (hn _ _)
         · exact Rs.le.rfl)
theorem bi_eq {id : String} (h1 : id ≠ "len") (h2 : id ≠ "isinstance") (ds : List D) (ch : CH) (R : Rc) : biR T R id ds ch = bi id ds ch := by
  unfold biR
  rw [if_neg h1, if_neg h2]
theorem callQ_le {f : Fn} {key : Str} (hf : ∀ ds ch, Rs.le (f ds ch) (F key ds ch)) (p : Pat) (ds zs : List D) (ch : CH) : Rs.le (callQ f p ds zs ch) (callP T (ofC c F) key p ds zs ch) := by
  unfold callQ callP
  split
  · cases arrange ds zs p.arr with
    | none => exact .rfl
    | some as => exact hf as ch
  · exact .rfl
theorem args_eq {es : List Expr} {kws : List Keyword} {xs zs : List CE} (h1 : cEs c s es = some xs) (h2 : cKs c s kws = some zs) {β : Type} (k : List D × List D → CH → Rs β) (env : En) (ch : CH) :
    (args (ofC c F) s es kws env ch).bind k = (runEs xs env ch).bind fun ds c => (runEs zs env c).bind fun us c => k (ds, us) c := by
  unfold args
  rw [evs_eq h1]
  cases runEs xs env ch with
  | ok ds c' =>
    simp only [Rs.bind]
    rw [evk_eq h2]
    cases runEs zs env c' <;> rfl
  | exc _ _ _ => rfl
  | bad => rfl
theorem callN_le (H : HnOk T F h) {f : Str} {es : List Expr} {kws : List Keyword} {x : CE} (hx : cCallN T h c s f es kws = some x) (env : En) (ch : CH) : Rs.le (x env ch) (evCallN T (ofC c F) s f es kws env ch) := by
  unfold cCallN at hx
  unfold evCallN
  split at hx
  · rename_i hc
    rw [if_pos hc]
    split at hx
    · rename_i ks xs zs hk h1 h2
      rw [hk]
      dsimp only
      split at hx
      · rename_i hb
        rw [if_pos hb]
        split at hx
        · rename_i hq
          rw [if_pos hq]
          rw [evs_eq h1]
          split at hx
          · rename_i id hbb
            cases hx
            split
            · rename_i hid
              subst hid
              exact Rs.le.bindS fun ds c' => by (try rw [hbb]); exact len_le H msOf_sub ds c' [] []
            · rename_i hid
              split
              · rename_i hid2
                subst hid2
                exact Rs.le.bindS fun ds c' => by (try rw [hbb]); exact isI_le H ds c' []
              · rename_i hid2
                exact Rs.le.bindS fun ds c' => by (try rw [hbb]); exact .of (bi_eq hid hid2 ds c' _).symm
          · rename_i t hbb
            cases hx
            exact Rs.le.bindS fun ds c' => by (try rw [hbb]); exact .rfl
          · cases hx
        · cases hx
      · rename_i hb
        rw [if_neg hb]
        split at hx
        · rename_i hg
          rw [if_pos hg]
          split at hx
          · rename_i p g hp hl
            cases hx
            rw [hp]
            dsimp only
            rw [args_eq h1 h2]
            exact Rs.le.bindS fun ds c' => Rs.le.bindS fun us c' => callQ_le (H.fn _ (lookup_mem hl)) p ds us c'
          · cases hx
        · rename_i hg
          rw [if_neg hg]
          split at hx
          · rename_i key hkey
            try rw [hkey]
            try dsimp only
            split at hx
            · rename_i p g hp hl
              cases hx
              rw [hp]
              dsimp only
              rw [args_eq h1 h2]
              refine Rs.le.bindS fun ds c' => Rs.le.bindS fun us c' => ?_
              exact Rs.le.bind (callQ_le (H.mks _ (lookup_mem hl) key hkey) p _ us _) fun d c2 => .rfl
            · cases hx
          · rename_i hkey
            try rw [hkey]
            try dsimp only
            split at hx
            · rename_i id hid
              try rw [hid]
              try dsimp only
              split at hx
              · rename_i hq
                cases hx
                try rw [if_pos hq]
                rw [evs_eq h1]
                exact .rfl
              · cases hx
            · cases hx
    · cases hx
  · cases hx
theorem callV_le (H : HnOk T F h) {f : Str} {es : List Expr} {kws : List Keyword} {x : CE} (hx : cCallV h c s f es kws = some x) (env : En) (ch : CH) : Rs.le (x env ch) (evCallV T (ofC c F) s f es kws env ch) := by
  unfold cCallV at hx
  unfold evCallV
  split at hx
  · rename_i hc
    rw [if_pos hc]
    split at hx
    · rename_i i xs h1 h2
      cases hx
      have e1 : evVar s f env ch = cVar i env ch := by unfold evVar cVar; rw [h1] <;> rfl
      rw [e1]
      refine Rs.le.bindS fun d c' => ?_
      unfold calK
      cases d with
      | ref k =>
        dsimp only
        rw [evs_eq h2]
        refine Rs.le.bindS fun ds c2 => ?_
        unfold calO
        cases hi : insOf (.ref k) c2 with
        | none => exact .bad
        | some p =>
          obtain ⟨cl, fs⟩ := p
          dsimp only
          cases hq : methH (msOf h "__call__") "__call__" cl fs with
          | none => exact .bad
          | some mi =>
            obtain ⟨key, h3, h4⟩ := op_at (c := c) H msOf_sub hi hq
            rw [h3]
            exact h4 _ _
      | _ => exact .rfl
    · cases hx
  · cases hx
theorem callM_le (H : HnOk T F h) {o : Expr} {m : Str} {apos pos : Pos} {es : List Expr} {kws : List Keyword} {x : CE} (hx : cCallM T h c s o m apos pos es kws = some x) (env : En) (ch : CH) : Rs.le (x env ch) (evCallM T (ofC c F) s o m apos pos es kws env ch) := by
  unfold cCallM at hx
  unfold evCallM
  split at hx
  · rename_i hc
    rw [if_pos hc]
    split at hx
    · rename_i ks xs zs hk h1 h2
      rw [hk]
      dsimp only
      split at hx
      · rename_i ts ht
        cases hx
        try rw [ht]
        try dsimp only
        rw [evs_eq h1]
        exact .rfl
      · rename_i ht
        try rw [ht]
        try dsimp only
        split at hx
        · rename_i y hy
          cases hx
          rw [kE hy]
          refine Rs.le.bindS fun d c' => ?_
          cases hi : insOf d c' with
          | some p =>
            obtain ⟨cl, fs⟩ := p
            dsimp only
            cases hq : methH (msOf h m) m cl fs with
            | none => exact .bad
            | some mi =>
              obtain ⟨key, h3, h4, h5⟩ := meth_pat H msOf_sub hi hq
              rw [h3]
              dsimp only
              have hl : xs.length = es.length := cEs_len h1
              rw [h4, hl]
              cases mi.pats.find? (fun p => decide (p.n = es.length + 1 ∧ p.ks = ks)) with
              | none => exact .bad
              | some p =>
                dsimp only
                rw [args_eq h1 h2]
                exact Rs.le.bindS fun ds c2 => Rs.le.bindS fun us c3 => callQ_le h5 p (d :: ds) us c3
          | none =>
            rw [insOf_none hi]
            dsimp only
            split
            · rename_i hd
              by_cases hkw : kws = []
              · rw [if_pos hkw, if_pos ⟨hd, hkw⟩]
                cases lmId m with
                | none => exact .bad
                | some id => dsimp only; rw [evs_eq h1]; exact .rfl
              · rw [if_neg hkw]; exact .bad
            · exact .bad
        · cases hx
    · cases hx
  · cases hx
end
end LL
namespace LL
open PySem PySem.Spec PyProof.Rows L2
section
variable {T : Tab} {F : Str → List D → CH → Rs D} {h : Hn} {c : Cr} {s : Sk}
theorem it_eq {tu : Bool} {e : Expr} {x : CI} (hx : cIt T c s tu e = some x) (env : En) (ch : CH) : x env ch = evIt T (ofC c F) s tu e env ch := by
  have gen : (∀ env ch, evIt T (ofC c F) s tu e env ch = ((ofC c F).E s e env ch).bind walkD) → (c.E s e).map iVal = some x → x env ch = evIt T (ofC c F) s tu e env ch := fun he hx => by
    cases h1 : c.E s e with
    | none => rw [h1] at hx; cases hx
    | some f => rw [h1] at hx; cases hx; rw [he, kE h1]; rfl
  cases e with
  | Set _ _ _ => cases hx
  | Call f args kws pos =>
    cases f with
    | Name f p =>
      match args, kws with
      | [a], [] =>
        by_cases hf : f = "range"
        · subst hf
          simp only [cIt, if_true] at hx
          simp only [evIt, if_true]
          split at hx
          · rename_i hb
            rw [if_pos hb]
            split at hx
            · cases hx
            · rename_i hs
              rw [if_neg hs]
              cases h1 : c.E s a with
              | none => rw [h1] at hx; cases hx
              | some f => rw [h1] at hx; cases hx; rw [kE h1]; rfl
          · cases hx
        · by_cases hf2 : f = "enumerate"
          · subst hf2
            simp only [cIt, if_neg hf, if_true] at hx
            simp only [evIt, if_neg hf, if_true]
            split at hx
            · rename_i hb
              rw [if_pos hb]
              cases h1 : c.E s a with
              | none => rw [h1] at hx; cases hx
              | some f => rw [h1] at hx; cases hx; rw [kE h1]; rfl
            · cases hx
          · exact gen (fun env ch => by simp only [evIt, if_neg hf, if_neg hf2]) (by simpa only [cIt, if_neg hf, if_neg hf2] using hx)
      | [a, b], [] =>
        by_cases hf : f = "range"
        · subst hf
          simp only [cIt, if_true] at hx
          simp only [evIt, if_true]
          split at hx
          · rename_i hb
            rw [if_pos hb]
            split at hx
            · cases hx
            · rename_i hs
              rw [if_neg hs]
              have hs' : (isStar a || isStar b) = false := by simpa using hs
              obtain ⟨s1, s2⟩ := Bool.or_eq_false_iff.mp hs'
              split at hx
              · rename_i y z h1 h2
                cases hx
                have h3 : cEs c s [a, b] = some [y, z] := by simp [cEs, s1, s2, h1, h2]
                rw [evs_eq h3]
                rfl
              · cases hx
          · cases hx
        · by_cases hf2 : f = "zip"
          · subst hf2
            simp only [cIt, if_neg hf, if_true] at hx
            simp only [evIt, if_neg hf, if_true]
            split at hx
            · rename_i hb
              rw [if_pos hb]
              obtain ⟨hb1, s2⟩ := Bool.and_eq_true_iff.mp hb
              obtain ⟨_, s1⟩ := Bool.and_eq_true_iff.mp hb1
              have s1 : isStar a = false := by simpa using s1
              have s2 : isStar b = false := by simpa using s2
              split at hx
              · rename_i y z h1 h2
                cases hx
                have h3 : cEs c s [a, b] = some [y, z] := by simp [cEs, s1, s2, h1, h2]
                rw [evs_eq h3]
                rfl
              · cases hx
            · cases hx
          · exact gen (fun env ch => by simp only [evIt, if_neg hf, if_neg hf2]) (by simpa only [cIt, if_neg hf, if_neg hf2] using hx)
      | [], _ => exact gen (fun env ch => rfl) hx
      | [_], _ :: _ => exact gen (fun env ch => rfl) hx
      | [_, _], _ :: _ => exact gen (fun env ch => rfl) hx
      | _ :: _ :: _ :: _, _ => exact gen (fun env ch => rfl) hx
    | _ => exact gen (fun env ch => rfl) hx
  | _ => exact gen (fun env ch => rfl) hx
theorem ifs_eq {es : List Expr} {x : Option CQ} (hx : cIfs c s es = some x) (env : En) (ch : CH) : runIfs x env ch = evIfs (ofC c F) s es env ch := by
  match es with
  | [] => cases hx; rfl
  | [e] =>
    simp only [cIfs] at hx
    cases h1 : c.T s e with
    | none => rw [h1] at hx; cases hx
    | some f => rw [h1] at hx; cases hx; simp only [evIfs, runIfs, kT h1]
  | _ :: _ :: _ => cases hx
theorem lcB_eq {t : Tg} {ifs : List Expr} {i : Option CQ} {elt : Expr} {x : CE} (hi : cIfs c s ifs = some i) (hx : c.E s elt = some x) (ok : CH → Bool) (env0 : En) (l : Nat) : ∀ ds ch, lcB t i x ok env0 l ds ch = cmpB (ofC c F) s t ifs elt ok env0 l ds ch
  | [], ch => rfl
  | d :: ds, ch => by
    unfold lcB cmpB
    split
    · cases bindT t d env0 with
      | none => rfl
      | some env =>
        dsimp only
        rw [ifs_eq hi]
        congr 1; funext b c1
        split
        · rw [kE hx]
          congr 1; funext y c2
          cases c2.get l with
          | none => rfl
          | some co =>
            cases co with
            | lst acc =>
              dsimp only
              rw [lcB_eq hi hx ok env0 l ds]
            | _ => rfl
        · exact lcB_eq hi hx ok env0 l ds c1
    · rfl
theorem lcB2_eq {t t1 : Tg} {ifs ifs1 : List Expr} {i i1 : Option CQ} {it1 elt : Expr} {y : CI} {x : CE} (hi : cIfs c s ifs = some i) (hi1 : cIfs c s ifs1 = some i1) (hy : cIt T c s (tuT t1) it1 = some y) (hx : c.E s elt = some x) (ok : CH → Bool) (env0 : En) (vs1 : List Nat) (l : Nat) :
    ∀ ds ch, lcB2 t i t1 y i1 x ok env0 vs1 l ds ch = cmpB2 T (ofC c F) s t ifs t1 it1 ifs1 elt ok env0 vs1 l ds ch
  | [], ch => rfl
  | d :: ds, ch => by
    unfold lcB2 cmpB2
    split
    · cases bindT t d env0 with
      | none => rfl
      | some env =>
        dsimp only
        rw [ifs_eq hi]
        congr 1; funext b c1
        split
        · rw [it_eq (F := F) hy]
          congr 1; funext w c2
          rw [lcB_eq (F := F) hi1 hx]
          congr 1; funext u c3
          exact lcB2_eq hi hi1 hy hx ok env0 vs1 l ds c3
        · exact lcB2_eq hi hi1 hy hx ok env0 vs1 l ds c1
    · rfl
theorem lcs_eq {elt : Expr} {gs : List Comprehension} {scope : Scope} {x : CE} (hx : cLcs T c s elt gs scope = some x) (env : En) (ch : CH) : x env ch = evLcs T (ofC c F) s elt gs scope env ch := by
  match gs with
  | [] => cases hx
  | [g] =>
    simp only [cLcs] at hx
    split at hx
    · rename_i hc
      split at hx
      · rename_i t h1
        split at hx
        · rename_i it i y h2 h3 h4
          cases hx
          simp only [evLcs, hc.1, if_true, evLc, hc.2, h1, cLc]
          rw [it_eq (F := F) h2]
          congr 1; funext w c1
          rw [lcB_eq (F := F) h3 h4]
        · cases hx
      · cases hx
    · cases hx
  | [g, g1] =>
    simp only [cLcs] at hx
    split at hx
    · rename_i hc
      split at hx
      · rename_i t t1 h1 h2
        split at hx
        · rename_i it i it1 i1 y h3 h4 h5 h6 h7
          cases hx
          simp only [evLcs, hc.1.1, hc.1.2, and_self, if_true, evLc2, hc.2, h1, h2, cLc2]
          rw [it_eq (F := F) h3]
          congr 1; funext w c1
          rw [lcB2_eq (F := F) h4 h6 h5 h7]
          cases t1 <;> rfl
        · cases hx
      · cases hx
    · cases hx
  | _ :: _ :: _ :: _ => cases hx
theorem dcB_eq {t : Tg} {ifs : List Expr} {i : Option CQ} {kx vx : Expr} {x y : CE} (hi : cIfs c s ifs = some i) (hx : c.E s kx = some x) (hy : c.E s vx = some y) (ok : CH → Bool) (env0 : En) (l : Nat) : ∀ ds ch, dcB t i x y ok env0 l ds ch = cmpD (ofC c F) s t ifs kx vx ok env0 l ds ch
  | [], ch => rfl
  | d :: ds, ch => by
    unfold dcB cmpD
    split
    · cases bindT t d env0 with
      | none => rfl
      | some env =>
        dsimp only
        rw [ifs_eq hi]
        congr 1; funext b c1
        split
        · rw [kE hx]
          congr 1; funext y c2
          rw [kE hy]
          congr 1; funext z c3
          cases keyD y with
          | none => rfl
          | some kk =>
            cases c3.get l with
            | none => rfl
            | some co =>
              cases co with
              | dk acc =>
                dsimp only
                rw [dcB_eq hi hx hy ok env0 l ds]
              | _ => rfl
        · exact dcB_eq hi hx hy ok env0 l ds c1
    · rfl
theorem dcs_eq {kx vx : Expr} {gs : List Comprehension} {scope : Scope} {x : CE} (hx : cDcs T c s kx vx gs scope = some x) (env : En) (ch : CH) : x env ch = evDcs T (ofC c F) s kx vx gs scope env ch := by
  match gs with
  | [] => cases hx
  | [g] =>
    simp only [cDcs] at hx
    split at hx
    · rename_i hc
      split at hx
      · rename_i t h1
        split at hx
        · rename_i it i y z h2 h3 h4 h5
          cases hx
          simp only [evDcs, hc.1, if_true, evDc, hc.2, h1, cDc]
          rw [it_eq (F := F) h2]
          congr 1; funext w c1
          rw [dcB_eq (F := F) h3 h4 h5]
        · cases hx
      · cases hx
    · cases hx
  | _ :: _ :: _ => cases hx
theorem ps_eq : ∀ {ks : List (Option Expr)} {vs : List Expr} {xs ys : List CE}, cKeys c s ks = some xs → cBs c s vs = some ys → ∀ env ch, runPs xs ys env ch = evPs (ofC c F) s ks vs env ch
  | [], [], xs, ys, h1, h2, env, ch => by cases h1; cases h2; rfl
  | [], v :: vs, xs, ys, h1, h2, env, ch => by
    cases h1
    unfold cBs at h2
    split at h2
    · cases h2; rfl
    · cases h2
  | none :: _, _, xs, ys, h1, h2, env, ch => by cases h1
  | some k :: ks, [], xs, ys, h1, h2, env, ch => by
    cases h2
    unfold cKeys at h1
    split at h1
    · cases h1; rfl
    · cases h1
  | some k :: ks, v :: vs, xs, ys, h1, h2, env, ch => by
    unfold cKeys at h1
    unfold cBs at h2
    split at h1
    · rename_i a as e1 e2
      split at h2
      · rename_i b bs e3 e4
        cases h1; cases h2
        unfold runPs evPs
        rw [kE e1]
        congr 1; funext kd c1
        rw [kE e3]
        congr 1; funext d c2
        cases keyD kd with
        | none => rfl
        | some k => dsimp only; rw [ps_eq e2 e4]
      · cases h2
    · cases h1
theorem stepE_le (H : HnOk T F h) {e : Expr} {f : CE} (hx : stepE T h c s e = some f) (env : En) (ch : CH) : Rs.le (f env ch) (evE T (ofC c F) s e env ch) := by
  unfold stepE at hx
  split at hx
  · -- Name
    rename_i x pos
    unfold cName at hx
    unfold evE evName
    dsimp only
    split at hx
    · rename_i hc
      rw [if_pos hc]
      have hv : ∀ g, (ixOf x s.N).map cVar = some g → Rs.le (g env ch) (evVar s x env ch) := fun g hg => by
        cases h1 : ixOf x s.N with
        | none => rw [h1] at hg; cases hg
        | some i => rw [h1] at hg; cases hg; unfold evVar cVar; rw [h1]; exact .rfl
      split at hx
      · rename_i hl
        try rw [hl]
        unfold cGlo at hx
        try dsimp only
        unfold evGlo
        split at hx
        · rename_i d hd
          cases hx
          (try rw [hd]); exact .rfl
        · rename_i hd
          try rw [hd]
          try dsimp only
          split at hx
          · cases hx
          · rename_i hn
            try rw [if_neg hn]
            split at hx
            · rename_i n hb
              cases hx
              (try rw [hb]); exact .rfl
            · cases hx
      · rename_i hl; (try rw [hl]); exact hv f hx
      · rename_i hl; (try rw [hl]); exact hv f hx
      · rename_i hl; (try rw [hl]); exact hv f hx
      · cases hx
    · cases hx
  · cases hx; exact .rfl
  · cases hx; exact .rfl
  · cases hx; exact .rfl
  · cases hx; exact .rfl
  · -- BinOp
    rename_i a op b pos
    split at hx
    · rename_i x y h1 h2
      cases hx
      unfold evE
      dsimp only
      rw [kE' h1, kE' h2]
      exact cOp_le H msOf_sub
    · cases hx
  · -- Compare
    split at hx
    · cases hx
    · rename_i hb
      split at hx
      · rename_i x y h1 h2
        cases hx
        unfold evE cCmp
        dsimp only
        rw [if_neg hb, kE' h1, kE' h2]
        exact Rs.le.bindS fun _ _ => Rs.le.bindS fun _ _ => cmpH_le H msOp_sub _ _ _ _
      · cases hx
  · split at hx
    · cases hx
    · rename_i hb
      split at hx
      · rename_i x y z h1 h2 h3
        cases hx
        unfold evE cCmp2
        dsimp only
        rw [if_neg hb, kE' h1, kE' h2, kE' h3]
        refine Rs.le.bindS fun _ _ => Rs.le.bindS fun _ _ => Rs.le.bind (cmpH_le H msOp2_sub _ _ _ _) fun d c1 => ?_
        cases d with
        | bl b => cases b with
          | true => exact Rs.le.bindS fun _ _ => cmpH_le H msOp2_sub _ _ _ _
          | false => exact .rfl
        | _ => exact .rfl
      · cases hx
  · -- BoolOp
    rename_i op es pos
    cases h1 : cBs c s es with
    | none => rw [h1] at hx; cases hx
    | some xs =>
      rw [h1] at hx; cases hx
      exact .of (evBool_eq h1 env ch).symm
  · rename_i a pos
    cases h1 : c.E s a with
    | none => rw [h1] at hx; cases hx
    | some x => rw [h1] at hx; cases hx; unfold evE cNot; dsimp only; rw [kE h1]; exact .rfl
  · rename_i a pos
    cases h1 : c.E s a with
    | none => rw [h1] at hx; cases hx
    | some x => rw [h1] at hx; cases hx; unfold evE cNeg; dsimp only; rw [kE h1]; exact .rfl
  · -- IfExp
    split at hx
    · rename_i q x y h1 h2 h3
      cases hx
      unfold evE cIf
      dsimp only
      rw [kT' h1, kE' h2, kE' h3]
      exact .rfl
    · cases hx
  · rename_i es k pos
    cases h1 : cEs c s es with
    | none => rw [h1] at hx; cases hx
    | some xs => rw [h1] at hx; cases hx; unfold evE cTup; dsimp only; rw [evs_eq h1]; exact .rfl
  · rename_i es pos
    cases h1 : cEs c s es with
    | none => rw [h1] at hx; cases hx
    | some xs => rw [h1] at hx; cases hx; unfold evE cLst; dsimp only; rw [evs_eq h1]; exact .rfl
  · -- slices
    split at hx
    · rename_i x l hh h1 h2 h3
      cases hx
      unfold evE cSl
      dsimp only
      rw [kE' h1]
      refine Rs.le.bindS fun _ _ => ?_
      rw [evP_eq h2]
      refine Rs.le.bindS fun _ _ => ?_
      rw [evP_eq h3]
      exact .rfl
    · cases hx
  · -- back
    rename_i a st p pos
    split at hx
    · rename_i hb
      cases h1 : c.E s a with
      | none => rw [h1] at hx; cases hx
      | some x =>
        rw [h1] at hx; cases hx
        unfold evE cBack
        dsimp only
        rw [if_pos hb, kE h1]
        exact .rfl
    · cases hx
  · -- Subscript
    rename_i a b pos hn hn2
    split at hx
    · cases hx
    · rename_i hs
      split at hx
      · rename_i x y h1 h2
        cases hx
        have he : evE T (ofC c F) s (.Subscript a b pos) env ch = if isSlice b then .bad else ((ofC c F).E s a env ch).bind fun x c1 => ((ofC c F).E s b env c1).bind fun y c2 => ixR T (ofC c F) x y c2 := by
          cases b with
          | Slice lo hi st p => exact absurd rfl hs
          | _ => rfl
        rw [he, if_neg hs, kE' h1, kE' h2]
        exact Rs.le.bindS fun _ _ => Rs.le.bindS fun _ _ => ixH_le H msOf_sub _ _ _
      · cases hx
  · obtain ⟨y, hy, rfl⟩ := Option.map_eq_some_iff.mp hx
    refine .of ?_
    rw [show y = evLcs T (ofC c F) s _ _ _ from funext fun env => funext fun ch => lcs_eq hy env ch] <;> rfl
  · exact .of (dcs_eq hx env ch)
  · -- Attribute
    rename_i o f pos
    split at hx
    · cases hx
    · rename_i hs
      cases h1 : c.E s o with
      | none => rw [h1] at hx; cases hx
      | some x =>
        rw [h1] at hx; cases hx
        by_cases hv : T.erv = true
        · rw [if_pos hv]
          unfold evE cFldX
          dsimp only
          rw [if_neg hs, kE h1]
          refine Rs.le.bindS fun d c1 => ?_
          cases hq : xcAt d c1 with
          | none => exact fldH_le H _ d c1
          | some p =>
            obtain ⟨x0, g, v⟩ := p
            unfold xcAt at hq
            split at hq
            · split at hq
              · rename_i hg
                cases hq
                unfold fld
                dsimp only
                rw [hg]
                exact .rfl
              · cases hq
            · cases hq
        · rw [if_neg hv]
          unfold evE cFld
          dsimp only
          rw [if_neg hs, kE h1]
          exact Rs.le.bindS fun d c1 => fldH_le H _ d c1
  · rename_i pos
    cases hx
    unfold evE
    dsimp only
    by_cases hd : T.dts.contains (pos.line, pos.col) = true
    · rw [if_pos hd, if_pos hd]; exact .rfl
    · rw [if_neg hd, if_neg hd]; exact .rfl
  · -- Dict
    rename_i ks vs pos _
    split at hx
    · rename_i hc
      split at hx
      · rename_i x y h1 h2
        cases hx
        cases ks with
        | nil => simp at hc
        | cons k0 ks =>
        show Rs.le (cDict x y env ch) (evDict (ofC c F) s (k0 :: ks) _ env ch)
        unfold evDict cDict
        rw [if_pos hc, ps_eq (F := F) h1 h2]
        refine Rs.le.bindS fun ps c1 => ?_
        cases c1.get ch.sz with
        | none => exact .rfl
        | some co =>
          cases co with
          | dk kvs => cases kvs <;> exact .rfl
          | _ => exact .rfl
      · cases hx
    · cases hx
  · split at hx
    · rename_i hl
      simp only [evE, if_pos hl]
      exact callV_le H hx env ch
    · rename_i hl
      simp only [evE, if_neg hl]
      split at hx
      · rename_i eq hqe
        try rw [hqe]
        try dsimp only
        cases eq with
        | mk x0 f0 a0 k0 =>
          simp only [cEr] at hx
          cases h1 : c.E s a0 with
          | none => rw [h1] at hx; cases hx
          | some x =>
            rw [h1] at hx; cases hx
            unfold cErr runEr
            dsimp only
            rw [kE h1]
            exact .rfl
        | isi a0 x0 =>
          simp only [cEr] at hx
          cases h1 : c.E s a0 with
          | none => rw [h1] at hx; cases hx
          | some x =>
            rw [h1] at hx; cases hx
            unfold cEIs runEr
            dsimp only
            rw [kE h1]
            exact .rfl
      rename_i hqe
      try rw [hqe]
      try dsimp only
      split at hx
      · rename_i ab hq
        try rw [hq]
        try dsimp only
        split at hx
        · rename_i x y h1 h2
          cases hx
          rw [kE' h1, kE' h2]
          exact .of rfl
        · cases hx
      · rename_i hq
        try rw [hq]
        try dsimp only
        split at hx
        · rename_i a hq1
          try rw [hq1]
          try dsimp only
          cases h1 : c.E s a with
          | none => rw [h1] at hx; cases hx
          | some x =>
            rw [h1] at hx; cases hx
            rw [kE' h1]
            exact .of rfl
        · rename_i hq1
          try rw [hq1]
          try dsimp only
          split at hx
          · rename_i a hq2
            try rw [hq2]
            try dsimp only
            cases h1 : c.E s a with
            | none => rw [h1] at hx; cases hx
            | some x =>
              rw [h1] at hx; cases hx
              rw [kE' h1]
              exact .of rfl
          · rename_i hq2
            try rw [hq2]
            exact callN_le H hx env ch
  · exact callM_le H hx env ch
  · cases hx
theorem stepT_le (H : HnOk T F h) {e : Expr} {f : CQ} (hx : stepT h c s e = some f) (env : En) (ch : CH) : Rs.le (f env ch) (evT T (ofC c F) s e env ch) := by
  unfold stepT at hx
  split at hx
  · rename_i a pos
    cases h1 : c.T s a with
    | none => rw [h1] at hx; cases hx
    | some x => rw [h1] at hx; cases hx; unfold evT qNot; dsimp only; rw [kT h1]; exact .rfl
  · rename_i op es pos
    cases h1 : cQs c s es with
    | none => rw [h1] at hx; cases hx
    | some xs => rw [h1] at hx; cases hx; exact .of (evAll_eq h1 env ch).symm
  · cases hx
  · split at hx
    · cases hx
    · rename_i hb
      split at hx
      · rename_i x y h1 h2
        cases hx
        unfold evT qCmp
        dsimp only
        rw [if_neg hb, kE' h1, kE' h2]
        refine Rs.le.bindS fun _ _ => Rs.le.bindS fun _ _ => Rs.le.bind (cmpH_le H msOp_sub _ _ _ _) fun d c1 => ?_
        cases d <;> exact .rfl
      · cases hx
  · split at hx
    · cases hx
    · rename_i hb
      split at hx
      · rename_i x y z h1 h2 h3
        cases hx
        unfold evT qCmp2
        dsimp only
        rw [if_neg hb, kE' h1, kE' h2, kE' h3]
        refine Rs.le.bindS fun _ _ => Rs.le.bindS fun _ _ => Rs.le.bind (cmpH_le H msOp2_sub _ _ _ _) fun d c1 => ?_
        cases d with
        | bl b => cases b with
          | true =>
            refine Rs.le.bindS fun _ _ => Rs.le.bind (cmpH_le H msOp2_sub _ _ _ _) fun d c2 => ?_
            cases d <;> exact .rfl
          | false => exact .rfl
        | _ => exact .rfl
      · cases hx
  · cases hx
  · rename_i n1 n2 n3 n4 n5 n6
    have hx' : (c.E s e).map qVal = some f := hx
    have he : evT T (ofC c F) s e env ch = ((ofC c F).E s e env ch).bind fun d c => tr d c := by
      cases e with
      | UnaryOp op a p => cases op <;> first | rfl | exact absurd rfl (n1 _ _)
      | BoolOp op es p => exact absurd rfl (n2 _ _ _)
      | IfExp a b d p => exact absurd rfl (n3 _ _ _ _)
      | Compare a ops es p => exact absurd rfl (n6 _ _ _ _)
      | _ => rfl
    cases h1 : c.E s e with
    | none => rw [h1] at hx'; cases hx'
    | some x => rw [h1] at hx'; cases hx'; rw [he, kE h1]; exact .rfl
end
end LL
namespace LL
open PySem PySem.Spec PyProof.Rows L2
theorem RsS.le.lift {α : Type} {env : En} {r r' : Rs α} {f g : α → CH → RsS} (h : Rs.le r r') (k : ∀ a c, RsS.le (f a c) (g a c)) : RsS.le (lift env r f) (lift env r' g) := by
  rcases h with h | h
  · subst h; exact .inl _root_.rfl
  · subst h
    cases r with
    | ok a c => exact k a c
    | exc c fs h => exact .inr _root_.rfl
    | bad => exact .inl _root_.rfl
theorem RsS.le.liftG {α : Type} {r : Rs α} {f g : α → CH → RsS} (k : ∀ a c, RsS.le (f a c) (g a c)) : RsS.le (liftG r f) (liftG r g) := by
  cases r with
  | ok a c => exact k a c
  | exc c fs h => exact .inr _root_.rfl
  | bad => exact .inl _root_.rfl
section
variable {T : Tab} {F : Str → List D → CH → Rs D} {h : Hn} {c : Cr} {s : Sk}
theorem setN_eq {x : Str} {g : CG} (hx : cSetN s x = some g) (d : D) (env : En) (ch : CH) : g d env ch = setName s x d env ch := by
  have hv : (if s.own x then (ixOf x s.N).map gSet else none) = some g → g d env ch = setVar s x d env ch := fun hx => by
    split at hx
    · rename_i ho
      unfold setVar
      rw [if_pos ho]
      cases h1 : ixOf x s.N with
      | none => rw [h1] at hx; cases hx
      | some i => rw [h1] at hx; cases hx; rfl
    · cases hx
  unfold cSetN at hx
  unfold setName
  split at hx
  · rename_i hl; (try rw [hl]); exact hv hx
  · rename_i hl; (try rw [hl]); exact hv hx
  · cases hx
theorem gs_eq : ∀ {es : List Expr} {gs : List CG}, cGs c s es = some gs → gs.length = es.length ∧ ∀ ds env ch, runGs gs ds env ch = asgs (ofC c F) s es ds env ch
  | [], gs, hx => by
    cases hx
    exact ⟨rfl, fun ds env ch => by cases ds <;> rfl⟩
  | e :: es, gs, hx => by
    unfold cGs at hx
    split at hx
    · cases hx
    · rename_i hs
      split at hx
      · rename_i g r h1 h2
        cases hx
        obtain ⟨l, k⟩ := gs_eq h2
        refine ⟨by simp [l], fun ds env ch => ?_⟩
        cases ds with
        | nil => rfl
        | cons d ds =>
          unfold runGs asgs
          rw [if_neg hs, kG h1]
          congr 1; funext env1 c1
          exact k ds env1 c1
      · cases hx
theorem stepG_le {tg : Expr} {g : CG} (hx : stepG c s tg = some g) (d : D) (env : En) (ch : CH) : Rs.le (g d env ch) (evG T (ofC c F) s tg d env ch) := by
  unfold stepG at hx
  split at hx
  · exact .of (setN_eq hx d env ch)
  · rename_i es k pos
    split at hx
    · cases hx
    · rename_i hs
      cases h1 : cGs c s es with
      | none => rw [h1] at hx; cases hx
      | some gs =>
        rw [h1] at hx; cases hx
        obtain ⟨l, kk⟩ := gs_eq (F := F) h1
        unfold evG gTup
        dsimp only
        rw [if_neg hs]
        cases itemsOf ch d with
        | none => exact .rfl
        | some ds => dsimp only; rw [l, kk]; exact .rfl
  · split at hx
    · cases hx
    · rename_i hs
      split at hx
      · rename_i x y h1 h2
        cases hx
        unfold evG gIx
        dsimp only
        rw [if_neg hs, kE' h1, kE' h2]
        exact .rfl
      · cases hx
  · cases hx
theorem parS_le {ts vs : List Expr} {b : CB} (hx : cParS c s ts vs = some b) (env : En) (ch : CH) : RsS.le (b env ch) (parS (ofC c F) s ts vs env ch) := by
  unfold cParS at hx
  split at hx
  · split at hx
    · rename_i i j h1 h2
      split at hx
      · rename_i hc
        split at hx
        · rename_i p q h3
          cases hx
          unfold parS sPar2
          dsimp only
          rw [h1, h2]
          dsimp only
          rw [if_pos hc, evs_eq h3]
          refine RsS.le.lift .rfl fun ds c1 => ?_
          match ds with
          | [_, _] => exact .rfl
          | [] => exact .rfl
          | [_] => exact .rfl
          | _ :: _ :: _ :: _ => exact .rfl
        · cases hx
      · cases hx
    · cases hx
  · split at hx
    · rename_i i j l h1 h2 h4
      split at hx
      · rename_i hc
        split at hx
        · rename_i p q r h3
          cases hx
          unfold parS sPar3
          dsimp only
          rw [h1, h2, h4]
          dsimp only
          rw [if_pos hc, evs_eq h3]
          refine RsS.le.lift .rfl fun ds c1 => ?_
          match ds with
          | [_, _, _] => exact .rfl
          | [] => exact .rfl
          | [_] => exact .rfl
          | [_, _] => exact .rfl
          | _ :: _ :: _ :: _ :: _ => exact .rfl
        · cases hx
      · cases hx
    · cases hx
  · cases hx
theorem asg_le (H : HnOk T F h) {tg e : Expr} {b : CB} (hx : cAsg T h c s tg e = some b) (env : En) (ch : CH) : RsS.le (b env ch) (asgE T (ofC c F) s tg e env ch) := by
  have gen : cAsgG c s tg e = some b → (∀ env ch, asgE T (ofC c F) s tg e env ch = if isComp e then .bad else lift env ((ofC c F).E s e env ch) fun d c1 => liftG ((ofC c F).G s tg d env c1) fun env c1 => .ok env .nx c1) → RsS.le (b env ch) (asgE T (ofC c F) s tg e env ch) := fun hx he => by
    unfold cAsgG at hx
    split at hx
    · cases hx
    · rename_i hc
      split at hx
      · rename_i x g h1 h2
        cases hx
        rw [he, if_neg hc, kE' h1, kG' h2]
        exact .rfl
      · cases hx
  cases tg with
  | Name x p =>
    cases e with
    | DictComp kx vx gs scope p2 =>
      simp only [cAsg] at hx
      split at hx
      · cases hx
      · rename_i hn
        split at hx
        · rename_i y g h1 h2
          cases hx
          unfold asgE sAsg
          dsimp only
          rw [if_neg hn, dcs_eq (F := F) h1]
          refine RsS.le.lift .rfl fun d c1 => ?_
          rw [setN_eq h2]
          exact .rfl
        · cases hx
    | ListComp elt gs scope p2 =>
      simp only [cAsg] at hx
      split at hx
      · cases hx
      · rename_i hn
        split at hx
        · rename_i y g h1 h2
          cases hx
          unfold asgE sAsg
          dsimp only
          rw [if_neg hn, lcs_eq (F := F) h1]
          refine RsS.le.lift .rfl fun d c1 => ?_
          rw [setN_eq h2]
          exact .rfl
        · cases hx
    | _ => exact gen hx fun _ _ => rfl
  | Tuple ts k p =>
    cases e with
    | Tuple vs k2 p2 =>
      simp only [cAsg] at hx
      unfold asgE
      dsimp only
      split at hx
      · rename_i hs
        try rw [hs]
        try dsimp only
        split at hx
        · rename_i x g h1 h2
          cases hx
          rw [kE' h1, kG' h2]
          exact .rfl
        · cases hx
      · rename_i hs
        try rw [hs]
        exact parS_le hx env ch
      · cases hx
    | _ => exact gen hx fun _ _ => rfl
  | Attribute o f p =>
    have hx' : (if isComp e then none else (match c.E s e, c.E s o with
      | some x, some y => some (sFld ((h.fl.lookup f).getD []) f y x)
      | _, _ => none)) = some b := by
      rw [← hx]
      cases e <;> rfl
    have he : asgE T (ofC c F) s (.Attribute o f p) e env ch = if isComp e then .bad else lift env ((ofC c F).E s e env ch) fun v c1 => lift env ((ofC c F).E s o env c1) fun d c1 => (match putFld T f d v c1 with
      | some c => .ok env .nx c
      | none => .bad) := by cases e <;> rfl
    split at hx'
    · cases hx'
    · rename_i hc
      split at hx'
      · rename_i x y h1 h2
        cases hx'
        rw [he, if_neg hc, kE' h1, kE' h2]
        refine RsS.le.lift .rfl fun v c1 => RsS.le.lift .rfl fun d c2 => ?_
        cases hp : putFldH ((h.fl.lookup f).getD []) f d v c2 with
        | none => exact .bad
        | some c3 => rw [putFldH_eq H f d v c2 c3 hp]; exact .rfl
      · cases hx'
  | Starred _ _ => cases e <;> cases hx
  | List _ _ => cases e <;> cases hx
  | Subscript o k p =>
    cases e with
    | ListComp elt gs scope lp =>
      simp only [cAsg] at hx
      split at hx
      · rename_i x g h1 h2
        cases hx
        unfold asgE
        dsimp only
        rw [kE' h1, kG' h2]
        exact .rfl
      · cases hx
    | _ => exact gen hx fun _ _ => rfl
  | _ => cases e <;> exact gen hx fun _ _ => rfl
theorem for_eq {tg : Expr} {body : List Stmt} {g : CG} {b : CB} (hg : c.G s tg = some g) (hb : c.B s body = some b) (ok : CH → Bool) : ∀ ds env ch, forC g b ok ds env ch = forB (ofC c F) s tg body ok ds env ch
  | [], env, ch => rfl
  | d :: ds, env, ch => by
    unfold forC forB
    rw [kG hg]
    split
    · congr 1; funext env1 c1
      rw [kB hb]
      cases b env1 c1 with
      | ok e2 f c2 => cases f <;> first | rfl | exact for_eq hg hb ok ds e2 c2
      | _ => rfl
    · rfl
theorem wh_eq {t : Expr} {body : List Stmt} {q : CQ} {b : CB} (hg : c.T s t = some q) (hb : c.B s body = some b) : ∀ n env ch, whC q b n env ch = whB (ofC c F) s t body n env ch
  | 0, env, ch => rfl
  | n + 1, env, ch => by
    unfold whC whB
    rw [kT hg]
    congr 1; funext k c1
    split
    · rw [kB hb]
      cases b env c1 with
      | ok e2 f c2 => cases f <;> first | rfl | exact wh_eq hg hb n e2 c2
      | _ => rfl
    · rfl
theorem stepS_le (H : HnOk T F h) {st : Stmt} {b : CB} (hx : stepS T h c s st = some b) (env : En) (ch : CH) : RsS.le (b env ch) (exS T (ofC c F) s st env ch) := by
  unfold stepS at hx
  split at hx
  · rename_i e pos
    split at hx
    · cases hx
    · rename_i hc
      cases h1 : c.E s e with
      | none => rw [h1] at hx; cases hx
      | some x => rw [h1] at hx; cases hx; unfold exS sExpr; dsimp only; rw [if_neg hc, kE h1]; exact .rfl
  · exact asg_le H hx env ch
  · rename_i x p op e pos
    split at hx
    · rename_i b' i ho hi
      split at hx
      · rename_i hc
        cases h1 : c.E s e with
        | none => rw [h1] at hx; cases hx
        | some y =>
          rw [h1] at hx; cases hx
          have haug : augF op = some (fun a b => if b' then a - b else a + b) := by
            cases op <;> first | (cases ho; rfl) | cases ho
          unfold exS sAug
          dsimp only
          rw [haug, hi]
          dsimp only
          rw [if_pos hc]
          unfold augS
          rw [kE' h1]
          cases env[i]? with
          | none => exact .rfl
          | some o =>
            cases o with
            | none => exact .rfl
            | some d0 =>
              refine RsS.le.lift .rfl fun d c1 => ?_
              cases d0 <;> cases d <;> exact .rfl
      · cases hx
    · cases hx
  · split at hx
    · rename_i t x y h1 h2 h3
      cases hx
      unfold exS sIf
      dsimp only
      rw [kT' h1, kB' h2, kB' h3]
      exact .rfl
    · cases hx
  · split at hx
    · rename_i g i b' h1 h2 h3
      cases hx
      refine .inr ?_
      unfold exS
      dsimp only
      congr 1
      funext env ch
      unfold sFor
      rw [it_eq (F := F) h2]
      congr 1
      funext w c1
      rw [for_eq (F := F) h1 h3]
    · cases hx
  · split at hx
    · rename_i q b' h1 h2
      cases hx
      unfold exS sWhile
      dsimp only
      rw [wh_eq (F := F) h1 h2]
      exact .rfl
    · cases hx
  · rename_i e pos
    cases h1 : c.E s e with
    | none => rw [h1] at hx; cases hx
    | some x => rw [h1] at hx; cases hx; unfold exS sRet; dsimp only; rw [kE h1]; exact .rfl
  · cases hx; exact .rfl
  · cases hx; exact .rfl
  · cases hx; exact .rfl
  · cases hx; exact .rfl
  · rename_i body h0 hs pos
    show RsS.le (b env ch) (if s.top = true then (match rdHs T s (h0 :: hs) with
      | some hds => tryE T.cat T.excs T.kit hds ((ofC c F).B s body env ch)
      | none => .bad) else .bad)
    split at hx
    · rename_i ht
      rw [if_pos ht]
      split at hx
      · rename_i hds b' h1 h2
        cases hx
        rw [h1]
        unfold sTry
        dsimp only
        rw [kB h2]
        exact .rfl
      · cases hx
    · cases hx
  · rename_i ex cause pos
    show RsS.le (b env ch) (raiseE T (ofC c F) s (raiseOf ex cause) env ch)
    cases ho : raiseOf ex cause with
    | none => simp only [ho] at hx; cases hx
    | some q =>
      cases hf : T.excs.lookup q.1 with
      | none => simp only [ho, hf] at hx; cases hx
      | some f =>
        simp only [ho, hf] at hx
        split at hx
        · rename_i hc
          cases h1 : c.E s q.2 with
          | none => rw [h1] at hx; cases hx
          | some x =>
            rw [h1] at hx
            cases hx
            simp only [raiseE, hf]
            rw [if_pos hc]
            unfold sRaise
            rw [kE h1]
            exact .rfl
        · cases hx
  · cases hx
theorem stepB_le (H : HnOk T F h) : ∀ {b : List Stmt} {f : CB}, stepB T h c s b = some f → ∀ env ch, RsS.le (f env ch) (exB T (ofC c F) s b env ch)
  | [], f, hx, env, ch => by cases hx; exact .rfl
  | st :: r, f, hx, env, ch => by
    unfold stepB at hx
    split at hx
    · rename_i x h1
      cases h2 : stepB T h c s r with
      | none => rw [h2] at hx; cases hx
      | some y =>
        rw [h2] at hx
        cases hx
        unfold sSeq exB
        rcases stepS_le H h1 env ch with e | e
        · rw [e]; exact .bad
        · rw [← e]
          cases x env ch with
          | ok env2 f c1 => cases f <;> first | exact .rfl | exact stepB_le H h2 env2 c1
          | exc _ _ _ _ => exact .rfl
          | bad => exact .rfl
    · cases hx; exact .bad
theorem stepC_ok {CM : Str → Option Addr} {n : Nat} (H : HnOk T F h) (S : Sound T CM (ofC c F) n) : Sound T CM (ofC (stepC T h c) F) n := by
  have leP : ∀ {K : PySem.W.Frag} {ρ : List Addr} {Hp' : Hp} {α β : Type} {rel : Rel α β} {W : XW} {Q : β → Hp → Prop} {r r' : Rs α}, Rs.le r r' → Post K CM rel W ρ Hp' Q r → Post K CM rel W ρ Hp' Q r' := fun l p => by
    rcases l with l | l
    · rw [l] at p; exact p.elim
    · rw [← l]; exact p
  refine ⟨fun X s W C e => ?_, fun X s W C e => ?_, fun X s W C b => ?_, S.sF, fun X s W C tg => ?_, S.two⟩
  · cases hx : stepE T h c s e with
    | none => exact PE.no fun σ Hh Q ⟨ρ, env, ch, re, rh, p⟩ => by simp only [ofC, stepC, hx] at p; exact p
    | some f =>
      exact PE.of (evE_ok S C e) fun σ Hh Q ⟨ρ, env, ch, re, rh, p⟩ => by
        simp only [ofC, stepC, hx] at p
        exact ⟨ρ, env, ch, re, rh, leP (stepE_le H hx env ch) p⟩
  · cases hx : stepT h c s e with
    | none => exact PT.no fun σ Hh Q ⟨ρ, env, ch, re, rh, p⟩ => by simp only [ofC, stepC, hx] at p; exact p
    | some f =>
      exact PT.of (evT_ok S C e) fun σ Hh Q ⟨ρ, env, ch, re, rh, p⟩ => by
        simp only [ofC, stepC, hx] at p
        exact ⟨ρ, env, ch, re, rh, leP (stepT_le H hx env ch) p⟩
  · cases hx : stepB T h c s b with
    | none => exact ⟨fun pins st σ Hh Dn I ⟨ρ, env, ch, re, rh, p⟩ => by simp only [ofC, stepC, hx] at p; exact p.elim⟩
    | some f =>
      exact PSs.of (exB_ok S C b) fun Dn σ Hh ⟨ρ, env, ch, re, rh, p⟩ => by
        simp only [ofC, stepC, hx] at p
        refine ⟨ρ, env, ch, re, rh, ?_⟩
        rcases stepB_le H hx env ch with l | l
        · rw [l] at p; exact p.elim
        · rw [← l]; exact p
  · cases hx : stepG c s tg with
    | none => exact PG.no fun v σ Hh Q ⟨ρ, env, ch, d, re, rh, rv, p⟩ => by simp only [ofC, stepC, hx] at p; exact p
    | some f =>
      exact PG.of (evG_ok S C tg) fun v σ Hh Q ⟨ρ, env, ch, d, re, rh, rv, p⟩ => by
        simp only [ofC, stepC, hx] at p
        exact ⟨ρ, env, ch, d, re, rh, rv, leP (stepG_le hx d env ch) p⟩
theorem cAt_ok {CM : Str → Option Addr} {n : Nat} (H : HnOk T F h) (hF : SoundF T CM F n) (two : 2 ≤ n) : ∀ k, Sound T CM (ofC (cAt T h k) F) n
  | 0 => ⟨fun X s W C e => PE.no fun σ H Q ⟨ρ, env, ch, re, rh, h⟩ => h, fun X s W C e => PT.no fun σ H Q ⟨ρ, env, ch, re, rh, h⟩ => h,
    fun X s W C b => ⟨fun pins st σ H Dn I ⟨ρ, env, ch, re, rh, h⟩ => h.elim⟩, hF, fun X s W C tg => PG.no fun v σ H Q ⟨ρ, env, ch, d, re, rh, rv, h⟩ => h, two⟩
  | k + 1 => stepC_ok H (cAt_ok H hF two k)
end
end LL
namespace LL
open PySem PySem.Spec PyProof.Rows L2
/-! ## a program in layers of closures -/
def readFn (T : Tab) (h : Hn) (key : Str) : Option Fn := match T.fns.lookup key with
  | some i => ((cAt T h 60).B ⟨i.N, defScope i.st, fun _ => true, true⟩ (defBody i.st)).map (runFn i.ps.length i.N.length)
  | none => none
abbrev FT := Str → List D → CH → Rs D
def ext (F : FT) (L : List (Str × Fn)) : FT := fun key => match L.lookup key with
  | some f => f
  | none => F key
def dedupS : List Str → List Str
  | [] => []
  | x :: r => if r.contains x then dedupS r else x :: dedupS r
/-- hints: of the defs that are seen, of the classes that may be met -/
def mkH (T : Tab) (cs : List Str) (L : List (Str × Fn)) : Hn where
  fn := L.filter fun p => T.gfn.contains p.1
  mks := T.mks.filterMap fun p => ((T.mks.lookup p.1).bind fun key => L.lookup key).map fun f => (p.1, f)
  ms := T.mts.filterMap fun p => if cs.contains p.1.1 && T.cls.contains p.1.1 then (match T.mts.lookup p.1 with
    | some key => (match L.lookup key, T.fns.lookup key with
      | some f, some i => some (p.1, ⟨f, i.pats⟩)
      | _, _ => none)
    | none => none) else none
  fl := (dedupS (T.flds.map (·.2))).map fun f => (f, cs.filter fun c => T.cls.contains c && T.flds.contains (c, f))
  isc := cs.filter fun c => T.isc.contains c && T.cls.contains c
  unl := T.unl.filter fun p => cs.contains p.1
/-- the closures are below the table -/
def Below (F : FT) (L : List (Str × Fn)) : Prop := ∀ p ∈ L, ∀ ds ch, Rs.le (p.2 ds ch) (F p.1 ds ch)
theorem Below.nil {F : FT} : Below F [] := fun _ h => by cases h
theorem Below.cons {F : FT} {key : Str} {f : Fn} {L : List (Str × Fn)} (h : F key = f) (t : Below F L) : Below F ((key, f) :: L) := fun p hp => by
  rcases List.mem_cons.mp hp with e | e
  · subst e; intro ds ch; show Rs.le (f ds ch) (F key ds ch); rw [h]; exact .rfl
  · exact t p e
theorem mkH_ok {T : Tab} {F : FT} {cs : List Str} {L : List (Str × Fn)} (b : Below F L) : HnOk T F (mkH T cs L) where
  fn p hp ds ch := b p (List.mem_filter.mp hp).1 ds ch
  mks p hp key hk ds ch := by
    obtain ⟨q, hq, e⟩ := List.mem_filterMap.mp hp
    obtain ⟨f, hf, e2⟩ := Option.map_eq_some_iff.mp e
    obtain ⟨k, h1, h2⟩ := Option.bind_eq_some_iff.mp hf
    cases e2
    rw [h1] at hk
    obtain rfl : k = key := Option.some.inj hk
    exact b (k, f) (lookup_mem h2) ds ch
  ms p hp := by
    obtain ⟨q, hq, e⟩ := List.mem_filterMap.mp hp
    split at e
    · rename_i hc
      split at e
      · rename_i key hk
        split at e
        · rename_i f i h1 h2
          cases e
          exact ⟨((Bool.and_eq_true_iff.mp hc).2), key, i, hk, h2, rfl, fun ds ch => b (key, f) (lookup_mem h1) ds ch⟩
        · cases e
      · cases e
    · cases e
  fl p hp c hc := by
    obtain ⟨f, hf, rfl⟩ := List.mem_map.mp hp
    exact (List.mem_filter.mp hc).2
  isc c hc := by
    have := (List.mem_filter.mp hc).2
    exact Bool.and_eq_true_iff.mp this
  unl p hp := by
    have := (List.mem_filter.mp hp).1
    simpa using this
/-- a closure that is read from the text of a def -/
def Rd (T : Tab) (F : FT) (p : Str × Fn) : Prop := ∃ cs L, Below F L ∧ readFn T (mkH T cs L) p.1 = some p.2
theorem layer_ok {T : Tab} {CM : Str → Option Addr} {F : FT} {L : List (Str × Fn)} {n : Nat} (S : SoundF T CM F n) (h : ∀ p ∈ L, Rd T F p) (two : 2 ≤ n := by decide) : SoundF T CM (ext F L) (n + 2) := by
  intro prog w K mg base tb key i hi
  cases hl : L.lookup key with
  | none =>
    obtain ⟨f, fd, m, hm, a, b, c, d⟩ := S prog w K mg base tb key i hi
    refine ⟨f, fd, m, Nat.le_trans hm (Nat.le_add_right _ _), a, b, c, ?_⟩
    have : ext F L key = F key := by unfold ext; rw [hl]
    rw [this]; exact d
  | some g =>
    obtain ⟨cs, L', hb, hr⟩ := h (key, g) (lookup_mem hl)
    obtain ⟨f, fd, hcm, kp, pt, FO⟩ := callB_fn (cAt_ok (mkH_ok (cs := cs) hb) S two 60) (prog := prog) (w := w) (base := base) tb hi
    refine ⟨f, fd, n + 1, Nat.le_refl _, hcm, kp, pt, ?_⟩
    have e : callB T (ofC (cAt T (mkH T cs L') 60) F) key = ext F L key := by
      have e1 : ext F L key = g := by unfold ext; rw [hl]
      rw [e1]
      unfold readFn at hr
      simp only [hi] at hr
      cases hB : (cAt T (mkH T cs L') 60).B ⟨i.N, defScope i.st, fun _ => true, true⟩ (defBody i.st) with
      | none => rw [hB] at hr; cases hr
      | some b =>
        rw [hB] at hr
        cases hr
        funext ds ch
        unfold callB runFn startE
        simp only [hi, ofC, hB]
        all_goals
          generalize b (List.map some ds ++ List.replicate (i.N.length - ds.length) none) ch = r
          cases r with
          | ok env fl c => cases fl <;> rfl
          | exc env c fs h => rfl
          | bad => rfl
    rw [← e]
    exact FO
theorem sound0 (T : Tab) (CM : Str → Option Addr) : SoundF T CM (fun _ _ _ => .bad) 2 := by
  have := lvl_ok T CM 0
  exact this
end LL
namespace LL
open PySem L2
/-! ## the table of a program -/
def psOf (a : Arguments) : List Str := (a.posonlyargs ++ a.args ++ a.kwonlyargs).map (·.arg)
def cnE : Nat → Expr → List Str
  | 0, _ => []
  | k + 1, e => match e with
    | .BinOp a _ b _ => cnE k a ++ cnE k b
    | .BoolOp _ es _ => es.flatMap (cnE k)
    | .UnaryOp _ a _ => cnE k a
    | .Compare a _ es _ => cnE k a ++ es.flatMap (cnE k)
    | .Call f es ks _ => cnE k f ++ es.flatMap (cnE k) ++ ks.flatMap fun w => cnE k w.value
    | .Attribute a _ _ => cnE k a
    | .Subscript a b _ => cnE k a ++ cnE k b
    | .Tuple es _ _ => es.flatMap (cnE k)
    | .List es _ => es.flatMap (cnE k)
    | .IfExp a b c _ => cnE k a ++ cnE k b ++ cnE k c
    | .ListComp e gs sc _ => (sc.names.filterMap fun p => if p.2 == .local || p.2 == .cell then some p.1 else none) ++ cnE k e ++ gs.flatMap fun g => cnE k g.iter ++ g.ifs.flatMap (cnE k)
    | .DictComp kx vx gs sc _ => (sc.names.filterMap fun p => if p.2 == .local || p.2 == .cell then some p.1 else none) ++ cnE k kx ++ cnE k vx ++ gs.flatMap fun g => cnE k g.iter ++ g.ifs.flatMap (cnE k)
    | .Dict ks vs _ => (ks.flatMap fun o => match o with | some e => cnE k e | none => []) ++ vs.flatMap (cnE k)
    | _ => []
def cnS : Nat → Stmt → List Str
  | 0, _ => []
  | k + 1, st => match st with
    | .Expr e _ => cnE 40 e
    | .Assign ts e _ => ts.flatMap (cnE 40) ++ cnE 40 e
    | .AugAssign t _ e _ => cnE 40 t ++ cnE 40 e
    | .If c a b _ => cnE 40 c ++ a.flatMap (cnS k) ++ b.flatMap (cnS k)
    | .For t i b e _ => cnE 40 i ++ b.flatMap (cnS k) ++ e.flatMap (cnS k)
    | .While c b e _ => cnE 40 c ++ b.flatMap (cnS k) ++ e.flatMap (cnS k)
    | .Return (some e) _ => cnE 40 e
    | _ => []
def nub : List Str → List Str
  | [] => []
  | x :: r => x :: (nub r).filter (· != x)
def nOf (ps : List Str) (sc : Scope) : List Str := ps ++ (sc.names.filterMap fun p => if (p.2 == .local || p.2 == .cell || p.2 == .free) && !ps.contains p.1 then some p.1 else none)
def posP (n : Nat) : Pat := ⟨n, [], (List.range n).map .pos⟩
def fnI (q : Str) (nm : Str) (st : Stmt) (pats : List Pat) : FnI :=
  ⟨nm, q, st, psOf (defArgs st), nub (nOf (psOf (defArgs st)) (defScope st) ++ (defBody st).flatMap (cnS 40)), if pats.isEmpty then [posP (psOf (defArgs st)).length] else pats⟩
def fnName : Stmt → Option Str
  | .FunctionDef (name := n) .. => some n
  | _ => none
def conE : Nat → Expr → Option D
  | 0, _ => none
  | k + 1, e => match e with
    | .Constant .none _ _ => some .non
    | .Constant (.bool b) _ _ => some (.bl b)
    | .Constant (.int i) _ _ => some (.int i)
    | .Constant (.str x) _ _ => some (.str x)
    | .UnaryOp .USub (.Constant (.int i) _ _) _ => some (.int (-i))
    | .Tuple es _ _ => (es.mapM (conE k)).map .tup
    | _ => none
def dunders : List Str := ["__name__", "__doc__", "__package__", "__loader__", "__spec__", "__builtins__", "__annotations__", "__file__", "__cached__"]
def tabX (p : Program) (plain skip : List Str) (pats : Str → List Pat) (exs : List Str := []) (bis : List (Str × String) := []) (cat kit : List ((Str × Str) × Bool) := []) (dts : List (Nat × Nat) := []) (lks : List (Nat × Nat) := []) (erv : Bool := false) (xkw : List Str := []) : Tab :=
  let fs := p.main.body.filterMap fun st => (fnName st).bind fun n => if skip.contains n then none else some (n, fnI n n st (pats n))
  let cs : List (Str × List (Str × Stmt) × List Str) := p.main.body.filterMap fun st => match st with
    | .ClassDef (name := n) (body := b) (static_attributes := sa) .. => if plain.contains n then some (n, b.filterMap (fun st => (fnName st).bind fun m => if skip.contains (n ++ (("." : Str) ++ m)) then none else some (m, st)), sa) else none
    | _ => none
  let xs : List (Str × Str × Stmt) := p.main.body.filterMap fun st => match st with
    | .ClassDef (name := n) (body := b) (static_attributes := sa) .. => if exs.contains n then (match b.filter (fun st => fnName st == some "__init__"), sa with
      | [st], [f] => some (n, f, st)
      | _, _ => none) else none
    | _ => none
  let key : Str → Str → Str := fun c m => c ++ (("." : Str) ++ m)
  let ms := cs.flatMap fun c => c.2.1.map fun m => (key c.1 m.1, fnI (key c.1 m.1) m.1 m.2 (pats (key c.1 m.1)))
  let cons := p.main.body.filterMap fun st => match st with
    | .Assign [.Name x _] e _ => if dunders.contains x then none else (conE 10 e).map fun d => (x, d)
    | _ => none
  { fns := fs ++ ms
    gfn := fs.map (·.1)
    cls := cs.map (·.1)
    mks := cs.filterMap fun c => if c.2.1.any (·.1 == "__init__") then some (c.1, key c.1 "__init__") else none
    mts := cs.flatMap fun c => c.2.1.map fun m => ((c.1, m.1), key c.1 m.1)
    flds := cs.flatMap fun c => c.2.2.map fun f => (c.1, f)
    cons := cons ++ cs.map fun c => (c.1, .cl c.1)
    names := dunders ++ p.main.scope.names.map (·.1)
    isc := cs.map (·.1)
    unl := cs.flatMap fun c => cs.filterMap fun d => if c.1 == d.1 then none else some (c.1, d.1)
    excs := xs.map fun q => (q.1, q.2.1)
    xin := xs.map fun q => (q.1, q.2.2)
    bis := bis
    cat := cat
    kit := kit
    dts := dts
    lks := lks
    erv := erv
    xkw := xkw }
def fnK (T : Tab) (key : Str) : FnI := (T.fns.lookup key).getD ⟨"", "", .Pass ⟨0, 0, 0, 0⟩, [], [], []⟩
def xiK (T : Tab) (c : Str) : Stmt := (T.xin.lookup c).getD (.Pass ⟨0, 0, 0, 0⟩)
end LL
namespace LL
open PySem PySem.Spec PyProof.Rows L2
theorem xlen2 {α : Type} {l : List α} (h : l.length = 2) : ∃ a b, l = [a, b] := by
  match l, h with
  | [a, b], _ => exact ⟨a, b, rfl⟩
/-! ## an own error's __init__: super().__init__('..'); self.f = p -/
abbrev xEnv (qual : Str) (sc : Scope) (L f : Addr) (cd : Value) (cc : Addr) : Env := PySem.W.ksEnv qual sc L f cd cc
/-- the context of its body -/
def cxX (CX : CXT) (P : Program) (w : World) (K : PySem.W.Frag) (mg : Str → Option Value) (base : Heap) (N : List Str) (qual : Str) (sc : Scope) (f : Addr) (cd : Value) (cc : Addr) (A : Around) (outer : List Env) (s : Shared) (H : Hp) (E : XK) : Cx where
  prog := P
  w := w
  K := K
  mg := mg
  base := base
  A := A.deeper (xEnv qual sc s.heap.objs.size f cd cc)
  N := N
  s_0 := s
  H_0 := H
  env := xEnv qual sc s.heap.objs.size f cd cc
  outer := outer
  stack := xEnv qual sc s.heap.objs.size f cd cc :: outer
  ex := []
  calm := true
  fn := fun _ => false
  pn := []
  xe := fun e s' => wpAny (model P w) (A.deeper (xEnv qual sc s.heap.objs.size f cd cc)) (leaving (xEnv qual sc s.heap.objs.size f cd cc) e) (fun _ s'' => CX outer H s E e s'') (fun e' s'' => CX outer H s E e' s'') s'
/-- what the scope says -/
structure XSc (sc : Scope) (p : Str) : Prop where
  kind : sc.kind = .function
  co : sc.isCoroutine = false
  gen : sc.isGenerator = false
  self : sc.names.lookup ("self" : Str) = some .local
  par : sc.names.lookup p = some .local
  sup : sc.names.lookup ("super" : Str) = some .globalImplicit
  cls : sc.names.lookup ("__class__" : Str) = some .free
  nocell : ∀ x ∈ sc.names, x.2 ≠ .cell
  onefree : ∀ x, sc.names.lookup x = some .free → x = "__class__"
theorem invX {CX : CXT} {P : Program} {w : World} {K : PySem.W.Frag} {mg : Str → Option Value} {base : Heap} {p : Str} {qual : Str} {sc : Scope} {f cc : Addr} {cd : Value} {A : Around} {outer : List Env} {s : Shared} {H : Hp} {E : XK} {us : List Value} {vs : List V} {h1 : Heap} {tk : Nat} {clo : Obj} {cv : Option Value}
    (S : XSc sc p) (hsp : p ≠ "self") (hd : A.handled = none) (e0 : Env0 P w K mg base A outer s H) (hl : vs.length = 2) (r : Vals vs us) (hcc : K.lookup cc = some clo) (hcl : clo.data = .cell cv)
    (hn : h1.Ns s.heap.objs.size fun x => (([("self" : Str), p] : List Str).zip us).reverse.lookup x) (k : ∀ b o, s.heap.get? b = some o → h1.get? b = some o) :
    Inv (cxX CX P w K mg base ["self", p] qual sc f cd cc A outer s H E) [] (vs.map some) H { s with heap := h1, toks := tk } := by
  have noA : ∀ b : Addr, b ∉ (cxX CX P w K mg base ["self", p] qual sc f cd cc A outer s H E).ex := fun b z => absurd (show b ∈ ([] : List Addr) from z) (by simp)
  have look : ∀ {x : Str} {c : Addr}, ([(("__class__" : Str), cc)] : List (Str × Addr)).lookup x = some c → x = "__class__" ∧ c = cc := fun {x c} h => by
    rw [List.lookup_cons] at h
    split at h
    · rename_i e; exact ⟨by simpa using e, (Option.some.inj h).symm⟩
    · cases h
  have ccB : base.get? cc = some clo := e0.mod.kin _ _ hcc
  have ccS := e0.bs _ _ ccB
  refine ⟨⟨e0.mod, S.kind, rfl, rfl, Nat.le_refl _, fun x y c h1 h2 => ?_, fun x hx => ?_, fun x c h => (by cases h), fun _ => hd, Around.frames_deeper e0.frames, .inr ⟨rfl, rfl⟩, fun b z => absurd z (noA b), e0.bs, e0.bsz, fun b _ _ => noA b, fun b z => absurd z (noA b), e0.funs, e0.frf⟩,
    rfl, e0.bare, Un.kept k, ⟨_, hn, fun i x v h1 h2 h3 => ?_⟩, fun x c h => ?_, e0.hok.fresh (Nat.le_refl _), fun x c h => ?_, fun p hp => absurd (show p ∈ ([] : List (Addr × Obj)) from hp) (by simp), e0.hok.kept k, ?_⟩
  · rw [(look h1).1, (look h2).1]
  · have hx : sc.names.lookup x = some .cell ∨ sc.names.lookup x = some .free := hx
    rcases hx with hx | hx
    · exact absurd rfl (S.nocell _ (PySem.mem_of_lookup hx))
    · refine ⟨cc, ?_⟩
      show ([(("__class__" : Str), cc)] : List (Str × Addr)).lookup x = some cc
      rw [S.onefree x hx, List.lookup_cons]; simp
  · obtain ⟨a, b, rfl⟩ := xlen2 hl
    cases r with
    | @cons _ ua _ _ ra rr =>
      cases rr with
      | @cons _ ub _ _ rb rn =>
        cases rn
        match i, h1, h2 with
        | 0, h1, h2 =>
          have ex : x = "self" := (Option.some.inj h1).symm
          subst ex
          obtain rfl : a = v := by simpa using h2
          refine ⟨ua, ra, .inl ⟨S.self, ?_⟩⟩
          show ([((p : Str), ub), ("self", ua)] : List (Str × Value)).lookup ("self" : Str) = some ua
          have hne : (("self" : Str) == p) = false := by simpa using fun h => hsp h.symm
          rw [List.lookup_cons, hne]
          simp
        | 1, h1, h2 =>
          have ex : x = p := (Option.some.inj h1).symm
          subst ex
          obtain rfl : b = v := by simpa using h2
          refine ⟨ub, rb, .inl ⟨S.par, ?_⟩⟩
          show ([((x : Str), ub), ("self", ua)] : List (Str × Value)).lookup x = some ub
          rw [List.lookup_cons]; simp
        | i + 2, h1, h2 => simp at h2
  · obtain ⟨_, rfl⟩ := look h
    exact ⟨cv, clo, k _ _ ccS.1, hcl⟩
  · obtain ⟨_, rfl⟩ := look h
    exact ccS.2
  · show _ = 2
    rw [List.length_map, hl]
/-- what the written part says of the class, its __init__ -/
structure XIn (P : Program) (K : PySem.W.Frag) (C cc cda : Addr) (B newId initId : String) (bmB : List Value) : Prop where
  cls : ∃ nm q N bs bm sn sub ab col dd k0 k1 k2 k3 k5, K.lookup C = some (excClassObj nm q C N bs bm true sn sub ab col dd k0 k1 k2 k3 k5 newId)
  fb : InitX B initId
  kf : PySem.W.KxsFacts B initId
  cell : ∃ cl cld csl, K.lookup cc = some ⟨cl, cld, .cell (some (.ref C)), csl⟩
  code : ∃ ccl cdd ccs vs file tf, K.lookup cda = some ⟨ccl, cdd, .fields vs, ccs⟩ ∧ vs[2]? = some (.str file tf) ∧ ((P.main.file : Str) == file) = true
  self : PySem.W.mroIn K C (.ref C) = some true
  sup : PySem.W.ks_superIn K C C "__init__" = some (some (.builtin initId))
  sub : PySem.W.subIn K (.ref C) (.type B) = some true
  opq : PySem.W.nsIn K cStatics "thirdparty.any" = some none
  top : (P.main.scope.names.lookup ("super" : Str)).isSome = false
/-- a bound __init__ called: the args are laid anew -/
theorem mw_call {prog : Program} {w : World} {A : Around} {E : Value → Shared → Prop} {hh : Heap} {g : Array GenState} {d : Drawn} {tk : Nat} {os : OsState} {B newId i : String} {u x C t : Addr} {nm q : Str} {N : Addr} {bs bm : List Value} {hdct : Bool} {sn : List Str} {sub : List Value} {ab : Bool} {col : Option Bool} {dd : Option Addr} {k0 k1 k2 k3 k5 : Option Value} {rest : List Value} {Q : Value → Shared → Prop}
    (FB : InitX B i) (hC : hh.get? C = some (excClassObj nm q C N bs bm hdct sn sub ab col dd k0 k1 k2 k3 k5 newId)) (hu : hh.get? u = some (PySem.W.kxs_mw i x)) (he : hh.get? x = some (PySem.W.excRec (.ref C) t none .none .none (.bool false))) (hz : rest.length ≤ sizeLine)
    (h : ∀ h' t', (∀ b o, b ≠ x → hh.get? b = some o → h'.get? b = some o) → h'.get? x = some (PySem.W.excRec (.ref C) t' none .none .none (.bool false)) → Q .none ⟨h', g, d, tk, os⟩) :
    wpAny (model prog w) A (call (.ref u) rest) Q E ⟨hh, g, d, tk, os⟩ := by
  refine wpAny_call (codeAny_of_tree ?_)
  show wpAny _ A.in1 (callAny (.ref u) ⟨rest, []⟩) _ _ _
  simp only [callAny]
  refine wpAny_bind (wpAny_load hu ?_)
  simp only [PySem.W.kxs_mw, show (Value.type "method-wrapper" == Value.type "method" || Value.type "method-wrapper" == Value.type "builtin_function_or_method" || Value.type "method-wrapper" == Value.type "method-wrapper") = true by decide, if_true]
  refine PySem.W.KFB.if_so (by decide) ?_
  refine wpAny_bind (young_bound FB hC he rfl ?_)
  refine wpAny_bind (wpAny_pure (wpAny_pure ?_))
  refine ⟨plainId_quiet FB.pl _, codeAny_builtin FB.ent ?_⟩
  exact PySem.W.exc_init_tree (cls := .ref C) (t0 := t) (dv := none) (c2 := .none) (c3 := .none) (b4 := .bool false) he hz fun h' a b _ => h h' _ a b
theorem boot_super : bootBuiltins "super" = some (.type "super") := by first | rfl | kernel_rfl
/-- the body -/
def xBody (m f p : Str) (j : Nat) (p0 p1 p2 p3 p4 p5 p6 p7 p8 p9 : Pos) : List Stmt :=
  [.Expr (.Call (.Attribute (.Call (.Name "super" p0) [] [] p1) "__init__" p2) [.Constant (.str m) j p3] [] p4) p5, .Assign [.Attribute (.Name "self" p6) f p7] (.Name p p8) p9]
section
variable {CX : CXT} {P : Program} {w : World} {K : PySem.W.Frag} {mg : Str → Option Value} {base : Heap} {qual : Str} {a : Arguments} {sc : Scope} {fI C cc cda : Addr} {dV kV doc pm ct oc : Value} {an od : Option Addr} {osl : Array (Option Value)} {B newId initId : String} {bmB : List Value}
  {m f p : Str} {j : Nat} {p0 p1 p2 p3 p4 p5 p6 p7 p8 p9 : Pos}
theorem init_run (S : XSc sc p) (hsp : p ≠ "self") (F : XIn P K C cc cda B newId initId bmB) (hsuper : PySem.W.nsIn K mainGlobals "super" = some none)
    (T : OexG K C) (hno : PySem.W.findIn K (.ref C) f = some none)
    (lk : K.lookup fI = some ⟨oc, od, .func (PySem.W.ksFn "__init__" qual a (xBody m f p j p0 p1 p2 p3 p4 p5 p6 p7 p8 p9) sc dV kV doc pm an (.ref cda) ct cc), osl⟩) (hcd : PySem.W.codeIn K (.ref cda) qual = true) {ar : PySem.Arg} (hpar : (a.posonlyargs ++ a.args).head? = some ar) (har : ar.arg = "self") {pl : Addr → Sem Bool}
    (hc : ∀ L, eval (.Call (.Attribute (.Call (.Name "super" p0) [] [] p1) "__init__" p2) [.Constant (.str m) j p3] [] p4) (xEnv qual sc L fI (.ref cda) cc) = (do
      let ov ← attributeBase (.Call (.Name "super" p0) [] [] p1) "__init__" (xEnv qual sc L fI (.ref cda) cc) (eval (.Call (.Name "super" p0) [] [] p1) (xEnv qual sc L fI (.ref cda) cc))
      standAt p2.atName
      let (f, first) ← holding [ov] (getMethod ov "__init__" (pl L))
      callWith p4 f first (backTo p4 (starEach [.Constant (.str m) j p3] (xEnv qual sc L fI (.ref cda) cc))) []))
    (hs : ∀ L, swapsWith (.Name p p8) (some (.Attribute (.Name "self" p6) f p7)) p9.line (xEnv qual sc L fI (.ref cda) cc) = pure false) (hpd : (p == ("__debug__" : Str)) = false) (hpc : (p == ("__classdict__" : Str)) = false) :
    FnOk P w K mg base CX 1 fI (PySem.W.ksFn "__init__" qual a (xBody m f p j p0 p1 p2 p3 p4 p5 p6 p7 p8 p9) sc dV kV doc pm an (.ref cda) ct cc) ["self", p] (spX C f) := by
  refine ⟨fun vs H Q E h => by obtain ⟨_, _, rfl, _⟩ := h; rfl, fun A outer s H args us vs Q E hr e0 hb r hsp' => ?_⟩
  obtain ⟨e, v, rfl, he, hq⟩ := hsp'
  have KX : K.In s.heap := e0.mod.kin.keeps fun b o e => (e0.bs b o e).1
  have lim : s.heap.NoLimit := e0.mod.nolimit.keeps fun b o e => (e0.bs b o e).1
  obtain ⟨ua, ub, rfl⟩ : ∃ ua ub, us = [ua, ub] := xlen2 (by rw [← r.length]; rfl)
  refine PySem.ks_codeAny_call_defAt hr.depth (KX _ _ lk) rfl lim (PySem.W.codeRec_of KX hcd) rfl hb S.nocell (fun x hx => ?_) (fun h₀ hns k => ?_) S.co S.gen S.kind
  · have : x = (("self" : Str), ua) ∨ x = (p, ub) := by simpa using hx
    rcases this with rfl | rfl
    · exact S.self
    · exact S.par
  obtain ⟨cl, cld, csl, hcell⟩ := F.cell
  have I : Inv (cxX CX P w K mg base ["self", p] qual sc fI (.ref cda) cc A outer s H E) [] [some (.ref e), some v] H { s with heap := h₀, toks := s.toks + 2 } :=
    invX (vs := [.ref e, v]) S hsp hr.hd e0 rfl r hcell rfl hns k
  -- super()
  obtain ⟨nm, q, N, bs, bm, sn, sub, ab, col, dd, k0, k1, k2, k3, k5, hCo⟩ := F.cls
  obtain ⟨ccl, cdd, ccs, cvs, file, tf, hcode, hcv, hfile⟩ := F.code
  have hcl : PySem.W.clsIn K C = some { name := nm, bases := bs, mro := .ref C :: bm, ns := N, qualname := q, hasDict := true, slotNames := sn, subclasses := sub, abstract := ab, collection := col, hasDel := false } := by unfold PySem.W.clsIn; rw [hCo] <;> rfl
  obtain ⟨mb, hmb, hmb2⟩ := e0.mod.blt
  refine PySem.ks_wpAt_execs_cons (PySem.ks_wpAt_Expr_any (PySem.ks_wpAt_MethodCall (pl := pl s.heap.objs.size) ?_ (hc _)) (hi := by unfold interactive; show (sc.kind == _ && _) = false; rw [S.kind]; rfl))
  have Kh : K.In h₀ := I.kIn
  obtain ⟨t1, hoe⟩ := exo_at I.hok he
  refine PySem.ks_wpAt_super_base (env := xEnv qual sc s.heap.objs.size fI (.ref cda) cc) S.sup S.cls rfl rfl (Kh _ _ lk) rfl hpar rfl (Kh _ _ hcode) rfl hcv hfile F.top ?_
  refine PySem.W.ks_loadName_global S.kind S.sup (PySem.Calls.loadGlobal_builtin (env := xEnv qual sc s.heap.objs.size fI (.ref cda) cc) (e0.mod.glob.keeps I.bk) (PySem.W.mg_none_of e0.mod.kin e0.mod.glob hsuper) (hmb.keeps I.bk) ((hmb2 _ (by decide +kernel)).trans boot_super) ⟨rfl, ?_⟩)
  refine wpAny_loadName_free S.kind S.cls (show ([(("__class__" : Str), cc)] : List (Str × Addr)).lookup ("__class__" : Str) = some cc from by simp) ⟨_, Kh _ _ hcell, rfl⟩ ?_
  rw [har]
  obtain ⟨mL, hnsL, hloc⟩ := I.loc
  obtain ⟨us, rus, lus⟩ := hloc 0 "self" (.ref e) rfl rfl (.inl S.self)
  obtain rfl : us = .ref e := rus
  have lself : mL "self" = some (.ref e) := by
    rcases lus with ⟨_, h⟩ | ⟨h, _⟩
    · exact h
    · have h : sc.names.lookup ("self" : Str) = some .cell ∨ sc.names.lookup ("self" : Str) = some .free := h
      rw [S.self] at h
      rcases h with h | h <;> cases h
  refine wpAny_loadName_local S.kind S.self hnsL lself ?_
  refine PySem.ks_wpAny_isType_cls (Kh _ _ hCo) rfl ⟨rfl, ?_⟩
  refine PySem.ks_wpAny_call_super (Kh _ _ hCo) rfl hoe rfl (fun c h => by cases h) (PySem.W.looks_mroIn Kh F.self) (fun h2 eso k2 => ?_)
  -- .__init__
  have I2 : Inv (cxX CX P w K mg base ["self", p] qual sc fI (.ref cda) cc A outer s H E) [] [some (.ref e), some v] H { s with heap := h2, toks := s.toks + 2 } := I.kept k2
  have Kh2 : K.In h2 := I2.kIn
  have hal := F.sup
  unfold PySem.W.ks_superIn at hal
  rw [hcl] at hal
  have hne : e ≠ C := fun z => by
    rw [z] at hoe
    have := Kh _ _ hCo
    rw [hoe] at this
    cases this
  have hI2 : PySem.W.Looks (model P w) h2 (isInstance (.ref e) (.type B)) true := (PySem.W.InstAt.type (ox := _) (od := none) ⟨k2 _ _ hoe, rfl, rfl, trivial⟩).andThen (PySem.W.looks_subIn Kh2 F.sub)
  refine PySem.W.kxs_getMethod F.kf eso (PySem.W.looks_opaque Kh2 F.opq) (l₀ := (.ref C :: bm)) (fun A Q E s k q => wpAny_bind ((PySem.W.looks_clsIn Kh2 hcl) A _ E s k (wpAny_pure q))) rfl Kh2 hal hI2 hne (by decide) ?_
  have k3 : ∀ b o, h2.get? b = some o → (h2.push (PySem.W.kxs_mw initId e)).get? b = some o := fun b o z => Heap.get?_push_of_some _ z
  have hu3 : (h2.push (PySem.W.kxs_mw initId e)).get? h2.objs.size = some (PySem.W.kxs_mw initId e) := Heap.get?_push_at rfl rfl
  have I3 : Inv (cxX CX P w K mg base ["self", p] qual sc fI (.ref cda) cc A outer s H E) [] [some (.ref e), some v] H { s with heap := h2.push (PySem.W.kxs_mw initId e), toks := s.toks + 2 + 1 } := I2.kept k3
  have I4 : Inv (cxX CX P w K mg base ["self", p] qual sc fI (.ref cda) cc A outer s H E) [(h2.objs.size, PySem.W.kxs_mw initId e)] [some (.ref e), some v] H { s with heap := h2.push (PySem.W.kxs_mw initId e), toks := s.toks + 2 + 1 } := I3.pins_of fun q hq => by
    obtain rfl : q = (h2.objs.size, PySem.W.kxs_mw initId e) := by simpa using hq
    exact ⟨hu3, I2.hok.fresh (Nat.le_refl _), Nat.ne_of_gt I2.lt, I2.nofs (Nat.le_refl _), fun _ z => by cases z⟩
  have ha : PA (cxX CX P w K mg base ["self", p] qual sc fI (.ref cda) cc A outer s H E) [.Constant (.str m) j p3] (tCons (tC (.str m)) tNil) := pa_cons pe_str pa_nil
  show wpAny _ _ (callWith p4 (.ref h2.objs.size) [] (backTo p4 (starEach [.Constant (.str m) j p3] (xEnv qual sc s.heap.objs.size fI (.ref cda) cc))) []) _ _ _
  refine PySem.W.kxs_callWith (i := initId) (x := e) rfl (PySem.Calls.evalArgs_plain ?_)
  refine wpAny_mono (ha.run p4 [(h2.objs.size, PySem.W.kxs_mw initId e)] _ _ H (fun vs H1 => vs = [V.str m] ∧ H = H1) I4 ⟨rfl, rfl⟩) (fun us s4 hh => ?_) (fun e s' z => z)
  obtain ⟨vs4, H4, I5, r4, ev4, eH⟩ := hh
  subst ev4
  subst eH
  obtain ⟨hu4, _⟩ := I5.pin (h2.objs.size, PySem.W.kxs_mw initId e) (by simp)
  refine ⟨hu4, ?_⟩
  have Kh4 := I5.kIn
  obtain ⟨t4, hoe4⟩ := exo_at I5.hok he
  have lus : us.length ≤ sizeLine := by rw [← r4.length, sizeLine_eq]; simp
  obtain ⟨hp4, g4, d4, tk4, os4⟩ := s4
  refine mw_call F.fb (Kh4 _ _ hCo) hu4 hoe4 lus fun h5 t5 k5 hx5 => ?_
  have I6 : Inv (cxX CX P w K mg base ["self", p] qual sc fI (.ref cda) cc A outer s H E) [(h2.objs.size, PySem.W.kxs_mw initId e)] [some (.ref e), some v] (upd H e (exo e C none)) ⟨h5, g4, d4, tk4, os4⟩ :=
    I5.write (t' := tk4) (x := e) (e := e) (o := exo e C none) (by rw [he]; exact True.intro) (.inl rfl) k5 ⟨_, hx5⟩ (exo_ok hx5)
  have eu : upd H e (exo e C none) = H := by
    funext b
    by_cases hb : b = e
    · rw [hb, upd_same, he]
    · rw [upd_ne hb]
  rw [eu] at I6
  have I7 : Inv (cxX CX P w K mg base ["self", p] qual sc fI (.ref cda) cc A outer s H E) [] [some (.ref e), some v] H ⟨h5, g4, d4, tk4, os4⟩ := I6.pins_of fun q hq => by cases hq
  -- self.f = p
  have hb2 : PSs (cxX CX P w K mg base ["self", p] qual sc fI (.ref cda) cc A outer s H E) [.Assign [.Attribute (.Name "self" p6) f p7] (.Name p p8) p9] (tYoung K f (tVar 0) (tVar 1)) :=
    pss_one (ps_young (pv 0 rfl (.inl S.self)) (pv 1 rfl (.inl S.par) hpd hpc) (hs _))
  refine wpAt_of_wpAny (wpAny_mono (hb2.run [] _ _ H { nx := fun _ H' => Q .non H', rt := Q } I7 ?_) (fun fl s' hsx => ?_) fun e s' hs => ?_)
  · refine ⟨v, rfl, .ref e, rfl, e, C, rfl, ⟨T, hno⟩, he, fun dx n1 n2 => hq dx n1 n2⟩
  · have fin : ∀ {σ' : L2.St} {H' : Hp} {v : V} {u : Value}, Inv (cxX CX P w K mg base ["self", p] qual sc fI (.ref cda) cc A outer s H E) [] σ' H' s' → RelV v u → Q v H' → L2.CE outer P w H s Q u s' :=
      fun {σ' H' v u} J rv q => ⟨v, H', J.os, J.bare, J.base, J.hok, rv, q⟩
    cases fl with
    | ret u =>
      obtain ⟨v, σ', H', J, rv, q⟩ := hsx
      exact fin J rv q
    | next =>
      obtain ⟨σ', H', J, q⟩ := hsx
      exact fin (v := V.non) (u := Value.none) J rfl q
    | brk =>
      obtain ⟨_, _, _, q⟩ := hsx
      exact q.elim
    | cont =>
      obtain ⟨_, _, _, q⟩ := hsx
      exact q.elim
  · exact hs
end
end LL
namespace LL
open PySem PySem.Spec PyProof.Rows L2 He
/-! ## own errors, read off the module -/
/-- the text of an own error's __init__ -/
structure XB (kf : Bool) (f : Str) (st : Stmt) : Prop where
  ex : ∃ (m p : Str) (j : Nat) (p0 p1 p2 p3 p4 p5 p6 p7 p8 p9 : Pos) (ar : PySem.Arg) (pl : Str → Addr → Addr → Addr → Addr → Sem Bool), defBody st = xBody m f p j p0 p1 p2 p3 p4 p5 p6 p7 p8 p9 ∧ p ≠ "self" ∧ XSc (defScope st) p ∧
    ((defArgs st).posonlyargs ++ (defArgs st).args).head? = some ar ∧ ar.arg = "self" ∧
    (∀ qual fI cda cc L, eval (.Call (.Attribute (.Call (.Name "super" p0) [] [] p1) "__init__" p2) [.Constant (.str m) j p3] [] p4) (xEnv qual (defScope st) L fI (.ref cda) cc) = (do
      let ov ← attributeBase (.Call (.Name "super" p0) [] [] p1) "__init__" (xEnv qual (defScope st) L fI (.ref cda) cc) (eval (.Call (.Name "super" p0) [] [] p1) (xEnv qual (defScope st) L fI (.ref cda) cc))
      standAt p2.atName
      let (f, first) ← holding [ov] (getMethod ov "__init__" (pl qual fI cda cc L))
      callWith p4 f first (backTo p4 (starEach [.Constant (.str m) j p3] (xEnv qual (defScope st) L fI (.ref cda) cc))) [])) ∧
    (∀ qual fI cda cc L, swapsWith (.Name p p8) (some (.Attribute (.Name "self" p6) f p7)) p9.line (xEnv qual (defScope st) L fI (.ref cda) cc) = pure false) ∧ (p == ("__debug__" : Str)) = false ∧ (p == ("__classdict__" : Str)) = false ∧
    ∀ (qual : Str) (kV doc pm : Value) (an : Option Addr) (cdv ct : Value) (cc : Addr) (us : List Value), us.length = 2 → bindArgs (PySem.W.ksFn "__init__" qual (defArgs st) (defBody st) (defScope st) .none kV doc pm an cdv ct cc) ⟨us, []⟩ = pure ((["self", p] : List Str).zip us) ∧
      (kf = true → ∀ a u : Value, bindArgs (PySem.W.ksFn "__init__" qual (defArgs st) (defBody st) (defScope st) .none kV doc pm an cdv ct cc) ⟨[a], [(f, u)]⟩ = pure ((["self", p] : List Str).zip [a, u]))
def oexB (b : BaseE) (K : PySem.W.Frag) (C : Addr) : Bool := (match K.lookup C with
    | some ⟨.type t, _, .cls cd, sl⟩ => (match cd.mro, sl.toList with
      | .ref C' :: bm, [_, _, _, _, some (.builtin n), _] => decide (t = "type") && (C' == C && (n == b.2.1 && (!cd.hasDel && cd.hasDict)))
      | _, _ => false)
    | _ => false) && ownB b K C
theorem oexB_cls {b : BaseE} {K : PySem.W.Frag} {C : Addr} (h : oexB b K C = true) : ∃ nm q N bs bm sn sub ab col dd k0 k1 k2 k3 k5, K.lookup C = some (excClassObj nm q C N bs bm true sn sub ab col dd k0 k1 k2 k3 k5 b.2.1) := by
  obtain ⟨h1, _⟩ := ba h
  cases q : K.lookup C with
  | none => rw [q] at h1; cases h1
  | some o =>
    obtain ⟨oc, dd, dt, sl⟩ := o
    rw [q] at h1
    cases oc with
    | type t =>
      cases dt with
      | cls cd =>
        obtain ⟨nm, bs, mro, ns, qn, hd, sn, sb, ab, col, del⟩ := cd
        obtain ⟨l⟩ := sl
        dsimp only at h1
        match mro, l, h1 with
        | .ref C' :: bm, [k0, k1, k2, k3, some (.builtin n), k5], h1 =>
          dsimp only at h1
          obtain ⟨e1, h1⟩ := ba h1
          obtain ⟨e2, h1⟩ := ba h1
          obtain ⟨e3, h1⟩ := ba h1
          obtain ⟨e4, e5⟩ := ba h1
          have e1 := of_decide_eq_true e1
          have e2 := eq_of_beq e2
          have e3 := eq_of_beq e3
          have e4 : del = false := by simpa using e4
          subst e1 e2 e3 e4 e5
          exact ⟨nm, qn, ns, bs, bm, sn, sb, ab, col, dd, k0, k1, k2, k3, k5, rfl⟩
      | _ => cases h1
    | _ => cases dt <;> cases h1
theorem oexB_ok {b : BaseE} (XB : XBase b) {K : PySem.W.Frag} {C : Addr} (h : oexB b K C = true) : OexG K C := ⟨b, XB, (ba h).2⟩
/-- the __init__ as it stands: its closure's cell told by its name alone -/
def fnXW (K : PySem.W.Frag) (c : Str) : FnW := match K.lookup (ma K (ga K c) "__init__") with
  | some ⟨_, _, .func fd, _⟩ => some (fd.name, fd.qualname, fd.params, fd.body, fd.scope, fd.globals, fd.closure.map fun q => (q.1, 0), fd.builtins)
  | _ => none
def valX (c : Str) (st : Stmt) : FnW := some ("__init__", c ++ (".__init__" : Str), defArgs st, .stmts (defBody st), defScope st, mainGlobals, [("__class__", 0)], builtinsNs)
def cellB (K : PySem.W.Frag) (cc C : Addr) : Bool := match K.lookup cc with
  | some ⟨_, _, .cell (some (.ref D)), _⟩ => D == C
  | _ => false
def codeFB (K : PySem.W.Frag) (P : Program) (cda : Addr) : Bool := match K.lookup cda with
  | some ⟨_, _, .fields vs, _⟩ => (match (vs[2]? : Option Value) with
    | some (Value.str file _) => (P.main.file : Str) == file
    | _ => false)
  | _ => false
def excBb (b : BaseE) (P : Program) (K : PySem.W.Frag) (c f : Str) : Bool :=
  (Fa.glo c).ok K && (oexB b K (ga K c) && (eqO (PySem.W.findIn K (.ref (ga K c)) "__init__") (some (some (.ref (ma K (ga K c) "__init__")))) && (decide (PySem.W.typeIn K (.ref (ma K (ga K c) "__init__")) = some (.type "function")) &&
  (eqO (PySem.W.findIn K (.ref (ga K c)) f) (some none) && ((match K.lookup (ma K (ga K c) "__init__") with
    | some ⟨_, _, .func fd, _⟩ => PySem.W.codeIn K fd.code (c ++ (".__init__" : Str)) && ((match fd.defaults with | .none => true | _ => false) && (match fd.code, fd.closure with
      | .ref cda, [(_, cc)] => cellB K cc (ga K c) && codeFB K P cda
      | _, _ => false))
    | _ => false) &&
  (decide (PySem.W.mroIn K (ga K c) (.ref (ga K c)) = some true) && (decide (PySem.W.ks_superIn K (ga K c) (ga K c) "__init__" = some (some (.builtin b.2.2.1))) && (decide (PySem.W.subIn K (.ref (ga K c)) (.type b.1) = some true) &&
  (decide (PySem.W.nsIn K cStatics "thirdparty.any" = some none) && (decide (PySem.W.nsIn K mainGlobals "super" = some none) && !(P.main.scope.names.lookup ("super" : Str)).isSome))))))))))
def excB (P : Program) (K : PySem.W.Frag) (c f : Str) : Bool := baseL.any fun b => excBb b P K c f
theorem exc_of {P : Program} {K : PySem.W.Frag} {h : Heap} {mg : Str → Option Value} {c f : Str} {st : Stmt} (b : excB P K c f = true) (e : fnXW K c = valX c st) {kf : Bool} (B : XB kf f st) (X : K.In h) (G : h.Ns mainGlobals mg) :
    ∃ C fI fd p, C = ga K c ∧ mg c = some (.ref C) ∧ OexG K C ∧ PySem.W.findIn K (.ref C) "__init__" = some (some (.ref fI)) ∧ PySem.W.typeIn K (.ref fI) = some (.type "function") ∧ Binds K fd ["self", p] [] ∧ (kf = true → ∀ (s : Shared) (a u : Value), BindsTo s fd ⟨[a], [(f, u)]⟩ ((["self", p] : List Str).zip [a, u])) ∧
      ∀ (w : World) (base : Heap) (CX : CXT), FnOk P w K mg base CX 1 fI fd ["self", p] (spX C f) := by
  obtain ⟨bb, hbb, b⟩ := List.any_eq_true.mp b
  have XB := baseL_ok hbb
  obtain ⟨b1, b⟩ := ba b
  obtain ⟨b2, b⟩ := ba b
  obtain ⟨b3, b⟩ := ba b
  obtain ⟨b4, b⟩ := ba b
  obtain ⟨b5, b⟩ := ba b
  obtain ⟨b6, b⟩ := ba b
  obtain ⟨b7, b⟩ := ba b
  obtain ⟨b8, b⟩ := ba b
  obtain ⟨b9, b⟩ := ba b
  obtain ⟨b10, b⟩ := ba b
  obtain ⟨b11, b12⟩ := ba b
  obtain ⟨m, p, j, p0, p1, p2, p3, p4, p5, p6, p7, p8, p9, ar, pl, eb, hsp, S, hpar, har, hc, hs, hpd, hpc, hbind⟩ := B.ex
  have T := oexB_ok XB b2
  unfold fnXW valX at e
  cases q : K.lookup (ma K (ga K c) "__init__") with
  | none => rw [q] at b6; cases b6
  | some o =>
    obtain ⟨oc, od, dt, osl⟩ := o
    rw [q] at b6 e
    cases dt with
    | func fd =>
      obtain ⟨n1, n2, n3, n4, n5, n6, n7, n8, n9, n10, n11, n12, n13, n14, n15⟩ := fd
      dsimp only at b6 e
      simp only [Option.some.injEq, Prod.mk.injEq] at e
      obtain ⟨h1, h2, h3, h4, h5, h6, h7, h8⟩ := e
      obtain ⟨c1, c2⟩ := ba b6
      obtain ⟨c2, c3⟩ := ba c2
      have hd : n8 = .none := by cases n8 <;> first | rfl | cases c2
      match n13, n7, c3, h7 with
      | .ref cda, [(y, cc)], c3, h7 =>
        obtain ⟨d1, d2⟩ := ba c3
        have hy : y = ("__class__" : Str) := by simpa using h7
        subst h1 h2 h3 h4 h5 h6 h8 hd hy
        have lk : K.lookup (ma K (ga K c) "__init__") = some ⟨oc, od, .func (PySem.W.ksFn "__init__" (c ++ (".__init__" : Str)) (defArgs st) (xBody m f p j p0 p1 p2 p3 p4 p5 p6 p7 p8 p9) (defScope st) .none n9 n10 n11 n12 (.ref cda) n14 cc), osl⟩ := by
          rw [q, ← eb]
        have hcell : ∃ cl cld csl, K.lookup cc = some ⟨cl, cld, .cell (some (.ref (ga K c))), csl⟩ := by
          unfold cellB at d1
          split at d1
          · rename_i a1 a2 D a3 hq
            obtain rfl : D = ga K c := eq_of_beq d1
            exact ⟨_, _, _, hq⟩
          · cases d1
        have hcode : ∃ ccl cdd ccs vs file tf, K.lookup cda = some ⟨ccl, cdd, .fields vs, ccs⟩ ∧ vs[2]? = some (.str file tf) ∧ ((P.main.file : Str) == file) = true := by
          unfold codeFB at d2
          split at d2
          · rename_i a1 a2 vs a3 hq
            split at d2
            · rename_i file tf hf
              exact ⟨_, _, _, vs, file, tf, hq, hf, d2⟩
            · cases d2
          · cases d2
        obtain ⟨nm, qq, N, bs, bm, sn, sub, ab, col, dd, k0, k1, k2, k3, k5, hC⟩ := oexB_cls b2
        have F : XIn P K (ga K c) cc cda bb.1 bb.2.1 bb.2.2.1 bb.2.2.2 :=
          ⟨⟨nm, qq, N, bs, bm, sn, sub, ab, col, dd, k0, k1, k2, k3, k5, hC⟩, XB.ini, XB.over, hcell, hcode, of_decide_eq_true b7, of_decide_eq_true b8, of_decide_eq_true b9, of_decide_eq_true b10, by simpa using b12⟩
        refine ⟨_, _, _, p, rfl, glo_ok X G b1, T, eqO_ok b3, of_decide_eq_true b4, ?_, fun hkf s0 a u => ?_, fun w base CX => init_run S hsp F (of_decide_eq_true b11) T (eqO_ok b5) lk c1 hpar har (pl := pl _ _ _ _) (hc _ _ _ _) (hs _ _ _ _) hpd hpc⟩
        · rw [← eb]
          exact .all fun us hl => (hbind _ _ _ _ _ _ _ _ us hl).1
        · rw [← eb]
          exact .of_eq ((hbind _ _ _ _ _ _ _ _ [a, u] rfl).2 hkf a u)
    | _ => cases b6
/-- what stands in the text of an own error's __init__ -/
structure XbD where
  m : Str
  f : Str
  p : Str
  j : Nat
  p0 : Pos
  p1 : Pos
  p2 : Pos
  p3 : Pos
  p4 : Pos
  p5 : Pos
  p6 : Pos
  p7 : Pos
  p8 : Pos
  p9 : Pos
  ar : PySem.Arg
def xbOf (st : Stmt) : Option XbD := match defBody st, (defArgs st).posonlyargs ++ (defArgs st).args with
  | [.Expr (.Call (.Attribute (.Call (.Name s p0) [] [] p1) i p2) [.Constant (.str m) j p3] [] p4) p5, .Assign [.Attribute (.Name sf p6) f p7] (.Name p p8) p9], ar :: _ =>
    if s = "super" ∧ i = "__init__" ∧ sf = "self" then some ⟨m, f, p, j, p0, p1, p2, p3, p4, p5, p6, p7, p8, p9, ar⟩ else none
  | _, _ => none
def xbB (f : Str) (st : Stmt) : Bool := match xbOf st with
  | some d => decide (d.f = f) && (d.p2.endLine == d.p4.line && (decide (d.p ≠ "self") && (decide (d.ar.arg = "self") && (!(d.p == ("__debug__" : Str)) && (!(d.p == ("__classdict__" : Str)) &&
    (decide ((defScope st).kind = .function) && (!(defScope st).isCoroutine && (!(defScope st).isGenerator && (decide ((defScope st).names.lookup ("self" : Str) = some .local) && (decide ((defScope st).names.lookup d.p = some .local) &&
    (decide ((defScope st).names.lookup ("super" : Str) = some .globalImplicit) && (decide ((defScope st).names.lookup ("__class__" : Str) = some .free) && (defScope st).names.all fun y => decide (y.2 ≠ .cell) && (decide (y.2 ≠ .free) || decide (y.1 = "__class__"))))))))))))))
  | none => false
def xbP (st : Stmt) : Str := match xbOf st with
  | some d => d.p
  | none => ""
theorem hcG {m : Str} {j : Nat} {p0 p1 p2 p3 p4 : Pos} {env : Env} (h : (p2.endLine == p4.line) = true) : eval (.Call (.Attribute (.Call (.Name "super" p0) [] [] p1) "__init__" p2) [.Constant (.str m) j p3] [] p4) env = (do
      let ov ← attributeBase (.Call (.Name "super" p0) [] [] p1) "__init__" env (eval (.Call (.Name "super" p0) [] [] p1) env)
      standAt p2.atName
      let (f, first) ← holding [ov] (getMethod ov "__init__" (do return (← importBound (.Call (.Name "super" p0) [] [] p1) env).getD true))
      callWith p4 f first (backTo p4 (starEach [.Constant (.str m) j p3] env)) []) := by
  show (do
      let ov ← attributeBase (.Call (.Name "super" p0) [] [] p1) "__init__" env (eval (.Call (.Name "super" p0) [] [] p1) env)
      standAt p2.atName
      let (f, first) ← holding [ov] (getMethod ov "__init__" (do return (← importBound (.Call (.Name "super" p0) [] [] p1) env).getD true))
      let callPos ← (if (!true || p2.endLine == p4.line) = true then pure p4 else _)
      callWith callPos f first (backTo p4 (starEach [.Constant (.str m) j p3] env)) []) = _
  rw [h]
  rfl
theorem hsG {f p : Str} {p6 p7 p8 p9 : Pos} {qual : Str} {sc : Scope} {L fI cc : Addr} {cd : Value} : swapsWith (.Name p p8) (some (.Attribute (.Name "self" p6) f p7)) p9.line (xEnv qual sc L fI cd cc) = pure false := by rfl
theorem xb_ok {kf : Bool} {f : Str} {st : Stmt} (h : xbB f st = true) (hb : ∀ (qual : Str) (kV doc pm : Value) (an : Option Addr) (cdv ct : Value) (cc : Addr) (us : List Value), us.length = 2 → bindArgs (PySem.W.ksFn "__init__" qual (defArgs st) (defBody st) (defScope st) .none kV doc pm an cdv ct cc) ⟨us, []⟩ = pure ((["self", xbP st] : List Str).zip us))
    (hk : kf = true → ∀ (qual : Str) (kV doc pm : Value) (an : Option Addr) (cdv ct : Value) (cc : Addr) (a u : Value), bindArgs (PySem.W.ksFn "__init__" qual (defArgs st) (defBody st) (defScope st) .none kV doc pm an cdv ct cc) ⟨[a], [(f, u)]⟩ = pure ((["self", xbP st] : List Str).zip [a, u])) : XB kf f st := by
  unfold xbB at h
  cases q : xbOf st with
  | none => rw [q] at h; cases h
  | some d =>
    rw [q] at h
    dsimp only at h
    obtain ⟨h1, h⟩ := ba h
    obtain ⟨h0, h⟩ := ba h
    obtain ⟨h2, h⟩ := ba h
    obtain ⟨h3, h⟩ := ba h
    obtain ⟨h4, h⟩ := ba h
    obtain ⟨h5, h⟩ := ba h
    obtain ⟨g1, h⟩ := ba h
    obtain ⟨g2, h⟩ := ba h
    obtain ⟨g3, h⟩ := ba h
    obtain ⟨g4, h⟩ := ba h
    obtain ⟨g5, h⟩ := ba h
    obtain ⟨g6, h⟩ := ba h
    obtain ⟨g7, g8⟩ := ba h
    have hp : xbP st = d.p := by unfold xbP; rw [q]
    rw [hp] at hb hk
    have h1 := of_decide_eq_true h1
    unfold xbOf at q
    split at q
    · rename_i s p0 p1 i p2 m j p3 p4 p5 sf p6 f' p7 p p8 p9 ar r e1 e2
      split at q
      · rename_i c
        obtain ⟨c1, c2, c3⟩ := c
        cases q
        subst c1 c2 c3
        dsimp only at h0 h1 h2 h3 h4 h5 g5 hb hk
        subst h1
        refine ⟨m, p, j, p0, p1, p2, p3, p4, p5, p6, p7, p8, p9, ar, _, e1, of_decide_eq_true h2, ⟨of_decide_eq_true g1, by simpa using g2, by simpa using g3, of_decide_eq_true g4, of_decide_eq_true g5, of_decide_eq_true g6, of_decide_eq_true g7, fun x hx => ?_, fun x hx => ?_⟩, by rw [e2]; rfl, of_decide_eq_true h3, fun _ _ _ _ _ => hcG h0, fun _ _ _ _ _ => hsG, by simpa using h4, by simpa using h5, fun qual kV doc pm an cdv ct cc us hl => ⟨hb qual kV doc pm an cdv ct cc us hl, fun z a u => hk z qual kV doc pm an cdv ct cc a u⟩⟩
        · exact of_decide_eq_true (ba (List.all_eq_true.mp g8 x hx)).1
        · rcases Bool.or_eq_true_iff.mp (ba (List.all_eq_true.mp g8 (x, .free) (PySem.mem_of_lookup hx))).2 with a | a
          · exact absurd rfl (of_decide_eq_true a)
          · exact of_decide_eq_true a
      · cases q
    · cases q
end LL
namespace LL
open PySem PySem.Spec PyProof.Rows L2 He
/-! ## forms of call -/
def getV (l : List Value) (j : Nat) : Value := l.getD j .none
/-- the values of the parameters; mv: those of the keyword-only ones that lack, in order -/
def arrG : List Arg → List Value → List Value → List Value → List Value
  | [], _, _, _ => []
  | .pos j :: r, us, mv, ws => getV us j :: arrG r us mv ws
  | .kw j :: r, us, mv, ws => getV ws j :: arrG r us mv ws
  | .dfl _ :: r, us, mv, ws => getV mv 0 :: arrG r us (mv.drop 1) ws
def dflsOf : List Arg → List V
  | [] => []
  | .dfl d :: r => dV d :: dflsOf r
  | _ :: r => dflsOf r
theorem vals_get {vs : List V} {us : List Value} (h : Vals vs us) (j : Nat) : RelV (vs.getD j .non) (getV us j) := by
  unfold getV
  induction h generalizing j with
  | nil => exact rfl
  | cons r _ ih => cases j with
    | zero => exact r
    | succ j => exact ih j
theorem arr_rel : ∀ (arr : List Arg) {vs zs : List V} {us mv ws : List Value}, Vals vs us → Vals (dflsOf arr) mv → Vals zs ws → Vals (arrV arr vs zs) (arrG arr us mv ws)
  | [], _, _, _, _, _, _, _, _ => .nil
  | .pos j :: r, _, _, _, _, _, a, b, c => .cons (vals_get a j) (arr_rel r a b c)
  | .kw j :: r, _, _, _, _, _, a, b, c => .cons (vals_get c j) (arr_rel r a b c)
  | .dfl d :: r, _, _, _, _, _, a, b, c => by
    cases b with
    | cons h t => exact .cons h (arr_rel r a t c)
/-- what is read off the model: a form of call binds so; ms: the keyword-only parameters that lack -/
def PatB (i : FnI) (p : Pat) (ms : List Str) : Prop := if ms = [] then
    dflsOf p.arr = [] ∧ ∀ (kV doc pm : Value) (an : Option Addr) (cdv ct : Value) (us ws : List Value), us.length = p.n → ws.length = p.ks.length →
      bindArgs (PySem.W.fnOf i.nm i.qual (defArgs i.st) (defBody i.st) (defScope i.st) .none kV doc pm an cdv ct) ⟨us, p.ks.zip ws⟩ = pure (i.ps.zip (arrG p.arr us [] ws))
  else (dflsOf p.arr).length = ms.length ∧ ∀ (D : Addr) (doc pm : Value) (an : Option Addr) (cdv ct : Value) (us mv ws : List Value), us.length = p.n → mv.length = ms.length → ws.length = p.ks.length →
      KwChain D (ms.zip mv) (bindArgs (PySem.W.fnOf i.nm i.qual (defArgs i.st) (defBody i.st) (defScope i.st) .none (.ref D) doc pm an cdv ct) ⟨us, p.ks.zip ws⟩) (i.ps.zip (arrG p.arr us mv ws))
/-- the defaults of the keyword-only parameters that lack are those of the form -/
def dflOkB (kws : List (Str × V)) (p : Pat) (ms : List Str) : Prop := (ms.zip (dflsOf p.arr)).all (fun q => kws.any fun z => z == q) = true
theorem pat_gen {K : PySem.W.Frag} {i : FnI} {kws : List (Str × V)} {f : Addr} {fd : FuncData} (F : FunD K i.nm i.qual (defArgs i.st) (defBody i.st) (defScope i.st) [] kws f fd) {p : Pat} {ms : List Str} (h : PatB i p ms)
    (hd : ∀ q ∈ ms.zip (dflsOf p.arr), q ∈ kws) : PatOk K fd i.ps p := by
  obtain ⟨oc, od, dV', kV, doc, pm, an, cdv, ct, osl, rfl, lk, hcd, hD, hK⟩ := F.ex
  obtain rfl : dV' = .none := by
    rcases hD with ⟨_, e⟩ | ⟨e, _⟩
    · exact e
    · exact absurd rfl e
  unfold PatB at h
  by_cases hm : ms = []
  · rw [if_pos hm] at h
    exact ⟨fun us ws => arrG p.arr us [] ws, ⟨fun s us ws X l1 l2 => .of_eq (h.2 kV doc pm an cdv ct us ws l1 l2), fun r1 r2 => arr_rel p.arr r1 (by rw [h.1]; exact .nil) r2⟩⟩
  · rw [if_neg hm] at h
    obtain ⟨hl, h⟩ := h
    rcases hK with e | ⟨D, rfl, hq⟩
    · exfalso
      subst e
      cases ms with
      | nil => exact hm rfl
      | cons m r =>
        cases hda : dflsOf p.arr with
        | nil => rw [hda] at hl; cases hl
        | cons z r' => exact absurd (hd (m, z) (by rw [hda]; exact List.mem_cons_self)) (by simp)
    · obtain ⟨mv, hl2, rk, hks⟩ := kwd_vals (ms := ms.zip (dflsOf p.arr)) fun q hq' => hq q (hd q hq')
      have e1 : (ms.zip (dflsOf p.arr)).map (·.1) = ms := List.map_fst_zip (by omega)
      have e2 : (ms.zip (dflsOf p.arr)).map (·.2) = dflsOf p.arr := List.map_snd_zip (by omega)
      have e3 : mv.length = ms.length := by rw [hl2, List.length_zip]; omega
      rw [e1] at hks
      rw [e2] at rk
      exact ⟨fun us ws => arrG p.arr us mv ws, ⟨fun s us ws X l1 l2 => BindsTo.of_looks fun M => KwChain.looks X hks (h D doc pm an cdv ct us mv ws l1 e3 l2), fun r1 r2 => arr_rel p.arr r1 rk r2⟩⟩
theorem len0 {α : Type} {l : List α} (h : l.length = 0) : l = [] := List.length_eq_zero_iff.mp h
theorem len1 {α : Type} {l : List α} (h : l.length = 1) : ∃ a, l = [a] := List.length_eq_one_iff.mp h
theorem lenS {α : Type} {l : List α} {n : Nat} (h : l.length = n + 1) : ∃ a r, l = a :: r ∧ r.length = n := by
  cases l with
  | nil => cases h
  | cons a r => exact ⟨a, r, rfl, Nat.succ.inj h⟩
theorem len2 {α : Type} {l : List α} (h : l.length = 2) : ∃ a b, l = [a, b] := by
  obtain ⟨a, r, rfl, h1⟩ := lenS h; obtain ⟨b, rfl⟩ := len1 h1; exact ⟨_, _, rfl⟩
theorem len3 {α : Type} {l : List α} (h : l.length = 3) : ∃ a b c, l = [a, b, c] := by
  obtain ⟨a, r, rfl, h1⟩ := lenS h; obtain ⟨b, c, rfl⟩ := len2 h1; exact ⟨_, _, _, rfl⟩
theorem len4 {α : Type} {l : List α} (h : l.length = 4) : ∃ a b c d, l = [a, b, c, d] := by
  obtain ⟨a, r, rfl, h1⟩ := lenS h; obtain ⟨b, c, d, rfl⟩ := len3 h1; exact ⟨_, _, _, _, rfl⟩
theorem len5 {α : Type} {l : List α} (h : l.length = 5) : ∃ a b c d e, l = [a, b, c, d, e] := by
  obtain ⟨a, r, rfl, h1⟩ := lenS h; obtain ⟨b, c, d, e, rfl⟩ := len4 h1; exact ⟨_, _, _, _, _, rfl⟩
theorem len6 {α : Type} {l : List α} (h : l.length = 6) : ∃ a b c d e f, l = [a, b, c, d, e, f] := by
  obtain ⟨a, r, rfl, h1⟩ := lenS h; obtain ⟨b, c, d, e, f, rfl⟩ := len5 h1; exact ⟨_, _, _, _, _, _, rfl⟩
theorem len7 {α : Type} {l : List α} (h : l.length = 7) : ∃ a b c d e f g, l = [a, b, c, d, e, f, g] := by
  obtain ⟨a, r, rfl, h1⟩ := lenS h; obtain ⟨b, c, d, e, f, g, rfl⟩ := len6 h1; exact ⟨_, _, _, _, _, _, _, rfl⟩
/-! ## addresses -/
def atOf (T : Tab) (key : Str) : Str × Option Str := match T.mts.find? (fun p => decide (p.2 = key)) with
  | some p => (p.1.1, some p.1.2)
  | none => (key, none)
def isCl (T : Tab) (x : Str) : Bool := T.cls.contains x || (T.excs.lookup x).isSome
def CMk (K : PySem.W.Frag) (T : Tab) : Str → Option Addr := fun x => some (if isCl T x then ga K x else fAd K (atOf T x))
abbrev KwT := Str → List (Str × Dv)
def defD (T : Tab) (kwd : KwT) (q : Str × FnI) : DefD := ⟨atOf T q.1, q.2.nm, q.2.qual, defArgs q.2.st, defBody q.2.st, defScope q.2.st, [], kwd q.1⟩
/-! ## constants -/
mutual
def relD (K : PySem.W.Frag) (T : Tab) : D → Value → Bool
  | .non, .none => true
  | .bl b, .bool c => b == c
  | .int i, .int j _ => decide (i = j)
  | .str x, .str y _ => decide (x = y)
  | .cl c, .ref a => T.cls.contains c && decide (a = ga K c)
  | .tup ds, .ref a => (match K.lookup a with
    | some ⟨.type c, none, .seq its _, _⟩ => decide (c = "tuple") && (modT ds && (decide (its.size ≤ sizeLine) && relDs K T ds its.toList))
    | _ => false)
  | _, _ => false
def relDs (K : PySem.W.Frag) (T : Tab) : List D → List Value → Bool
  | [], [] => true
  | d :: ds, u :: us => relD K T d u && relDs K T ds us
  | _, _ => false
end
mutual
theorem relD_ok {K : PySem.W.Frag} {T : Tab} : ∀ {d : D} {u : Value}, relD K T d u = true → ∃ v, RelV v u ∧ (∀ ρ H, RV K (CMk K T) ρ H d v) ∧ ∀ ds, d = .tup ds → ∃ a o, v = .ref a ∧ K.lookup a = some o ∧ o.cls = .type "tuple" ∧ o.dict = none
  | .non, u, h => by
    cases u with
    | none => exact ⟨.non, rfl, fun _ _ => .non, fun _ e => by cases e⟩
    | _ => simp [relD] at h
  | .bl b, u, h => by
    cases u with
    | bool c =>
      have : b = c := by simpa [relD] using h
      subst this
      exact ⟨.bl b, rfl, fun _ _ => .bl b, fun _ e => by cases e⟩
    | _ => simp [relD] at h
  | .int i, u, h => by
    cases u with
    | int j t =>
      have : i = j := by simpa [relD] using h
      subst this
      exact ⟨.int i, ⟨t, rfl⟩, fun _ _ => .int i, fun _ e => by cases e⟩
    | _ => simp [relD] at h
  | .str i, u, h => by
    cases u with
    | str j t =>
      have : i = j := by simpa [relD] using h
      subst this
      exact ⟨.str i, ⟨t, rfl⟩, fun _ _ => .str i, fun _ e => by cases e⟩
    | _ => simp [relD] at h
  | .cl c, u, h => by
    cases u with
    | ref a =>
      have h' : T.cls.contains c = true ∧ a = ga K c := by simpa [relD] using h
      exact ⟨.ref a, rfl, fun _ _ => .cl (by unfold CMk isCl; rw [h'.1, h'.2]; rfl), fun _ e => by cases e⟩
    | _ => simp [relD] at h
  | .ref n, u, h => by cases u <;> simp [relD] at h
  | .ty n, u, h => by cases u <;> simp [relD] at h
  | .tup ds, u, h => by
    cases u with
    | ref a =>
      unfold relD at h
      cases q : K.lookup a with
      | none => rw [q] at h; cases h
      | some o =>
        obtain ⟨oc, od, dt, osl⟩ := o
        rw [q] at h
        cases oc with
        | type c =>
          cases od with
          | none =>
            cases dt with
            | seq its n =>
              obtain ⟨h1, h2⟩ := ba (show (decide (c = "tuple") && (modT ds && (decide (its.size ≤ sizeLine) && relDs K T ds its.toList))) = true from h)
              obtain ⟨hm, h2⟩ := ba h2
              obtain ⟨h3, h4⟩ := ba h2
              obtain ⟨vs, r1, r2⟩ := relDs_ok h4
              exact ⟨.ref a, rfl, fun ρ H => .tup (.inr ⟨hm, _, its, n, q, congrArg Value.type (of_decide_eq_true h1), rfl, of_decide_eq_true h3, r1⟩) (r2 ρ H), fun ds' e => ⟨a, _, rfl, q, congrArg Value.type (of_decide_eq_true h1), rfl⟩⟩
            | _ => cases h
          | some _ => cases dt <;> cases h
        | _ => cases od <;> cases dt <;> cases h
    | _ => simp [relD] at h
theorem relDs_ok {K : PySem.W.Frag} {T : Tab} : ∀ {ds : List D} {us : List Value}, relDs K T ds us = true → ∃ vs, Vals vs us ∧ ∀ ρ H, RVs K (CMk K T) ρ H ds vs
  | [], us, h => by
    cases us with
    | nil => exact ⟨[], .nil, fun _ _ => .nil⟩
    | cons _ _ => simp [relDs] at h
  | d :: ds, us, h => by
    cases us with
    | nil => simp [relDs] at h
    | cons u us =>
      simp only [relDs, Bool.and_eq_true] at h
      obtain ⟨v, a, b, _⟩ := relD_ok h.1
      obtain ⟨vs, c, e⟩ := relDs_ok h.2
      exact ⟨v :: vs, .cons a c, fun ρ H => .cons (b ρ H) (e ρ H)⟩
end
/-! ## the table's facts, read -/
def gloB (K : PySem.W.Frag) (x : Str) : Bool := (Fa.glo x).ok K
def instB (K : PySem.W.Frag) (C : Addr) : Bool := (((PySem.W.clsIn K C).isSome && PySem.W.typeIn K (.ref C) == some (.type "type"))) && (decide (PySem.W.findIn K (.ref C) "__class__" = some (some (.builtin "object.__class__"))) &&
  (decide (PySem.W.specialIn K (.builtin "object.__class__") "__get__" = some (some (.builtin "getset_descriptor.__get__"))) && (decide (PySem.W.takesIn K (.builtin "object.__class__") = some true) && decide (PySem.W.mroIn K C (.type "object") = some true))))
theorem instB_ok {K : PySem.W.Frag} {C : Addr} (h : instB K C = true) : InstC K C := by
  obtain ⟨h1, h⟩ := ba h
  obtain ⟨h2, h⟩ := ba h
  obtain ⟨h3, h⟩ := ba h
  obtain ⟨h4, h5⟩ := ba h
  exact ⟨h1, of_decide_eq_true h2, of_decide_eq_true h3, of_decide_eq_true h4, of_decide_eq_true h5⟩
/-- the module's names are all told -/
def noB (K : PySem.W.Frag) (T : Tab) : Bool := match K.lookup mainGlobals with
  | some ⟨_, _, .dict es _, _⟩ => es.toList.all fun e => match e.key with
    | .str x _ => T.names.contains x
    | _ => false
  | _ => false
theorem isStr_eq {x y : Str} {t : Tok} (h : (Value.str x t).isStr y = true) : x = y := by
  unfold Value.isStr at h
  simpa using h
theorem noB_ok {K : PySem.W.Frag} {T : Tab} (h : noB K T = true) {x : Str} (hx : x ∉ T.names) : PySem.W.nsIn K mainGlobals x = some none := by
  unfold noB at h
  unfold PySem.W.nsIn
  cases q : K.lookup mainGlobals with
  | none => rw [q] at h; cases h
  | some o =>
    obtain ⟨oc, od, dt, osl⟩ := o
    rw [q] at h
    cases dt with
    | dict es n =>
      have h' := List.all_eq_true.mp h
      have n1 : es.toList.find? (fun e => e.key.isStr x) = none := by
        refine List.find?_eq_none.mpr fun e he hs => ?_
        have := h' e he
        cases ek : e.key with
        | str y t =>
          rw [ek] at this hs
          have e2 := isStr_eq hs
          subst e2
          exact hx (List.contains_iff_mem.mp this)
        | _ => rw [ek] at this; cases this
      have n2 : es.toList.any (fun e => e.refKey) = false := by
        refine List.any_eq_false.mpr fun e he hs => ?_
        have := h' e he
        unfold DictEntry.refKey at hs
        cases ek : e.key with
        | str y t => rw [ek] at hs; cases hs
        | _ => rw [ek] at this; cases this
      show (match es.toList.find? (fun e => e.key.isStr x) with
        | some e => some (some e.val)
        | none => if es.toList.any (fun e => e.refKey) then none else some none) = some none
      rw [n1, n2]
      rfl
    | _ => cases h
/-- no list among the module's objects -/
def noL (K : PySem.W.Frag) : Bool := K.all fun q => match q.2.cls with
  | .type c => decide (c ≠ "list")
  | _ => true
theorem noL_ok {K : PySem.W.Frag} (h : noL K = true) {a : Addr} {o : Obj} (e : K.lookup a = some o) : o.cls ≠ .type "list" := fun z => by
  have := List.all_eq_true.mp h (a, o) (lookup_mem e)
  dsimp only at this
  rw [z] at this
  simp at this
def conB (K : PySem.W.Frag) (T : Tab) (q : Str × D) : Bool := match PySem.W.nsIn K mainGlobals q.1 with
  | some (some u) => relD K T q.2 u
  | _ => false
def unlB (K : PySem.W.Frag) (T : Tab) (q : Str × Str) : Bool := T.cls.contains q.1 && (T.cls.contains q.2 && (decide (ga K q.1 ≠ ga K q.2) && decide (PySem.W.mroIn K (ga K q.1) (.ref (ga K q.2)) = some false)))
def neB (K : PySem.W.Frag) (C : Addr) : Bool := eqO (PySem.W.findIn K (.ref C) "__ne__") (some (some (.builtin "object.__ne__"))) && decide (PySem.W.subIn K (.ref C) (.type "object") = some true)
/-- an instance may be called -/
def calB (K : PySem.W.Frag) (C g : Addr) : Bool := eqO (PySem.W.findIn K (.ref C) "__call__") (some (some (.ref g))) && (PySem.W.isFn K (.ref g) && PySem.W.fnIn K g)
def bisB (K : PySem.W.Frag) (q : Str × String) : Bool := match PySem.W.nsIn K mainGlobals q.1 with
  | some (some (.builtin id)) => id == q.2
  | _ => false
/-- an own error's class, asked by isinstance -/
def excCB (K : PySem.W.Frag) (D : Addr) : Bool := eqO (PySem.W.findIn K (.ref D) "__getattribute__") (some (some (.builtin "BaseException.__getattribute__"))) && (eqO (PySem.W.findIn K (.ref D) "__getattr__") (some none) && (decide (PySem.W.subIn K (.ref D) (.type "BaseException") = some true) && (PySem.W.hasDictIn K D &&
  (eqO (PySem.W.findIn K (.ref D) "__class__") (some (some (.builtin "object.__class__"))) && (eqO (PySem.W.specialIn K (.builtin "object.__class__") "__get__") (some (some (.builtin "getset_descriptor.__get__"))) && (decide (PySem.W.takesIn K (.builtin "object.__class__") = some true) && decide (PySem.W.mroIn K D (.type "object") = some true)))))))
theorem excCB_ok {K : PySem.W.Frag} {D : Addr} (h : excCB K D = true) : ExcC K D := by
  obtain ⟨h1, h⟩ := ba h
  obtain ⟨h2, h⟩ := ba h
  obtain ⟨h3, h⟩ := ba h
  obtain ⟨h4, h⟩ := ba h
  obtain ⟨h5, h⟩ := ba h
  obtain ⟨h6, h⟩ := ba h
  obtain ⟨h7, h8⟩ := ba h
  exact ⟨eqO_ok h1, eqO_ok h2, of_decide_eq_true h3, h4, eqO_ok h5, eqO_ok h6, of_decide_eq_true h7, of_decide_eq_true h8⟩
def catB (K : PySem.W.Frag) (T : Tab) (q : (Str × Str) × Bool) : Bool := (T.excs.lookup q.1.1).isSome && (!(q.1.2 == ("__debug__" : Str)) && (match PySem.W.nsIn K mainGlobals q.1.2 with
  | some (some cv) => decide (PySem.W.exmOne K (.ref (ga K q.1.1)) cv = some q.2)
  | _ => false))
def kitTB (K : PySem.W.Frag) (T : Tab) (q : (Str × Str) × Bool) : Bool := (T.excs.lookup q.1.1).isSome && (!(q.1.2 == ("__debug__" : Str)) && (excCB K (ga K q.1.1) && ((PySem.W.clsIn K (ga K q.1.1)).isSome && (match PySem.W.nsIn K mainGlobals q.1.2 with
  | some (some (.ref a)) => decide (PySem.W.kitOne K (.ref (ga K q.1.1)) (.ref a) = some q.2)
  | some none => (match bootBuiltins q.1.2 with
    | some (.type t) => decide (PySem.W.kitOne K (.ref (ga K q.1.1)) (.type t) = some q.2) && decide (q.1.2 ≠ "__name__")
    | _ => false)
  | _ => false))))
def tabB (P : Program) (K : PySem.W.Frag) (T : Tab) : Bool :=
  (T.gfn.all fun x => (Fa.glo x).ok K && (!isCl T x && decide (atOf T x = (x, none)))) &&
  ((T.cls.all fun c => (Fa.cls c).ok K) &&
  ((T.mks.all fun q => T.cls.contains q.1 && ((Fa.glo q.1).ok K && ((Fa.mkr q.1).ok K && (!isCl T q.2 && decide (atOf T q.2 = (q.1, some ("__init__" : Str))))))) &&
  ((T.mts.all fun q => T.cls.contains q.1.1 && ((Fa.meth q.1.1 q.1.2).ok K && (!isCl T q.2 && (decide (atOf T q.2 = (q.1.1, some q.1.2)) && ((!(q.1.2 == "__eq__") || neB K (ga K q.1.1)) && (!(q.1.2 == "__add__") || PySem.W.selfFirst K (ga K q.1.1))))))) &&
  ((T.flds.all fun q => T.cls.contains q.1 && (Fa.noat q.1 q.2).ok K) &&
  ((T.cons.all fun q => conB K T q) &&
  (noB K T && (noL K &&
  ((T.isc.all fun c => T.cls.contains c && instB K (ga K c)) && ((T.unl.all fun q => unlB K T q) && ((T.fns.all fun q => !isCl T q.1) && ((T.excs.all fun q => excB P K q.1 q.2) && ((T.bis.all fun q => bisB K q) && ((T.mts.all fun q => !(q.1.2 == "__call__") || calB K (ga K q.1.1) (fAd K (atOf T q.2))) && ((T.cat.all fun q => catB K T q) && ((T.kit.all fun q => kitTB K T q) && T.excs.all fun q => xfB K (ga K q.1) && eqO (PySem.W.findIn K (.ref (ga K q.1)) q.2) (some none))))))))))))))))
/-! ## the Hook -/
def obsL (P : Program) (T : Tab) (kwd : KwT) (K : PySem.W.Frag) : AlD := (tabB P K T && T.fns.all fun q => (defD T kwd q).ok K, (T.fns.map fun q => fnW K (atOf T q.1)) ++ T.xin.map fun q => fnXW K q.1)
def valL (T : Tab) (kwd : KwT) : AlD := (true, (T.fns.map fun q => (defD T kwd q).val) ++ T.xin.map fun q => valX q.1 q.2)
def SaysL (P : Program) (T : Tab) (kwd : KwT) (K : PySem.W.Frag) : Prop := obsL P T kwd K = valL T kwd
def obsLG (n : Nat) (P : Program) (T : Tab) (kwd : KwT) (g : Addr → Option Obj) : AlD := obsL P T kwd (frG g (asD g n ++ [cStatics]))
def hookL (n : Nat) (P : Program) (T : Tab) (kwd : KwT) : PySem.W.Hook where
  α := AlD
  obs := fun s => obsLG n P T kwd s.heap.get?
  val := fun _ => valL T kwd
  says := fun _ h => ∃ K : PySem.W.Frag, K.In h ∧ SaysL P T kwd K
  of := fun _ _ e => ⟨_, frG_in, e⟩
  keeps := fun _ _ _ ⟨K, hK, c⟩ k => ⟨K, PySem.W.Frag.In.keeps hK k, c⟩
theorem obsLG_eq {n : Nat} {P : Program} {T : Tab} {kwd : KwT} {g : Addr → Option Obj} {s : Shared} (h : ∀ a, g a = s.heap.get? a) : obsLG n P T kwd g = (hookL n P T kwd).obs s := by
  have e : g = s.heap.get? := funext h
  rw [e] <;> rfl
section
variable {P : Program} {T : Tab} {kwd : KwT} {K : PySem.W.Frag}
theorem SaysL.tab (c : SaysL P T kwd K) : tabB P K T = true := (ba (show (tabB P K T && T.fns.all fun q => (defD T kwd q).ok K) = true from congrArg (fun z : AlD => z.1) c)).1
theorem SaysL.two (c : SaysL P T kwd K) : T.fns.map (fun q => fnW K (atOf T q.1)) = T.fns.map (fun q => (defD T kwd q).val) ∧ T.xin.map (fun q => fnXW K q.1) = T.xin.map fun q => valX q.1 q.2 :=
  List.append_inj (congrArg (fun z : AlD => z.2) c) (by rw [List.length_map, List.length_map])
theorem SaysL.xi (c : SaysL P T kwd K) {q : Str × Stmt} (hq : q ∈ T.xin) : fnXW K q.1 = valX q.1 q.2 := by
  obtain ⟨i, hi⟩ := List.getElem?_of_mem hq
  have e2 : (T.xin.map fun q => fnXW K q.1)[i]? = (T.xin.map fun q => valX q.1 q.2)[i]? := by rw [(SaysL.two c).2]
  rw [List.getElem?_map, List.getElem?_map, hi] at e2
  exact Option.some.inj e2
theorem SaysL.fn (c : SaysL P T kwd K) {q : Str × FnI} (hq : q ∈ T.fns) : ∃ fd, FunD K q.2.nm q.2.qual (defArgs q.2.st) (defBody q.2.st) (defScope q.2.st) [] ((kwd q.1).map fun z => (z.1, z.2.v K)) (fAd K (atOf T q.1)) fd := by
  have c2 := (ba (show (tabB P K T && T.fns.all fun q => (defD T kwd q).ok K) = true from congrArg (fun z : AlD => z.1) c)).2
  have e : T.fns.map (fun q => fnW K (atOf T q.1)) = T.fns.map fun q => (defD T kwd q).val := (SaysL.two c).1
  obtain ⟨i, hi⟩ := List.getElem?_of_mem hq
  have e2 : (T.fns.map fun q => fnW K (atOf T q.1))[i]? = (T.fns.map fun q => (defD T kwd q).val)[i]? := by rw [e]
  rw [List.getElem?_map, List.getElem?_map, hi] at e2
  exact DefD.funD (d := defD T kwd q) (Option.some.inj e2) (List.all_eq_true.mp c2 q hq)
end
/-- scopes -/
def scB (T : Tab) : Bool := T.fns.all fun q => decide ((defScope q.2.st).kind = .function) && (!(defScope q.2.st).isCoroutine && (!(defScope q.2.st).isGenerator && (decide q.2.N.Nodup && (decide (q.2.N.take q.2.ps.length = q.2.ps) &&
  ((q.2.ps.all fun x => decide ((defScope q.2.st).names.lookup x = some .local) || decide ((defScope q.2.st).names.lookup x = some .cell)) && (defScope q.2.st).names.all fun y => decide (y.2 ≠ .free))))))
theorem scB_ok {T : Tab} (h : scB T = true) {q : Str × FnI} (hq : q ∈ T.fns) : FnScope q.2.N q.2.ps (defScope q.2.st) := by
  have h := List.all_eq_true.mp h q hq
  obtain ⟨h1, h⟩ := ba h
  obtain ⟨h2, h⟩ := ba h
  obtain ⟨h3, h⟩ := ba h
  obtain ⟨h4, h⟩ := ba h
  obtain ⟨h5, h⟩ := ba h
  obtain ⟨h6, h7⟩ := ba h
  refine ⟨of_decide_eq_true h1, by simpa using h2, by simpa using h3, of_decide_eq_true h4, of_decide_eq_true h5, fun x hx => ?_, fun y hy => of_decide_eq_true (List.all_eq_true.mp h7 y hy)⟩
  rcases Bool.or_eq_true_iff.mp (List.all_eq_true.mp h6 x hx) with a | a
  · exact .inl (of_decide_eq_true a)
  · exact .inr (of_decide_eq_true a)
/-- the own errors, each with the text of its __init__ -/
theorem xbk {a b : Bool} {f : Str} {st : Stmt} (h : a = b) (x : XB b f st) : XB a f st := h ▸ x
def XsB (T : Tab) : Prop := ∀ q ∈ T.excs, ∃ st, (q.1, st) ∈ T.xin ∧ XB (T.xkw.contains q.1) q.2 st
/-- all forms of call of the table -/
def PatsB (T : Tab) (kwd : KwT) : Prop := ∀ q ∈ T.fns, ∀ p ∈ q.2.pats, ∃ ms, PatB q.2 p ms ∧ ∀ K : PySem.W.Frag, ∀ z ∈ ms.zip (dflsOf p.arr), z ∈ (kwd q.1).map fun z => (z.1, z.2.v K)
section
variable {T : Tab} {kwd : KwT} {P : Program} {K : PySem.W.Frag} {mg : Str → Option Value} {h : Heap}
theorem tabS_of (c : SaysL P T kwd K) (sc : scB T = true) (pb : PatsB T kwd) (xb : XsB T) (X : K.In h) (G : h.Ns mainGlobals mg) : TabS T P K mg (CMk K T) := by
  have t := c.tab
  obtain ⟨t1, t⟩ := ba t
  obtain ⟨t2, t⟩ := ba t
  obtain ⟨t3, t⟩ := ba t
  obtain ⟨t4, t⟩ := ba t
  obtain ⟨t5, t⟩ := ba t
  obtain ⟨t6, t⟩ := ba t
  obtain ⟨t7, t⟩ := ba t
  obtain ⟨t8, t⟩ := ba t
  obtain ⟨t9, t⟩ := ba t
  obtain ⟨t10, t⟩ := ba t
  obtain ⟨t11, t⟩ := ba t
  obtain ⟨t12, t⟩ := ba t
  obtain ⟨t13, t⟩ := ba t
  obtain ⟨t14, t⟩ := ba t
  obtain ⟨t15, t⟩ := ba t
  obtain ⟨t16, t17⟩ := ba t
  have cmX : ∀ {x : Str}, (T.excs.lookup x).isSome = true → CMk K T x = some (ga K x) := fun {x} e => by unfold CMk isCl; rw [e]; simp
  have cmC : ∀ {x : Str}, T.cls.contains x = true → CMk K T x = some (ga K x) := fun {x} e => by unfold CMk isCl; rw [e]; rfl
  have cmF : ∀ {x : Str}, (!isCl T x) = true → CMk K T x = some (fAd K (atOf T x)) := fun {x} e => by unfold CMk; rw [show isCl T x = false by cases q : isCl T x <;> rw [q] at e <;> first | rfl | cases e]; rfl
  refine ⟨fun key i hi => ?_, fun x hx => ?_, fun x hx => ?_, fun x key hk => ?_, fun x m key hk => ?_, fun x key hk => ?_, fun x f hf => ?_, fun x d hd => ?_, fun x hx => ?_, fun x hx => ?_, fun x y hx => ?_, fun x f hx => ?_, fun x id hx => ?_, fun c x b hb => ?_, fun c x b hb => ?_, fun c f hf => ?_, fun x key hk => ?_, fun x key hk => ?_⟩
  · have hq := lookup_mem hi
    obtain ⟨fd, F⟩ := c.fn hq
    obtain ⟨oc, od, dV', kV, doc, pm, an, cdv, ct, osl, e1, lk, hcd, hD, hK⟩ := F.ex
    refine ⟨⟨_, fd, oc, od, dV', kV, doc, pm, an, cdv, ct, osl, cmF (List.all_eq_true.mp t11 _ hq), e1, lk, hcd, F.kp, fun p hp => ?_⟩, scB_ok sc hq⟩
    obtain ⟨ms, h1, h2⟩ := pb _ hq p hp
    exact pat_gen F h1 (h2 K)
  · obtain ⟨a, b⟩ := ba (List.all_eq_true.mp t1 x hx)
    obtain ⟨b, e⟩ := ba b
    exact ⟨_, cmF b, by rw [of_decide_eq_true e]; exact glo_ok X G a⟩
  · exact ⟨_, cmC (List.contains_iff_mem.mpr hx), cls_ok (List.all_eq_true.mp t2 x hx)⟩
  · obtain ⟨a, b⟩ := ba (List.all_eq_true.mp t3 _ (lookup_mem hk))
    obtain ⟨b, e⟩ := ba b
    obtain ⟨e, f⟩ := ba e
    obtain ⟨f, g⟩ := ba f
    exact ⟨_, _, cmC a, cmF f, glo_ok X G b, by rw [of_decide_eq_true g]; exact mkr_ok e⟩
  · obtain ⟨a, b⟩ := ba (List.all_eq_true.mp t4 _ (lookup_mem hk))
    obtain ⟨b, e⟩ := ba b
    obtain ⟨e, f⟩ := ba e
    obtain ⟨f, _⟩ := ba f
    exact ⟨_, _, cmC a, cmF e, by rw [of_decide_eq_true f]; exact meth_ok b⟩
  · obtain ⟨a, b⟩ := ba (List.all_eq_true.mp t4 _ (lookup_mem hk))
    obtain ⟨_, e⟩ := ba b
    obtain ⟨_, f⟩ := ba e
    obtain ⟨_, g⟩ := ba f
    obtain ⟨g, _⟩ := ba g
    rcases Bool.or_eq_true_iff.mp g with g | g
    · simp at g
    · obtain ⟨g1, g2⟩ := ba g
      exact ⟨_, cmC a, eqO_ok g1, of_decide_eq_true g2⟩
  · obtain ⟨a, b⟩ := ba (List.all_eq_true.mp t5 _ hf)
    exact ⟨_, cmC a, noat_ok b⟩
  · have a := List.all_eq_true.mp t6 _ (lookup_mem hd)
    unfold conB at a
    dsimp only at a
    cases q : PySem.W.nsIn K mainGlobals x with
    | none => rw [q] at a; cases a
    | some r =>
      rw [q] at a
      cases r with
      | none => cases a
      | some u =>
        obtain ⟨v, r1, r2, r3⟩ := relD_ok (show relD K T d u = true from a)
        exact ⟨v, u, PySem.W.mg_of X G q, r1, r2, r3⟩
  · exact PySem.W.mg_none_of X G (noB_ok t7 hx)
  · obtain ⟨a, b⟩ := ba (List.all_eq_true.mp t9 x hx)
    exact ⟨_, cmC a, instB_ok b⟩
  · obtain ⟨a, b⟩ := ba (List.all_eq_true.mp t10 _ hx)
    obtain ⟨b, e⟩ := ba b
    obtain ⟨e, f⟩ := ba e
    exact ⟨_, _, cmC a, cmC b, of_decide_eq_true e, of_decide_eq_true f⟩
  · obtain ⟨st, hst, B⟩ := xb _ (lookup_mem hx)
    obtain ⟨C, fI, fd, p, rfl, r⟩ := exc_of (List.all_eq_true.mp t12 _ (lookup_mem hx)) (c.xi hst) B X G
    exact ⟨_, fI, fd, p, by unfold CMk isCl; rw [hx]; simp, r⟩
  · have a := List.all_eq_true.mp t13 _ (lookup_mem hx)
    unfold bisB at a
    dsimp only at a
    split at a
    · rename_i id' q
      obtain rfl := eq_of_beq a
      exact PySem.W.mg_of X G q
    · cases a
  · obtain ⟨a1, a⟩ := ba (List.all_eq_true.mp t15 _ (lookup_mem hb))
    obtain ⟨a2, a3⟩ := ba a
    dsimp only at a1 a2 a3
    split at a3
    · rename_i cv q
      exact ⟨_, cv, cmX a1, by simpa using a2, PySem.W.mg_of X G q, of_decide_eq_true a3⟩
    · cases a3
  · obtain ⟨a1, a⟩ := ba (List.all_eq_true.mp t16 _ (lookup_mem hb))
    obtain ⟨a2, a⟩ := ba a
    obtain ⟨a3, a⟩ := ba a
    obtain ⟨a4, a5⟩ := ba a
    dsimp only at a1 a2 a3 a4 a5
    split at a5
    · rename_i ad q
      exact ⟨_, .ref ad, .ref ad, cmX a1, excCB_ok a3, a4, by simpa using a2, of_decide_eq_true a5, rfl, fun u hu => hu, .inl (PySem.W.mg_of X G q)⟩
    · rename_i q
      split at a5
      · rename_i t hbt
        obtain ⟨a5, a6⟩ := ba a5
        exact ⟨_, .type t, .ty t, cmX a1, excCB_ok a3, a4, by simpa using a2, of_decide_eq_true a5, rfl, fun u hu => hu, .inr ⟨PySem.W.mg_none_of X G q, hbt, of_decide_eq_true a6⟩⟩
      · cases a5
    · cases a5
  · obtain ⟨a1, a2⟩ := ba (List.all_eq_true.mp t17 _ (lookup_mem hf))
    exact ⟨_, cmX (by rw [hf]; rfl), xfB_ok a1, eqO_ok a2⟩
  · obtain ⟨a, b⟩ := ba (List.all_eq_true.mp t4 _ (lookup_mem hk))
    obtain ⟨_, e⟩ := ba b
    obtain ⟨e, _⟩ := ba e
    rcases Bool.or_eq_true_iff.mp (List.all_eq_true.mp t14 _ (lookup_mem hk)) with g | g
    · simp at g
    · obtain ⟨g1, g2⟩ := ba g
      obtain ⟨g2, g3⟩ := ba g2
      exact ⟨_, _, cmC a, cmF e, eqO_ok g1, g2, g3⟩
  · obtain ⟨a, b⟩ := ba (List.all_eq_true.mp t4 _ (lookup_mem hk))
    obtain ⟨_, e⟩ := ba b
    obtain ⟨_, f⟩ := ba e
    obtain ⟨_, g⟩ := ba f
    obtain ⟨_, g⟩ := ba g
    rcases Bool.or_eq_true_iff.mp g with g | g
    · simp at g
    · exact ⟨_, cmC a, g⟩
end
end LL
namespace LL
open PySem PySem.Spec PyProof.Rows L2 He
/-- the heap with the script alone -/
def ch0 (ns : List Int) : CH := CH.push ⟨0, .nil⟩ (.fz (ns.map .int))
theorem rvs_ints {K : PySem.W.Frag} {CM : Str → Option Addr} {ρ : List Addr} {H : Hp} : ∀ ns : List Int, RVs K CM ρ H (ns.map .int) (ns.map V.int)
  | [] => .nil
  | i :: r => .cons (.int i) (rvs_ints r)
theorem rh0 {K : PySem.W.Frag} {CM : Str → Option Addr} {H : Hp} {a : Addr} {o : Obj} {ns : List Int} (h : H a = some (.frz o (.lst (ns.map V.int)))) : RH K CM [a] (ch0 ns) H := by
  refine ⟨rfl, by simp, fun n b e => ?_⟩
  cases n with
  | zero =>
    simp at e
    subst e
    exact ⟨_, by unfold ch0; exact CH.get_push_self (ch := ⟨0, .nil⟩), .fz h (rvs_ints ns)⟩
  | succ n => simp at e
/-- what the law's def does at each script -/
def LawOk (f : Fn) : Prop := ∀ ns : List Int, ns.length ≤ 63 → ∃ ch, f [.ref 0] (ch0 ns) = .ok (.bl true) ch
theorem sp_law {K : PySem.W.Frag} {CM : Str → Option Addr} {f : Fn} (hL : LawOk f) (hn : noL K = true) {H : Hp} {a : Addr} {ns : List Int} (hl : ns.length ≤ 63) (hO : Only H) (hS : SqL K H a (ns.map V.int)) :
    spI K CM f [.ref a] H (fun v _ => v = .bl true) fun _ _ _ => False := by
  obtain ⟨ch, hc⟩ := hL ns hl
  have hf : ∃ o, H a = some (.frz o (.lst (ns.map V.int))) := by
    rcases hS with (h | ⟨o, h⟩) | ⟨o, its, n, h, hc, _⟩
    · rcases hO a with z | ⟨o, xs, z⟩
      · rw [z] at h; cases h
      · rw [z] at h; cases h
    · exact ⟨o, h⟩
    · exact absurd hc (noL_ok hn h)
  obtain ⟨o, hf⟩ := hf
  refine ⟨[a], [.ref 0], ch0 ns, .cons (.ref rfl) .nil, rh0 hf, ?_⟩
  rw [hc]
  intro ρ' H' b m k rh rv
  cases rv
  rfl
theorem cx_no {P : Program} {w : World} {H : Hp} {s s' : Shared} {e : Value} (h : L2.CX P w [] H s (fun _ _ _ => False) e s') : False := by
  obtain ⟨_, _, _, _, _, _, _, _, _, _, _, _, z⟩ := h
  exact z
/-- the law's def called at the top, where no repr is under way -/
theorem law_callG {P : Program} {w : World} {K : PySem.W.Frag} {mg mb : Str → Option Value} {k : Nat} {fa a : Addr} {fd : FuncData} {x : Str} {sp : Sp} {st : Shared} {vs : List Value} {ns : List Int}
    (kin : K.In st.heap) (nsG : st.heap.Ns mainGlobals mg) (nsB : st.heap.Ns builtinsNs mb) (hbb : ∀ x : Str, x ≠ "__name__" → mb x = bootBuiltins x) (nol : st.heap.NoLimit) (gens : st.gens = #[])
    (ga : st.heap.get? a = some { cls := .type "list", data := .seq vs.toArray }) (hints : IntsAre vs ns) (size : ns.length ≤ sizeLine) (room : Room k callerA) (hk : K.lookup a = none)
    (F : ∀ base : Heap, GnOk P w K mg base (L2.CX P w) k fa fd [x] sp) (bind : ∀ (s : Shared) (u : Value), BindsTo s fd ⟨[u], []⟩ [(x, u)])
    (hsp : ∀ H : Hp, Only H → SqL K H a (ns.map V.int) → sp [.ref a] H (fun v _ => v = .bl true) fun _ _ _ => False) :
    codeAny (model P w) callerA (.call (.ref fa) ⟨[.ref a], []⟩) (fun r s' => r = .ok (.ret (.bool true)) ∧ OldK st.heap s'.heap ∧ s'.os = st.os ∧ AllBare s'.gens) st := by
  have vals := vals_ints hints
  -- the script alone is told, as what stays
  let T : Hp := fun b => if b = a then some (.frz { cls := .type "list", data := .seq vs.toArray } (.lst (ns.map V.int))) else none
  have at_a : T a = some (.frz { cls := .type "list", data := .seq vs.toArray } (.lst (ns.map V.int))) := if_pos rfl
  have off_a : ∀ {b : Addr}, b ≠ a → T b = none := fun h => if_neg h
  have only : Only T := fun b => by
    by_cases e : b = a
    · exact .inr ⟨_, _, by rw [e]; exact at_a⟩
    · exact .inl (off_a e)
  have hok : HOk P w T st.heap := fun b u z => by
    by_cases e : b = a
    · subst e
      rw [at_a] at z
      cases z
      exact ⟨ga, by rw [List.length_map]; exact size, vs, _, vals, ga⟩
    · rw [off_a e] at z; cases z
  have below : ∀ {b : Addr} {o : Obj}, st.heap.get? b = some o → b ≠ a → (hidT st.heap T).get? b = some o := fun e n => hidT_get e (off_a n)
  have dicts : ∀ {b : Addr} {m : Str → Option Value}, st.heap.Ns b m → (hidT st.heap T).Ns b m := by
    rintro b m ⟨o, es, ep, e, d, r⟩
    refine ⟨o, es, ep, below e fun z => ?_, d, r⟩
    subst z
    rw [ga] at e
    cases e
    have z : Data.seq vs.toArray _ = Data.dict es ep := d
    cases z
  have inK : K.In (hidT st.heap T) := fun b o e => below (kin b o e) fun z => by rw [z, hk] at e; cases e
  have md : Mod K mg (hidT st.heap T) := ⟨inK, dicts nsG, ⟨mb, dicts nsB, hbb⟩, by obtain ⟨mc, h1, h2⟩ := nol; exact ⟨mc, dicts h1, h2⟩⟩
  have e0 : Env0 P w K mg (hidT st.heap T) callerA [] st T := ⟨rfl, md, fun b o e => of_hidT e, Nat.le_of_eq (hidT_size _ _), trivial, fun b z => absurd (show b ∈ ([] : List Addr) from z) (by simp), hok, .of_eq gens⟩
  refine codeAny_mono ((F _).go callerA [] st T ⟨[.ref a], []⟩ [.ref a] [.ref a] _ _ rfl room e0 (bind st (.ref a)) (.cons rfl .nil) (hsp T only (.inl (.inr ⟨_, at_a⟩)))) fun r s2 h => ?_
  cases r with
  | error e => exact (cx_no (P := P) (w := w) (H := T) (s := st) (s' := s2) (e := e) h).elim
  | ok fl =>
    cases fl with
    | next => exact h.elim
    | brk => exact h.elim
    | cont => exact h.elim
    | ret u =>
      obtain ⟨v, H2, os, bare, un, hok2, rv, q⟩ := h
      have q : v = .bl true := q
      subst q
      obtain rfl : u = Value.bool true := rv
      refine ⟨rfl, OldK.of_keep fun b o e => ?_, os, bare⟩
      by_cases z : b = a
      · subst z
        have l2 := un.frzs b _ _ at_a
        obtain ⟨e2, _⟩ := hok2 b _ l2
        rw [ga] at e
        cases e
        exact e2
      · exact un.keep b o e (off_a z) (by intro y; exact absurd (show b ∈ ([] : List Addr) from y) (by simp)) (by simp)
theorem callB_fd {T : Tab} {CM : Str → Option Addr} {R : Rc} {n : Nat} (S : Sound T CM R n) {prog : Program} {w : World} {K : PySem.W.Frag} {mg : Str → Option Value} {base : Heap} (tb : TabS T prog K mg CM) {key : Str} {i : FnI} (hi : T.fns.lookup key = some i)
    {f : Addr} {oc : Value} {od : Option Addr} {dV kV doc pm : Value} {an : Option Addr} {cdv ct : Value} {osl : Array (Option Value)}
    (lk : K.lookup f = some ⟨oc, od, .func (PySem.W.fnOf i.nm i.qual (defArgs i.st) (defBody i.st) (defScope i.st) dV kV doc pm an cdv ct), osl⟩) (hcd : PySem.W.codeIn K cdv i.qual = true) (sc : FnScope i.N i.ps (defScope i.st)) :
    GnOk prog w K mg base (L2.CX prog w) (n + 1) f (PySem.W.fnOf i.nm i.qual (defArgs i.st) (defBody i.st) (defScope i.st) dV kV doc pm an cdv ct) i.ps (spI K CM (callB T R key)) := by
  have hc : ∀ ds ch, callB T R key ds ch = if ds.length = i.ps.length then (match R.B ⟨i.N, defScope i.st, fun _ => true, true⟩ (defBody i.st) (startE i.N ds) ch with
    | .ok _ .nx c => .ok .non c
    | .ok _ (.rt d) c => .ok d c
    | .exc _ c fs h => .exc c fs h
    | _ => .bad) else .bad := fun ds ch => by unfold callB; rw [hi] <;> rfl
  refine gn_of lk hcd sc (fun vs H Q E h => ?_) (fun A outer s H vs Q E gd hr h => ?_)
  · obtain ⟨ρ, ds, ch, rv, rh, p⟩ := h
    rw [hc] at p
    split at p
    · rename_i hl; rw [← rv.length]; exact hl
    · exact p.elim
  · obtain ⟨ρ, ds, ch, rv, rh, p⟩ := h
    rw [hc] at p
    split at p
    · refine ⟨_, S.sB (cxOf (L2.CX prog w) prog w K mg base i.N i.qual (defScope i.st) f cdv A outer s H E) ⟨i.N, defScope i.st, fun _ => true, true⟩ (fun cls d _ H => E cls d H) ⟨rfl, rfl, sc.nd, rfl, sc.kind, hr, gd, takes_of rfl rfl rfl rfl, passes_of rfl, fun _ _ => .inl rfl, fun _ => ⟨rfl, rfl⟩, tb⟩ (defBody i.st), ?_⟩
      refine ⟨ρ, startE i.N ds, ch, rv |> RE.start, rh, ?_⟩
      generalize R.B ⟨i.N, defScope i.st, fun _ => true, true⟩ (defBody i.st) (startE i.N ds) ch = r at p
      cases r with
      | ok env fl c =>
        intro ρ' σ' H' m k re' rh'
        cases fl with
        | nx => exact p ρ' H' _ m k rh' .non
        | rt d => exact fun v hv => p ρ' H' v m k rh' hv
        | br => exact p.elim
        | ct => exact p.elim
      | exc env c fs h => exact fun ρ' σ' H' C dd vs m k _ rh' a b d => p ρ' H' C dd vs m k rh' a b d
      | bad => exact p.elim
    · exact p.elim
theorem callB_read {T : Tab} {F : FT} {cs : List Str} {L : List (Str × Fn)} {key : Str} {i : FnI} {f : Fn} (hi : T.fns.lookup key = some i) (hr : readFn T (mkH T cs L) key = some f) : callB T (ofC (cAt T (mkH T cs L) 60) F) key = f := by
  unfold readFn at hr
  simp only [hi] at hr
  cases hB : (cAt T (mkH T cs L) 60).B ⟨i.N, defScope i.st, fun _ => true, true⟩ (defBody i.st) with
  | none => rw [hB] at hr; cases hr
  | some b =>
    rw [hB] at hr
    cases hr
    funext ds ch
    unfold callB runFn startE
    simp only [hi, ofC, hB]
    all_goals
      generalize b (List.map some ds ++ List.replicate (i.N.length - ds.length) none) ch = r
      cases r with
      | ok env fl c => cases fl <;> rfl
      | exc env c fs h => rfl
      | bad => rfl
theorem walkL {l : PySem.W.OpenLaw} {q : Program} {loose : List Str} {XP : (Str → Option Value) → Heap → Prop} {d : DefRec} {T : Tab} {kwd : KwT} {N n : Nat} {F : FT} {f : Fn} {key x : Str} {i : FnI} {cs : List Str} {L : List (Str × Fn)} (hn : l.most = some 63) (hdf : d.params.defaults = []) (hd : d.name = key)
    (hi : T.fns.lookup key = some i) (hg : key ∈ T.gfn) (hps : i.ps = [x])
    (hb : ∀ (kV doc pm : Value) (an : Option Addr) (cdv ct : Value) (us : List Value), us.length = 1 → bindArgs (PySem.W.fnOf i.nm i.qual (defArgs i.st) (defBody i.st) (defScope i.st) .none kV doc pm an cdv ct) ⟨us, []⟩ = pure ([x].zip us))
    (sc : scB T = true) (pb : PatsB T kwd) (xb : XsB T) (hF : ∀ CM, SoundF T CM F n) (hbl : Below F L) (hf : readFn T (mkH T cs L) key = some f) (hN : Room (n + 1) callerA) (hL : LawOk f) (two : 2 ≤ n := by decide) : PySem.W.WalkO q loose XP (hookL N l.prog T kwd).says l.row.toRowW d [] (fun f vs => PySem.call f vs) := by
  refine _root_.Att.attach_call hn hdf fun w s₀ s₁ mg mb fa o pm cd doc a vs ns G Y ho hdd hcd hmg hobj hints hlen hg' => ?_
  obtain ⟨K, KX, c⟩ := Y
  have tb := tabS_of (P := l.prog) c sc pb xb KX G.T.g
  obtain ⟨fd0, FD⟩ := c.fn (lookup_mem hi)
  have hnl : noL K = true := by
    obtain ⟨_, t⟩ := ba c.tab
    obtain ⟨_, t⟩ := ba t
    obtain ⟨_, t⟩ := ba t
    obtain ⟨_, t⟩ := ba t
    obtain ⟨_, t⟩ := ba t
    obtain ⟨_, t⟩ := ba t
    obtain ⟨_, t⟩ := ba t
    exact (ba t).1
  have hglo : mg key = some (.ref (fAd K (atOf T key))) := by
    obtain ⟨t1, _⟩ := ba c.tab
    obtain ⟨a1, b1⟩ := ba (List.all_eq_true.mp t1 key hg)
    obtain ⟨_, e1⟩ := ba b1
    rw [of_decide_eq_true e1]
    exact glo_ok KX G.T.g a1
  obtain ⟨oc, od, dV', kV, doc', pm', an, cdv, ct, osl, e1, lk, hcd', hD, hK⟩ := FD.ex
  obtain rfl : dV' = .none := by
    rcases hD with ⟨_, e⟩ | ⟨e, _⟩
    · exact e
    · exact absurd rfl e
  have efa : fa = fAd K (atOf T key) := by
    rw [hd, hglo] at hmg
    exact (Value.ref.inj (Option.some.inj hmg)).symm
  subst efa
  subst e1
  have FO := fun base => callB_fd (cAt_ok (mkH_ok (cs := cs) hbl) (hF (CMk K T)) two 60) (prog := l.prog) (w := w) (base := base) tb hi lk hcd' (scB_ok sc (lookup_mem hi))
  have ef : callB T (ofC (cAt T (mkH T cs L) 60) F) key = f := callB_read hi hf
  rw [ef, hps] at FO
  have hka : K.lookup a = none := by
    cases q : K.lookup a with
    | none => rfl
    | some o =>
      exfalso
      have e := KX a o q
      rw [hobj] at e
      cases e
      exact noL_ok hnl q rfl
  exact law_callG KX G.T.g G.T.b G.T.builtins G.T.nolimit hg' hobj hints (Nat.le_trans hlen (by decide)) hN hka (fun base => FO base) (fun s u => .of_eq (hb kV doc' pm' an cdv ct [u] rfl)) (fun H hO hS => sp_law hL hnl hlen hO hS)
/-! lists, item by item -/
theorem memN {α : Type} {P : α → Prop} : ∀ q ∈ ([] : List α), P q := fun _ h => by cases h
theorem memC {α : Type} {P : α → Prop} {a : α} {r : List α} (h : P a) (t : ∀ q ∈ r, P q) : ∀ q ∈ a :: r, P q := fun q hq => by
  rcases List.mem_cons.mp hq with e | e
  · rw [e]; exact h
  · exact t q e
theorem patB0 {i : FnI} {p : Pat} (a : dflsOf p.arr = []) (b : ∀ (kV doc pm : Value) (an : Option Addr) (cdv ct : Value) (us ws : List Value), us.length = p.n → ws.length = p.ks.length →
      bindArgs (PySem.W.fnOf i.nm i.qual (defArgs i.st) (defBody i.st) (defScope i.st) .none kV doc pm an cdv ct) ⟨us, p.ks.zip ws⟩ = pure (i.ps.zip (arrG p.arr us [] ws))) : PatB i p [] := by
  unfold PatB; rw [if_pos rfl]; exact ⟨a, b⟩
theorem patBm {i : FnI} {p : Pat} {m : Str} {r : List Str} (a : (dflsOf p.arr).length = (m :: r).length) (b : ∀ (D : Addr) (doc pm : Value) (an : Option Addr) (cdv ct : Value) (us mv ws : List Value), us.length = p.n → mv.length = (m :: r).length → ws.length = p.ks.length →
      KwChain D ((m :: r).zip mv) (bindArgs (PySem.W.fnOf i.nm i.qual (defArgs i.st) (defBody i.st) (defScope i.st) .none (.ref D) doc pm an cdv ct) ⟨us, p.ks.zip ws⟩) (i.ps.zip (arrG p.arr us mv ws))) : PatB i p (m :: r) := by
  unfold PatB; rw [if_neg (fun h => by cases h)]; exact ⟨a, b⟩
def F0 : FT := fun _ _ _ => .bad
theorem sf0 (T : Tab) (CM : Str → Option Addr) : SoundF T CM F0 2 := sound0 T CM
/-- parameters told by their names alone -/
def namesA (pos kw : List Str) : Arguments := ⟨[], pos.map fun x => ⟨x, none, ⟨0, 0, 0, 0⟩⟩, none, kw.map fun x => ⟨x, none, ⟨0, 0, 0, 0⟩⟩, [], none, []⟩
theorem bind_names {nm qual nm2 : Str} {A A2 : Arguments} {body body2 : List Stmt} {sc sc2 : Scope} {dV kV doc pm cdv ct : Value} {an : Option Addr} {args : Args}
    (h1 : A.posonlyargs.map (·.arg) = A2.posonlyargs.map (·.arg)) (h2 : A.args.map (·.arg) = A2.args.map (·.arg)) (h3 : A.kwonlyargs.map (·.arg) = A2.kwonlyargs.map (·.arg)) (h4 : A.vararg = A2.vararg) (h5 : A.kwarg = A2.kwarg) :
    bindArgs (PySem.W.fnOf nm qual A body sc dV kV doc pm an cdv ct) args = bindArgs (PySem.W.fnOf nm2 qual A2 body2 sc2 dV kV doc pm an cdv ct) args := by
  unfold bindArgs
  simp only [PySem.W.fnOf, h1, h2, h3, h4, h5]
end LL
namespace LL
open PySem L2
/-! ## running closures symbolically: what a run ends in, continuations kept shut -/
abbrev XR := Str → List (Str × D) → CH → Prop
abbrev XS := En → XR
def wR {α : Type} (r : Rs α) (X : XR) (Q : α → CH → Prop) : Prop := match r with
  | .ok a c => Q a c
  | .exc c fs h => X c fs h
  | .bad => False
def wS (r : RsS) (X : XS) (Q : En → Fl → CH → Prop) : Prop := match r with
  | .ok e f c => Q e f c
  | .exc e c fs h => X e c fs h
  | .bad => False
def kBd {α β : Type} (f : α → CH → Rs β) (X : XR) (Q : β → CH → Prop) : α → CH → Prop := fun a c => wR (f a c) X Q
def kL {α : Type} (f : α → CH → RsS) (X : XS) (Q : En → Fl → CH → Prop) : α → CH → Prop := fun a c => wS (f a c) X Q
def kSeq (b : CB) (X : XS) (Q : En → Fl → CH → Prop) : En → Fl → CH → Prop := fun e f c => match f with
  | .nx => wS (b e c) X Q
  | f => Q e f c
def kIf {α : Type} (a b : CH → Rs α) (X : XR) (Q : α → CH → Prop) (q : Bool) (c : CH) : Prop := if q = true then wR (a c) X Q else wR (b c) X Q
def kIfS (a b : CH → RsS) (X : XS) (Q : En → Fl → CH → Prop) (q : Bool) (c : CH) : Prop := if q = true then wS (a c) X Q else wS (b c) X Q
def kOf {α β : Type} (o : Option α) (f : α → Rs β) (X : XR) (Q : β → CH → Prop) : Prop := match o with
  | some a => wR (f a) X Q
  | none => False
theorem nr {α : Sort _} {a b : α} (h : a = b) : a = b := h
variable {α β : Type} {X : XR} {XX : XS}
@[simp] theorem wR_ok {a : α} {c : CH} {Q : α → CH → Prop} : wR (.ok a c) X Q = Q a c := nr rfl
@[simp] theorem wR_exc {c : Str} {fs : List (Str × D)} {h : CH} {Q : α → CH → Prop} : wR (.exc c fs h) X Q = X c fs h := nr rfl
@[simp] theorem wR_bad {Q : α → CH → Prop} : wR .bad X Q = False := nr rfl
@[simp] theorem wS_ok {e : En} {f : Fl} {c : CH} {Q : En → Fl → CH → Prop} : wS (.ok e f c) XX Q = Q e f c := nr rfl
@[simp] theorem wS_exc {e : En} {c : Str} {fs : List (Str × D)} {h : CH} {Q : En → Fl → CH → Prop} : wS (.exc e c fs h) XX Q = XX e c fs h := nr rfl
@[simp] theorem wS_bad {Q : En → Fl → CH → Prop} : wS .bad XX Q = False := nr rfl
@[simp] theorem kBd_eq {f : α → CH → Rs β} {Q : β → CH → Prop} {a : α} {c : CH} : kBd f X Q a c = wR (f a c) X Q := nr rfl
@[simp] theorem kL_eq {f : α → CH → RsS} {Q : En → Fl → CH → Prop} {a : α} {c : CH} : kL f XX Q a c = wS (f a c) XX Q := nr rfl
@[simp] theorem kSeq_nx {b : CB} {Q : En → Fl → CH → Prop} {e : En} {c : CH} : kSeq b XX Q e .nx c = wS (b e c) XX Q := nr rfl
@[simp] theorem kSeq_br {b : CB} {Q : En → Fl → CH → Prop} {e : En} {c : CH} : kSeq b XX Q e .br c = Q e .br c := nr rfl
@[simp] theorem kSeq_ct {b : CB} {Q : En → Fl → CH → Prop} {e : En} {c : CH} : kSeq b XX Q e .ct c = Q e .ct c := nr rfl
@[simp] theorem kSeq_rt {b : CB} {Q : En → Fl → CH → Prop} {e : En} {d : D} {c : CH} : kSeq b XX Q e (.rt d) c = Q e (.rt d) c := nr rfl
@[simp] theorem kIf_t {a b : CH → Rs α} {Q : α → CH → Prop} {c : CH} : kIf a b X Q true c = wR (a c) X Q := nr rfl
@[simp] theorem kIf_f {a b : CH → Rs α} {Q : α → CH → Prop} {c : CH} : kIf a b X Q false c = wR (b c) X Q := nr rfl
@[simp] theorem kIfS_t {a b : CH → RsS} {Q : En → Fl → CH → Prop} {c : CH} : kIfS a b XX Q true c = wS (a c) XX Q := nr rfl
@[simp] theorem kIfS_f {a b : CH → RsS} {Q : En → Fl → CH → Prop} {c : CH} : kIfS a b XX Q false c = wS (b c) XX Q := nr rfl
@[simp] theorem kOf_s {a : α} {f : α → Rs β} {Q : β → CH → Prop} : kOf (some a) f X Q = wR (f a) X Q := nr rfl
@[simp] theorem kOf_n {f : α → Rs β} {Q : β → CH → Prop} : kOf none f X Q = False := nr rfl
@[simp] theorem wR_bind {r : Rs α} {f : α → CH → Rs β} {Q : β → CH → Prop} : wR (r.bind f) X Q = wR r X (kBd f X Q) := by cases r <;> rfl
@[simp] theorem wS_lift {env : En} {r : Rs α} {k : α → CH → RsS} {Q : En → Fl → CH → Prop} : wS (lift env r k) XX Q = wR r (XX env) (kL k XX Q) := by cases r <;> rfl
@[simp] theorem wS_liftG {r : Rs α} {k : α → CH → RsS} {Q : En → Fl → CH → Prop} : wS (liftG r k) XX Q = wR r (fun _ _ _ => False) (kL k XX Q) := by cases r <;> rfl
theorem wR_mono {r : Rs α} {X X' : XR} {Q Q' : α → CH → Prop} (h : wR r X Q) (i : ∀ a c, Q a c → Q' a c) (x : ∀ c fs h, X c fs h → X' c fs h) : wR r X' Q' := by
  cases r with
  | ok a c => exact i _ _ h
  | exc c fs hh => exact x _ _ _ h
  | bad => exact h
/-- a call whose promise is known -/
theorem wR_of {r : Rs α} {Q Q' : α → CH → Prop} (h : wR r (fun _ _ _ => False) Q') (i : ∀ a c, Q' a c → Q a c) : wR r X Q := wR_mono h i fun _ _ _ h => h.elim
theorem wS_mono {r : RsS} {X X' : XS} {Q Q' : En → Fl → CH → Prop} (h : wS r X Q) (i : ∀ e f c, Q e f c → Q' e f c) (x : ∀ e c fs h, X e c fs h → X' e c fs h) : wS r X' Q' := by
  cases r with
  | ok e f c => exact i _ _ _ h
  | exc e c fs hh => exact x _ _ _ _ h
  | bad => exact h
theorem wS_of {r : RsS} {Q Q' : En → Fl → CH → Prop} (h : wS r (fun _ _ _ _ => False) Q') (i : ∀ e f c, Q' e f c → Q e f c) : wS r XX Q := wS_mono h i fun _ _ _ _ h => h.elim
/-! ### heaps -/
@[simp] theorem get_push' (ch : CH) (co : CO) (n : Nat) : (ch.push co).get n = if n = ch.sz then some co else ch.get n := CH.get_push ch co n
theorem get_put' {ch : CH} {co : CO} {n m : Nat} (h : n < ch.sz) : (ch.put n co).get m = if m = n then some co else ch.get m := CH.get_put ch co n m h
/-! ### expressions -/
@[simp] theorem w_var {i : Nat} {env : En} {ch : CH} {Q : D → CH → Prop} : wR (cVar i env ch) X Q = (match env[i]? with | some (some d) => Q d ch | _ => False) := by
  unfold cVar; split <;> simp_all
@[simp] theorem w_con {d : D} {env : En} {ch : CH} {Q : D → CH → Prop} : wR (cCon d env ch) X Q = Q d ch := nr rfl
@[simp] theorem w_bin {op : Operator} {a b : CE} {env : En} {ch : CH} {Q : D → CH → Prop} : wR (cBin op a b env ch) X Q = wR (a env ch) X (kBd (fun x c => (b env c).bind fun y c => bin op x y c) X Q) := wR_bind
@[simp] theorem w_add {ms : MT} {a b : CE} {env : En} {ch : CH} {Q : D → CH → Prop} : wR (cAdd ms a b env ch) X Q = wR (a env ch) X (kBd (fun x c => (b env c).bind fun y c => addH ms x y c) X Q) := wR_bind
@[simp] theorem w_cmp {ms : MT} {op : CmpOp} {a b : CE} {env : En} {ch : CH} {Q : D → CH → Prop} : wR (cCmp ms op a b env ch) X Q = wR (a env ch) X (kBd (fun x c => (b env c).bind fun y c => cmpH ms op x y c) X Q) := wR_bind
@[simp] theorem w_cmp2 {ms : MT} {op op' : CmpOp} {a b e : CE} {env : En} {ch : CH} {Q : D → CH → Prop} : wR (cCmp2 ms op op' a b e env ch) X Q = wR (a env ch) X (kBd (fun x c => (b env c).bind fun y c => (cmpH ms op x y c).bind fun d c => (match d with
  | .bl true => (e env c).bind fun z c => cmpH ms op' y z c
  | .bl false => .ok (.bl false) c
  | _ => .bad)) X Q) := wR_bind
@[simp] theorem w_ix {ms : MT} {a b : CE} {env : En} {ch : CH} {Q : D → CH → Prop} : wR (cIx ms a b env ch) X Q = wR (a env ch) X (kBd (fun x c => (b env c).bind fun y c => ixH ms x y c) X Q) := wR_bind
@[simp] theorem w_es0 {env : En} {ch : CH} {Q : List D → CH → Prop} : wR (runEs [] env ch) X Q = Q [] ch := nr rfl
@[simp] theorem w_es1 {e : CE} {es : List CE} {env : En} {ch : CH} {Q : List D → CH → Prop} : wR (runEs (e :: es) env ch) X Q = wR (e env ch) X (kBd (fun d c => (runEs es env c).bind fun ds c => .ok (d :: ds) c) X Q) := wR_bind
@[simp] theorem w_not {a : CE} {env : En} {ch : CH} {Q : D → CH → Prop} : wR (cNot a env ch) X Q = wR (a env ch) X (kBd (fun d c => (tr d c).bind fun b c => .ok (.bl (!b)) c) X Q) := wR_bind
@[simp] theorem w_neg {a : CE} {env : En} {ch : CH} {Q : D → CH → Prop} : wR (cNeg a env ch) X Q = wR (a env ch) X (kBd (fun d c => match d with | .int i => .ok (.int (-i)) c | _ => .bad) X Q) := wR_bind
@[simp] theorem w_if {t : CQ} {a b : CE} {env : En} {ch : CH} {Q : D → CH → Prop} : wR (cIf t a b env ch) X Q = wR (t env ch) X (kIf (a env) (b env) X Q) := by
  show wR (Rs.bind _ _) X Q = _
  rw [wR_bind]
  congr 1
  funext q c
  cases q <;> rfl
@[simp] theorem w_tup {es : List CE} {env : En} {ch : CH} {Q : D → CH → Prop} : wR (cTup es env ch) X Q = wR (runEs es env ch) X (kBd (fun ds c => if ds.length ≤ 16777216 then .ok (.tup ds) c else .bad) X Q) := wR_bind
@[simp] theorem w_lst {es : List CE} {env : En} {ch : CH} {Q : D → CH → Prop} : wR (cLst es env ch) X Q = wR (runEs es env ch) X (kBd (fun ds c => if ds.length ≤ 16777216 then .ok (.ref c.sz) (c.push (.lst ds)) else .bad) X Q) := wR_bind
@[simp] theorem w_fld {cs : List Str} {f : Str} {a : CE} {env : En} {ch : CH} {Q : D → CH → Prop} : wR (cFld cs f a env ch) X Q = wR (a env ch) X (kBd (fun d c => fldH cs f d c) X Q) := wR_bind
@[simp] theorem w_len {ms : MT} {es : List CE} {env : En} {ch : CH} {Q : D → CH → Prop} : wR (cLen ms es env ch) X Q = wR (runEs es env ch) X (kBd (fun ds c => biH ms [] [] "len" ds c) X Q) := wR_bind
@[simp] theorem w_isi {isc : List Str} {unl : List (Str × Str)} {es : List CE} {env : En} {ch : CH} {Q : D → CH → Prop} : wR (cIsI isc unl es env ch) X Q = wR (runEs es env ch) X (kBd (fun ds c => biH [] isc unl "isinstance" ds c) X Q) := wR_bind
@[simp] theorem w_bi {id : String} {es : List CE} {env : En} {ch : CH} {Q : D → CH → Prop} : wR (cBi id es env ch) X Q = wR (runEs es env ch) X (kBd (fun ds c => bi id ds c) X Q) := wR_bind
@[simp] theorem w_ty {t : String} {es : List CE} {env : En} {ch : CH} {Q : D → CH → Prop} : wR (cTy t es env ch) X Q = wR (runEs es env ch) X (kBd (fun ds c => bty t ds c) X Q) := wR_bind
@[simp] theorem w_fn {f : Fn} {p : Pat} {es zs : List CE} {env : En} {ch : CH} {Q : D → CH → Prop} : wR (cFn f p es zs env ch) X Q = wR (runEs es env ch) X (kBd (fun ds c => (runEs zs env c).bind fun us c => callQ f p ds us c) X Q) := wR_bind
@[simp] theorem w_mk {cl : Str} {f : Fn} {p : Pat} {es zs : List CE} {env : En} {ch : CH} {Q : D → CH → Prop} : wR (cMk cl f p es zs env ch) X Q = wR (runEs es env ch) X (kBd (fun ds c => (runEs zs env c).bind fun us ch => (callQ f p (.ref ch.sz :: ds) us (ch.push (.ins cl []))).bind fun d c2 => match d with
  | .non => .ok (.ref ch.sz) c2
  | _ => .bad) X Q) := wR_bind
@[simp] theorem w_dict0 {env : En} {ch : CH} {Q : D → CH → Prop} : wR (cDict0 env ch) X Q = Q (.ref ch.sz) (ch.push (.dk [])) := nr rfl
@[simp] theorem w_dictT0 {env : En} {ch : CH} {Q : D → CH → Prop} : wR (cDictT0 env ch) X Q = Q (.ref ch.sz) (ch.push (.dt [])) := nr rfl
@[simp] theorem w_back {a : CE} {env : En} {ch : CH} {Q : D → CH → Prop} : wR (cBack a env ch) X Q = wR (a env ch) X (kBd back X Q) := wR_bind
@[simp] theorem w_ss {a : CE} {env : En} {ch : CH} {Q : D → CH → Prop} : wR (cSs a env ch) X Q = wR (a env ch) X (kBd (fun x c => srt x c) X Q) := wR_bind
@[simp] theorem w_bg {id : String} {es : List CE} {env : En} {ch : CH} {Q : D → CH → Prop} : wR (cBg id es env ch) X Q = wR (runEs es env ch) X (kBd (fun ds c => biG id ds c) X Q) := wR_bind
@[simp] theorem w_cal {ms : MT} {i : Nat} {es : List CE} {env : En} {ch : CH} {Q : D → CH → Prop} : wR (cCal ms i es env ch) X Q = wR (cVar i env ch) X (kBd (fun d c => calK ms es env d c) X Q) := wR_bind
@[simp] theorem w_calK {ms : MT} {k : Nat} {es : List CE} {env : En} {c : CH} {Q : D → CH → Prop} : wR (calK ms es env (.ref k) c) X Q = wR (runEs es env c) X (kBd (fun ds c => calO ms (.ref k) ds c) X Q) := wR_bind
@[simp] theorem biG_gcd {a b : Int} {c : CH} : biG "math.gcd" [.int a, .int b] c = .ok (.int (Nat.gcd a.natAbs b.natAbs : Nat)) c := rfl
@[simp] theorem w_tix {ts : List D} {es : List CE} {env : En} {ch : CH} {Q : D → CH → Prop} : wR (cTix ts es env ch) X Q = wR (runEs es env ch) X (kBd (fun ds c => tixR ts ds c) X Q) := wR_bind
/-- the method found, its arguments -/
def methK (ms : MT) (m : Str) (lid : Option String) (ks : List Str) (es zs : List CE) (env : En) (d : D) (c : CH) : Rs D := match insOf d c with
  | some (cl, fs) => (match methH ms m cl fs with
    | some mi => (match mi.pats.find? (fun p => decide (p.n = es.length + 1 ∧ p.ks = ks)) with
      | some p => (runEs es env c).bind fun ds c => (runEs zs env c).bind fun us c => callQ mi.f p (d :: ds) us c
      | none => .bad)
    | none => .bad)
  | none => if isLst d c = true then (match lid with
    | some id => (runEs es env c).bind fun ds c => lmR id d ds c
    | none => .bad) else .bad
@[simp] theorem w_meth {ms : MT} {m : Str} {lid : Option String} {ks : List Str} {o : CE} {es zs : List CE} {env : En} {ch : CH} {Q : D → CH → Prop} : wR (cMeth ms m lid ks o es zs env ch) X Q = wR (o env ch) X (kBd (fun d c => methK ms m lid ks es zs env d c) X Q) := wR_bind
/-! and, or as values -/
@[simp] theorem w_bool1 {op : BoolOp} {e : CE} {env : En} {ch : CH} {Q : D → CH → Prop} : wR (cBool op [e] env ch) X Q = wR (e env ch) X Q := by cases op <;> rfl
@[simp] theorem w_band {e e2 : CE} {es : List CE} {env : En} {ch : CH} {Q : D → CH → Prop} : wR (cBool .And (e :: e2 :: es) env ch) X Q = wR (e env ch) X (kBd (fun d c => (tr d c).bind fun b c => if b = true then cBool .And (e2 :: es) env c else .ok d c) X Q) := by
  show wR (Rs.bind _ _) X Q = _
  rw [wR_bind]
  congr 1
  funext d c
  show wR (Rs.bind _ _) X Q = wR (Rs.bind _ _) X Q
  congr 2
  funext b c
  cases b <;> rfl
@[simp] theorem w_bor {e e2 : CE} {es : List CE} {env : En} {ch : CH} {Q : D → CH → Prop} : wR (cBool .Or (e :: e2 :: es) env ch) X Q = wR (e env ch) X (kBd (fun d c => (tr d c).bind fun b c => if b = true then .ok d c else cBool .Or (e2 :: es) env c) X Q) := by
  show wR (Rs.bind _ _) X Q = _
  rw [wR_bind]
  congr 1
  funext d c
  show wR (Rs.bind _ _) X Q = wR (Rs.bind _ _) X Q
  congr 2
  funext b c
  cases b <;> rfl
@[simp] theorem w_lrg {a b : CE} {env : En} {ch : CH} {Q : D → CH → Prop} : wR (cLrg a b env ch) X Q = wR (a env ch) X (kBd (fun x c => (b env c).bind fun y c => lrg x y c) X Q) := wR_bind
@[simp] theorem w_lrg1 {a : CE} {env : En} {ch : CH} {Q : D → CH → Prop} : wR (cLrg1 a env ch) X Q = wR (a env ch) X (kBd (fun y c => lrg (.int 0) y c) X Q) := wR_bind
theorem lrg_ii {i j : Int} {c : CH} (h : -8000000 ≤ i ∧ i ≤ 8000000 ∧ -8000000 ≤ j ∧ j ≤ 8000000) : lrg (.int i) (.int j) c = .ok (.ref c.sz) (c.push (.lst ((List.range (j - i).toNat).map fun (k : Nat) => .int (i + (k : Int))))) := by
  unfold lrg; dsimp only; rw [if_pos h]
theorem b_rep {n : Nat} {k : Int} {ds : List D} {c : CH} (h : c.get n = some (.lst ds)) (hk : -1000000 ≤ k ∧ k ≤ 1000000 ∧ ds.length * k.toNat ≤ 16777216) : bin .Mult (.ref n) (.int k) c = .ok (.ref c.sz) (c.push (.lst (List.replicate k.toNat ds).flatten)) := by
  simp [bin, h, hk]
/-! tests -/
@[simp] theorem w_qnot {a : CQ} {env : En} {ch : CH} {Q : Bool → CH → Prop} : wR (qNot a env ch) X Q = wR (a env ch) X (kBd (fun b c => .ok (!b) c) X Q) := wR_bind
@[simp] theorem w_qval {a : CE} {env : En} {ch : CH} {Q : Bool → CH → Prop} : wR (qVal a env ch) X Q = wR (a env ch) X (kBd (fun d c => tr d c) X Q) := wR_bind
@[simp] theorem w_qcmp {ms : MT} {op : CmpOp} {a b : CE} {env : En} {ch : CH} {Q : Bool → CH → Prop} : wR (qCmp ms op a b env ch) X Q = wR (a env ch) X (kBd (fun x c => (b env c).bind fun y c => (cmpH ms op x y c).bind fun d c => match d with | .bl k => .ok k c | _ => .bad) X Q) := wR_bind
@[simp] theorem w_qall0 {op : BoolOp} {env : En} {ch : CH} {Q : Bool → CH → Prop} : wR (qAll op [] env ch) X Q = Q (op == .And) ch := nr rfl
@[simp] theorem w_qand {e : CQ} {es : List CQ} {env : En} {ch : CH} {Q : Bool → CH → Prop} : wR (qAll .And (e :: es) env ch) X Q = wR (e env ch) X (kIf (qAll .And es env) (fun c => .ok false c) X Q) := by
  show wR (Rs.bind _ _) X Q = _
  rw [wR_bind]
  congr 1
  funext q c
  cases q <;> rfl
@[simp] theorem w_qor {e : CQ} {es : List CQ} {env : En} {ch : CH} {Q : Bool → CH → Prop} : wR (qAll .Or (e :: es) env ch) X Q = wR (e env ch) X (kIf (fun c => .ok true c) (qAll .Or es env) X Q) := by
  show wR (Rs.bind _ _) X Q = _
  rw [wR_bind]
  congr 1
  funext q c
  cases q <;> rfl
/-! what is walked -/
def fRng1 : D → CH → Rs Itm := fun d c => match d with | .int j => rng 0 j c | _ => .bad
def fRng2 : List D → CH → Rs Itm := fun ds c => match ds with | [.int i, .int j] => rng i j c | _ => .bad
@[simp] theorem fRng1_int {j : Int} {c : CH} : fRng1 (.int j) c = rng 0 j c := nr rfl
@[simp] theorem fRng2_int {i j : Int} {c : CH} : fRng2 [.int i, .int j] c = rng i j c := nr rfl
@[simp] theorem w_rng1 {a : CE} {env : En} {ch : CH} {Q : Itm → CH → Prop} : wR (iRng1 a env ch) X Q = wR (a env ch) X (kBd fRng1 X Q) := wR_bind
@[simp] theorem w_rng2 {a b : CE} {env : En} {ch : CH} {Q : Itm → CH → Prop} : wR (iRng2 a b env ch) X Q = wR (runEs [a, b] env ch) X (kBd fRng2 X Q) := wR_bind
@[simp] theorem w_ien {a : CE} {env : En} {ch : CH} {Q : Itm → CH → Prop} : wR (iEn a env ch) X Q = wR (a env ch) X (kBd enumW X Q) := wR_bind
@[simp] theorem w_izip {a b : CE} {env : En} {ch : CH} {Q : Itm → CH → Prop} : wR (iZip a b env ch) X Q = wR (runEs [a, b] env ch) X (kBd zipW X Q) := wR_bind
@[simp] theorem w_ival {a : CE} {env : En} {ch : CH} {Q : Itm → CH → Prop} : wR (iVal a env ch) X Q = wR (a env ch) X (kBd walkD X Q) := wR_bind
/-! targets -/
@[simp] theorem w_gset {i : Nat} {d : D} {env : En} {ch : CH} {Q : En → CH → Prop} : wR (gSet i d env ch) X Q = Q (env.set i (some d)) ch := nr rfl
@[simp] theorem w_gs0 {env : En} {ch : CH} {Q : En → CH → Prop} : wR (runGs [] [] env ch) X Q = Q env ch := nr rfl
@[simp] theorem w_gs1 {e : CG} {es : List CG} {d : D} {ds : List D} {env : En} {ch : CH} {Q : En → CH → Prop} : wR (runGs (e :: es) (d :: ds) env ch) X Q = wR (e d env ch) X (kBd (fun env c => runGs es ds env c) X Q) := wR_bind
@[simp] theorem w_gtup {gs : List CG} {ds : List D} {env : En} {ch : CH} {Q : En → CH → Prop} : wR (gTup gs (.tup ds) env ch) X Q = if ds.length = gs.length then wR (runGs gs ds env ch) X Q else False := by
  unfold gTup itemsOf
  dsimp only
  split <;> rfl
@[simp] theorem w_gix {o i : CE} {d : D} {env : En} {ch : CH} {Q : En → CH → Prop} : wR (gIx o i d env ch) X Q = wR (o env ch) X (kBd (fun od c => (i env c).bind fun id c => (setIx od id d c).bind fun _ c => .ok env c) X Q) := wR_bind
/-! statements -/
@[simp] theorem s_skip {env : En} {ch : CH} {Q : En → Fl → CH → Prop} : wS (sSkip env ch) XX Q = Q env .nx ch := nr rfl
@[simp] theorem s_bad {env : En} {ch : CH} {Q : En → Fl → CH → Prop} : wS (sBad env ch) XX Q = False := nr rfl
@[simp] theorem s_seq {a b : CB} {env : En} {ch : CH} {Q : En → Fl → CH → Prop} : wS (sSeq a b env ch) XX Q = wS (a env ch) XX (kSeq b XX Q) := by
  unfold sSeq
  cases a env ch with
  | ok e f c => cases f <;> rfl
  | exc _ _ _ _ => rfl
  | bad => rfl
@[simp] theorem s_expr {e : CE} {env : En} {ch : CH} {Q : En → Fl → CH → Prop} : wS (sExpr e env ch) XX Q = wR (e env ch) (XX env) (kL (fun _ c => .ok env .nx c) XX Q) := wS_lift
@[simp] theorem s_asg {g : CG} {e : CE} {env : En} {ch : CH} {Q : En → Fl → CH → Prop} : wS (sAsg g e env ch) XX Q = wR (e env ch) (XX env) (kL (fun d c => liftG (g d env c) fun env c => .ok env .nx c) XX Q) := wS_lift
@[simp] theorem s_fld {cs : List Str} {f : Str} {o e : CE} {env : En} {ch : CH} {Q : En → Fl → CH → Prop} : wS (sFld cs f o e env ch) XX Q = wR (e env ch) (XX env) (kL (fun v c => lift env (o env c) fun d c => (match putFldH cs f d v c with
  | some c => .ok env .nx c
  | none => .bad)) XX Q) := wS_lift
@[simp] theorem s_par2 {i j : Nat} {a b : CE} {env : En} {ch : CH} {Q : En → Fl → CH → Prop} : wS (sPar2 i j a b env ch) XX Q = wR (runEs [a, b] env ch) (XX env) (kL (fun ds c => (match ds with
  | [d, e] => .ok ((env.set i (some d)).set j (some e)) .nx c
  | _ => .bad)) XX Q) := wS_lift
@[simp] theorem s_par3 {i j l : Nat} {a b g : CE} {env : En} {ch : CH} {Q : En → Fl → CH → Prop} : wS (sPar3 i j l a b g env ch) XX Q = wR (runEs [a, b, g] env ch) (XX env) (kL (fun ds c => (match ds with
  | [d, e, f] => .ok (((env.set i (some d)).set j (some e)).set l (some f)) .nx c
  | _ => .bad)) XX Q) := wS_lift
@[simp] theorem s_if {t : CQ} {a b : CB} {env : En} {ch : CH} {Q : En → Fl → CH → Prop} : wS (sIf t a b env ch) XX Q = wR (t env ch) (XX env) (kIfS (a env) (b env) XX Q) := by
  show wS (lift _ _ _) XX Q = _
  rw [wS_lift]
  congr 1
  funext q c
  cases q <;> rfl
@[simp] theorem s_for {g : CG} {it : CI} {body : CB} {env : En} {ch : CH} {Q : En → Fl → CH → Prop} : wS (sFor g it body env ch) XX Q = wR (it env ch) (XX env) (kL (fun w c => forC g body (okW w) w.ds env c) XX Q) := wS_lift
@[simp] theorem s_ret {e : CE} {env : En} {ch : CH} {Q : En → Fl → CH → Prop} : wS (sRet e env ch) XX Q = wR (e env ch) (XX env) (kL (fun d c => .ok env (.rt d) c) XX Q) := wS_lift
@[simp] theorem s_retN {env : En} {ch : CH} {Q : En → Fl → CH → Prop} : wS (sRetN env ch) XX Q = Q env (.rt .non) ch := nr rfl
theorem s_try {cat : List ((Str × Str) × Bool)} {exs : List (Str × Str)} {kit : List ((Str × Str) × Bool)} {hds : List Hd} {b : CB} {env : En} {ch : CH} {Q : En → Fl → CH → Prop} : wS (sTry cat exs kit hds b env ch) XX Q = wS (b env ch) (fun e c fs h => wS (catE cat exs kit c fs e h hds) XX Q) Q := by
  unfold sTry
  cases b env ch <;> rfl
@[simp] theorem s_raise {x f : Str} {e : CE} {env : En} {ch : CH} {Q : En → Fl → CH → Prop} : wS (sRaise x f e env ch) XX Q = wR (e env ch) (XX env) (kL (fun d c => .exc env x [(f, d)] c) XX Q) := wS_lift
@[simp] theorem s_brk {env : En} {ch : CH} {Q : En → Fl → CH → Prop} : wS (sBrk env ch) XX Q = Q env .br ch := nr rfl
@[simp] theorem s_cnt {env : En} {ch : CH} {Q : En → Fl → CH → Prop} : wS (sCnt env ch) XX Q = Q env .ct ch := nr rfl
/-! defs -/
def kFn (Q : D → CH → Prop) : En → Fl → CH → Prop := fun _ f c => match f with
  | .nx => Q .non c
  | .rt d => Q d c
  | _ => False
@[simp] theorem kFn_nx {Q : D → CH → Prop} {e : En} {c : CH} : kFn Q e .nx c = Q .non c := nr rfl
@[simp] theorem kFn_rt {Q : D → CH → Prop} {e : En} {d : D} {c : CH} : kFn Q e (.rt d) c = Q d c := nr rfl
@[simp] theorem w_run {ps ns : Nat} {b : CB} {ds : List D} {ch : CH} {Q : D → CH → Prop} (h : ds.length = ps) : wR (runFn ps ns b ds ch) X Q = wS (b (ds.map some ++ List.replicate (ns - ds.length) none) ch) (fun _ => X) (kFn Q) := by
  unfold runFn
  rw [if_pos h]
  cases b (ds.map some ++ List.replicate (ns - ds.length) none) ch with
  | ok e f c => cases f <;> rfl
  | exc _ _ _ _ => rfl
  | bad => rfl
@[simp] theorem w_call {f : Fn} {p : Pat} {ds zs : List D} {ch : CH} {Q : D → CH → Prop} : wR (callQ f p ds zs ch) X Q = ((ds.length = p.n ∧ zs.length = p.ks.length) ∧ kOf (arrange ds zs p.arr) (fun as => f as ch) X Q) := by
  unfold callQ
  by_cases h : ds.length = p.n ∧ zs.length = p.ks.length
  · rw [if_pos h]
    simp only [h, and_self, true_and]
    cases arrange ds zs p.arr <;> rfl
  · rw [if_neg h]
    simp only [h, false_and]
    rfl
@[simp] theorem arr_nil {ds zs : List D} : arrange ds zs [] = some [] := nr rfl
@[simp] theorem arr_pos {ds zs : List D} {j : Nat} {r : List Arg} : arrange ds zs (.pos j :: r) = (match ds[j]?, arrange ds zs r with | some d, some l => some (d :: l) | _, _ => none) := nr rfl
@[simp] theorem arr_kw {ds zs : List D} {j : Nat} {r : List Arg} : arrange ds zs (.kw j :: r) = (match zs[j]?, arrange ds zs r with | some d, some l => some (d :: l) | _, _ => none) := nr rfl
@[simp] theorem arr_dfl {ds zs : List D} {d : D} {r : List Arg} : arrange ds zs (.dfl d :: r) = (match (if isImm d then some d else none), arrange ds zs r with | some d, some l => some (d :: l) | _, _ => none) := nr rfl
/-! operators on numbers -/
@[simp] theorem b_add {i j : Int} {c : CH} : bin .Add (.int i) (.int j) c = .ok (.int (i + j)) c := nr rfl
@[simp] theorem b_sub {i j : Int} {c : CH} : bin .Sub (.int i) (.int j) c = .ok (.int (i - j)) c := nr rfl
@[simp] theorem b_mul {i j : Int} {c : CH} {Q : D → CH → Prop} : wR (bin .Mult (.int i) (.int j) c) X Q = ((big i || big j || (wid i && wid j)) = true ∧ Q (.int (i * j)) c) := by
  show wR (if _ then _ else _) X Q = _
  by_cases h : (big i || big j || (wid i && wid j)) = true
  · rw [if_pos h, eq_true h, true_and]; rfl
  · rw [if_neg h, eq_false h, false_and]; rfl
theorem b_catT {a b : List D} {c : CH} (h : a.length + b.length ≤ 16777216) : bin .Add (.tup a) (.tup b) c = .ok (.tup (a ++ b)) c := by
  simp [bin, h]
@[simp] theorem b_mod {i j : Int} {c : CH} {Q : D → CH → Prop} : wR (bin .Mod (.int i) (.int j) c) X Q = (j ≠ 0 ∧ Q (.int (i.fmod j)) c) := by
  show wR (if _ then _ else _) X Q = _
  split <;> simp_all
@[simp] theorem b_div {i j : Int} {c : CH} {Q : D → CH → Prop} (h : 0 < j ∧ j < 1073741824) : wR (bin .FloorDiv (.int i) (.int j) c) X Q = Q (.int (i / j)) c := by
  show wR (if _ then _ else _) X Q = _
  rw [if_pos h]; rfl
theorem b_divW {i j : Int} {c : CH} {Q : D → CH → Prop} (h : j ≠ 0) (w : wid j = true) : wR (bin .FloorDiv (.int i) (.int j) c) X Q = Q (.int (i.fdiv j)) c := by
  show wR (if _ then _ else if _ then _ else _) X Q = _
  by_cases k : 0 < j ∧ j < 1073741824
  · rw [if_pos k, ← Int.fdiv_eq_ediv_of_nonneg i (Int.le_of_lt k.1)]; rfl
  · rw [if_neg k, if_pos ⟨h, w⟩]; rfl
@[simp] theorem b_pow {i j : Int} {c : CH} {Q : D → CH → Prop} : wR (bin .Pow (.int i) (.int j) c) X Q = ((0 ≤ j ∧ j ≤ 1000000 ∧ i.natAbs < 2 ^ 64) ∧ Q (.int (i ^ j.toNat)) c) := by
  show wR (if _ then _ else _) X Q = _
  split
  · rename_i h; rw [eq_true h, true_and]; rfl
  · rename_i h; rw [eq_false h, false_and]; rfl
section
variable {ms : MT} {i j : Int} {c : CH}
@[simp] theorem c_lt : cmpH ms .Lt (.int i) (.int j) c = .ok (.bl (decide (i < j))) c := nr rfl
@[simp] theorem c_le : cmpH ms .LtE (.int i) (.int j) c = .ok (.bl (decide (i ≤ j))) c := nr rfl
@[simp] theorem c_gt : cmpH ms .Gt (.int i) (.int j) c = .ok (.bl (decide (j < i))) c := nr rfl
@[simp] theorem c_ge : cmpH ms .GtE (.int i) (.int j) c = .ok (.bl (decide (j ≤ i))) c := nr rfl
@[simp] theorem c_is {d : D} : cmpH [] .Is d .non c = .ok (.bl (match d with | .non => true | _ => false)) c := by
  unfold cmpH cmpOH; rfl
@[simp] theorem c_isnot {d : D} : cmpH [] .IsNot d .non c = .ok (.bl (match d with | .non => false | _ => true)) c := by
  unfold cmpH cmpOH; rfl
@[simp] theorem c_is_b {a b : Bool} : cmpH [] .Is (.bl a) (.bl b) c = .ok (.bl (decide (a = b))) c := by
  unfold cmpH cmpOH; rfl
@[simp] theorem c_isnot_b {a b : Bool} : cmpH [] .IsNot (.bl a) (.bl b) c = .ok (.bl (!decide (a = b))) c := by
  unfold cmpH cmpOH; rfl
theorem c_eq_int : cmpH ms .Eq (.int i) (.int j) c = .ok (.bl (decide (i = j))) c := by
  show cmp .Eq (.int i) (.int j) c = _
  simp [cmp, eqD, toPy, SeqAt.shaped, PyData.eqv, PyData.canLay0, PyData.depth]
  try rfl
theorem c_ne_int : cmpH [] .NotEq (.int i) (.int j) c = .ok (.bl (!decide (i = j))) c := by
  show cmp .NotEq (.int i) (.int j) c = _
  simp [cmp, eqD, toPy, SeqAt.shaped, PyData.eqv, PyData.canLay0, PyData.depth]
  try rfl
end
/-! tests that stay open -/
theorem kIfS_split {a b : CH → RsS} {Q : En → Fl → CH → Prop} {q : Bool} {c : CH} (h1 : q = true → wS (a c) XX Q) (h2 : q = false → wS (b c) XX Q) : kIfS a b XX Q q c := by
  cases q with
  | true => exact h1 rfl
  | false => exact h2 rfl
theorem kIf_split {a b : CH → Rs α} {Q : α → CH → Prop} {q : Bool} {c : CH} (h1 : q = true → wR (a c) X Q) (h2 : q = false → wR (b c) X Q) : kIf a b X Q q c := by
  cases q with
  | true => exact h1 rfl
  | false => exact h2 rfl
/-! truth -/
@[simp] theorem tr_bl {b : Bool} {c : CH} : tr (.bl b) c = .ok b c := nr rfl
@[simp] theorem tr_int {i : Int} {c : CH} : tr (.int i) c = .ok (i != 0) c := nr rfl
@[simp] theorem tr_non {c : CH} : tr .non c = .ok false c := nr rfl
@[simp] theorem tr_tup {ds : List D} {c : CH} : tr (.tup ds) c = .ok (!ds.isEmpty) c := nr rfl
/-! loops -/
/-- a loop by an invariant over what is still to come -/
theorem forC_inv {g : CG} {body : CB} {ok : CH → Bool} {Q : En → Fl → CH → Prop} (I : List D → En → CH → Prop) (hok : ∀ ds e c, I ds e c → ok c = true)
    (step : ∀ d ds e c, I (d :: ds) e c → wR (g d e c) (fun _ _ _ => False) (fun e1 c1 => wS (body e1 c1) XX (fun e2 f c2 => match f with
      | .nx => I ds e2 c2
      | .ct => I ds e2 c2
      | .br => Q e2 .nx c2
      | .rt v => Q e2 (.rt v) c2)))
    (fin : ∀ e c, I [] e c → Q e .nx c) : ∀ ds e c, I ds e c → wS (forC g body ok ds e c) XX Q
  | [], e, c, h => by
    unfold forC
    rw [if_pos (hok _ _ _ h)]
    exact fin e c h
  | d :: ds, e, c, h => by
    unfold forC
    rw [if_pos (hok _ _ _ h), wS_liftG]
    refine wR_mono (step d ds e c h) (fun e1 c1 hb => ?_) fun _ _ _ z => z
    show wS (match body e1 c1 with
        | RsS.ok env2 Fl.nx c2 => forC g body ok ds env2 c2
        | RsS.ok env2 Fl.ct c2 => forC g body ok ds env2 c2
        | RsS.ok env2 Fl.br c2 => RsS.ok env2 Fl.nx c2
        | RsS.ok env2 (Fl.rt v) c2 => RsS.ok env2 (Fl.rt v) c2
        | RsS.exc e c fs h => RsS.exc e c fs h
        | RsS.bad => RsS.bad) XX Q
    revert hb
    cases body e1 c1 with
    | bad => exact fun hb => hb.elim
    | exc e2 c2 fs hh => exact fun hb => hb
    | ok e2 f c2 =>
      intro hb
      cases f with
      | nx => exact forC_inv I hok step fin ds e2 c2 hb
      | ct => exact forC_inv I hok step fin ds e2 c2 hb
      | br => exact hb
      | rt v => exact hb
end LL
namespace LL
open PySem L2
/-! ## plain data and == -/
mutual
def py : D → PyData
  | .non => .none
  | .bl b => .bool b
  | .int i => .int i
  | .str s => .str s
  | .tup ds => .tuple (pys ds)
  | _ => .none
def pys : List D → List PyData
  | [] => []
  | d :: ds => py d :: pys ds
end
/-! plain data without truths, of such a size -/
mutual
def nice : Nat → D → Bool
  | _, .non => true
  | _, .int _ => true
  | _, .str s => PyData.strOk s
  | n + 1, .tup ds => nices n ds
  | _, _ => false
def nices : Nat → List D → Bool
  | _, [] => true
  | n + 1, d :: ds => nice n d && nices n ds
  | 0, _ :: _ => false
end
mutual
theorem nice_toPy {ch : CH} : ∀ {n : Nat} {d : D}, nice n d = true → toPy ch n d = some (py d)
  | n, .non, h => by cases n <;> simp [toPy, py]
  | n, .bl b, h => by cases n <;> simp [toPy, py]
  | n, .int i, h => by cases n <;> simp [toPy, py]
  | n, .str s, h => by cases n <;> simp [toPy, py]
  | 0, .tup ds, h => by simp [nice] at h
  | n + 1, .tup ds, h => by
    simp only [nice] at h
    simp only [toPy, py, nices_toPy h, Option.map_some]
  | n, .ref a, h => by cases n <;> simp [nice] at h
  | n, .ty a, h => by cases n <;> simp [nice] at h
  | n, .cl a, h => by cases n <;> simp [nice] at h
theorem nices_toPy {ch : CH} : ∀ {n : Nat} {ds : List D}, nices n ds = true → toPys ch n ds = some (pys ds)
  | n, [], h => by cases n <;> simp [toPys, pys]
  | 0, d :: ds, h => by simp [nices] at h
  | n + 1, d :: ds, h => by
    simp only [nices, Bool.and_eq_true] at h
    simp only [toPys, pys, nice_toPy h.1, nices_toPy h.2]
end
mutual
theorem nice_lay : ∀ {n : Nat} {d : D}, nice n d = true → (py d).canLay0 = true ∧ (py d).depth ≤ n
  | n, .non, h => by simp [py, PyData.canLay0, PyData.depth]
  | n, .bl b, h => by simp [py, PyData.canLay0, PyData.depth]
  | n, .int i, h => by simp [py, PyData.canLay0, PyData.depth]
  | n, .str s, h => by
    have : PyData.strOk s = true := by cases n <;> simpa [nice] using h
    simp [py, PyData.canLay0, PyData.depth, this]
  | 0, .tup ds, h => by simp [nice] at h
  | n + 1, .tup ds, h => by
    simp only [nice] at h
    obtain ⟨a, b⟩ := nices_lay h
    simp only [py, PyData.canLay0, PyData.depth]
    exact ⟨a, by omega⟩
  | n, .ref a, h => by cases n <;> simp [nice] at h
  | n, .ty a, h => by cases n <;> simp [nice] at h
  | n, .cl a, h => by cases n <;> simp [nice] at h
theorem nices_lay : ∀ {n : Nat} {ds : List D}, nices n ds = true → PyData.canLayAll0 (pys ds) = true ∧ PyData.depthAll (pys ds) ≤ n
  | n, [], h => by simp [pys, PyData.canLayAll0, PyData.depthAll]
  | 0, d :: ds, h => by simp [nices] at h
  | n + 1, d :: ds, h => by
    simp only [nices, Bool.and_eq_true] at h
    obtain ⟨a, b⟩ := nice_lay h.1
    obtain ⟨c, e⟩ := nices_lay h.2
    simp only [pys, PyData.canLayAll0, PyData.depthAll, a, c, Bool.and_self, true_and]
    omega
end
theorem nice_shaped {n : Nat} {d : D} (hn : n ≤ 64) (h : nice n d = true) : SeqAt.shaped (py d) = true := by
  obtain ⟨a, b⟩ := nice_lay h
  unfold SeqAt.shaped
  rw [a, Bool.true_and]
  exact decide_eq_true (by omega)
mutual
theorem nice_eqv : ∀ {n m : Nat} {x y : D}, nice n x = true → nice m y = true → PyData.eqv (py x) (py y) = same x y
  | n, m, x, y, h1, h2 => by
    cases x with
    | tup xs =>
      cases y with
      | tup ys =>
        cases n with
        | zero => simp [nice] at h1
        | succ n =>
          cases m with
          | zero => simp [nice] at h2
          | succ m =>
            simp only [nice] at h1 h2
            simp only [py, PyData.eqv, same]
            exact nices_eqv h1 h2
      | bl b => cases m <;> simp [nice] at h2
      | _ => first | (simp [py, PyData.eqv, same]; done) | (cases m <;> simp [nice] at h2)
    | bl b => cases n <;> simp [nice] at h1
    | ref b => cases n <;> simp [nice] at h1
    | ty b => cases n <;> simp [nice] at h1
    | cl b => cases n <;> simp [nice] at h1
    | _ =>
      cases y with
      | bl b => cases m <;> simp [nice] at h2
      | ref b => cases m <;> simp [nice] at h2
      | ty b => cases m <;> simp [nice] at h2
      | cl b => cases m <;> simp [nice] at h2
      | _ => simp [py, PyData.eqv, same]
theorem nices_eqv : ∀ {n m : Nat} {xs ys : List D}, nices n xs = true → nices m ys = true → PyData.eqvAll (pys xs) (pys ys) = sames xs ys
  | n, m, [], [], _, _ => by simp [pys, PyData.eqvAll, sames]
  | n, m, [], _ :: _, _, _ => by simp [pys, PyData.eqvAll, sames]
  | n, m, _ :: _, [], _, _ => by simp [pys, PyData.eqvAll, sames]
  | n, m, x :: xs, y :: ys, h1, h2 => by
    cases n with
    | zero => simp [nices] at h1
    | succ n =>
      cases m with
      | zero => simp [nices] at h2
      | succ m =>
        simp only [nices, Bool.and_eq_true] at h1 h2
        simp only [pys, PyData.eqvAll, sames, nice_eqv h1.1 h2.1, nices_eqv h1.2 h2.2]
end
theorem eqD_nice {ch : CH} {x y : D} (h1 : nice 60 x = true) (h2 : nice 60 y = true) : eqD ch x y = some (same x y) := by
  unfold eqD
  rw [nice_toPy h1, nice_toPy h2]
  simp only [nice_shaped (by decide) h1, nice_shaped (by decide) h2, and_self, if_true, nice_eqv h1 h2]
theorem same_dec (x y : D) [Decidable (x = y)] : same x y = decide (x = y) := by
  by_cases h : x = y
  · subst h; rw [same_rfl]; simp
  · rw [decide_eq_false h]
    cases q : same x y with
    | false => rfl
    | true => exact absurd (same_eq _ _ q) h
theorem same_iff {x y : D} : same x y = true ↔ x = y := ⟨same_eq x y, fun h => h ▸ same_rfl x⟩
/-- x in a tuple -/
theorem pys_any {ds : List D} (f : PyData → Bool) : (pys ds).any f = ds.any fun d => f (py d) := by
  induction ds with
  | nil => rfl
  | cons d ds ih => simp [pys, ih]
theorem nices_mem : ∀ {n : Nat} {ds : List D}, nices n ds = true → ∀ d ∈ ds, ∃ m, m ≤ n ∧ nice m d = true
  | n, [], _, d, h => by cases h
  | 0, _ :: _, h, _, _ => by simp [nices] at h
  | n + 1, x :: xs, h, d, hd => by
    simp only [nices, Bool.and_eq_true] at h
    rcases List.mem_cons.mp hd with e | e
    · subst e; exact ⟨n, by omega, h.1⟩
    · obtain ⟨m, a, b⟩ := nices_mem h.2 d e
      exact ⟨m, by omega, b⟩
theorem inD_nice {ch : CH} {x : D} {ds : List D} (h1 : nice 60 x = true) (h2 : nice 60 (.tup ds) = true) : inD ch x (.tup ds) = some (ds.any fun d => same d x) := by
  unfold inD
  rw [nice_toPy h1, nice_toPy h2]
  have e : py (.tup ds) = .tuple (pys ds) := by simp [py]
  have s2 := nice_shaped (by decide) h2
  rw [e] at s2 ⊢
  simp only [nice_shaped (by decide) h1, s2, and_self, if_true]
  rw [pys_any]
  congr 1
  have h2' : nices 59 ds = true := by simpa [nice] using h2
  have : ∀ d ∈ ds, PyData.eqv (py d) (py x) = same d x := fun d hd => by
    obtain ⟨m, _, b⟩ := nices_mem h2' d hd
    exact nice_eqv b h1
  clear h2 s2 e h2'
  induction ds with
  | nil => rfl
  | cons d ds ih => rw [List.any_cons, List.any_cons, this d List.mem_cons_self, ih fun z hz => this z (List.mem_cons_of_mem _ hz)]
theorem c_eq {ms : MT} {x y : D} {c : CH} (hx : insOf x c = none) (h1 : nice 60 x = true) (h2 : nice 60 y = true) : cmpH ms .Eq x y c = .ok (.bl (same x y)) c := by
  show cmpOH ms .Eq x y c = _
  simp [cmpOH, cmpM, hx, cmp, eqD_nice h1 h2]
theorem c_ne {ms : MT} {x y : D} {c : CH} (h1 : nice 60 x = true) (h2 : nice 60 y = true) : cmpH ms .NotEq x y c = .ok (.bl (!same x y)) c := by
  have hx : insOf x c = none := by
    cases x <;> first | rfl | (simp [nice] at h1)
  simp [cmpH, hx, cmp, eqD_nice h1 h2]
theorem c_in {ms : MT} {x : D} {ds : List D} {c : CH} (h1 : nice 60 x = true) (h2 : nice 60 (.tup ds) = true) : cmpH ms .In x (.tup ds) c = .ok (.bl (ds.any fun d => same d x)) c := by
  simp [cmpH, insOf, dkOf, inT, dtOf, cmp, inD_nice h1 h2]
/-! ## indexing -/
@[simp] theorem ins_tup {ds : List D} {c : CH} : insOf (.tup ds) c = none := nr rfl
@[simp] theorem ins_int {i : Int} {c : CH} : insOf (.int i) c = none := nr rfl
@[simp] theorem ins_str {i : Str} {c : CH} : insOf (.str i) c = none := nr rfl
@[simp] theorem ins_non {c : CH} : insOf .non c = none := nr rfl
@[simp] theorem ins_bl {b : Bool} {c : CH} : insOf (.bl b) c = none := nr rfl
@[simp] theorem ix_tup {ms : MT} {ds : List D} {i : Int} {c : CH} : ixH ms (.tup ds) (.int i) c = (match L2.atI ds i with | some d => .ok d c | none => .bad) := nr rfl
theorem ix_lst {ms : MT} {n : Nat} {ds : List D} {i : Int} {c : CH} (h : c.get n = some (.lst ds)) : ixH ms (.ref n) (.int i) c = (match L2.atI ds i with | some d => .ok d c | none => .bad) := by
  simp only [ixH, insOf, h, dkOf, ixT, dtOf, ix] <;> rfl
theorem ix_fz {ms : MT} {n : Nat} {ds : List D} {i : Int} {c : CH} (h : c.get n = some (.fz ds)) : ixH ms (.ref n) (.int i) c = (match L2.atI ds i with | some d => .ok d c | none => .bad) := by
  simp only [ixH, insOf, h, dkOf, ixT, dtOf, ix] <;> rfl
theorem ix_dk {ms : MT} {n : Nat} {kvs : List (L2.Key × D)} {k : D} {c : CH} (h : c.get n = some (.dk kvs)) : ixH ms (.ref n) k c = (match (keyD k).bind (valD kvs) with | some d => .ok d c | none => .bad) := by
  simp only [ixH, insOf, h, dkOf] <;> rfl
theorem ix_dt {ms : MT} {n : Nat} {kvs : List (List L2.Key × D)} {k : D} {c : CH} (h : c.get n = some (.dt kvs)) : ixH ms (.ref n) k c = (match (keyT k).bind (valD kvs) with | some d => .ok d c | none => .bad) := by
  simp only [ixH, insOf, h, dkOf, ixT, dtOf] <;> rfl
theorem put_dt {n : Nat} {kvs : List (List L2.Key × D)} {k d : D} {c : CH} (h : c.get n = some (.dt kvs)) : setIx (.ref n) k d c = (match keyT k with | some k => if kvs.length < 16777216 then .ok () (c.put n (.dt (putD kvs k d))) else .bad | none => .bad) := by
  simp only [setIx, h] <;> rfl
theorem in_dt {ms : MT} {n : Nat} {kvs : List (List L2.Key × D)} {x : D} {k : List L2.Key} {c : CH} (h : c.get n = some (.dt kvs)) (hk : keyT x = some k) : cmpH ms .In x (.ref n) c = .ok (.bl (valD kvs k).isSome) c := by
  simp only [cmpH, insOf, h, dkOf, inT, dtOf, hk]
theorem notin_dt {ms : MT} {n : Nat} {kvs : List (List L2.Key × D)} {x : D} {k : List L2.Key} {c : CH} (h : c.get n = some (.dt kvs)) (hk : keyT x = some k) : cmpH ms .NotIn x (.ref n) c = .ok (.bl (!(valD kvs k).isSome)) c := by
  simp only [cmpH, insOf, h, dkOf, inT, dtOf, hk]
theorem len_dt {ms : MT} {n : Nat} {kvs : List (List L2.Key × D)} {c : CH} (h : c.get n = some (.dt kvs)) : biH ms [] [] "len" [.ref n] c = .ok (.int (kvs.length : Nat)) c := by simp [biH, insOf, h, bi, lenD]
theorem keyLR {i : Int} {x : Str} : ((Sum.inl i : L2.Key) == Sum.inr x) = false := rfl
theorem keyT_1 {i : Int} : keyT (.tup [.int i]) = some [.inl i] := by
  simp [keyT, keysOf, modK]
theorem keyT_2 {i j : Int} : keyT (.tup [.int i, .int j]) = some [.inl i, .inl j] := by
  simp [keyT, keysOf, modK, keyLR]
theorem srt_ok {n : Nat} {ds : List D} {ks : List (List Int)} {c : CH} (h : c.get n = some (.lst ds)) (h2 : tupsOf ds = some ks) (h3 : okT ks = true) : srt (.ref n) c = .ok (.ref c.sz) (c.push (.lst ((sortT ks).map tupD))) := by
  simp [srt, lstOf, h, h2, h3]
theorem put_lst {n : Nat} {ds : List D} {i : Int} {d : D} {c : CH} (h : c.get n = some (.lst ds)) : setIx (.ref n) (.int i) d c = (match L2.ixN ds.length i with | some j => .ok () (c.put n (.lst (ds.set j d))) | none => .bad) := by
  simp only [setIx, h] <;> rfl
theorem put_dk {n : Nat} {kvs : List (L2.Key × D)} {k d : D} {c : CH} (h : c.get n = some (.dk kvs)) : setIx (.ref n) k d c = (match keyD k with | some k => if kvs.length < 16777216 then .ok () (c.put n (.dk (putD kvs k d))) else .bad | none => .bad) := by
  simp only [setIx, h] <;> rfl
theorem atI_nat {α : Type} {l : List α} {k : Nat} : L2.atI l (k : Int) = l[k]? := by
  unfold L2.atI L2.ixN
  rw [if_pos (Int.natCast_nonneg k)]
  by_cases h : (k : Int) < (l.length : Int)
  · rw [if_pos h]; simp
  · rw [if_neg h]
    have : l.length ≤ k := by omega
    simp [List.getElem?_eq_none this]
@[simp] theorem atI_0 {α : Type} {a : α} {l : List α} : L2.atI (a :: l) 0 = some a := atI_nat (k := 0)
@[simp] theorem atI_1 {α : Type} {a b : α} {l : List α} : L2.atI (a :: b :: l) 1 = some b := atI_nat (k := 1)
@[simp] theorem atI_2 {α : Type} {a b c : α} {l : List α} : L2.atI (a :: b :: c :: l) 2 = some c := atI_nat (k := 2)
@[simp] theorem atI_3 {α : Type} {a b c d : α} {l : List α} : L2.atI (a :: b :: c :: d :: l) 3 = some d := atI_nat (k := 3)
@[simp] theorem ixN_0 {n : Nat} : L2.ixN (n + 1) 0 = some 0 := by
  unfold L2.ixN
  rw [if_pos (by omega), if_pos (by omega)]; rfl
@[simp] theorem ixN_1 {n : Nat} : L2.ixN (n + 2) 1 = some 1 := by
  unfold L2.ixN
  rw [if_pos (by omega), if_pos (by omega)]; rfl
theorem put_put {ch : CH} {n : Nat} {a b : CO} : (ch.put n a).put n b = ch.put n b := by
  unfold CH.put
  simp only
  congr 1
  generalize bits n = bs
  generalize ch.t = t
  induction bs generalizing t with
  | nil => cases t <;> rfl
  | cons x bs ih => cases x <;> cases t <;> simp [Tr.put, ih]
/-! ## built-in functions and types -/
@[simp] theorem ty_int {i : Int} {c : CH} : bty "int" [.int i] c = .ok (.int i) c := by simp [bty]
@[simp] theorem ty_intb {b : Bool} {c : CH} : bty "int" [.bl b] c = .ok (.int (if b then 1 else 0)) c := by simp [bty]
@[simp] theorem ty_bool {i : Int} {c : CH} : bty "bool" [.int i] c = .ok (.bl (i != 0)) c := by simp [bty]
theorem ty_list {n : Nat} {ds : List D} {c : CH} (h : c.get n = some (.lst ds)) : bty "list" [.ref n] c = .ok (.ref c.sz) (c.push (.lst ds)) := by simp [bty, lstOf, h]
@[simp] theorem ty_listt {ds : List D} {c : CH} : bty "list" [.tup ds] c = .ok (.ref c.sz) (c.push (.lst ds)) := by simp [bty]
theorem ty_tup {n : Nat} {ds : List D} {c : CH} (h : c.get n = some (.lst ds)) : bty "tuple" [.ref n] c = .ok (.tup ds) c := by simp [bty, lstOf, h]
@[simp] theorem ty_tupt {ds : List D} {c : CH} : bty "tuple" [.tup ds] c = .ok (.tup ds) c := by simp [bty]
theorem ty_dictp {n : Nat} {ds : List D} {kvs : List (L2.Key × D)} {c : CH} (h : c.get n = some (.lst ds)) (hp : pairsOf ds = some kvs) : bty "dict" [.ref n] c = .ok (.ref c.sz) (c.push (.dk (mergeD [] kvs))) := by simp [bty, h, hp]
@[simp] theorem bi_abs {i : Int} {c : CH} : bi "abs" [.int i] c = .ok (.int (if i < 0 then -i else i)) c := by simp [bi]
@[simp] theorem bi_max {i j : Int} {c : CH} : bi "max" [.int i, .int j] c = .ok (.int (if j > i then j else i)) c := by simp [bi]
@[simp] theorem bi_min {i j : Int} {c : CH} : bi "min" [.int i, .int j] c = .ok (.int (if j < i then j else i)) c := by simp [bi]
theorem bi_sum {n : Nat} {ds : List D} {ns : List Int} {c : CH} (h : c.get n = some (.lst ds)) (hi : intsOf ds = some ns) : bi "sum" [.ref n] c = .ok (.int ns.sum) c := by simp [bi, lstOf, h, hi]
theorem bi_all {n : Nat} {ds : List D} {bs : List Bool} {c : CH} (h : c.get n = some (.lst ds)) (hi : blsOf ds = some bs) : bi "all" [.ref n] c = .ok (.bl (bs.all _root_.id)) c := by simp [bi, lstOf, h, hi]
theorem bi_any {n : Nat} {ds : List D} {bs : List Bool} {c : CH} (h : c.get n = some (.lst ds)) (hi : blsOf ds = some bs) : bi "any" [.ref n] c = .ok (.bl (bs.any _root_.id)) c := by simp [bi, lstOf, h, hi]
theorem intsOf_map {ns : List Int} : intsOf (ns.map .int) = some ns := by
  induction ns with
  | nil => rfl
  | cons i r ih => simp [intsOf, ih]
theorem blsOf_map {ns : List Bool} : blsOf (ns.map .bl) = some ns := by
  induction ns with
  | nil => rfl
  | cons i r ih => simp [blsOf, ih]
@[simp] theorem len_tup {ms : MT} {ds : List D} {c : CH} : biH ms [] [] "len" [.tup ds] c = .ok (.int (ds.length : Nat)) c := by simp [biH, bi, lenD]
theorem len_lst {ms : MT} {n : Nat} {ds : List D} {c : CH} (h : c.get n = some (.lst ds)) : biH ms [] [] "len" [.ref n] c = .ok (.int (ds.length : Nat)) c := by simp [biH, insOf, h, bi, lenD]
theorem len_fz {ms : MT} {n : Nat} {ds : List D} {c : CH} (h : c.get n = some (.fz ds)) : biH ms [] [] "len" [.ref n] c = .ok (.int (ds.length : Nat)) c := by simp [biH, insOf, h, bi, lenD]
section
variable {isc : List Str} {unl : List (Str × Str)} {c : CH}
theorem isi_gen {d : D} {n t : String} {b : Bool} (ht : tyName c d = some t) (hb : kitB t n = some b) : biH [] isc unl "isinstance" [d, .ty n] c = .ok (.bl b) c := by simp [biH, bi, ht, hb]
@[simp] theorem isi_int_int {i : Int} : biH [] isc unl "isinstance" [.int i, .ty "int"] c = .ok (.bl true) c := isi_gen rfl rfl
@[simp] theorem isi_int_bool {i : Int} : biH [] isc unl "isinstance" [.int i, .ty "bool"] c = .ok (.bl false) c := isi_gen rfl rfl
@[simp] theorem isi_int_str {i : Int} : biH [] isc unl "isinstance" [.int i, .ty "str"] c = .ok (.bl false) c := isi_gen rfl rfl
@[simp] theorem isi_int_tup {i : Int} : biH [] isc unl "isinstance" [.int i, .ty "tuple"] c = .ok (.bl false) c := isi_gen rfl rfl
@[simp] theorem isi_str_str {i : Str} : biH [] isc unl "isinstance" [.str i, .ty "str"] c = .ok (.bl true) c := isi_gen rfl rfl
@[simp] theorem isi_str_int {i : Str} : biH [] isc unl "isinstance" [.str i, .ty "int"] c = .ok (.bl false) c := isi_gen rfl rfl
@[simp] theorem isi_tup_tup {i : List D} : biH [] isc unl "isinstance" [.tup i, .ty "tuple"] c = .ok (.bl true) c := isi_gen rfl rfl
@[simp] theorem isi_tup_int {i : List D} : biH [] isc unl "isinstance" [.tup i, .ty "int"] c = .ok (.bl false) c := isi_gen rfl rfl
@[simp] theorem isi_tup_str {i : List D} : biH [] isc unl "isinstance" [.tup i, .ty "str"] c = .ok (.bl false) c := isi_gen rfl rfl
@[simp] theorem isi_non {n : String} {b : Bool} (h : kitB "NoneType" n = some b) : biH [] isc unl "isinstance" [.non, .ty n] c = .ok (.bl b) c := isi_gen rfl h
end
/-! ## slices, cuts -/
@[simp] theorem w_sl {a : CE} {lo hi : Option CE} {env : En} {ch : CH} {X : XR} {Q : D → CH → Prop} : wR (cSl a lo hi env ch) X Q = wR (a env ch) X (kBd (fun x c => (runP lo env c).bind fun l c => (runP hi env c).bind fun h c => sl x l h c) X Q) := wR_bind
@[simp] theorem w_p0 {env : En} {ch : CH} {X : XR} {Q : Option Int → CH → Prop} : wR (runP none env ch) X Q = Q none ch := nr rfl
@[simp] theorem w_p1 {e : CE} {env : En} {ch : CH} {X : XR} {Q : Option Int → CH → Prop} : wR (runP (some e) env ch) X Q = wR (e env ch) X (kBd (fun d c => match d with | .int i => .ok (some i) c | _ => .bad) X Q) := wR_bind
theorem sl_lst {n : Nat} {ds : List D} {lo hi : Option Int} {c : CH} (h : c.get n = some (.lst ds)) : sl (.ref n) lo hi c = .ok (.ref c.sz) (c.push (.lst (cutD ds lo hi))) := by simp [sl, lstOf, h]
theorem sl_fz {n : Nat} {ds : List D} {lo hi : Option Int} {c : CH} (h : c.get n = some (.fz ds)) : sl (.ref n) lo hi c = .ok (.ref c.sz) (c.push (.lst (cutD ds lo hi))) := by simp [sl, lstOf, h]
theorem cutD_map {α : Type} {f : α → D} {l : List α} {lo hi : Option Int} : ∃ l' : List α, cutD (l.map f) lo hi = l'.map f := by
  unfold cutD
  rw [← List.map_drop, ← List.map_take]
  exact ⟨_, rfl⟩
theorem kIf_cut {α : Type} {a b : CH → Rs α} {X : XR} {Q : α → CH → Prop} {q : Bool} {c : CH} (P : α → CH → Prop) (h1 : q = true → wR (a c) (fun _ _ _ => False) P) (h2 : q = false → wR (b c) (fun _ _ _ => False) P) (k : ∀ d c, P d c → Q d c) : kIf a b X Q q c := by
  cases q with
  | true => exact wR_of (h1 rfl) k
  | false => exact wR_of (h2 rfl) k
theorem kIfS_cut {a b : CH → RsS} {X : XS} {Q : En → Fl → CH → Prop} {q : Bool} {c : CH} (P : En → Fl → CH → Prop) (h1 : q = true → wS (a c) (fun _ _ _ _ => False) P) (h2 : q = false → wS (b c) (fun _ _ _ _ => False) P) (k : ∀ e f c, P e f c → Q e f c) : kIfS a b X Q q c := by
  cases q with
  | true => exact wS_of (h1 rfl) k
  | false => exact wS_of (h2 rfl) k
/-! ## more of plain data -/
mutual
theorem nice_mono : ∀ {n m : Nat} {d : D}, n ≤ m → nice n d = true → nice m d = true
  | n, m, .non, _, h => by cases m <;> simp [nice]
  | n, m, .int i, _, h => by cases m <;> simp [nice]
  | n, m, .str s, _, h => by
    have : PyData.strOk s = true := by cases n <;> simpa [nice] using h
    cases m <;> simp [nice, this]
  | 0, m, .tup ds, _, h => by simp [nice] at h
  | n + 1, 0, .tup ds, hl, h => by omega
  | n + 1, m + 1, .tup ds, hl, h => by
    simp only [nice] at h ⊢
    exact nices_mono (by omega) h
  | n, m, .bl b, _, h => by cases n <;> simp [nice] at h
  | n, m, .ref b, _, h => by cases n <;> simp [nice] at h
  | n, m, .ty b, _, h => by cases n <;> simp [nice] at h
  | n, m, .cl b, _, h => by cases n <;> simp [nice] at h
theorem nices_mono : ∀ {n m : Nat} {ds : List D}, n ≤ m → nices n ds = true → nices m ds = true
  | n, m, [], _, h => by cases m <;> simp [nices]
  | 0, m, d :: ds, _, h => by simp [nices] at h
  | n + 1, 0, d :: ds, hl, h => by omega
  | n + 1, m + 1, d :: ds, hl, h => by
    simp only [nices, Bool.and_eq_true] at h ⊢
    exact ⟨nice_mono (by omega) h.1, nices_mono (by omega) h.2⟩
end
theorem nices_of {k : Nat} : ∀ {n : Nat} {ds : List D}, (∀ d ∈ ds, nice k d = true) → ds.length + k ≤ n → nices n ds = true
  | n, [], _, _ => by cases n <;> simp [nices]
  | 0, d :: ds, _, hl => by simp at hl
  | n + 1, d :: ds, h, hl => by
    simp only [List.length_cons] at hl
    simp only [nices, Bool.and_eq_true]
    exact ⟨nice_mono (by omega) (h d List.mem_cons_self), nices_of (fun z hz => h z (List.mem_cons_of_mem _ hz)) (by omega)⟩
theorem ins_lst {n : Nat} {ds : List D} {c : CH} (h : c.get n = some (.lst ds)) : insOf (.ref n) c = none := by simp [insOf, h]
/-- xs == [] -/
theorem c_eq_nil {ms : MT} {n m : Nat} {ds : List D} {c : CH} (h : c.get n = some (.lst ds)) (hm : c.get m = some (.lst [])) (hn : nices 59 ds = true) : cmpH ms .Eq (.ref n) (.ref m) c = .ok (.bl ds.isEmpty) c := by
  show cmpOH ms .Eq (.ref n) (.ref m) c = _
  have e1 : toPy c 60 (.ref n) = some (.list (pys ds)) := by simp only [toPy, h, nices_toPy hn, Option.map_some]
  have e2 : toPy c 60 (.ref m) = some (.list []) := by simp only [toPy, hm, toPys, Option.map_some]
  have s1 : SeqAt.shaped (.list (pys ds)) = true := by
    obtain ⟨a, b⟩ := nices_lay hn
    simp only [SeqAt.shaped, PyData.canLay0, PyData.depth, a, Bool.true_and]
    exact decide_eq_true (by omega)
  have s2 : SeqAt.shaped (.list []) = true := by simp [SeqAt.shaped, PyData.canLay0, PyData.canLayAll0, PyData.depth, PyData.depthAll]
  simp only [cmpOH, cmpM, ins_lst h, cmp, eqD, e1, e2, s1, s2, and_self, if_true]
  cases ds <;> simp [pys, PyData.eqv, PyData.eqvAll]
/-! ## dicts made -/
@[simp] theorem w_dict {ks vs : List CE} {env : En} {ch : CH} {X : XR} {Q : D → CH → Prop} : wR (cDict ks vs env ch) X Q = wR (runPs ks vs env (ch.push (.dk []))) X (kBd (fun ps c => (match c.get ch.sz with
  | some (.dk []) => if ps.length ≤ 15 then .ok (.ref ch.sz) (c.put ch.sz (.dk (mergeD [] ps))) else .bad
  | _ => .bad)) X Q) := wR_bind
@[simp] theorem w_ps0 {env : En} {ch : CH} {X : XR} {Q : List (L2.Key × D) → CH → Prop} : wR (runPs [] [] env ch) X Q = Q [] ch := nr rfl
@[simp] theorem w_ps1 {k v : CE} {ks vs : List CE} {env : En} {ch : CH} {X : XR} {Q : List (L2.Key × D) → CH → Prop} : wR (runPs (k :: ks) (v :: vs) env ch) X Q = wR (k env ch) X (kBd (fun kd c => (v env c).bind fun d c => (match keyD kd with
    | some k => (runPs ks vs env c).bind fun ps c => .ok ((k, d) :: ps) c
    | none => .bad)) X Q) := wR_bind
@[simp] theorem key_str {s : Str} : keyD (.str s) = some (.inr s) := nr rfl
@[simp] theorem key_int {i : Int} : keyD (.int i) = some (.inl i) := nr rfl
theorem app_ok {n : Nat} {ds : List D} {x : D} {c : CH} (h : c.get n = some (.lst ds)) (hl : ds.length < 16777216) : lmR "list.append" (.ref n) [x] c = .ok .non (c.put n (.lst (ds ++ [x]))) := by simp [lmR, h, hl]
theorem isLst_ok {n : Nat} {ds : List D} {c : CH} (h : c.get n = some (.lst ds)) : isLst (.ref n) c = true := by simp [isLst, h]
theorem meth_lst {ms : MT} {m : Str} {id : String} {ks : List Str} {es zs : List CE} {env : En} {n : Nat} {ds : List D} {c : CH} {X : XR} {Q : D → CH → Prop} (h : c.get n = some (.lst ds)) :
    wR (methK ms m (some id) ks es zs env (.ref n) c) X Q = wR (runEs es env c) X (kBd (fun as c => lmR id (.ref n) as c) X Q) := by
  have : methK ms m (some id) ks es zs env (.ref n) c = (runEs es env c).bind fun as c => lmR id (.ref n) as c := by
    simp [methK, ins_lst h, isLst_ok h]
  rw [this, wR_bind]
theorem walk_lst {n : Nat} {ds : List D} {c : CH} (h : c.get n = some (.lst ds)) : walkD (.ref n) c = .ok ⟨ds, some n⟩ c := by simp [walkD, h]
theorem walk_fz {n : Nat} {ds : List D} {c : CH} (h : c.get n = some (.fz ds)) : walkD (.ref n) c = .ok ⟨ds, some n⟩ c := by simp [walkD, h]
@[simp] theorem walk_tup {ds : List D} {c : CH} : walkD (.tup ds) c = .ok ⟨ds, none⟩ c := nr rfl
theorem okW_lst {n : Nat} {ds : List D} {c : CH} (h : c.get n = some (.lst ds)) : okW ⟨ds, some n⟩ c = true := by simp [okW, h, sames_rfl]
theorem okW_fz {n : Nat} {ds : List D} {c : CH} (h : c.get n = some (.fz ds)) : okW ⟨ds, some n⟩ c = true := by simp [okW, h, sames_rfl]
theorem okW_en {n : Nat} {ds : List D} {c : CH} (h : c.get n = some (.lst ds)) : okW ⟨enumD 0 ds, some (.e n)⟩ c = true := by simp [okW, h, sames_rfl]
@[simp] theorem okW_none {ds : List D} {c : CH} : okW ⟨ds, none⟩ c = true := nr rfl
theorem atI_last {α : Type} {l : List α} {x : α} (h : l.getLast? = some x) : L2.atI l (-1) = some x := by
  cases hl : l with
  | nil => rw [hl] at h; cases h
  | cons a r =>
    unfold L2.atI L2.ixN
    rw [if_neg (by decide), if_pos (by simp only [List.length_cons]; omega)]
    have : ((-1 : Int) + ((a :: r).length : Nat)).toNat = r.length := by simp only [List.length_cons]; omega
    simp only [this, Option.bind_some]
    rw [hl, List.getLast?_eq_getElem?] at h
    simpa using h
@[simp] theorem kIf_or0 {env : En} {X : XR} {Q : Bool → CH → Prop} {q : Bool} {c : CH} : kIf (fun c => .ok true c) (qAll .Or [] env) X Q q c = Q q c := by cases q <;> rfl
@[simp] theorem kIf_and0 {env : En} {X : XR} {Q : Bool → CH → Prop} {q : Bool} {c : CH} : kIf (qAll .And [] env) (fun c => .ok false c) X Q q c = Q q c := by cases q <;> rfl
@[simp] theorem bo_or : (BoolOp.Or == BoolOp.And) = false := nr rfl
@[simp] theorem bo_and : (BoolOp.And == BoolOp.And) = true := nr rfl
@[simp] theorem sl_tup1 {a : D} {l : List D} {c : CH} : sl (.tup (a :: l)) (some 1) none c = .ok (.tup l) c := by
  have e1 : ∀ n, HT.sIx (n + 1) 0 (some 1) = 1 := fun n => by simp [HT.sIx]
  have e2 : ∀ n, HT.sIx n n none = n := fun n => rfl
  show (if HT.sIx (l.length + 1) 0 (some 1) = 0 ∧ HT.sIx (l.length + 1) (l.length + 1) none = l.length + 1 then Rs.bad else Rs.ok (D.tup (((a :: l).drop (HT.sIx (l.length + 1) 0 (some 1))).take (HT.sIx (l.length + 1) (l.length + 1) none - HT.sIx (l.length + 1) 0 (some 1)))) c) = _
  rw [e1, e2]
  simp
theorem isi_lst2 {isc : List Str} {unl : List (Str × Str)} {n : Nat} {ds : List D} {c : CH} (h : c.get n = some (.lst ds)) : biH [] isc unl "isinstance" [.ref n, .tup [.ty "list", .ty "tuple"]] c = .ok (.bl true) c := by
  have h1 : tyName c (.ref n) = some "list" := by simp [tyName, h]
  have h2 : kitB "list" "list" = some true := by rfl
  simp [biH, bi, h1, tysOf, kitsB, h2]
@[simp] theorem isi_tup2 {isc : List Str} {unl : List (Str × Str)} {ds : List D} {c : CH} : biH [] isc unl "isinstance" [.tup ds, .tup [.ty "list", .ty "tuple"]] c = .ok (.bl true) c := by
  have h1 : tyName c (.tup ds) = some "tuple" := rfl
  have h2 : kitB "tuple" "list" = some false := by rfl
  have h3 : kitB "tuple" "tuple" = some true := by rfl
  simp [biH, bi, h1, tysOf, kitsB, h2, h3]
@[simp] theorem w_qcmp2 {ms : MT} {op op' : CmpOp} {a b e : CE} {env : En} {ch : CH} {X : XR} {Q : Bool → CH → Prop} : wR (qCmp2 ms op op' a b e env ch) X Q = wR (a env ch) X (kBd (fun x c => (b env c).bind fun y c => (cmpH ms op x y c).bind fun d c => (match d with
  | .bl true => (e env c).bind fun z c => (cmpH ms op' y z c).bind fun d c => (match d with | .bl k => .ok k c | _ => .bad)
  | .bl false => .ok false c
  | _ => .bad)) X Q) := wR_bind
theorem ins_at {n : Nat} {cl : Str} {fs : List (Str × D)} {c : CH} (h : c.get n = some (.ins cl fs)) : insOf (.ref n) c = some (cl, fs) := by simp [insOf, h]
theorem fld_at {cs : List Str} {f cl : Str} {n : Nat} {fs : List (Str × D)} {v : D} {c : CH} (h : c.get n = some (.ins cl fs)) (hc : cs.contains cl = true) (hv : fs.lookup f = some v) : fldH cs f (.ref n) c = .ok v c := by simp only [fldH, insOf, h, hc, hv, if_true]
theorem pfld_at {cs : List Str} {f cl : Str} {n : Nat} {fs : List (Str × D)} {v : D} {c : CH} (h : c.get n = some (.ins cl fs)) (hc : cs.contains cl = true) (hl : fs.length < 1000) : putFldH cs f (.ref n) v c = some (c.put n (.ins cl (putFD f v fs))) := by simp only [putFldH, h, hc, hl, decide_true, Bool.and_self, if_true]
/-! ## own methods -/
theorem in_at {ms : MT} {x y : D} {cl : Str} {fs : List (Str × D)} {mi : MI} {c : CH} {X : XR} {Q : D → CH → Prop} (h : insOf y c = some (cl, fs)) (hm : methH ms "__contains__" cl fs = some mi) :
    wR (cmpH ms .In x y c) X Q = wR (mi.op [y, x] c) X (kBd (fun d c => (tr d c).bind fun b c => .ok (.bl b) c) X Q) := by
  have : cmpH ms .In x y c = (mi.op [y, x] c).bind fun d c => (tr d c).bind fun b c => .ok (.bl b) c := by simp only [cmpH, h, hm]
  rw [this, wR_bind]
theorem notin_at {ms : MT} {x y : D} {cl : Str} {fs : List (Str × D)} {mi : MI} {c : CH} {X : XR} {Q : D → CH → Prop} (h : insOf y c = some (cl, fs)) (hm : methH ms "__contains__" cl fs = some mi) :
    wR (cmpH ms .NotIn x y c) X Q = wR (mi.op [y, x] c) X (kBd (fun d c => (tr d c).bind fun b c => .ok (.bl (!b)) c) X Q) := by
  have : cmpH ms .NotIn x y c = (mi.op [y, x] c).bind fun d c => (tr d c).bind fun b c => .ok (.bl (!b)) c := by simp only [cmpH, h, hm]
  rw [this, wR_bind]
theorem ix_at {ms : MT} {x y : D} {cl : Str} {fs : List (Str × D)} {mi : MI} {c : CH} (h : insOf x c = some (cl, fs)) (hm : methH ms "__getitem__" cl fs = some mi) : ixH ms x y c = mi.op [x, y] c := by simp only [ixH, h, hm]
theorem methd_at {ms : MT} {m : Str} {lid : Option String} {ks : List Str} {es zs : List CE} {env : En} {d : D} {cl : Str} {fs : List (Str × D)} {mi : MI} {p : Pat} {c : CH} {X : XR} {Q : D → CH → Prop} (h : insOf d c = some (cl, fs)) (hm : methH ms m cl fs = some mi)
    (hp : mi.pats.find? (fun p => decide (p.n = es.length + 1 ∧ p.ks = ks)) = some p) : wR (methK ms m lid ks es zs env d c) X Q = wR (runEs es env c) X (kBd (fun ds c => (runEs zs env c).bind fun us c => callQ mi.f p (d :: ds) us c) X Q) := by
  have : methK ms m lid ks es zs env d c = (runEs es env c).bind fun ds c => (runEs zs env c).bind fun us c => callQ mi.f p (d :: ds) us c := by simp only [methK, h, hm, hp]
  rw [this, wR_bind]
theorem op2 {f : Fn} {a b : D} {c : CH} : MI.op ⟨f, [⟨2, [], [.pos 0, .pos 1]⟩]⟩ [a, b] c = f [a, b] c := by
  simp [MI.op, MI.call, callQ]
theorem add_lst {n m : Nat} {a b : List D} {c : CH} (h : c.get n = some (.lst a)) (k : c.get m = some (.lst b)) (hl : a.length + b.length ≤ 16777216) : bin .Add (.ref n) (.ref m) c = .ok (.ref c.sz) (c.push (.lst (a ++ b))) := by simp [bin, h, k, hl]
/-! ## zip, x[::-1] -/
@[simp] theorem seqW_tup {ds : List D} {c : CH} : seqW (.tup ds) c = some (none, ds) := nr rfl
theorem seqW_lst {n : Nat} {ds : List D} {c : CH} (h : c.get n = some (.lst ds)) : seqW (.ref n) c = some (some n, ds) := by simp [seqW, h]
theorem zipW_2 {x y : D} {a b : Option Nat} {xs ys : List D} {c : CH} (h : seqW x c = some (a, xs)) (k : seqW y c = some (b, ys)) : zipW [x, y] c = .ok ⟨zipD xs ys, some (.z a b xs ys)⟩ c := by simp [zipW, h, k]
theorem keepW_lst {n : Nat} {ds : List D} {c : CH} (h : c.get n = some (.lst ds)) : keepW (some n) ds c = true := by simp [keepW, h, sames_rfl]
@[simp] theorem keepW_none {ds : List D} {c : CH} : keepW none ds c = true := nr rfl
theorem okW_z {a b : Option Nat} {ds xs ys : List D} {c : CH} (h : keepW a xs c = true) (k : keepW b ys c = true) : okW ⟨ds, some (.z a b xs ys)⟩ c = true := by simp [okW, h, k]
@[simp] theorem back_tup {ds : List D} {c : CH} : back (.tup ds) c = .ok (.tup ds.reverse) c := nr rfl
theorem back_lst {n : Nat} {ds : List D} {c : CH} (h : c.get n = some (.lst ds)) : back (.ref n) c = .ok (.ref c.sz) (c.push (.lst ds.reverse)) := by simp [back, lstOf, h]
/-! ## dicts that are walked, told as lists, compared -/
theorem walk_fk {n : Nat} {kvs : List (L2.Key × D)} {c : CH} (h : c.get n = some (.fk kvs)) : walkD (.ref n) c = .ok ⟨kvs.map fun kv => kD kv.1, none⟩ c := by simp [walkD, h]
theorem ix_fk {ms : MT} {n : Nat} {kvs : List (L2.Key × D)} {k : D} {c : CH} (h : c.get n = some (.fk kvs)) : ixH ms (.ref n) k c = (match (keyD k).bind (valD kvs) with | some d => .ok d c | none => .bad) := by
  simp only [ixH, insOf, h, dkOf] <;> rfl
theorem list_dk {n : Nat} {kvs : List (L2.Key × D)} {c : CH} (h : c.get n = some (.dk kvs)) : bty "list" [.ref n] c = .ok (.ref c.sz) (c.push (.lst (kvs.map fun kv => kD kv.1))) := by simp [bty, lstOf, h]
theorem w_lck {i n : Nat} {kvs : List (L2.Key × D)} {x : CE} {env : En} {ch : CH} {X : XR} {Q : D → CH → Prop} (he : env[i]? = some (some (.ref n))) (hg : ch.get n = some (.dk kvs))
    (h : wR (x env (ch.put n (.fk kvs))) (fun _ _ _ => False) fun d c => ∃ ks, c.get n = some (.fk ks) ∧ Q d (c.put n (.dk ks))) : wR (lckE i x env ch) X Q := by
  unfold lckE
  rw [he]
  dsimp only
  rw [hg]
  dsimp only
  cases q : x env (ch.put n (.fk kvs)) with
  | bad => rw [q] at h; exact h.elim
  | exc c fs c2 => rw [q] at h; exact h.elim
  | ok d c =>
    rw [q] at h
    obtain ⟨ks, h1, h2⟩ := h
    dsimp only
    rw [h1]
    exact h2
theorem s_lck {i n : Nat} {kvs : List (L2.Key × D)} {x : CB} {env : En} {ch : CH} {X : XS} {Q : En → Fl → CH → Prop} (he : env[i]? = some (some (.ref n))) (hg : ch.get n = some (.dk kvs))
    (h : wS (x env (ch.put n (.fk kvs))) (fun _ _ _ _ => False) fun e f c => ∃ ks, c.get n = some (.fk ks) ∧ Q e f (c.put n (.dk ks))) : wS (lckS i x env ch) X Q := by
  unfold lckS
  rw [he]
  dsimp only
  rw [hg]
  dsimp only
  cases q : x env (ch.put n (.fk kvs)) with
  | bad => rw [q] at h; exact h.elim
  | exc e c fs c2 => rw [q] at h; exact h.elim
  | ok e f c =>
    rw [q] at h
    obtain ⟨ks, h1, h2⟩ := h
    dsimp only
    rw [h1]
    exact h2
theorem c_ne_dk {ms : MT} {n m : Nat} {ks ls : List (L2.Key × D)} {c : CH} (h : c.get n = some (.dk ks)) (k : c.get m = some (.dk ls)) (e : (decide (ks.length = ls.length) && ks.all fun p => (match valD ls p.1 with | some d => immEq d p.2 | none => false)) = true) : cmpH ms .NotEq (.ref n) (.ref m) c = .ok (.bl false) c := by
  have t1 : toPy c 60 (.ref n) = none := by simp [toPy, h]
  have t2 : toPy c 60 (.ref m) = none := by simp [toPy, k]
  have d : dkEq c (.ref n) (.ref m) = true := by unfold dkEq; dsimp only; rw [h, k]; exact e
  simp only [cmpH, insOf, h, cmp, eqD, t1, t2, d, if_true]
/-! ## errors as values -/
@[simp] theorem w_err {x f : Str} {a : CE} {env : En} {ch : CH} {X : XR} {Q : D → CH → Prop} : wR (cErr x f a env ch) X Q = wR (a env ch) X (kBd (fun d c1 => .ok (.ref c1.sz) (c1.push (.xc x f d))) X Q) := wR_bind
@[simp] theorem w_eis {kl : List ((Str × Str) × Bool)} {x : Str} {a : CE} {env : En} {ch : CH} {X : XR} {Q : D → CH → Prop} : wR (cEIs kl x a env ch) X Q = wR (a env ch) X (kBd (fun d c1 => (match xcOf d c1 with
  | some c => (match kl.lookup (c, x) with | some b => .ok (.bl b) c1 | none => .bad)
  | none => .bad)) X Q) := wR_bind
@[simp] theorem w_fldx {exs : List (Str × Str)} {cs : List Str} {f : Str} {a : CE} {env : En} {ch : CH} {X : XR} {Q : D → CH → Prop} : wR (cFldX exs cs f a env ch) X Q = wR (a env ch) X (kBd (fun d c => (match xcAt d c with
  | some (x, g, v) => if g = f ∧ exs.lookup x = some f then .ok v c else .bad
  | none => fldH cs f d c)) X Q) := wR_bind
theorem xcAt_at {n : Nat} {x f : Str} {d : D} {c : CH} (h : c.get n = some (.xc x f d)) : xcAt (.ref n) c = some (x, f, d) := by simp [xcAt, h]
theorem xcOf_at {n : Nat} {x f : Str} {d : D} {c : CH} (h : c.get n = some (.xc x f d)) : xcOf (.ref n) c = some x := by simp [xcOf, h]
end LL
namespace LL
open PySem L2
/-! ## heaps that grow -/
abbrev noE : XR := fun _ _ _ => False
structure Ext (ch c : CH) : Prop where
  sz : ch.sz ≤ c.sz
  old : ∀ n, n < ch.sz → c.get n = ch.get n
theorem Ext.refl (ch : CH) : Ext ch ch := ⟨Nat.le_refl _, fun _ _ => rfl⟩
theorem Ext.trans {a b c : CH} (h : Ext a b) (k : Ext b c) : Ext a c := ⟨Nat.le_trans h.sz k.sz, fun n hn => (k.old n (Nat.lt_of_lt_of_le hn h.sz)).trans (h.old n hn)⟩
theorem Ext.push {ch : CH} {co : CO} : Ext ch (ch.push co) := ⟨Nat.le_succ _, fun n hn => by rw [CH.get_push_lt hn]⟩
theorem Ext.get {ch c : CH} {n : Nat} {co : CO} (h : Ext ch c) (e : ch.get n = some co) : c.get n = some co := by rw [h.old n (CH.lt e), e]
theorem Ext.putn {n : Nat} {ch c : CH} {co : CO} (h : Ext ch c) (hn : ch.sz ≤ n) (hl : n < c.sz) : Ext ch (c.put n co) := ⟨h.sz, fun m hm => by rw [get_put' hl, if_neg (by omega)]; exact h.old m hm⟩
theorem Ext.pushn {ch c : CH} {co : CO} (h : Ext ch c) : Ext ch (c.push co) := h.trans .push
/-- but for what stands at p -/
structure ExtB (p : Nat) (ch c : CH) : Prop where
  sz : ch.sz ≤ c.sz
  old : ∀ n, n < ch.sz → n ≠ p → c.get n = ch.get n
theorem Ext.b {p : Nat} {ch c : CH} (h : Ext ch c) : ExtB p ch c := ⟨h.sz, fun n hn _ => h.old n hn⟩
theorem ExtB.trans {p : Nat} {a b c : CH} (h : ExtB p a b) (k : ExtB p b c) : ExtB p a c := ⟨Nat.le_trans h.sz k.sz, fun n hn hp => (k.old n (Nat.lt_of_lt_of_le hn h.sz) hp).trans (h.old n hn hp)⟩
theorem ExtB.put {p : Nat} {ch : CH} {co : CO} (h : p < ch.sz) : ExtB p ch (ch.put p co) := ⟨Nat.le_refl _, fun n _ hp => by rw [get_put' h, if_neg hp]⟩
theorem ExtB.get {p : Nat} {ch c : CH} {n : Nat} {co : CO} (h : ExtB p ch c) (e : ch.get n = some co) (hp : n ≠ p) : c.get n = some co := by rw [h.old n (CH.lt e) hp, e]
theorem ExtB.push {p : Nat} {ch c : CH} {co : CO} (h : ExtB p ch c) : ExtB p ch (c.push co) := h.trans Ext.push.b
theorem ExtB.putn {p n : Nat} {ch c : CH} {co : CO} (h : ExtB p ch c) (hn : ch.sz ≤ n) (hl : n < c.sz) : ExtB p ch (c.put n co) :=
  ⟨h.sz, fun m hm hp => by rw [get_put' hl, if_neg (by omega)]; exact h.old m hm hp⟩
theorem ExtB.up {p : Nat} {ch c : CH} (h : ExtB p ch c) (hp : ch.sz ≤ p) : Ext ch c := ⟨h.sz, fun n hn => h.old n hn (by omega)⟩
/-! ## comprehensions -/
theorem wR_nx {α : Type} {r : Rs α} {X : XR} {Q : α → CH → Prop} (h : wR r noE Q) : wR r.nx X Q := by
  cases r with
  | ok a c => exact h
  | exc _ _ _ => exact h.elim
  | bad => exact h.elim
@[simp] theorem w_lc {t : Tg} {ifs : Option CQ} {elt : CE} {it : CI} {vs : List Nat} {env : En} {ch : CH} {X : XR} {Q : D → CH → Prop} : wR (cLc t ifs elt it vs env ch) X Q = wR (it env ch) X (kBd (fun w c => (lcB t ifs elt (okW w) (wipeE env vs) c.sz w.ds (c.push (.lst []))).bind fun _ c2 => .ok (.ref c.sz) c2) X Q) := wR_bind
@[simp] theorem w_lc2 {t : Tg} {ifs : Option CQ} {t1 : Tg} {it1 : CI} {ifs1 : Option CQ} {elt : CE} {it : CI} {vs vs1 : List Nat} {env : En} {ch : CH} {X : XR} {Q : D → CH → Prop} : wR (cLc2 t ifs t1 it1 ifs1 elt it vs vs1 env ch) X Q = wR (it env ch) X (kBd (fun w c => (lcB2 t ifs t1 it1 ifs1 elt (okW w) (wipeE env vs) vs1 c.sz w.ds (c.push (.lst []))).bind fun _ c2 => .ok (.ref c.sz) c2) X Q) := wR_bind
theorem w_ifs {e : CQ} {env : En} {c : CH} {X : XR} {Q : Bool → CH → Prop} (h : wR (e env c) noE Q) : wR (runIfs (some e) env c) X Q := wR_nx h
/-- one turn: the test, then the element -/
structure Turn (t : Tg) (ifs : Option CQ) (elt : CE) (env0 : En) (c0 : CH) (pr : D → Bool) (g : D → D) (d : D) : Prop where
  run : ∀ c, Ext c0 c → ∃ env, bindT t d env0 = some env ∧ wR (runIfs ifs env c) noE (fun b c1 => b = pr d ∧ Ext c c1) ∧ (pr d = true → ∀ c1, Ext c0 c1 → wR (elt env c1) noE (fun v c2 => v = g d ∧ Ext c1 c2))
theorem lcB_gen {t : Tg} {ifs : Option CQ} {elt : CE} {ok : CH → Bool} {env0 : En} {l : Nat} {c0 : CH} {pr : D → Bool} {g : D → D} {X : XR} (h0 : c0.sz ≤ l) (hok : ∀ c, Ext c0 c → ok c = true) :
    ∀ {ds acc : List D} {c : CH} {Q : Unit → CH → Prop}, Ext c0 c → c.get l = some (.lst acc) → acc.length + ds.length < 16777216 → (∀ d ∈ ds, Turn t ifs elt env0 c0 pr g d) →
      (∀ c', Ext c0 c' → ExtB l c c' → c'.get l = some (.lst (acc ++ (ds.filter pr).map g)) → Q () c') → wR (lcB t ifs elt ok env0 l ds c) X Q
  | [], acc, c, Q, e, hg, hl, _, k => by
    unfold lcB
    rw [if_pos (hok c e)]
    exact k c e ⟨Nat.le_refl _, fun _ _ _ => rfl⟩ (by simpa using hg)
  | d :: ds, acc, c, Q, e, hg, hl, ht, k => by
    unfold lcB
    rw [if_pos (hok c e)]
    obtain ⟨env, hb, hi, hel⟩ := (ht d List.mem_cons_self).run c e
    rw [hb]
    show wR (Rs.bind _ _) X Q
    rw [wR_bind]
    refine wR_of hi fun b c1 ⟨hb1, e1⟩ => ?_
    have E1 := e.trans e1
    have g1 := e1.get hg
    show wR (if b = true then _ else _) X Q
    subst hb1
    cases hp : pr d with
    | false =>
      rw [if_neg (by decide)]
      refine lcB_gen h0 hok E1 g1 (by simp only [List.length_cons] at hl; omega) (fun z hz => ht z (List.mem_cons_of_mem _ hz)) fun c' e' eb hg' => ?_
      exact k c' e' (e1.b.trans eb) (by rw [List.filter_cons_of_neg (by rw [hp]; decide)]; exact hg')
    | true =>
      rw [if_pos rfl, wR_bind]
      refine wR_nx (wR_of (hel hp c1 E1) fun v c2 ⟨hv, e2⟩ => ?_)
      subst hv
      have E2 := E1.trans e2
      have g2 := e2.get g1
      have l2 := CH.lt g2
      show wR (match c2.get l with
        | some (.lst acc) => if acc.length < 16777216 then lcB t ifs elt ok env0 l ds (c2.put l (.lst (acc ++ [g d]))) else .bad
        | _ => .bad) X Q
      rw [g2]
      show wR (if acc.length < 16777216 then _ else _) X Q
      rw [if_pos (by simp only [List.length_cons] at hl; omega)]
      refine lcB_gen h0 hok (E2.putn h0 l2) (acc := acc ++ [g d]) (by rw [get_put' l2, if_pos rfl]) (by simp only [List.length_cons, List.length_append, List.length_nil] at hl ⊢; omega) (fun z hz => ht z (List.mem_cons_of_mem _ hz)) fun c' e' eb hg' => ?_
      exact k c' e' (((e1.trans e2).b.trans (ExtB.put l2)).trans eb) (by rw [List.filter_cons_of_pos hp, List.map_cons]; simpa using hg')
/-- a comprehension over a new list -/
theorem lcB_ok {t : Tg} {ifs : Option CQ} {elt : CE} {ok : CH → Bool} {env0 : En} {c : CH} {ds : List D} {X : XR} {Q : Unit → CH → Prop} (pr : D → Bool) (g : D → D) (hok : ∀ c', Ext c c' → ok c' = true) (hl : ds.length < 16777216)
    (ht : ∀ d ∈ ds, Turn t ifs elt env0 c pr g d) (k : ∀ c', Ext c c' → c'.get c.sz = some (.lst ((ds.filter pr).map g)) → Q () c') : wR (lcB t ifs elt ok env0 c.sz ds (c.push (.lst []))) X Q :=
  lcB_gen (Nat.le_refl _) hok .push CH.get_push_self (by simpa using hl) ht fun c' e _ hg => k c' e (by simpa using hg)
/-- without a test -/
theorem Turn.all {t : Tg} {elt : CE} {env0 : En} {c0 : CH} {g : D → D} {d : D} {env : En} (hb : bindT t d env0 = some env) (h : ∀ c, Ext c0 c → wR (elt env c) noE (fun v c2 => v = g d ∧ Ext c c2)) : Turn t none elt env0 c0 (fun _ => true) g d :=
  ⟨fun c e => ⟨env, hb, ⟨rfl, .refl c⟩, fun _ => h⟩⟩
theorem filter_all {ds : List D} : ds.filter (fun _ => true) = ds := List.filter_eq_self.mpr fun _ _ => rfl
theorem lcB_map {t : Tg} {elt : CE} {ok : CH → Bool} {env0 : En} {c : CH} {ds : List D} {X : XR} {Q : Unit → CH → Prop} (g : D → D) (hok : ∀ c', Ext c c' → ok c' = true) (hl : ds.length < 16777216)
    (ht : ∀ d ∈ ds, ∃ env, bindT t d env0 = some env ∧ ∀ c', Ext c c' → wR (elt env c') noE (fun v c2 => v = g d ∧ Ext c' c2)) (k : ∀ c', Ext c c' → c'.get c.sz = some (.lst (ds.map g)) → Q () c') : wR (lcB t none elt ok env0 c.sz ds (c.push (.lst []))) X Q :=
  lcB_ok (fun _ => true) g hok hl (fun d hd => by obtain ⟨env, hb, h⟩ := ht d hd; exact .all hb h) fun c' e hg => k c' e (by rw [filter_all] at hg; exact hg)
/-! two loops: the inner one is walked anew for each item -/
theorem lcB2_gen {t : Tg} {t1 : Tg} {it1 : CI} {elt : CE} {ok : CH → Bool} {env0 : En} {vs1 : List Nat} {l : Nat} {c0 : CH} {inner : D → List D} {g : D → D → D} {X : XR} (h0 : c0.sz ≤ l) (hok : ∀ c, Ext c0 c → ok c = true) :
    ∀ {ds acc : List D} {c : CH} {Q : Unit → CH → Prop}, Ext c0 c → c.get l = some (.lst acc) → acc.length + (ds.flatMap inner).length < 16777216 →
      (∀ d ∈ ds, ∃ env, bindT t d env0 = some env ∧ (∀ c, Ext c0 c → it1 env c = .ok ⟨inner d, none⟩ c) ∧ ∀ x ∈ inner d, ∃ env1, bindT t1 x (wipeE env vs1) = some env1 ∧ ∀ c, Ext c0 c → wR (elt env1 c) noE (fun v c2 => v = g d x ∧ Ext c c2)) →
      (∀ c', Ext c0 c' → ExtB l c c' → c'.get l = some (.lst (acc ++ ds.flatMap fun d => (inner d).map (g d))) → Q () c') → wR (lcB2 t none t1 it1 none elt ok env0 vs1 l ds c) X Q
  | [], acc, c, Q, e, hg, hl, _, k => by
    unfold lcB2
    rw [if_pos (hok c e)]
    exact k c e ⟨Nat.le_refl _, fun _ _ _ => rfl⟩ (by simpa using hg)
  | d :: ds, acc, c, Q, e, hg, hl, ht, k => by
    unfold lcB2
    rw [if_pos (hok c e)]
    obtain ⟨env, hb, hi, hel⟩ := ht d List.mem_cons_self
    rw [hb]
    show wR ((it1 env c).nx.bind _) X Q
    rw [hi c e]
    rw [List.flatMap_cons, List.length_append] at hl
    show wR ((lcB t1 none elt (okW ⟨inner d, none⟩) (wipeE env vs1) l (inner d) c).bind _) X Q
    rw [wR_bind]
    show wR (lcB t1 none elt (okW ⟨inner d, none⟩) (wipeE env vs1) l (inner d) c) X _
    refine lcB_gen (ds := inner d) h0 (fun _ _ => rfl) e hg (by omega) (fun x hx => ?_) (g := g d) (pr := fun _ => true) fun c' e' eb hg' => ?_
    · obtain ⟨env1, hb1, h1⟩ := hel x hx
      exact .all hb1 h1
    · rw [filter_all] at hg'
      show wR (lcB2 _ _ _ _ _ _ _ _ _ _ _ _) X Q
      refine lcB2_gen h0 hok e' hg' (by rw [List.length_append, List.length_map]; omega) (fun z hz => ht z (List.mem_cons_of_mem _ hz)) fun c2 e2 eb2 hg2 => ?_
      exact k c2 e2 (eb.trans eb2) (by rw [List.flatMap_cons, ← List.append_assoc]; exact hg2)
theorem lcB2_ok {t : Tg} {t1 : Tg} {it1 : CI} {elt : CE} {ok : CH → Bool} {env0 : En} {vs1 : List Nat} {c : CH} {ds : List D} {X : XR} {Q : Unit → CH → Prop} (inner : D → List D) (g : D → D → D) (hok : ∀ c', Ext c c' → ok c' = true) (hl : (ds.flatMap inner).length < 16777216)
    (ht : ∀ d ∈ ds, ∃ env, bindT t d env0 = some env ∧ (∀ c', Ext c c' → it1 env c' = .ok ⟨inner d, none⟩ c') ∧ ∀ x ∈ inner d, ∃ env1, bindT t1 x (wipeE env vs1) = some env1 ∧ ∀ c', Ext c c' → wR (elt env1 c') noE (fun v c2 => v = g d x ∧ Ext c' c2))
    (k : ∀ c', Ext c c' → c'.get c.sz = some (.lst (ds.flatMap fun d => (inner d).map (g d))) → Q () c') : wR (lcB2 t none t1 it1 none elt ok env0 vs1 c.sz ds (c.push (.lst []))) X Q :=
  lcB2_gen (Nat.le_refl _) hok .push CH.get_push_self (by simpa using hl) ht fun c' e _ hg => k c' e (by simpa using hg)
theorem rng_ok {i j : Int} {c : CH} (h1 : -1000000000 ≤ i ∧ i ≤ 1000000000) (h2 : -1000000000 ≤ j ∧ j ≤ 1000000000) : rng i j c = .ok ⟨(List.range (j - i).toNat).map fun k => .int (i + (k : Nat)), none⟩ c := by
  have e : (2 : Int) ^ 62 = 4611686018427387904 := by decide
  unfold rng
  rw [if_pos]
  unfold inRg
  rw [e]
  simp only [Bool.and_eq_true, decide_eq_true_eq]
  omega
/-! ### while: an invariant with a measure -/
theorem s_while {t : CQ} {body : CB} {env : En} {ch : CH} : sWhile t body env ch = whC t body 1000000 env ch := rfl
theorem whC_inv {t : CQ} {body : CB} {XX : XS} {Q : En → Fl → CH → Prop} (I : Nat → En → CH → Prop)
    (step : ∀ n e c, I n e c → wR (t e c) (fun _ _ _ => False) fun b c1 => if b = true then wS (body e c1) XX (fun e2 f c2 => match f with
      | .nx => ∃ m, m < n ∧ I m e2 c2
      | .ct => ∃ m, m < n ∧ I m e2 c2
      | .br => Q e2 .nx c2
      | .rt v => Q e2 (.rt v) c2) else Q e .nx c1) : ∀ k n e c, n < k → I n e c → wS (whC t body k e c) XX Q
  | 0, n, e, c, h, _ => by omega
  | k + 1, n, e, c, h, i => by
    unfold whC
    rw [wS_lift]
    refine wR_mono (step n e c i) (fun b c1 hb => ?_) fun _ _ _ z => z.elim
    show wS (if b = true then _ else _) XX Q
    cases b with
    | false => exact hb
    | true =>
      rw [if_pos rfl] at hb ⊢
      revert hb
      cases body e c1 with
      | bad => exact fun hb => hb.elim
      | exc e2 c2 fs hh => exact fun hb => hb
      | ok e2 f c2 =>
        intro hb
        cases f with
        | nx => obtain ⟨m, hm, im⟩ := hb; exact whC_inv I step k m e2 c2 (by omega) im
        | ct => obtain ⟨m, hm, im⟩ := hb; exact whC_inv I step k m e2 c2 (by omega) im
        | br => exact hb
        | rt v => exact hb
/-! ### comprehensions that make dicts -/
@[simp] theorem w_dc {t : Tg} {ifs : Option CQ} {kx vx : CE} {it : CI} {vs : List Nat} {env : En} {ch : CH} {X : XR} {Q : D → CH → Prop} : wR (cDc t ifs kx vx it vs env ch) X Q = wR (it env ch) X (kBd (fun w c => (dcB t ifs kx vx (okW w) (wipeE env vs) c.sz w.ds (c.push (.dk []))).bind fun _ c2 => .ok (.ref c.sz) c2) X Q) := wR_bind
theorem putD_len {kvs : List (L2.Key × D)} {k : L2.Key} {v : D} : (putD kvs k v).length ≤ kvs.length + 1 := by
  unfold putD
  split
  · rw [List.length_map]; omega
  · rw [List.length_append]; exact Nat.le_refl _
theorem dcB_gen {t : Tg} {kx vx : CE} {ok : CH → Bool} {env0 : En} {l : Nat} {c0 : CH} {kf : D → L2.Key} {vf : D → D} {X : XR} (h0 : c0.sz ≤ l) (hok : ∀ c, Ext c0 c → ok c = true) :
    ∀ {ds : List D} {acc : List (L2.Key × D)} {c : CH} {Q : Unit → CH → Prop}, Ext c0 c → c.get l = some (.dk acc) → acc.length + ds.length < 16777216 →
      (∀ d ∈ ds, ∃ env y, bindT t d env0 = some env ∧ keyD y = some (kf d) ∧ ∀ c', Ext c0 c' → wR (kx env c') noE (fun v c2 => v = y ∧ Ext c' c2) ∧ wR (vx env c') noE (fun v c2 => v = vf d ∧ Ext c' c2)) →
      (∀ c', Ext c0 c' → ExtB l c c' → c'.get l = some (.dk (mergeD acc (ds.map fun d => (kf d, vf d)))) → Q () c') → wR (dcB t none kx vx ok env0 l ds c) X Q
  | [], acc, c, Q, e, hg, hl, _, k => by
    unfold dcB
    rw [if_pos (hok c e)]
    exact k c e ⟨Nat.le_refl _, fun _ _ _ => rfl⟩ (by simpa [mergeD] using hg)
  | d :: ds, acc, c, Q, e, hg, hl, ht, k => by
    unfold dcB
    rw [if_pos (hok c e)]
    obtain ⟨env, y, hb, hk, hel⟩ := ht d List.mem_cons_self
    rw [hb]
    show wR ((Rs.ok true c).bind _) X Q
    rw [wR_bind]
    show wR (if true = true then _ else _) X Q
    rw [if_pos rfl, wR_bind]
    refine wR_nx (wR_of (hel c e).1 fun v c1 ⟨hv, e1⟩ => ?_)
    subst hv
    have E1 := e.trans e1
    show wR (Rs.bind _ _) X Q
    rw [wR_bind]
    refine wR_nx (wR_of (hel c1 E1).2 fun z c2 ⟨hz, e2⟩ => ?_)
    subst hz
    have E2 := E1.trans e2
    have g2 := e2.get (e1.get hg)
    have l2 := CH.lt g2
    show wR (match keyD v, c2.get l with
        | some k, some (.dk kvs) => if kvs.length < 16777216 then dcB t none kx vx ok env0 l ds (c2.put l (.dk (putD kvs k (vf d)))) else .bad
        | _, _ => .bad) X Q
    rw [hk, g2]
    show wR (if acc.length < 16777216 then _ else _) X Q
    simp only [List.length_cons] at hl
    rw [if_pos (by omega)]
    have pl := putD_len (kvs := acc) (k := kf d) (v := vf d)
    refine dcB_gen h0 hok (E2.putn h0 l2) (acc := putD acc (kf d) (vf d)) (by rw [get_put' l2, if_pos rfl]) (by omega) (fun z hz => ht z (List.mem_cons_of_mem _ hz)) fun c' e' eb hg' => ?_
    exact k c' e' (((e1.trans e2).b.trans (ExtB.put l2)).trans eb) (by simpa [mergeD] using hg')
theorem dcB_ok {t : Tg} {kx vx : CE} {ok : CH → Bool} {env0 : En} {c : CH} {ds : List D} {X : XR} {Q : Unit → CH → Prop} (kf : D → L2.Key) (vf : D → D) (hok : ∀ c', Ext c c' → ok c' = true) (hl : ds.length < 16777216)
    (ht : ∀ d ∈ ds, ∃ env y, bindT t d env0 = some env ∧ keyD y = some (kf d) ∧ ∀ c', Ext c c' → wR (kx env c') noE (fun v c2 => v = y ∧ Ext c' c2) ∧ wR (vx env c') noE (fun v c2 => v = vf d ∧ Ext c' c2))
    (k : ∀ c', Ext c c' → c'.get c.sz = some (.dk (mergeD [] (ds.map fun d => (kf d, vf d)))) → Q () c') : wR (dcB t none kx vx ok env0 c.sz ds (c.push (.dk []))) X Q :=
  dcB_gen (Nat.le_refl _) hok .push CH.get_push_self (by simpa using hl) ht fun c' e _ hg => k c' e hg
end LL
namespace K22
open PySem L2 LL
def patsOf (k : Str) : List Pat := []
@[irreducible] def T : Tab := tabX PySem.Challenge.pw_liftedladders_k22_errors [] ["_wall"] patsOf ["BadNumber", "BadBook", "BadPlace", "BadGame", "BadMove", "BadLot", "BadWorths", "BadGoal", "BadHand", "BadHonest", "BadGames", "BadBout", "BadRow", "BadChances", "BadOpponent", "BadPlan", "BadMenu", "BadChoice", "BadWish", "BadTold", "BadName", "BadText", "BadLine", "UnknownPlace", "TooMany", "NothingToUndo"] [] [] (([(("BadNumber", "LadderError"), true), (("BadNumber", "ValueError"), true), (("BadBook", "LadderError"), true), (("BadBook", "ValueError"), true), (("BadPlace", "LadderError"), true), (("BadPlace", "ValueError"), true), (("BadGame", "LadderError"), true), (("BadGame", "ValueError"), true), (("BadMove", "LadderError"), true), (("BadMove", "ValueError"), true), (("BadLot", "LadderError"), true), (("BadLot", "ValueError"), true), (("BadWorths", "LadderError"), true), (("BadWorths", "ValueError"), true), (("BadWish", "LadderError"), true), (("BadWish", "ValueError"), true), (("BadLine", "LadderError"), true), (("BadLine", "ValueError"), true), (("BadGoal", "LadderError"), true), (("BadGoal", "ValueError"), true)] : List ((Str × Str) × Bool)) ++ ([(("BadHand", "LadderError"), true), (("BadHand", "ValueError"), true), (("BadHonest", "LadderError"), true), (("BadHonest", "ValueError"), true), (("BadGames", "LadderError"), true), (("BadGames", "ValueError"), true), (("BadBout", "LadderError"), true), (("BadBout", "ValueError"), true), (("BadRow", "LadderError"), true), (("BadRow", "ValueError"), true), (("BadChances", "LadderError"), true), (("BadChances", "ValueError"), true), (("BadOpponent", "LadderError"), true), (("BadOpponent", "ValueError"), true), (("BadPlan", "LadderError"), true), (("BadPlan", "ValueError"), true), (("BadMenu", "LadderError"), true), (("BadMenu", "ValueError"), true), (("BadChoice", "LadderError"), true), (("BadChoice", "ValueError"), true)] : List ((Str × Str) × Bool)) ++ ([(("BadTold", "LadderError"), true), (("BadTold", "ValueError"), true), (("BadName", "LadderError"), true), (("BadName", "ValueError"), true), (("BadText", "LadderError"), true), (("BadText", "ValueError"), true), (("BadPlace", "BadBook"), false), (("BadBook", "BadPlace"), false), (("BadGames", "BadGame"), false), (("BadRow", "BadBout"), false), (("BadHonest", "BadHand"), false), (("BadTold", "BadText"), false), (("UnknownPlace", "KeyError"), true), (("TooMany", "OverflowError"), true), (("NothingToUndo", "RuntimeError"), true), (("UnknownPlace", "LadderError"), false), (("TooMany", "LadderError"), false), (("NothingToUndo", "LadderError"), false)] : List ((Str × Str) × Bool))) [] [] true ["BadNumber", "BadBook", "BadPlace", "BadGame", "BadMove", "BadLot", "BadWorths", "BadGoal", "BadHand", "BadHonest", "BadGames", "BadBout", "BadRow", "BadChances", "BadOpponent", "BadPlan", "BadMenu", "BadChoice", "BadWish", "BadTold", "BadName", "BadText", "BadLine", "UnknownPlace", "TooMany", "NothingToUndo"]
def kwd : KwT := fun k => []
abbrev R : PySem.W.OpenRow := PySem.W.OpenLaw.row PySem.Challenge.rw_liftedladders_k22_errors
end K22
namespace K22
open PySem LL
def catT : List ((Str × Str) × Bool) := []
def kitT : List ((Str × Str) × Bool) := (([(("BadNumber", "LadderError"), true), (("BadNumber", "ValueError"), true), (("BadBook", "LadderError"), true), (("BadBook", "ValueError"), true), (("BadPlace", "LadderError"), true), (("BadPlace", "ValueError"), true), (("BadGame", "LadderError"), true), (("BadGame", "ValueError"), true), (("BadMove", "LadderError"), true), (("BadMove", "ValueError"), true), (("BadLot", "LadderError"), true), (("BadLot", "ValueError"), true), (("BadWorths", "LadderError"), true), (("BadWorths", "ValueError"), true), (("BadWish", "LadderError"), true), (("BadWish", "ValueError"), true), (("BadLine", "LadderError"), true), (("BadLine", "ValueError"), true), (("BadGoal", "LadderError"), true), (("BadGoal", "ValueError"), true)] : List ((Str × Str) × Bool)) ++ ([(("BadHand", "LadderError"), true), (("BadHand", "ValueError"), true), (("BadHonest", "LadderError"), true), (("BadHonest", "ValueError"), true), (("BadGames", "LadderError"), true), (("BadGames", "ValueError"), true), (("BadBout", "LadderError"), true), (("BadBout", "ValueError"), true), (("BadRow", "LadderError"), true), (("BadRow", "ValueError"), true), (("BadChances", "LadderError"), true), (("BadChances", "ValueError"), true), (("BadOpponent", "LadderError"), true), (("BadOpponent", "ValueError"), true), (("BadPlan", "LadderError"), true), (("BadPlan", "ValueError"), true), (("BadMenu", "LadderError"), true), (("BadMenu", "ValueError"), true), (("BadChoice", "LadderError"), true), (("BadChoice", "ValueError"), true)] : List ((Str × Str) × Bool)) ++ ([(("BadTold", "LadderError"), true), (("BadTold", "ValueError"), true), (("BadName", "LadderError"), true), (("BadName", "ValueError"), true), (("BadText", "LadderError"), true), (("BadText", "ValueError"), true), (("BadPlace", "BadBook"), false), (("BadBook", "BadPlace"), false), (("BadGames", "BadGame"), false), (("BadRow", "BadBout"), false), (("BadHonest", "BadHand"), false), (("BadTold", "BadText"), false), (("UnknownPlace", "KeyError"), true), (("TooMany", "OverflowError"), true), (("NothingToUndo", "RuntimeError"), true), (("UnknownPlace", "LadderError"), false), (("TooMany", "LadderError"), false), (("NothingToUndo", "LadderError"), false)] : List ((Str × Str) × Bool)))
def exsT : List (Str × Str) := [("BadNumber", "number"), ("BadBook", "part"), ("BadPlace", "place"), ("BadGame", "value"), ("BadMove", "index"), ("BadLot", "place"), ("BadWorths", "place"), ("BadGoal", "part"), ("BadHand", "hand"), ("BadHonest", "index"), ("BadGames", "number"), ("BadBout", "index"), ("BadRow", "index"), ("BadChances", "index"), ("BadOpponent", "index"), ("BadPlan", "key"), ("BadMenu", "index"), ("BadChoice", "choice"), ("BadWish", "index"), ("BadTold", "index"), ("BadName", "name"), ("BadText", "index"), ("BadLine", "line"), ("UnknownPlace", "place"), ("TooMany", "limit"), ("NothingToUndo", "name")]
def b__law_pool : CB := (sSeq (sAsg (gSet 2) (cIf (qCmp [] .Lt (cVar 1) (cLen [] [(cVar 0)])) (cIx [] (cVar 0) (cVar 1)) (cBin .Add (cBin .Mult (cCon (.int 7)) (cBi "sum" [(cSl (cVar 0) none (some (cCon (.int 63))))])) (cVar 1)))) (sSeq (sAsg (gSet 3) (cBi "abs" [(cVar 2)])) (sSeq (sAsg (gSet 4) (cBin .Add (cBin .Add (cBin .Add (cBin .Mod (cTy "int" [(cVar 3)]) (cCon (.int 2147483629))) (cBin .Mult (cBin .Mult (cCon (.int 7919)) (cVar 1)) (cVar 1))) (cBin .Mult (cCon (.int 31)) (cVar 1))) (cCon (.int 17)))) (sSeq (sAsg (gSet 4) (cBin .Mod (cTy "int" [(cBin .Mult (cVar 4) (cCon (.int 48271)))]) (cCon (.int 2147483647)))) (sSeq (sRet (cLst [(cBin .Mult (cVar 3) (cTy "int" [(cCmp [] .GtE (cVar 3) (cBin .Pow (cCon (.int 10)) (cCon (.int 18))))])), (cBin .Mod (cTy "int" [(cBin .Mult (cVar 4) (cVar 4))]) (cCon (.int 2147483629)))])) sSkip)))))
def f__law_pool : Fn := runFn 2 5 b__law_pool
def mi__law_pool : MI := ⟨f__law_pool, [⟨2, [], [.pos 0, .pos 1]⟩]⟩

def b__law_draw : CB := (sSeq (sIf (qCmp [] .Gt (cIx [] (cVar 0) (cCon (.int 0))) (cCon (.int 0))) (sSeq (sAsg (gSet 2) (cBin .Mod (cTy "int" [(cIx [] (cVar 0) (cCon (.int 0)))]) (cVar 1))) (sSeq (sAsg (gIx (cVar 0) (cCon (.int 0))) (cBin .FloorDiv (cIx [] (cVar 0) (cCon (.int 0))) (cVar 1))) (sSeq (sRet (cVar 2)) sSkip))) sSkip) (sSeq (sAsg (gIx (cVar 0) (cCon (.int 1))) (cBin .Mod (cTy "int" [(cBin .Add (cBin .Mult (cIx [] (cVar 0) (cCon (.int 1))) (cCon (.int 48271))) (cCon (.int 11)))]) (cCon (.int 2147483647)))) (sSeq (sRet (cBin .Mod (cTy "int" [(cBin .FloorDiv (cBin .Mod (cTy "int" [(cBin .Mult (cIx [] (cVar 0) (cCon (.int 1))) (cIx [] (cVar 0) (cCon (.int 1))))]) (cCon (.int 2147483629))) (cCon (.int 16)))]) (cVar 1))) sSkip)))
def f__law_draw : Fn := runFn 2 3 b__law_draw
def mi__law_draw : MI := ⟨f__law_draw, [⟨2, [], [.pos 0, .pos 1]⟩]⟩

def b__law_kinds_right_1 : CB := (sSeq (sIf (qAll .Or [(qNot (qVal (cEIs kitT "LadderError" (cVar 1)))), (qNot (qVal (cEIs kitT "ValueError" (cVar 1))))]) (sSeq (sRet (cCon (.bl false))) sSkip) sSkip) sSkip)
def b__law_kinds_right_2 : CB := (sSeq (sIf (qVal (cEIs kitT "LadderError" (cVar 1))) (sSeq (sRet (cCon (.bl false))) sSkip) sSkip) sSkip)
def b__law_kinds_right : CB := (sSeq (sAsg (gSet 0) (cLst [(cErr "BadNumber" "number" (cCon (.int 1))), (cErr "BadBook" "part" (cCon (.int 1))), (cErr "BadPlace" "place" (cCon (.int 1))), (cErr "BadGame" "value" (cCon (.int 1))), (cErr "BadMove" "index" (cCon (.int 1))), (cErr "BadLot" "place" (cCon (.int 1)))])) (sSeq (sAsg (gSet 0) (cBin .Add (cVar 0) (cLst [(cErr "BadWorths" "place" (cCon (.int 1))), (cErr "BadWish" "index" (cCon (.int 1))), (cErr "BadLine" "line" (cCon (.int 1))), (cErr "BadGoal" "part" (cCon (.int 1))), (cErr "BadHand" "hand" (cCon (.int 1))), (cErr "BadHonest" "index" (cCon (.int 1)))]))) (sSeq (sAsg (gSet 0) (cBin .Add (cVar 0) (cLst [(cErr "BadGames" "number" (cCon (.int 1))), (cErr "BadBout" "index" (cCon (.int 1))), (cErr "BadRow" "index" (cCon (.int 1))), (cErr "BadChances" "index" (cCon (.int 1))), (cErr "BadOpponent" "index" (cCon (.int 1)))]))) (sSeq (sAsg (gSet 0) (cBin .Add (cVar 0) (cLst [(cErr "BadPlan" "key" (cCon (.int 1))), (cErr "BadMenu" "index" (cCon (.int 1))), (cErr "BadChoice" "choice" (cCon (.int 1))), (cErr "BadTold" "index" (cCon (.int 1))), (cErr "BadName" "name" (cCon (.int 1))), (cErr "BadText" "index" (cCon (.int 1)))]))) (sSeq (sFor (gSet 1) (iVal (cVar 0)) b__law_kinds_right_1) (sSeq (sIf (qAll .Or [(qVal (cEIs kitT "BadBook" (cErr "BadPlace" "place" (cCon (.int 1))))), (qVal (cEIs kitT "BadPlace" (cErr "BadBook" "part" (cCon (.int 1))))), (qVal (cEIs kitT "BadGame" (cErr "BadGames" "number" (cCon (.int 1)))))]) (sSeq (sRet (cCon (.bl false))) sSkip) sSkip) (sSeq (sIf (qAll .Or [(qVal (cEIs kitT "BadBout" (cErr "BadRow" "index" (cCon (.int 1))))), (qVal (cEIs kitT "BadHand" (cErr "BadHonest" "index" (cCon (.int 1))))), (qVal (cEIs kitT "BadText" (cErr "BadTold" "index" (cCon (.int 1)))))]) (sSeq (sRet (cCon (.bl false))) sSkip) sSkip) (sSeq (sIf (qAll .Or [(qNot (qVal (cEIs kitT "KeyError" (cErr "UnknownPlace" "place" (cCon (.int 1)))))), (qNot (qVal (cEIs kitT "OverflowError" (cErr "TooMany" "limit" (cCon (.int 1))))))]) (sSeq (sRet (cCon (.bl false))) sSkip) sSkip) (sSeq (sIf (qNot (qVal (cEIs kitT "RuntimeError" (cErr "NothingToUndo" "name" (cCon (.int 1)))))) (sSeq (sRet (cCon (.bl false))) sSkip) sSkip) (sSeq (sFor (gSet 1) (iVal (cLst [(cErr "UnknownPlace" "place" (cCon (.int 1))), (cErr "TooMany" "limit" (cCon (.int 1))), (cErr "NothingToUndo" "name" (cCon (.int 1)))])) b__law_kinds_right_2) (sSeq (sRet (cCon (.bl true))) sSkip)))))))))))
def f__law_kinds_right : Fn := runFn 0 2 b__law_kinds_right
def mi__law_kinds_right : MI := ⟨f__law_kinds_right, [⟨0, [], []⟩]⟩

def b__law_kept_too : CB := (sSeq (sIf (qAll .Or [(qCmp [] .NotEq (cFldX exsT [] "index" (cErr "BadChances" "index" (cVar 0))) (cVar 0)), (qCmp [] .NotEq (cFldX exsT [] "index" (cErr "BadOpponent" "index" (cVar 0))) (cVar 0))]) (sSeq (sRet (cCon (.bl false))) sSkip) sSkip) (sSeq (sIf (qCmp [] .NotEq (cFldX exsT [] "index" (cErr "BadMenu" "index" (cVar 0))) (cVar 0)) (sSeq (sRet (cCon (.bl false))) sSkip) sSkip) (sSeq (sIf (qAll .Or [(qCmp [] .NotEq (cFldX exsT [] "choice" (cErr "BadChoice" "choice" (cVar 0))) (cVar 0)), (qCmp [] .NotEq (cFldX exsT [] "index" (cErr "BadWish" "index" (cVar 0))) (cVar 0))]) (sSeq (sRet (cCon (.bl false))) sSkip) sSkip) (sSeq (sIf (qCmp [] .NotEq (cFldX exsT [] "index" (cErr "BadTold" "index" (cVar 0))) (cVar 0)) (sSeq (sRet (cCon (.bl false))) sSkip) sSkip) (sSeq (sIf (qAll .Or [(qCmp [] .NotEq (cFldX exsT [] "name" (cErr "BadName" "name" (cVar 0))) (cVar 0)), (qCmp [] .NotEq (cFldX exsT [] "index" (cErr "BadText" "index" (cVar 0))) (cVar 0))]) (sSeq (sRet (cCon (.bl false))) sSkip) sSkip) (sSeq (sIf (qCmp [] .NotEq (cFldX exsT [] "line" (cErr "BadLine" "line" (cVar 0))) (cVar 0)) (sSeq (sRet (cCon (.bl false))) sSkip) sSkip) (sSeq (sIf (qAll .Or [(qCmp [] .NotEq (cFldX exsT [] "place" (cErr "UnknownPlace" "place" (cVar 0))) (cVar 0)), (qCmp [] .NotEq (cFldX exsT [] "limit" (cErr "TooMany" "limit" (cVar 0))) (cVar 0))]) (sSeq (sRet (cCon (.bl false))) sSkip) sSkip) (sSeq (sIf (qCmp [] .NotEq (cFldX exsT [] "name" (cErr "NothingToUndo" "name" (cVar 0))) (cVar 0)) (sSeq (sRet (cCon (.bl false))) sSkip) sSkip) (sSeq (sIf (qAll .Or [(qCmp [] .NotEq (cFldX exsT [] "index" (cErr "BadBout" "index" (cVar 0))) (cVar 0)), (qCmp [] .NotEq (cFldX exsT [] "index" (cErr "BadRow" "index" (cVar 0))) (cVar 0))]) (sSeq (sRet (cCon (.bl false))) sSkip) sSkip) (sSeq (sRet (cCon (.bl true))) sSkip))))))))))
def f__law_kept_too : Fn := runFn 1 1 b__law_kept_too
def mi__law_kept_too : MI := ⟨f__law_kept_too, [⟨1, [], [.pos 0]⟩]⟩

def b_law_1 : CB := (sSeq (sIf (qAll .Or [(qCmp [] .NotEq (cFldX exsT [] "number" (cErr "BadNumber" "number" (cVar 3))) (cVar 3)), (qCmp [] .NotEq (cFldX exsT [] "part" (cErr "BadBook" "part" (cVar 3))) (cVar 3))]) (sSeq (sRet (cCon (.bl false))) sSkip) sSkip) (sSeq (sIf (qCmp [] .NotEq (cFldX exsT [] "place" (cErr "BadPlace" "place" (cVar 3))) (cVar 3)) (sSeq (sRet (cCon (.bl false))) sSkip) sSkip) (sSeq (sIf (qAll .Or [(qCmp [] .NotEq (cFldX exsT [] "value" (cErr "BadGame" "value" (cVar 3))) (cVar 3)), (qCmp [] .NotEq (cFldX exsT [] "index" (cErr "BadMove" "index" (cVar 3))) (cVar 3))]) (sSeq (sRet (cCon (.bl false))) sSkip) sSkip) (sSeq (sIf (qCmp [] .NotEq (cFldX exsT [] "place" (cErr "BadLot" "place" (cVar 3))) (cVar 3)) (sSeq (sRet (cCon (.bl false))) sSkip) sSkip) (sSeq (sIf (qAll .Or [(qCmp [] .NotEq (cFldX exsT [] "place" (cErr "BadWorths" "place" (cVar 3))) (cVar 3)), (qCmp [] .NotEq (cFldX exsT [] "part" (cErr "BadGoal" "part" (cVar 3))) (cVar 3))]) (sSeq (sRet (cCon (.bl false))) sSkip) sSkip) (sSeq (sIf (qCmp [] .NotEq (cFldX exsT [] "hand" (cErr "BadHand" "hand" (cVar 3))) (cVar 3)) (sSeq (sRet (cCon (.bl false))) sSkip) sSkip) (sSeq (sIf (qAll .Or [(qCmp [] .NotEq (cFldX exsT [] "index" (cErr "BadHonest" "index" (cVar 3))) (cVar 3)), (qCmp [] .NotEq (cFldX exsT [] "number" (cErr "BadGames" "number" (cVar 3))) (cVar 3))]) (sSeq (sRet (cCon (.bl false))) sSkip) sSkip) (sSeq (sIf (qCmp [] .NotEq (cFldX exsT [] "key" (cErr "BadPlan" "key" (cVar 3))) (cVar 3)) (sSeq (sRet (cCon (.bl false))) sSkip) sSkip) (sSeq (sIf (qNot (qVal (cFn f__law_kept_too ⟨1, [], [.pos 0]⟩ [(cVar 3)] []))) (sSeq (sRet (cCon (.bl false))) sSkip) sSkip) (sSeq (sIf (qAll .Or [(qCmp [] .NotEq (cFldX exsT [] "number" (cErr "BadNumber" "number" (cVar 3))) (cVar 3)), (qCmp [] .NotEq (cFldX exsT [] "limit" (cErr "TooMany" "limit" (cVar 3))) (cVar 3))]) (sSeq (sRet (cCon (.bl false))) sSkip) sSkip) sSkip))))))))))
def b_law_2 : CB := (sSeq (sAsg (gSet 2) (cFn f__law_pool ⟨2, [], [.pos 0, .pos 1]⟩ [(cVar 0), (cVar 1)] [])) (sSeq (sFor (gSet 3) (iVal (cLst [(cCon .non), (cCon (.int 7)), (cCon (.str "word")), (cTup []), (cLst [(cCon (.int 1))]), (cFn f__law_draw ⟨2, [], [.pos 0, .pos 1]⟩ [(cVar 2), (cBin .Pow (cCon (.int 10)) (cCon (.int 30)))] [])])) b_law_1) (sSeq (sIf (qNot (qVal (cFn f__law_kinds_right ⟨0, [], []⟩ [] []))) (sSeq (sRet (cCon (.bl false))) sSkip) sSkip) sSkip)))
def b_law : CB := (sSeq (sFor (gSet 1) (iRng1 (cBi "max" [(cCon (.int 1)), (cBi "min" [(cLen [] [(cVar 0)]), (cCon (.int 2))])])) b_law_2) (sSeq (sRet (cCon (.bl true))) sSkip))
def f_law : Fn := runFn 1 4 b_law
def mi_law : MI := ⟨f_law, [⟨1, [], [.pos 0]⟩]⟩

end K22
namespace K22
open PySem PySem.Spec PyProof.Rows L2 LL He
def ob (s : PySem.W.SharedT) : He.AlD := obsLG 5 R.prog T kwd (HandSHeadRun.getT s)
theorem ob_eq (s : PySem.W.SharedT) : ob s = (hookL 5 R.prog T kwd).obs s.abs := obsLG_eq (HandSHeadRun.getT_eq s)
def loose : List Str := (PySem.Challenge.pw_liftedladders_k22_errors.main.scope.names.map (·.1)).filter fun x => !(["law"] : List Str).contains x
theorem run (w : World) : HandSHeadRun.RunEq R (PySem.W.view R.prog [33]) (hookL 5 R.prog T kwd) ob 9000 loose w := by
  intro os; kernel_rfl
end K22
namespace K22
open PySem LL
/-- the pool -/
def Pool (p : Nat) (ch : CH) : Prop := ∃ A B : Int, ch.get p = some (.lst [.int A, .int B]) ∧ 0 ≤ A ∧ 0 ≤ B ∧ B < 2147483647
theorem Pool.ext {p : Nat} {ch c : CH} (h : Pool p ch) (e : Ext ch c) : Pool p c := by
  obtain ⟨A, B, h1, h2⟩ := h
  exact ⟨A, B, e.get h1, h2⟩
theorem Pool.lt {p : Nat} {ch : CH} (h : Pool p ch) : p < ch.sz := by
  obtain ⟨A, B, h1, _⟩ := h
  exact CH.lt h1
theorem Pool.push {p : Nat} {c : CH} {co : CO} (h : Pool p c) : Pool p (c.push co) := h.ext .push
theorem fm0 {a m : Int} (h : 0 < m) : 0 ≤ a.fmod m := Int.fmod_nonneg_of_pos a h
theorem fm1 {a m : Int} (h : 0 < m) : a.fmod m < m := Int.fmod_lt_of_pos a h
/-! ### drawing -/
theorem draw_ok {p : Nat} {m : Int} {ch : CH} (hp : Pool p ch) (hm : 0 < m) (hw : wid m = true) :
    wR (f__law_draw [.ref p, .int m] ch) noE fun d c => ∃ v, d = .int v ∧ 0 ≤ v ∧ v < m ∧ Pool p c ∧ ExtB p ch c := by
  obtain ⟨A, B, hp, hA, hB⟩ := hp
  have hl := CH.lt hp
  have m0 : m ≠ 0 := by omega
  unfold f__law_draw
  simp [b__law_draw, ix_lst hp]
  refine kIfS_split (fun h => ?_) (fun h => ?_)
  · simp [ix_lst hp, put_lst hp, m0, b_divW m0 hw]
    refine ⟨fm0 hm, fm1 hm, ⟨_, _, by rw [get_put' hl, if_pos rfl], ?_, hB⟩, .put hl⟩
    rw [Int.fdiv_eq_ediv_of_nonneg _ (by omega)]
    exact Int.ediv_nonneg hA (by omega)
  · have hp' : ∀ x, (ch.put p (.lst x)).get p = some (.lst x) := fun x => by rw [get_put' hl, if_pos rfl]
    simp [ix_lst hp, put_lst hp, ix_lst (hp' _), big, m0]
    have a1 : 0 ≤ (B * 48271 + 11).fmod 2147483647 := fm0 (by decide)
    have a2 : (B * 48271 + 11).fmod 2147483647 < 2147483647 := fm1 (by decide)
    refine ⟨by omega, fm0 hm, fm1 hm, ⟨_, _, hp' _, hA, a1, a2⟩, .put hl⟩
theorem pool_ok {ns : List Int} {k : Nat} {ch : CH} (h0 : ch.get 0 = some (.fz (ns.map .int))) (hk : k ≤ 4) :
    wR (f__law_pool [.ref 0, .int k] ch) noE fun d c => ∃ p, d = .ref p ∧ ch.sz ≤ p ∧ Pool p c ∧ Ext ch c := by
  unfold f__law_pool
  simp [b__law_pool, len_fz h0]
  refine kIf_cut (fun d c => ∃ x : Int, d = .int x ∧ Ext ch c) (fun h => ?_) (fun h => ?_) (fun d c ⟨x, hd, he⟩ => ?_)
  · have : k < ns.length := by simpa using h
    simp [ix_fz h0, atI_nat, this]
    exact .refl _
  · obtain ⟨l, hl⟩ := cutD_map (f := D.int) (l := ns) (lo := none) (hi := some 63)
    simp [sl_fz h0, hl, bi_sum (CH.get_push_self (ch := ch)) (intsOf_map (ns := l)), big]
    exact .push
  · subst hd
    simp [big]
    have y0 : 0 ≤ (if x < 0 then -x else x) := by split <;> omega
    generalize (if x < 0 then -x else x) = y at *
    generalize hm : ((y.fmod 2147483629 + 7919 * (k : Int) * k + 31 * k + 17) * 48271).fmod 2147483647 = m
    have m0 : 0 ≤ m ∧ m < 2147483647 := by
      rw [← hm]
      exact ⟨fm0 (by decide), fm1 (by decide)⟩
    have h1 : 0 ≤ (if (1000000000000000000 : Int) ≤ y then (1 : Int) else 0) := by split <;> omega
    have h2 : (if (1000000000000000000 : Int) ≤ y then (1 : Int) else 0).natAbs < 18446744073709551616 := by split <;> omega
    generalize (if (1000000000000000000 : Int) ≤ y then (1 : Int) else 0) = t at *
    refine ⟨.inl (.inr (by omega)), .inl (.inr h2), .inl (by omega), he.sz, ⟨_, _, CH.get_push_self, Int.mul_nonneg y0 h1, fm0 (by decide), ?_⟩, he.trans .push⟩
    have := fm1 (a := m * m) (m := 2147483629) (by decide)
    omega
/-! ### numbers -/
/-! ## errors keep what is handed in -/
@[simp] theorem xcAt_push {x f : Str} {d : D} {c : CH} : xcAt (.ref c.sz) (c.push (.xc x f d)) = some (x, f, d) := xcAt_at CH.get_push_self
@[simp] theorem xcOf_push {x f : Str} {d : D} {c : CH} : xcOf (.ref c.sz) (c.push (.xc x f d)) = some x := xcOf_at CH.get_push_self
@[simp] theorem e_BadNumber : List.lookup ("BadNumber" : Str) exsT = some ("number" : Str) := by kernel_rfl
@[simp] theorem e_BadBook : List.lookup ("BadBook" : Str) exsT = some ("part" : Str) := by kernel_rfl
@[simp] theorem e_BadPlace : List.lookup ("BadPlace" : Str) exsT = some ("place" : Str) := by kernel_rfl
@[simp] theorem e_BadGame : List.lookup ("BadGame" : Str) exsT = some ("value" : Str) := by kernel_rfl
@[simp] theorem e_BadMove : List.lookup ("BadMove" : Str) exsT = some ("index" : Str) := by kernel_rfl
@[simp] theorem e_BadLot : List.lookup ("BadLot" : Str) exsT = some ("place" : Str) := by kernel_rfl
@[simp] theorem e_BadWorths : List.lookup ("BadWorths" : Str) exsT = some ("place" : Str) := by kernel_rfl
@[simp] theorem e_BadGoal : List.lookup ("BadGoal" : Str) exsT = some ("part" : Str) := by kernel_rfl
@[simp] theorem e_BadHand : List.lookup ("BadHand" : Str) exsT = some ("hand" : Str) := by kernel_rfl
@[simp] theorem e_BadHonest : List.lookup ("BadHonest" : Str) exsT = some ("index" : Str) := by kernel_rfl
@[simp] theorem e_BadGames : List.lookup ("BadGames" : Str) exsT = some ("number" : Str) := by kernel_rfl
@[simp] theorem e_BadBout : List.lookup ("BadBout" : Str) exsT = some ("index" : Str) := by kernel_rfl
@[simp] theorem e_BadRow : List.lookup ("BadRow" : Str) exsT = some ("index" : Str) := by kernel_rfl
@[simp] theorem e_BadChances : List.lookup ("BadChances" : Str) exsT = some ("index" : Str) := by kernel_rfl
@[simp] theorem e_BadOpponent : List.lookup ("BadOpponent" : Str) exsT = some ("index" : Str) := by kernel_rfl
@[simp] theorem e_BadPlan : List.lookup ("BadPlan" : Str) exsT = some ("key" : Str) := by kernel_rfl
@[simp] theorem e_BadMenu : List.lookup ("BadMenu" : Str) exsT = some ("index" : Str) := by kernel_rfl
@[simp] theorem e_BadChoice : List.lookup ("BadChoice" : Str) exsT = some ("choice" : Str) := by kernel_rfl
@[simp] theorem e_BadWish : List.lookup ("BadWish" : Str) exsT = some ("index" : Str) := by kernel_rfl
@[simp] theorem e_BadTold : List.lookup ("BadTold" : Str) exsT = some ("index" : Str) := by kernel_rfl
@[simp] theorem e_BadName : List.lookup ("BadName" : Str) exsT = some ("name" : Str) := by kernel_rfl
@[simp] theorem e_BadText : List.lookup ("BadText" : Str) exsT = some ("index" : Str) := by kernel_rfl
@[simp] theorem e_BadLine : List.lookup ("BadLine" : Str) exsT = some ("line" : Str) := by kernel_rfl
@[simp] theorem e_UnknownPlace : List.lookup ("UnknownPlace" : Str) exsT = some ("place" : Str) := by kernel_rfl
@[simp] theorem e_TooMany : List.lookup ("TooMany" : Str) exsT = some ("limit" : Str) := by kernel_rfl
@[simp] theorem e_NothingToUndo : List.lookup ("NothingToUndo" : Str) exsT = some ("name" : Str) := by kernel_rfl
/-- it is like itself, whatever is laid besides -/
def G (d : D) (c : CH) : Prop := ∀ c', Ext c c' → cmpH [] .NotEq d d c' = .ok (.bl false) c'
theorem G.ext {d : D} {c c' : CH} (h : G d c) (e : Ext c c') : G d c' := fun c2 e2 => h c2 (e.trans e2)
theorem kept_ok {d : D} {c : CH} (g : G d c) : wR (f__law_kept_too [d] c) noE fun v c' => v = .bl true ∧ Ext c c' := by
  unfold f__law_kept_too
  simp [-CH.sz_push, b__law_kept_too]
  iterate 14 (rw [g _ (by repeat (first | exact Ext.refl _ | refine Ext.pushn ?_))]; simp [-CH.sz_push])
  repeat (first | exact Ext.refl _ | refine Ext.pushn ?_)
/-- all values of a turn -/
theorem turn_ok {d : D} {c : CH} {x0 x1 x2 : Option D} (g : G d c) :
    wS (b_law_1 [x0, x1, x2, some d] c) (fun _ => noE) fun e f c' => f = .nx ∧ e = [x0, x1, x2, some d] ∧ Ext c c' := by
  simp [-CH.sz_push, b_law_1]
  iterate 12 (rw [g _ (by repeat (first | exact Ext.refl _ | refine Ext.pushn ?_))]; simp [-CH.sz_push])
  refine wR_of (kept_ok (g.ext (by repeat (first | exact Ext.refl _ | refine Ext.pushn ?_)))) fun v c1 ⟨hv, e1⟩ => ?_
  subst hv
  have E : Ext c c1 := Ext.trans (by repeat (first | exact Ext.refl _ | refine Ext.pushn ?_)) e1
  simp [-CH.sz_push]
  iterate 2 (rw [g _ (by repeat (first | exact E | refine Ext.pushn ?_))]; simp [-CH.sz_push])
  repeat (first | exact E | refine Ext.pushn ?_)
/-! ## their kinds -/
@[simp] theorem k_BadPlace_BadBook : List.lookup (("BadPlace" : Str), ("BadBook" : Str)) kitT = some false := by kernel_rfl
@[simp] theorem k_BadBook_BadPlace : List.lookup (("BadBook" : Str), ("BadPlace" : Str)) kitT = some false := by kernel_rfl
@[simp] theorem k_BadGames_BadGame : List.lookup (("BadGames" : Str), ("BadGame" : Str)) kitT = some false := by kernel_rfl
@[simp] theorem k_BadRow_BadBout : List.lookup (("BadRow" : Str), ("BadBout" : Str)) kitT = some false := by kernel_rfl
@[simp] theorem k_BadHonest_BadHand : List.lookup (("BadHonest" : Str), ("BadHand" : Str)) kitT = some false := by kernel_rfl
@[simp] theorem k_BadTold_BadText : List.lookup (("BadTold" : Str), ("BadText" : Str)) kitT = some false := by kernel_rfl
@[simp] theorem k_UnknownPlace_KeyError : List.lookup (("UnknownPlace" : Str), ("KeyError" : Str)) kitT = some true := by kernel_rfl
@[simp] theorem k_TooMany_OverflowError : List.lookup (("TooMany" : Str), ("OverflowError" : Str)) kitT = some true := by kernel_rfl
@[simp] theorem k_NothingToUndo_RuntimeError : List.lookup (("NothingToUndo" : Str), ("RuntimeError" : Str)) kitT = some true := by kernel_rfl
@[simp] theorem k_UnknownPlace_LadderError : List.lookup (("UnknownPlace" : Str), ("LadderError" : Str)) kitT = some false := by kernel_rfl
@[simp] theorem k_TooMany_LadderError : List.lookup (("TooMany" : Str), ("LadderError" : Str)) kitT = some false := by kernel_rfl
@[simp] theorem k_NothingToUndo_LadderError : List.lookup (("NothingToUndo" : Str), ("LadderError" : Str)) kitT = some false := by kernel_rfl
abbrev gr1 : List (Str × Str) := [("BadNumber", "number"), ("BadBook", "part"), ("BadPlace", "place"), ("BadGame", "value"), ("BadMove", "index"), ("BadLot", "place")]
abbrev gr2 : List (Str × Str) := [("BadWorths", "place"), ("BadWish", "index"), ("BadLine", "line"), ("BadGoal", "part"), ("BadHand", "hand"), ("BadHonest", "index")]
abbrev gr3 : List (Str × Str) := [("BadGames", "number"), ("BadBout", "index"), ("BadRow", "index"), ("BadChances", "index"), ("BadOpponent", "index")]
abbrev gr4 : List (Str × Str) := [("BadPlan", "key"), ("BadMenu", "index"), ("BadChoice", "choice"), ("BadTold", "index"), ("BadName", "name"), ("BadText", "index")]
abbrev gr5 : List (Str × Str) := [("UnknownPlace", "place"), ("TooMany", "limit"), ("NothingToUndo", "name")]
def ALL : List Str := (gr1 ++ gr2 ++ gr3 ++ gr4).map (·.1)
theorem gs1 : ∀ x ∈ gr1.map (·.1), x ∈ ALL := fun x hx => by
  unfold ALL; rw [List.map_append, List.map_append, List.map_append]
  exact List.mem_append_left _ (List.mem_append_left _ (List.mem_append_left _ hx))
theorem gs2 : ∀ x ∈ gr2.map (·.1), x ∈ ALL := fun x hx => by
  unfold ALL; rw [List.map_append, List.map_append, List.map_append]
  exact List.mem_append_left _ (List.mem_append_left _ (List.mem_append_right _ hx))
theorem gs3 : ∀ x ∈ gr3.map (·.1), x ∈ ALL := fun x hx => by
  unfold ALL; rw [List.map_append, List.map_append, List.map_append]
  exact List.mem_append_left _ (List.mem_append_right _ hx)
theorem gs4 : ∀ x ∈ gr4.map (·.1), x ∈ ALL := fun x hx => by
  unfold ALL; rw [List.map_append, List.map_append, List.map_append]
  exact List.mem_append_right _ hx
def IsE (L : List Str) (c : CH) (d : D) : Prop := ∃ k x f, d = .ref k ∧ c.get k = some (.xc x f (.int 1)) ∧ x ∈ L
theorem IsE.ext {L : List Str} {c c' : CH} {d : D} (h : IsE L c d) (e : Ext c c') : IsE L c' d := by
  obtain ⟨k, x, f, h1, h2, h3⟩ := h
  exact ⟨k, x, f, h1, e.get h2, h3⟩
theorem IsE.sub {L L' : List Str} {c : CH} {d : D} (h : IsE L c d) (e : ∀ x ∈ L, x ∈ L') : IsE L' c d := by
  obtain ⟨k, x, f, h1, h2, h3⟩ := h
  exact ⟨k, x, f, h1, h2, e x h3⟩
theorem run_errs : ∀ (l : List (Str × Str)) {env : En} {c : CH} {X : XR} {Q : List D → CH → Prop}, (∀ ds c', Ext c c' → ds.length = l.length → (∀ d ∈ ds, IsE (l.map (·.1)) c' d) → Q ds c') → wR (runEs (l.map fun p => cErr p.1 p.2 (cCon (.int 1))) env c) X Q
  | [], env, c, X, Q, k => k [] c (.refl _) rfl (fun d hd => by cases hd)
  | p :: l, env, c, X, Q, k => by
    rw [List.map_cons, w_es1, w_err]
    simp only [w_con, kBd_eq, wR_ok, wR_bind]
    refine run_errs l fun ds c' e hl h => ?_
    simp only [kBd_eq, wR_ok]
    refine k _ c' (Ext.push.trans e) (by simp [hl]) fun d hd => ?_
    rcases List.mem_cons.mp hd with rfl | hd
    · exact ⟨_, p.1, p.2, rfl, e.get CH.get_push_self, by simp⟩
    · exact (h d hd).sub fun x hx => by rw [List.map_cons]; exact List.mem_cons_of_mem _ hx
theorem kl : (ALL.all fun x => (List.lookup (x, ("LadderError" : Str)) kitT == some true) && (List.lookup (x, ("ValueError" : Str)) kitT == some true)) = true := by kernel_rfl
theorem kl1 {x : Str} (h : x ∈ ALL) : List.lookup (x, ("LadderError" : Str)) kitT = some true ∧ List.lookup (x, ("ValueError" : Str)) kitT = some true := by
  have := List.all_eq_true.mp kl x h
  simpa using this
theorem kinds_ok {c : CH} : wR (f__law_kinds_right [] c) noE fun v c' => v = .bl true ∧ Ext c c' := by
  unfold f__law_kinds_right
  simp [-CH.sz_push, -w_es1, b__law_kinds_right]
  refine run_errs gr1 fun d1 c1 e1 l1 h1 => ?_
  have l1 : d1.length = 6 := l1
  simp [-CH.sz_push, -w_es1, l1]
  have E1 : Ext c (c1.push (.lst d1)) := e1.trans .push
  have g1 : (c1.push (.lst d1)).get c1.sz = some (.lst d1) := CH.get_push_self
  have H1 : ∀ d ∈ d1, IsE ALL (c1.push (.lst d1)) d := fun d hd => ((h1 d hd).sub gs1).ext .push
  generalize c1.push (.lst d1) = c2 at *
  generalize c1.sz = n1 at *
  refine run_errs gr2 fun d2 c3 e3 l2 h2 => ?_
  have l2 : d2.length = 6 := l2
  simp [-CH.sz_push, -w_es1, l2]
  have e4 : Ext c2 (c3.push (.lst d2)) := e3.trans .push
  have g2 : (c3.push (.lst d2)).get c3.sz = some (.lst d2) := CH.get_push_self
  have H2 : ∀ d ∈ d2, IsE ALL (c3.push (.lst d2)) d := fun d hd => ((h2 d hd).sub gs2).ext .push
  generalize c3.push (.lst d2) = c4 at *
  generalize c3.sz = n2 at *
  rw [add_lst (e4.get g1) g2 (by omega)]
  simp [-CH.sz_push, -w_es1]
  have E4 : Ext c (c4.push (.lst (d1 ++ d2))) := (E1.trans e4).trans .push
  have g3 : (c4.push (.lst (d1 ++ d2))).get c4.sz = some (.lst (d1 ++ d2)) := CH.get_push_self
  have H3 : ∀ d ∈ d1 ++ d2, IsE ALL (c4.push (.lst (d1 ++ d2))) d := fun d hd => by
    rcases List.mem_append.mp hd with h | h
    · exact (H1 d h).ext (e4.trans .push)
    · exact (H2 d h).ext .push
  have L3 : (d1 ++ d2).length = 12 := by rw [List.length_append]; omega
  generalize d1 ++ d2 = d3 at *
  generalize c4.push (.lst d3) = c5 at *
  generalize c4.sz = n3 at *
  clear H1 H2 g1 g2 h1 h2
  refine run_errs gr3 fun d4 c6 e6 l4 h4 => ?_
  have l4 : d4.length = 5 := l4
  simp [-CH.sz_push, -w_es1, l4]
  have e7 : Ext c5 (c6.push (.lst d4)) := e6.trans .push
  have g4 : (c6.push (.lst d4)).get c6.sz = some (.lst d4) := CH.get_push_self
  have H4 : ∀ d ∈ d4, IsE ALL (c6.push (.lst d4)) d := fun d hd => ((h4 d hd).sub gs3).ext .push
  generalize c6.push (.lst d4) = c7 at *
  generalize c6.sz = n4 at *
  rw [add_lst (e7.get g3) g4 (by omega)]
  simp [-CH.sz_push, -w_es1]
  have E7 : Ext c (c7.push (.lst (d3 ++ d4))) := (E4.trans e7).trans .push
  have g5 : (c7.push (.lst (d3 ++ d4))).get c7.sz = some (.lst (d3 ++ d4)) := CH.get_push_self
  have H5 : ∀ d ∈ d3 ++ d4, IsE ALL (c7.push (.lst (d3 ++ d4))) d := fun d hd => by
    rcases List.mem_append.mp hd with h | h
    · exact (H3 d h).ext (e7.trans .push)
    · exact (H4 d h).ext .push
  have L5 : (d3 ++ d4).length = 17 := by rw [List.length_append]; omega
  generalize d3 ++ d4 = d5 at *
  generalize c7.push (.lst d5) = c8 at *
  generalize c7.sz = n5 at *
  clear H3 H4 g3 g4 h4
  refine run_errs gr4 fun d6 c9 e9 l6 h6 => ?_
  have l6 : d6.length = 6 := l6
  simp [-CH.sz_push, -w_es1, l6]
  have e10 : Ext c8 (c9.push (.lst d6)) := e9.trans .push
  have g6 : (c9.push (.lst d6)).get c9.sz = some (.lst d6) := CH.get_push_self
  have H6 : ∀ d ∈ d6, IsE ALL (c9.push (.lst d6)) d := fun d hd => ((h6 d hd).sub gs4).ext .push
  generalize c9.push (.lst d6) = c10 at *
  generalize c9.sz = n6 at *
  rw [add_lst (e10.get g5) g6 (by omega)]
  simp [-CH.sz_push, -w_es1]
  have E10 : Ext c (c10.push (.lst (d5 ++ d6))) := (E7.trans e10).trans .push
  have g7 : (c10.push (.lst (d5 ++ d6))).get c10.sz = some (.lst (d5 ++ d6)) := CH.get_push_self
  have H7 : ∀ d ∈ d5 ++ d6, IsE ALL (c10.push (.lst (d5 ++ d6))) d := fun d hd => by
    rcases List.mem_append.mp hd with h | h
    · exact (H5 d h).ext (e10.trans .push)
    · exact (H6 d h).ext .push
  generalize d5 ++ d6 = d7 at *
  generalize c10.push (.lst d7) = c11 at *
  generalize c10.sz = n7 at *
  clear H5 H6 g5 g6 h6
  rw [show walkD (.ref n7) c11 = _ from walk_lst g7]
  simp [-CH.sz_push, -w_es1]
  refine wS_of (forC_inv (fun ds e c' => Ext c11 c' ∧ (∀ d ∈ ds, IsE ALL c11 d) ∧ ∃ x1, e = [some (.ref n7), x1]) (Q := fun e f c' => f = .nx ∧ Ext c11 c' ∧ ∃ x1, e = [some (.ref n7), x1]) (fun ds e c' I => okW_lst (I.1.get g7)) (fun d ds e c' I => ?_) (fun e c' I => ⟨rfl, I.1, I.2.2⟩) _ _ _ ⟨.refl _, H7, _, rfl⟩) ?_
  · obtain ⟨E, mem, x1, rfl⟩ := I
    obtain ⟨k, x, f, rfl, hk, hx⟩ := mem d List.mem_cons_self
    obtain ⟨q1, q2⟩ := kl1 hx
    simp [b__law_kinds_right_1, xcOf_at (E.get hk), q1, q2]
    exact ⟨E, fun z hz => mem z (List.mem_cons_of_mem _ hz)⟩
  · rintro e f c12 ⟨rfl, E12, x1, rfl⟩
    have E := E10.trans E12
    simp [-CH.sz_push, -w_es1]
    refine run_errs gr5 fun d8 c13 e13 l8 h8 => ?_
    have l8 : d8.length = 3 := l8
    simp [-CH.sz_push, -w_es1, l8]
    have E13 : Ext c (c13.push (.lst d8)) := Ext.trans (by repeat (first | exact E | refine Ext.pushn ?_)) (e13.trans .push)
    have g8 : (c13.push (.lst d8)).get c13.sz = some (.lst d8) := CH.get_push_self
    have H8 : ∀ d ∈ d8, IsE (gr5.map (·.1)) (c13.push (.lst d8)) d := fun d hd => (h8 d hd).ext .push
    generalize c13.push (.lst d8) = c14 at *
    generalize c13.sz = n8 at *
    rw [show walkD (.ref n8) c14 = _ from walk_lst g8]
    simp [-CH.sz_push, -w_es1]
    refine wS_of (forC_inv (fun ds e c' => Ext c14 c' ∧ (∀ d ∈ ds, IsE (gr5.map (·.1)) c14 d) ∧ ∃ x1, e = [some (.ref n7), x1]) (Q := fun e f c' => f = .nx ∧ Ext c14 c' ∧ ∃ x1, e = [some (.ref n7), x1]) (fun ds e c' I => okW_lst (I.1.get g8)) (fun d ds e c' I => ?_) (fun e c' I => ⟨rfl, I.1, I.2.2⟩) _ _ _ ⟨.refl _, H8, _, rfl⟩) ?_
    · obtain ⟨E, mem, x1, rfl⟩ := I
      obtain ⟨k, x, f, rfl, hk, hx⟩ := mem d List.mem_cons_self
      have q1 : List.lookup (x, ("LadderError" : Str)) kitT = some false := by
        rcases List.mem_cons.mp hx with rfl | hx
        · exact k_UnknownPlace_LadderError
        · rcases List.mem_cons.mp hx with rfl | hx
          · exact k_TooMany_LadderError
          · rcases List.mem_cons.mp hx with rfl | hx
            · exact k_NothingToUndo_LadderError
            · cases hx
      simp [b__law_kinds_right_2, xcOf_at (E.get hk), q1]
      exact ⟨E, fun z hz => mem z (List.mem_cons_of_mem _ hz)⟩
    · rintro e f c15 ⟨rfl, E15, x1, rfl⟩
      simp
      exact E13.trans E15
/-! ## the law -/
theorem g_int {i : Int} {c : CH} : G (.int i) c := fun c' _ => by rw [c_ne_int]; simp
theorem g_lst {n : Nat} {ds : List D} {c : CH} (h : c.get n = some (.lst ds)) (h1 : nices 59 ds = true) : G (.ref n) c := fun c' e => by
  have h2 := e.get h
  have e1 : toPy c' 60 (.ref n) = some (.list (pys ds)) := by simp only [toPy, h2, nices_toPy h1, Option.map_some]
  have s1 : SeqAt.shaped (.list (pys ds)) = true := by
    obtain ⟨a, b⟩ := nices_lay h1
    simp only [SeqAt.shaped, PyData.canLay0, PyData.depth, a, Bool.true_and]
    exact decide_eq_true (by omega)
  unfold cmpH
  simp only [ins_lst h2, cmp, eqD, e1, s1, and_self, if_true]
  simp [PyData.eqv, nices_eqv h1 h1, sames_rfl]
theorem g_nice {d : D} {c : CH} (h : nice 60 d = true) : G d c := fun c' _ => by rw [c_ne h h, same_rfl]; rfl
theorem law2_ok {ns : List Int} {c : CH} {q : Nat} {x2 x3 : Option D} (h0 : c.get 0 = some (.fz (ns.map .int))) (hq : q ≤ 2) :
    wS (b_law_2 [some (.ref 0), some (.int (q : Int)), x2, x3] c) (fun _ => noE)
      (fun e f c' => f = .nx ∧ (∃ y2 y3, e = [some (.ref 0), some (.int (q : Int)), y2, y3]) ∧ c'.get 0 = some (.fz (ns.map .int))) := by
  have l0 := CH.lt h0
  simp [-CH.sz_push, b_law_2]
  refine wR_of (pool_ok h0 (by omega)) fun d c1 ⟨p, hd, hp, P1, e1⟩ => ?_
  subst hd
  have z1 := e1.get h0
  simp [-CH.sz_push]
  have gl : (c1.push (.lst [.int 1])).get c1.sz = some (.lst [.int 1]) := CH.get_push_self
  have P2 := P1.push (co := .lst [.int 1])
  have z2 := (Ext.push (co := .lst [.int 1])).get z1
  have hpl : c1.sz ≠ p := by have := P1.lt; omega
  have hp0 : (0 : Nat) ≠ p := by omega
  generalize c1.push (.lst [.int 1]) = c2 at *
  generalize c1.sz = nl at *
  refine wR_of (draw_ok P2 (by decide) (wid_lt (a := 100) (by decide) (by decide) (by decide))) fun d c3 ⟨v, hd, hv0, hv1, P3, e3⟩ => ?_
  subst hd
  have gl3 := e3.get gl hpl
  have z3 := e3.get z2 hp0
  simp [-CH.sz_push]
  have g4 : (c3.push (.lst [.non, .int 7, .str "word", .tup [], .ref nl, .int v])).get c3.sz = some (.lst [.non, .int 7, .str "word", .tup [], .ref nl, .int v]) := CH.get_push_self
  have e4 : Ext c3 (c3.push (.lst [.non, .int 7, .str "word", .tup [], .ref nl, .int v])) := .push
  generalize c3.push (.lst [.non, .int 7, .str "word", .tup [], .ref nl, .int v]) = c4 at *
  generalize c3.sz = n4 at *
  rw [show walkD (.ref n4) c4 = _ from walk_lst g4]
  simp [-CH.sz_push]
  refine wS_of (forC_inv (fun ds e c' => Ext c4 c' ∧ (∀ d ∈ ds, G d c4) ∧ ∃ x3, e = [some (.ref 0), some (.int (q : Int)), some (.ref p), x3]) (Q := fun e f c' => f = .nx ∧ Ext c4 c' ∧ ∃ x3, e = [some (.ref 0), some (.int (q : Int)), some (.ref p), x3]) (fun ds e c' I => okW_lst (I.1.get g4)) (fun d ds e c' I => ?_) (fun e c' I => ⟨rfl, I.1, I.2.2⟩) _ _ _ ⟨.refl _, fun d hd => ?_, _, rfl⟩) ?_
  · obtain ⟨E, mem, x3, rfl⟩ := I
    rw [w_gset]
    refine wS_mono (turn_ok ((mem d List.mem_cons_self).ext E)) (fun e f c2 h => ?_) (fun _ _ _ _ z => z.elim)
    obtain ⟨rfl, rfl, e2⟩ := h
    exact ⟨E.trans e2, fun z hz => mem z (List.mem_cons_of_mem _ hz), _, rfl⟩
  · simp only [List.mem_cons, List.not_mem_nil, or_false] at hd
    rcases hd with rfl | rfl | rfl | rfl | rfl | rfl
    · exact g_nice rfl
    · exact g_int
    · exact g_nice (by decide +kernel)
    · exact g_nice rfl
    · exact g_lst (e4.get gl3) rfl
    · exact g_int
  · rintro e f c5 ⟨rfl, E5, x3, rfl⟩
    simp [-CH.sz_push]
    refine wR_of kinds_ok fun d c6 ⟨hd, e6⟩ => ?_
    subst hd
    simp
    exact e6.get (E5.get (e4.get z3))
theorem law_ok : LawOk f_law := by
  intro ns hns
  have h0 : (ch0 ns).get 0 = some (.fz (ns.map .int)) := by unfold ch0; exact CH.get_push_self (ch := ⟨0, .nil⟩)
  have main : wR (f_law [.ref 0] (ch0 ns)) noE fun d c => d = .bl true := by
    have hl0 : ∀ {ms : MT}, biH ms [] [] "len" [.ref 0] (ch0 ns) = .ok (.int (ns.length : Nat)) (ch0 ns) := by
      intro ms
      rw [len_fz h0, List.length_map]
    unfold f_law
    simp [b_law, hl0]
    have hL : (0 : Int) ≤ (ns.length : Int) := by omega
    generalize (ns.length : Int) = L at hL ⊢
    generalize hm : (if (1 : Int) < (if (2 : Int) < L then (2 : Int) else L) then (if (2 : Int) < L then (2 : Int) else L) else 1) = m
    have hm0 : 0 ≤ m ∧ m ≤ 2 := by rw [← hm]; constructor <;> (split <;> (try split) <;> omega)
    rw [rng_ok (by omega) (by omega)]
    simp
    refine wS_of (forC_inv (fun ds e c => (∀ d ∈ ds, ∃ q : Nat, d = .int q ∧ q ≤ 2) ∧ (∃ x1 x2 x3, e = [some (.ref 0), x1, x2, x3]) ∧ c.get 0 = some (.fz (ns.map .int)))
      (Q := fun e f c => f = .nx) (fun _ _ _ _ => rfl) (fun d ds e c I => ?_) (fun e c I => rfl) _ _ _ ⟨fun d hd => ?_, ⟨_, _, _, rfl⟩, h0⟩) ?_
    · obtain ⟨mem, ⟨x1, x2, x3, rfl⟩, g0⟩ := I
      obtain ⟨q, rfl, hq⟩ := mem d List.mem_cons_self
      rw [w_gset]
      refine wS_mono (law2_ok g0 hq) (fun e f c2 h => ?_) (fun _ _ _ _ z => z)
      obtain ⟨rfl, ⟨y2, y3, rfl⟩, g2⟩ := h
      exact ⟨fun d hd => mem d (List.mem_cons_of_mem _ hd), ⟨_, _, _, rfl⟩, g2⟩
    · simp at hd
      obtain ⟨a, ha, rfl⟩ := hd
      exact ⟨a, rfl, by omega⟩
    · rintro e f c rfl
      simp
  cases hr : f_law [.ref 0] (ch0 ns) with
  | ok d c =>
    rw [hr] at main
    exact ⟨c, by rw [show d = .bl true from main]⟩
  | exc _ _ _ => rw [hr] at main; exact main.elim
  | bad => rw [hr] at main; exact main.elim
end K22
namespace K22
open PySem PySem.Spec PyProof.Rows L2 LL He
theorem sc_ok : scB T = true := by kernel_rfl
theorem fns_eq : T.fns = ((("_law_pool", fnK T "_law_pool") : Str × FnI) :: (("_law_draw", fnK T "_law_draw") : Str × FnI) :: (("_law_kinds_right", fnK T "_law_kinds_right") : Str × FnI) :: (("_law_kept_too", fnK T "_law_kept_too") : Str × FnI) :: (("law", fnK T "law") : Str × FnI) :: [] : List (Str × FnI)) := by kernel_rfl
theorem pb__law_pool : ∀ p ∈ (fnK T "_law_pool").pats, ∃ ms, PatB (fnK T "_law_pool") p ms ∧ ∀ K : PySem.W.Frag, ∀ z ∈ ms.zip (dflsOf p.arr), z ∈ (kwd "_law_pool").map fun z => (z.1, z.2.v K) := by
  have e : (fnK T "_law_pool").pats = [⟨2, [], [.pos 0, .pos 1]⟩] := by kernel_rfl
  rw [e]
  refine memC (⟨[], patB0 rfl fun kV doc pm an cdv ct us ws h1 h2 => (by obtain ⟨a0, a1, rfl⟩ := len2 h1; obtain rfl := len0 h2; kernel_rfl), fun K z hz => by cases hz⟩) ?_
  exact memN
theorem pb__law_draw : ∀ p ∈ (fnK T "_law_draw").pats, ∃ ms, PatB (fnK T "_law_draw") p ms ∧ ∀ K : PySem.W.Frag, ∀ z ∈ ms.zip (dflsOf p.arr), z ∈ (kwd "_law_draw").map fun z => (z.1, z.2.v K) := by
  have e : (fnK T "_law_draw").pats = [⟨2, [], [.pos 0, .pos 1]⟩] := by kernel_rfl
  rw [e]
  refine memC (⟨[], patB0 rfl fun kV doc pm an cdv ct us ws h1 h2 => (by obtain ⟨a0, a1, rfl⟩ := len2 h1; obtain rfl := len0 h2; kernel_rfl), fun K z hz => by cases hz⟩) ?_
  exact memN
theorem pb__law_kinds_right : ∀ p ∈ (fnK T "_law_kinds_right").pats, ∃ ms, PatB (fnK T "_law_kinds_right") p ms ∧ ∀ K : PySem.W.Frag, ∀ z ∈ ms.zip (dflsOf p.arr), z ∈ (kwd "_law_kinds_right").map fun z => (z.1, z.2.v K) := by
  have e : (fnK T "_law_kinds_right").pats = [⟨0, [], []⟩] := by kernel_rfl
  rw [e]
  refine memC (⟨[], patB0 rfl fun kV doc pm an cdv ct us ws h1 h2 => (by obtain rfl := len0 h1; obtain rfl := len0 h2; kernel_rfl), fun K z hz => by cases hz⟩) ?_
  exact memN
theorem pb__law_kept_too : ∀ p ∈ (fnK T "_law_kept_too").pats, ∃ ms, PatB (fnK T "_law_kept_too") p ms ∧ ∀ K : PySem.W.Frag, ∀ z ∈ ms.zip (dflsOf p.arr), z ∈ (kwd "_law_kept_too").map fun z => (z.1, z.2.v K) := by
  have e : (fnK T "_law_kept_too").pats = [⟨1, [], [.pos 0]⟩] := by kernel_rfl
  rw [e]
  refine memC (⟨[], patB0 rfl fun kV doc pm an cdv ct us ws h1 h2 => (by obtain ⟨a0, rfl⟩ := len1 h1; obtain rfl := len0 h2; kernel_rfl), fun K z hz => by cases hz⟩) ?_
  exact memN
theorem pb_law : ∀ p ∈ (fnK T "law").pats, ∃ ms, PatB (fnK T "law") p ms ∧ ∀ K : PySem.W.Frag, ∀ z ∈ ms.zip (dflsOf p.arr), z ∈ (kwd "law").map fun z => (z.1, z.2.v K) := by
  have e : (fnK T "law").pats = [⟨1, [], [.pos 0]⟩] := by kernel_rfl
  rw [e]
  refine memC (⟨[], patB0 rfl fun kV doc pm an cdv ct us ws h1 h2 => (by obtain ⟨a0, rfl⟩ := len1 h1; obtain rfl := len0 h2; kernel_rfl), fun K z hz => by cases hz⟩) ?_
  exact memN
theorem xin_eq : T.xin = ([("BadNumber", xiK T "BadNumber"), ("BadBook", xiK T "BadBook"), ("BadPlace", xiK T "BadPlace"), ("BadGame", xiK T "BadGame"), ("BadMove", xiK T "BadMove"), ("BadLot", xiK T "BadLot"), ("BadWorths", xiK T "BadWorths"), ("BadGoal", xiK T "BadGoal"), ("BadHand", xiK T "BadHand"), ("BadHonest", xiK T "BadHonest"), ("BadGames", xiK T "BadGames"), ("BadBout", xiK T "BadBout"), ("BadRow", xiK T "BadRow"), ("BadChances", xiK T "BadChances"), ("BadOpponent", xiK T "BadOpponent"), ("BadPlan", xiK T "BadPlan"), ("BadMenu", xiK T "BadMenu"), ("BadChoice", xiK T "BadChoice"), ("BadWish", xiK T "BadWish"), ("BadTold", xiK T "BadTold"), ("BadName", xiK T "BadName"), ("BadText", xiK T "BadText"), ("BadLine", xiK T "BadLine"), ("UnknownPlace", xiK T "UnknownPlace"), ("TooMany", xiK T "TooMany"), ("NothingToUndo", xiK T "NothingToUndo")] : List (Str × Stmt)) := by kernel_rfl
theorem excs_eq : T.excs = ([("BadNumber", "number"), ("BadBook", "part"), ("BadPlace", "place"), ("BadGame", "value"), ("BadMove", "index"), ("BadLot", "place"), ("BadWorths", "place"), ("BadGoal", "part"), ("BadHand", "hand"), ("BadHonest", "index"), ("BadGames", "number"), ("BadBout", "index"), ("BadRow", "index"), ("BadChances", "index"), ("BadOpponent", "index"), ("BadPlan", "key"), ("BadMenu", "index"), ("BadChoice", "choice"), ("BadWish", "index"), ("BadTold", "index"), ("BadName", "name"), ("BadText", "index"), ("BadLine", "line"), ("UnknownPlace", "place"), ("TooMany", "limit"), ("NothingToUndo", "name")] : List (Str × Str)) := by kernel_rfl
theorem xb_BadNumber : XB true "number" (xiK T "BadNumber") := xb_ok (by kernel_rfl) (fun qual kV doc pm an cdv ct cc us h => by obtain ⟨a0, a1, rfl⟩ := len2 h; kernel_rfl) (fun _ qual kV doc pm an cdv ct cc a u => by kernel_rfl)
theorem xb_BadBook : XB true "part" (xiK T "BadBook") := xb_ok (by kernel_rfl) (fun qual kV doc pm an cdv ct cc us h => by obtain ⟨a0, a1, rfl⟩ := len2 h; kernel_rfl) (fun _ qual kV doc pm an cdv ct cc a u => by kernel_rfl)
theorem xb_BadPlace : XB true "place" (xiK T "BadPlace") := xb_ok (by kernel_rfl) (fun qual kV doc pm an cdv ct cc us h => by obtain ⟨a0, a1, rfl⟩ := len2 h; kernel_rfl) (fun _ qual kV doc pm an cdv ct cc a u => by kernel_rfl)
theorem xb_BadGame : XB true "value" (xiK T "BadGame") := xb_ok (by kernel_rfl) (fun qual kV doc pm an cdv ct cc us h => by obtain ⟨a0, a1, rfl⟩ := len2 h; kernel_rfl) (fun _ qual kV doc pm an cdv ct cc a u => by kernel_rfl)
theorem xb_BadMove : XB true "index" (xiK T "BadMove") := xb_ok (by kernel_rfl) (fun qual kV doc pm an cdv ct cc us h => by obtain ⟨a0, a1, rfl⟩ := len2 h; kernel_rfl) (fun _ qual kV doc pm an cdv ct cc a u => by kernel_rfl)
theorem xb_BadLot : XB true "place" (xiK T "BadLot") := xb_ok (by kernel_rfl) (fun qual kV doc pm an cdv ct cc us h => by obtain ⟨a0, a1, rfl⟩ := len2 h; kernel_rfl) (fun _ qual kV doc pm an cdv ct cc a u => by kernel_rfl)
theorem xb_BadWorths : XB true "place" (xiK T "BadWorths") := xb_ok (by kernel_rfl) (fun qual kV doc pm an cdv ct cc us h => by obtain ⟨a0, a1, rfl⟩ := len2 h; kernel_rfl) (fun _ qual kV doc pm an cdv ct cc a u => by kernel_rfl)
theorem xb_BadGoal : XB true "part" (xiK T "BadGoal") := xb_ok (by kernel_rfl) (fun qual kV doc pm an cdv ct cc us h => by obtain ⟨a0, a1, rfl⟩ := len2 h; kernel_rfl) (fun _ qual kV doc pm an cdv ct cc a u => by kernel_rfl)
theorem xb_BadHand : XB true "hand" (xiK T "BadHand") := xb_ok (by kernel_rfl) (fun qual kV doc pm an cdv ct cc us h => by obtain ⟨a0, a1, rfl⟩ := len2 h; kernel_rfl) (fun _ qual kV doc pm an cdv ct cc a u => by kernel_rfl)
theorem xb_BadHonest : XB true "index" (xiK T "BadHonest") := xb_ok (by kernel_rfl) (fun qual kV doc pm an cdv ct cc us h => by obtain ⟨a0, a1, rfl⟩ := len2 h; kernel_rfl) (fun _ qual kV doc pm an cdv ct cc a u => by kernel_rfl)
theorem xb_BadGames : XB true "number" (xiK T "BadGames") := xb_ok (by kernel_rfl) (fun qual kV doc pm an cdv ct cc us h => by obtain ⟨a0, a1, rfl⟩ := len2 h; kernel_rfl) (fun _ qual kV doc pm an cdv ct cc a u => by kernel_rfl)
theorem xb_BadBout : XB true "index" (xiK T "BadBout") := xb_ok (by kernel_rfl) (fun qual kV doc pm an cdv ct cc us h => by obtain ⟨a0, a1, rfl⟩ := len2 h; kernel_rfl) (fun _ qual kV doc pm an cdv ct cc a u => by kernel_rfl)
theorem xb_BadRow : XB true "index" (xiK T "BadRow") := xb_ok (by kernel_rfl) (fun qual kV doc pm an cdv ct cc us h => by obtain ⟨a0, a1, rfl⟩ := len2 h; kernel_rfl) (fun _ qual kV doc pm an cdv ct cc a u => by kernel_rfl)
theorem xb_BadChances : XB true "index" (xiK T "BadChances") := xb_ok (by kernel_rfl) (fun qual kV doc pm an cdv ct cc us h => by obtain ⟨a0, a1, rfl⟩ := len2 h; kernel_rfl) (fun _ qual kV doc pm an cdv ct cc a u => by kernel_rfl)
theorem xb_BadOpponent : XB true "index" (xiK T "BadOpponent") := xb_ok (by kernel_rfl) (fun qual kV doc pm an cdv ct cc us h => by obtain ⟨a0, a1, rfl⟩ := len2 h; kernel_rfl) (fun _ qual kV doc pm an cdv ct cc a u => by kernel_rfl)
theorem xb_BadPlan : XB true "key" (xiK T "BadPlan") := xb_ok (by kernel_rfl) (fun qual kV doc pm an cdv ct cc us h => by obtain ⟨a0, a1, rfl⟩ := len2 h; kernel_rfl) (fun _ qual kV doc pm an cdv ct cc a u => by kernel_rfl)
theorem xb_BadMenu : XB true "index" (xiK T "BadMenu") := xb_ok (by kernel_rfl) (fun qual kV doc pm an cdv ct cc us h => by obtain ⟨a0, a1, rfl⟩ := len2 h; kernel_rfl) (fun _ qual kV doc pm an cdv ct cc a u => by kernel_rfl)
theorem xb_BadChoice : XB true "choice" (xiK T "BadChoice") := xb_ok (by kernel_rfl) (fun qual kV doc pm an cdv ct cc us h => by obtain ⟨a0, a1, rfl⟩ := len2 h; kernel_rfl) (fun _ qual kV doc pm an cdv ct cc a u => by kernel_rfl)
theorem xb_BadWish : XB true "index" (xiK T "BadWish") := xb_ok (by kernel_rfl) (fun qual kV doc pm an cdv ct cc us h => by obtain ⟨a0, a1, rfl⟩ := len2 h; kernel_rfl) (fun _ qual kV doc pm an cdv ct cc a u => by kernel_rfl)
theorem xb_BadTold : XB true "index" (xiK T "BadTold") := xb_ok (by kernel_rfl) (fun qual kV doc pm an cdv ct cc us h => by obtain ⟨a0, a1, rfl⟩ := len2 h; kernel_rfl) (fun _ qual kV doc pm an cdv ct cc a u => by kernel_rfl)
theorem xb_BadName : XB true "name" (xiK T "BadName") := xb_ok (by kernel_rfl) (fun qual kV doc pm an cdv ct cc us h => by obtain ⟨a0, a1, rfl⟩ := len2 h; kernel_rfl) (fun _ qual kV doc pm an cdv ct cc a u => by kernel_rfl)
theorem xb_BadText : XB true "index" (xiK T "BadText") := xb_ok (by kernel_rfl) (fun qual kV doc pm an cdv ct cc us h => by obtain ⟨a0, a1, rfl⟩ := len2 h; kernel_rfl) (fun _ qual kV doc pm an cdv ct cc a u => by kernel_rfl)
theorem xb_BadLine : XB true "line" (xiK T "BadLine") := xb_ok (by kernel_rfl) (fun qual kV doc pm an cdv ct cc us h => by obtain ⟨a0, a1, rfl⟩ := len2 h; kernel_rfl) (fun _ qual kV doc pm an cdv ct cc a u => by kernel_rfl)
theorem xb_UnknownPlace : XB true "place" (xiK T "UnknownPlace") := xb_ok (by kernel_rfl) (fun qual kV doc pm an cdv ct cc us h => by obtain ⟨a0, a1, rfl⟩ := len2 h; kernel_rfl) (fun _ qual kV doc pm an cdv ct cc a u => by kernel_rfl)
theorem xb_TooMany : XB true "limit" (xiK T "TooMany") := xb_ok (by kernel_rfl) (fun qual kV doc pm an cdv ct cc us h => by obtain ⟨a0, a1, rfl⟩ := len2 h; kernel_rfl) (fun _ qual kV doc pm an cdv ct cc a u => by kernel_rfl)
theorem xb_NothingToUndo : XB true "name" (xiK T "NothingToUndo") := xb_ok (by kernel_rfl) (fun qual kV doc pm an cdv ct cc us h => by obtain ⟨a0, a1, rfl⟩ := len2 h; kernel_rfl) (fun _ qual kV doc pm an cdv ct cc a u => by kernel_rfl)
theorem xs_ok : XsB T := by
  unfold XsB
  rw [excs_eq, xin_eq]
  exact memC ⟨_, List.mem_cons_self, xbk (by kernel_rfl) xb_BadNumber⟩ (memC ⟨_, List.mem_cons_of_mem _ (List.mem_cons_self), xbk (by kernel_rfl) xb_BadBook⟩ (memC ⟨_, List.mem_cons_of_mem _ (List.mem_cons_of_mem _ (List.mem_cons_self)), xbk (by kernel_rfl) xb_BadPlace⟩ (memC ⟨_, List.mem_cons_of_mem _ (List.mem_cons_of_mem _ (List.mem_cons_of_mem _ (List.mem_cons_self))), xbk (by kernel_rfl) xb_BadGame⟩ (memC ⟨_, List.mem_cons_of_mem _ (List.mem_cons_of_mem _ (List.mem_cons_of_mem _ (List.mem_cons_of_mem _ (List.mem_cons_self)))), xbk (by kernel_rfl) xb_BadMove⟩ (memC ⟨_, List.mem_cons_of_mem _ (List.mem_cons_of_mem _ (List.mem_cons_of_mem _ (List.mem_cons_of_mem _ (List.mem_cons_of_mem _ (List.mem_cons_self))))), xbk (by kernel_rfl) xb_BadLot⟩ (memC ⟨_, List.mem_cons_of_mem _ (List.mem_cons_of_mem _ (List.mem_cons_of_mem _ (List.mem_cons_of_mem _ (List.mem_cons_of_mem _ (List.mem_cons_of_mem _ (List.mem_cons_self)))))), xbk (by kernel_rfl) xb_BadWorths⟩ (memC ⟨_, List.mem_cons_of_mem _ (List.mem_cons_of_mem _ (List.mem_cons_of_mem _ (List.mem_cons_of_mem _ (List.mem_cons_of_mem _ (List.mem_cons_of_mem _ (List.mem_cons_of_mem _ (List.mem_cons_self))))))), xbk (by kernel_rfl) xb_BadGoal⟩ (memC ⟨_, List.mem_cons_of_mem _ (List.mem_cons_of_mem _ (List.mem_cons_of_mem _ (List.mem_cons_of_mem _ (List.mem_cons_of_mem _ (List.mem_cons_of_mem _ (List.mem_cons_of_mem _ (List.mem_cons_of_mem _ (List.mem_cons_self)))))))), xbk (by kernel_rfl) xb_BadHand⟩ (memC ⟨_, List.mem_cons_of_mem _ (List.mem_cons_of_mem _ (List.mem_cons_of_mem _ (List.mem_cons_of_mem _ (List.mem_cons_of_mem _ (List.mem_cons_of_mem _ (List.mem_cons_of_mem _ (List.mem_cons_of_mem _ (List.mem_cons_of_mem _ (List.mem_cons_self))))))))), xbk (by kernel_rfl) xb_BadHonest⟩ (memC ⟨_, List.mem_cons_of_mem _ (List.mem_cons_of_mem _ (List.mem_cons_of_mem _ (List.mem_cons_of_mem _ (List.mem_cons_of_mem _ (List.mem_cons_of_mem _ (List.mem_cons_of_mem _ (List.mem_cons_of_mem _ (List.mem_cons_of_mem _ (List.mem_cons_of_mem _ (List.mem_cons_self)))))))))), xbk (by kernel_rfl) xb_BadGames⟩ (memC ⟨_, List.mem_cons_of_mem _ (List.mem_cons_of_mem _ (List.mem_cons_of_mem _ (List.mem_cons_of_mem _ (List.mem_cons_of_mem _ (List.mem_cons_of_mem _ (List.mem_cons_of_mem _ (List.mem_cons_of_mem _ (List.mem_cons_of_mem _ (List.mem_cons_of_mem _ (List.mem_cons_of_mem _ (List.mem_cons_self))))))))))), xbk (by kernel_rfl) xb_BadBout⟩ (memC ⟨_, List.mem_cons_of_mem _ (List.mem_cons_of_mem _ (List.mem_cons_of_mem _ (List.mem_cons_of_mem _ (List.mem_cons_of_mem _ (List.mem_cons_of_mem _ (List.mem_cons_of_mem _ (List.mem_cons_of_mem _ (List.mem_cons_of_mem _ (List.mem_cons_of_mem _ (List.mem_cons_of_mem _ (List.mem_cons_of_mem _ (List.mem_cons_self)))))))))))), xbk (by kernel_rfl) xb_BadRow⟩ (memC ⟨_, List.mem_cons_of_mem _ (List.mem_cons_of_mem _ (List.mem_cons_of_mem _ (List.mem_cons_of_mem _ (List.mem_cons_of_mem _ (List.mem_cons_of_mem _ (List.mem_cons_of_mem _ (List.mem_cons_of_mem _ (List.mem_cons_of_mem _ (List.mem_cons_of_mem _ (List.mem_cons_of_mem _ (List.mem_cons_of_mem _ (List.mem_cons_of_mem _ (List.mem_cons_self))))))))))))), xbk (by kernel_rfl) xb_BadChances⟩ (memC ⟨_, List.mem_cons_of_mem _ (List.mem_cons_of_mem _ (List.mem_cons_of_mem _ (List.mem_cons_of_mem _ (List.mem_cons_of_mem _ (List.mem_cons_of_mem _ (List.mem_cons_of_mem _ (List.mem_cons_of_mem _ (List.mem_cons_of_mem _ (List.mem_cons_of_mem _ (List.mem_cons_of_mem _ (List.mem_cons_of_mem _ (List.mem_cons_of_mem _ (List.mem_cons_of_mem _ (List.mem_cons_self)))))))))))))), xbk (by kernel_rfl) xb_BadOpponent⟩ (memC ⟨_, List.mem_cons_of_mem _ (List.mem_cons_of_mem _ (List.mem_cons_of_mem _ (List.mem_cons_of_mem _ (List.mem_cons_of_mem _ (List.mem_cons_of_mem _ (List.mem_cons_of_mem _ (List.mem_cons_of_mem _ (List.mem_cons_of_mem _ (List.mem_cons_of_mem _ (List.mem_cons_of_mem _ (List.mem_cons_of_mem _ (List.mem_cons_of_mem _ (List.mem_cons_of_mem _ (List.mem_cons_of_mem _ (List.mem_cons_self))))))))))))))), xbk (by kernel_rfl) xb_BadPlan⟩ (memC ⟨_, List.mem_cons_of_mem _ (List.mem_cons_of_mem _ (List.mem_cons_of_mem _ (List.mem_cons_of_mem _ (List.mem_cons_of_mem _ (List.mem_cons_of_mem _ (List.mem_cons_of_mem _ (List.mem_cons_of_mem _ (List.mem_cons_of_mem _ (List.mem_cons_of_mem _ (List.mem_cons_of_mem _ (List.mem_cons_of_mem _ (List.mem_cons_of_mem _ (List.mem_cons_of_mem _ (List.mem_cons_of_mem _ (List.mem_cons_of_mem _ (List.mem_cons_self)))))))))))))))), xbk (by kernel_rfl) xb_BadMenu⟩ (memC ⟨_, List.mem_cons_of_mem _ (List.mem_cons_of_mem _ (List.mem_cons_of_mem _ (List.mem_cons_of_mem _ (List.mem_cons_of_mem _ (List.mem_cons_of_mem _ (List.mem_cons_of_mem _ (List.mem_cons_of_mem _ (List.mem_cons_of_mem _ (List.mem_cons_of_mem _ (List.mem_cons_of_mem _ (List.mem_cons_of_mem _ (List.mem_cons_of_mem _ (List.mem_cons_of_mem _ (List.mem_cons_of_mem _ (List.mem_cons_of_mem _ (List.mem_cons_of_mem _ (List.mem_cons_self))))))))))))))))), xbk (by kernel_rfl) xb_BadChoice⟩ (memC ⟨_, List.mem_cons_of_mem _ (List.mem_cons_of_mem _ (List.mem_cons_of_mem _ (List.mem_cons_of_mem _ (List.mem_cons_of_mem _ (List.mem_cons_of_mem _ (List.mem_cons_of_mem _ (List.mem_cons_of_mem _ (List.mem_cons_of_mem _ (List.mem_cons_of_mem _ (List.mem_cons_of_mem _ (List.mem_cons_of_mem _ (List.mem_cons_of_mem _ (List.mem_cons_of_mem _ (List.mem_cons_of_mem _ (List.mem_cons_of_mem _ (List.mem_cons_of_mem _ (List.mem_cons_of_mem _ (List.mem_cons_self)))))))))))))))))), xbk (by kernel_rfl) xb_BadWish⟩ (memC ⟨_, List.mem_cons_of_mem _ (List.mem_cons_of_mem _ (List.mem_cons_of_mem _ (List.mem_cons_of_mem _ (List.mem_cons_of_mem _ (List.mem_cons_of_mem _ (List.mem_cons_of_mem _ (List.mem_cons_of_mem _ (List.mem_cons_of_mem _ (List.mem_cons_of_mem _ (List.mem_cons_of_mem _ (List.mem_cons_of_mem _ (List.mem_cons_of_mem _ (List.mem_cons_of_mem _ (List.mem_cons_of_mem _ (List.mem_cons_of_mem _ (List.mem_cons_of_mem _ (List.mem_cons_of_mem _ (List.mem_cons_of_mem _ (List.mem_cons_self))))))))))))))))))), xbk (by kernel_rfl) xb_BadTold⟩ (memC ⟨_, List.mem_cons_of_mem _ (List.mem_cons_of_mem _ (List.mem_cons_of_mem _ (List.mem_cons_of_mem _ (List.mem_cons_of_mem _ (List.mem_cons_of_mem _ (List.mem_cons_of_mem _ (List.mem_cons_of_mem _ (List.mem_cons_of_mem _ (List.mem_cons_of_mem _ (List.mem_cons_of_mem _ (List.mem_cons_of_mem _ (List.mem_cons_of_mem _ (List.mem_cons_of_mem _ (List.mem_cons_of_mem _ (List.mem_cons_of_mem _ (List.mem_cons_of_mem _ (List.mem_cons_of_mem _ (List.mem_cons_of_mem _ (List.mem_cons_of_mem _ (List.mem_cons_self)))))))))))))))))))), xbk (by kernel_rfl) xb_BadName⟩ (memC ⟨_, List.mem_cons_of_mem _ (List.mem_cons_of_mem _ (List.mem_cons_of_mem _ (List.mem_cons_of_mem _ (List.mem_cons_of_mem _ (List.mem_cons_of_mem _ (List.mem_cons_of_mem _ (List.mem_cons_of_mem _ (List.mem_cons_of_mem _ (List.mem_cons_of_mem _ (List.mem_cons_of_mem _ (List.mem_cons_of_mem _ (List.mem_cons_of_mem _ (List.mem_cons_of_mem _ (List.mem_cons_of_mem _ (List.mem_cons_of_mem _ (List.mem_cons_of_mem _ (List.mem_cons_of_mem _ (List.mem_cons_of_mem _ (List.mem_cons_of_mem _ (List.mem_cons_of_mem _ (List.mem_cons_self))))))))))))))))))))), xbk (by kernel_rfl) xb_BadText⟩ (memC ⟨_, List.mem_cons_of_mem _ (List.mem_cons_of_mem _ (List.mem_cons_of_mem _ (List.mem_cons_of_mem _ (List.mem_cons_of_mem _ (List.mem_cons_of_mem _ (List.mem_cons_of_mem _ (List.mem_cons_of_mem _ (List.mem_cons_of_mem _ (List.mem_cons_of_mem _ (List.mem_cons_of_mem _ (List.mem_cons_of_mem _ (List.mem_cons_of_mem _ (List.mem_cons_of_mem _ (List.mem_cons_of_mem _ (List.mem_cons_of_mem _ (List.mem_cons_of_mem _ (List.mem_cons_of_mem _ (List.mem_cons_of_mem _ (List.mem_cons_of_mem _ (List.mem_cons_of_mem _ (List.mem_cons_of_mem _ (List.mem_cons_self)))))))))))))))))))))), xbk (by kernel_rfl) xb_BadLine⟩ (memC ⟨_, List.mem_cons_of_mem _ (List.mem_cons_of_mem _ (List.mem_cons_of_mem _ (List.mem_cons_of_mem _ (List.mem_cons_of_mem _ (List.mem_cons_of_mem _ (List.mem_cons_of_mem _ (List.mem_cons_of_mem _ (List.mem_cons_of_mem _ (List.mem_cons_of_mem _ (List.mem_cons_of_mem _ (List.mem_cons_of_mem _ (List.mem_cons_of_mem _ (List.mem_cons_of_mem _ (List.mem_cons_of_mem _ (List.mem_cons_of_mem _ (List.mem_cons_of_mem _ (List.mem_cons_of_mem _ (List.mem_cons_of_mem _ (List.mem_cons_of_mem _ (List.mem_cons_of_mem _ (List.mem_cons_of_mem _ (List.mem_cons_of_mem _ (List.mem_cons_self))))))))))))))))))))))), xbk (by kernel_rfl) xb_UnknownPlace⟩ (memC ⟨_, List.mem_cons_of_mem _ (List.mem_cons_of_mem _ (List.mem_cons_of_mem _ (List.mem_cons_of_mem _ (List.mem_cons_of_mem _ (List.mem_cons_of_mem _ (List.mem_cons_of_mem _ (List.mem_cons_of_mem _ (List.mem_cons_of_mem _ (List.mem_cons_of_mem _ (List.mem_cons_of_mem _ (List.mem_cons_of_mem _ (List.mem_cons_of_mem _ (List.mem_cons_of_mem _ (List.mem_cons_of_mem _ (List.mem_cons_of_mem _ (List.mem_cons_of_mem _ (List.mem_cons_of_mem _ (List.mem_cons_of_mem _ (List.mem_cons_of_mem _ (List.mem_cons_of_mem _ (List.mem_cons_of_mem _ (List.mem_cons_of_mem _ (List.mem_cons_of_mem _ (List.mem_cons_self)))))))))))))))))))))))), xbk (by kernel_rfl) xb_TooMany⟩ (memC ⟨_, List.mem_cons_of_mem _ (List.mem_cons_of_mem _ (List.mem_cons_of_mem _ (List.mem_cons_of_mem _ (List.mem_cons_of_mem _ (List.mem_cons_of_mem _ (List.mem_cons_of_mem _ (List.mem_cons_of_mem _ (List.mem_cons_of_mem _ (List.mem_cons_of_mem _ (List.mem_cons_of_mem _ (List.mem_cons_of_mem _ (List.mem_cons_of_mem _ (List.mem_cons_of_mem _ (List.mem_cons_of_mem _ (List.mem_cons_of_mem _ (List.mem_cons_of_mem _ (List.mem_cons_of_mem _ (List.mem_cons_of_mem _ (List.mem_cons_of_mem _ (List.mem_cons_of_mem _ (List.mem_cons_of_mem _ (List.mem_cons_of_mem _ (List.mem_cons_of_mem _ (List.mem_cons_of_mem _ (List.mem_cons_self))))))))))))))))))))))))), xbk (by kernel_rfl) xb_NothingToUndo⟩ (memN))))))))))))))))))))))))))
theorem pats_ok : PatsB T kwd := by
  unfold PatsB
  rw [fns_eq]
  exact memC pb__law_pool (memC pb__law_draw (memC pb__law_kinds_right (memC pb__law_kept_too (memC pb_law (memN)))))
def L1 : List (Str × Fn) := [("_law_pool", f__law_pool), ("_law_draw", f__law_draw), ("_law_kinds_right", f__law_kinds_right), ("_law_kept_too", f__law_kept_too)]
theorem rd__law_pool : Rd T F0 ("_law_pool", f__law_pool) := ⟨[], [], Below.nil, by kernel_rfl⟩
theorem rd__law_draw : Rd T F0 ("_law_draw", f__law_draw) := ⟨[], [], Below.nil, by kernel_rfl⟩
theorem rd__law_kinds_right : Rd T F0 ("_law_kinds_right", f__law_kinds_right) := ⟨[], [], Below.nil, by kernel_rfl⟩
theorem rd__law_kept_too : Rd T F0 ("_law_kept_too", f__law_kept_too) := ⟨[], [], Below.nil, by kernel_rfl⟩
def F1 : FT := ext F0 L1
theorem sf1 (CM : Str → Option Addr) : SoundF T CM F1 4 := layer_ok (sf0 T CM) (memC rd__law_pool (memC rd__law_draw (memC rd__law_kinds_right (memC rd__law_kept_too (memN)))))
def Llaw : List (Str × Fn) := [("_law_pool", f__law_pool), ("_law_draw", f__law_draw), ("_law_kinds_right", f__law_kinds_right), ("_law_kept_too", f__law_kept_too)]
theorem bl_law : Below F1 Llaw := Below.cons (by kernel_rfl) (Below.cons (by kernel_rfl) (Below.cons (by kernel_rfl) (Below.cons (by kernel_rfl) (Below.nil))))
theorem rd_law : readFn T (mkH T [] Llaw) "law" = some f_law := by kernel_rfl
theorem law_key : T.fns.lookup ("law" : Str) = some (fnK T "law") := by kernel_rfl
theorem law_ps : (fnK T "law").ps = (["_law_script"] : List Str) := by kernel_rfl
theorem law_in : ("law" : Str) ∈ T.gfn := List.contains_iff_mem.mp (by kernel_rfl)
theorem holds (hL : LawOk f_law) : PySem.Challenge.rw_liftedladders_k22_errors.Holds := by
  w_on; o_law
  refine HandSHeadRun.head_any (r := PySem.W.OpenLaw.row PySem.Challenge.rw_liftedladders_k22_errors) (q := PySem.W.view (PySem.W.OpenLaw.row PySem.Challenge.rw_liftedladders_k22_errors).prog [33]) (H := hookL 5 R.prog T kwd) (ob := ob) (M := 9000) (loose := loose) (d := HandSHeadRun.topDef (PySem.W.OpenLaw.row PySem.Challenge.rw_liftedladders_k22_errors).prog 33) (kwd := []) ob_eq
    (by kernel_rfl) (fun s => by kernel_rfl) run (by kernel_rfl) (by kernel_rfl) (by kernel_rfl) (by rfl) (by first | assumption | decide +kernel) (by decide +kernel) ⟨rfl, rfl, rfl, rfl, rfl, by decide +kernel⟩ ?hw ?hc
  case hw => w_witness2
  case hc => exact walkL (l := PySem.Challenge.rw_liftedladders_k22_errors) (T := T) (kwd := kwd) (F := F1) (n := 4) (key := "law") (x := "_law_script") (i := fnK T "law") (cs := []) (L := Llaw) (f := f_law) rfl (by kernel_rfl) (by kernel_rfl) law_key law_in law_ps (fun kV doc pm an cdv ct us h => by obtain ⟨a, rfl⟩ := len1 h; kernel_rfl) sc_ok pats_ok xs_ok sf1 bl_law rd_law ⟨rfl, by decide, by decide⟩ hL
end K22
open PySem PySem.W PyProof.Rows
theorem PySem.Challenge.cw_liftedladders_k22_errors_holds : PySem.Challenge.rw_liftedladders_k22_errors.Holds :=
  K22.holds K22.law_ok
