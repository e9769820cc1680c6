import PyProof.Rows.All
import Wide.All
import OpenK.AllK
import Wide.FinOn
import HandS.ForMost
import HandS.ForExc
import HandS.TryMany
import HandS.ExcIs
import HandS.ExcInit
import HandS.ExcField
import HandS.CallSlots
import HandS.CallLocal
import HandS.IsInst
import HandS.Wide
import HandS.Walk
import HandS.Evl
import HandS.Lambda
import KE.GoesNew
import KE.GoesEnum
import HandS.Rev
import HandS.Comp
import HandS.TupAny
import HandS.Style
import PyProof.StrBlock2
import PyProof.Rows.SeqMore
import HandS.NoneIn
import HandS.Strs
import HandS.Star
import HandS.EndTab
import HandS.HeadHook4
import HandS.HeadEnd
import HandS.Head2
import HandS.Dict
import HandS.WordsDict
import HandS.More
import HandS.Iter
import HandS.Conv
import HandS.SortInts
import HandS.TupSets
import PyProof.ListRange
import PyProof.Rows.ChunkLeaf
import HandS.SortRule
import KE.KSortTup
import KE.KTupSum
import HandS.SortKw
import HandS.SetFor
import HandS.RevRange
import HandS.Deep
import PySem.Challenge.RW_whatmovesbuy_k65_amounts_and_what_counts
set_option Elab.async false
set_option linter.all false
set_option maxRecDepth 100000
set_option maxHeartbeats 0
namespace Mir
open PySem.Spec PySem L2 PyProof.Rows
/-! tuples that are known to the last: their object bears no dict -/
def tO (us : List Value) : Obj := { cls := .type "tuple", data := .seq us.toArray }
def exO : HO → Prop
  | .tup _ => False
  | .frz o (.tup _) => o.dict = none
  | _ => True
abbrev tX (us : List Value) (xs : List V) : HO := .frz (tO us) (.tup xs)
theorem stX {K : PySem.W.Frag} {H : Hp} {p : Addr} {us : List Value} {xs : List V} : SqT K (upd H p (tX us xs)) p xs := .inl (.inr ⟨_, upd_same⟩)
/-- no tuple of the program's own objects bears a dict -/
def KX (K : PySem.W.Frag) : Prop := ∀ a o, K.lookup a = some o → o.cls = .type "tuple" → o.dict = none
section
variable {X : Cx} {s : Shared} {H : Hp} {σ : L2.St} {pins : List (Addr × Obj)}
theorem inv_tX {us : List Value} {xs : List V} (I : Inv X pins σ H s) (r : Vals xs us) (hz : xs.length ≤ sizeLine) : Inv X pins σ (upd H s.heap.objs.size (tX us xs)) { s with heap := s.heap.push (tO us) } := by
  have g : (s.heap.push (tO us)).get? s.heap.objs.size = some (tO us) := Heap.get?_push_size _ rfl
  exact I.laid (t' := s.toks) (o := tX us xs) (fun _ _ e => Heap.get?_push_of_some _ e) (Nat.le_refl _) ⟨g, hz, us, r, _, g, rfl, _, rfl⟩
variable {es : List Expr} {t : TA} {k : Nat} {pos : Pos}
def tTupX (t : TA) : TE := fun σ H Q => t σ H fun xs H1 => xs.length ≤ sizeLine ∧ ∀ p us, H1 p = none → Q (.ref p) (upd H1 p (tX us xs))
/-- (e, ..) -/
theorem pe_tupX (h : PA X es t) : PE X (.Tuple es k pos) (tTupX t) := ⟨fun pins s σ H Q I q =>
  wpAny_Tuple_spliced (thn (h.run pos pins s σ H _ I q) fun us s1 ⟨xs, H1, J, r, hz, k⟩ => ⟨by rw [← r.length]; exact hz, ⟨.ref _, _, inv_tX J r hz, rfl, k _ us (J.hok.fresh (Nat.le_refl _))⟩⟩)⟩
/-- tuple(x) -/
theorem call_tupX : CallR X (.type "tuple") (fun xs H Q => ∃ p ys, xs = [.ref p] ∧ ((SqL X.K H p ys ∧ ∀ l us, H l = none → Q (.ref l) (upd H l (tX us ys))) ∨ (SqT X.K H p ys ∧ Q (.ref p) H))) := by
  intro pins s σ H xs us Q I r ⟨p, ys, e, h⟩
  subst e
  rcases vals1 r with ⟨u, eu, ru⟩
  subst eu
  cases ru
  rcases h with ⟨sq, k⟩ | ⟨sq, k⟩
  · have ⟨its, r2, pl, hz⟩ := I.list sq
    refine call_tuple_list pl.isList (fun h2 kp => ?_) (by have := r2.length; simp only [List.size_toArray]; omega)
    have J : Inv X pins σ H { s with heap := h2 } := I.kept (t' := s.toks) kp
    exact ⟨.ref _, _, inv_tX J r2 hz, rfl, k _ its (J.hok.fresh (Nat.le_refl _))⟩
  · have ⟨_, _, pl, _⟩ := I.tuple sq
    exact call_tuple_same pl ⟨.ref p, H, I, rfl, k⟩
/-- t + u -/
def rCatX (K : PySem.W.Frag) : R2 := fun x y H Q => ∃ a b xs ys, x = .ref a ∧ y = .ref b ∧ SqT K H a xs ∧ SqT K H b ys ∧ xs.length + ys.length ≤ sizeLine ∧
  (xs = [] → Q (.ref b) H) ∧ (xs ≠ [] → ys = [] → Q (.ref a) H) ∧ (xs ≠ [] → ys ≠ [] → ∀ p us, H p = none → Q (.ref p) (upd H p (tX us (xs ++ ys))))
theorem op_catX : OpR X (binaryOp .Add) (rCatX X.K) := by
  intro pins s σ H x y v u Q I rx ry ⟨a, b, xs, ys, ex, ey, sa, sb, hz, k0, k1, k2⟩
  subst ex ey
  cases rx
  cases ry
  have ⟨us, r1, t1, _⟩ := I.tuple sa
  have ⟨ws, r2, t2, _⟩ := I.tuple sb
  by_cases c : xs = []
  · subst c
    cases r1
    exact cat_tup0 t1 t2 ⟨.ref b, H, I, rfl, k0 rfl⟩
  · refine HT.cat_tup t1 t2 (fun z => c (r1.nil_iff.mp z)) (fun z => ⟨.ref a, H, I, rfl, k1 c (r2.nil_iff.mp z)⟩) (fun z => ?_) (by rw [← r1.length, ← r2.length]; exact hz)
    exact ⟨.ref _, _, inv_tX I (r1.append r2) (by rw [List.length_append]; exact hz), rfl, k2 c (fun w => z (r2.nil_iff.mpr w)) _ _ (I.hok.fresh (Nat.le_refl _))⟩
/-- t[lo:hi] -/
def rSlX (K : PySem.W.Frag) : V → Option Int → Option Int → Hp → VK → Prop := fun x lo hi H Q => ∃ a xs, x = .ref a ∧ SqT K H a xs ∧
  (HT.sIx xs.length 0 lo = 0 ∧ HT.sIx xs.length xs.length hi = xs.length → Q (.ref a) H) ∧ (¬ (HT.sIx xs.length 0 lo = 0 ∧ HT.sIx xs.length xs.length hi = xs.length) → ∀ p us, H p = none → Q (.ref p) (upd H p (tX us (cutV xs lo hi))))
theorem sl_tupX : SlR X (rSlX X.K) := by
  intro pins s σ H x v vl vu lo hi sl Q I rx hs pl pu ⟨a, xs, ex, sq, k1, k2⟩
  by_cases c : HT.sIx xs.length 0 lo = 0 ∧ HT.sIx xs.length xs.length hi = xs.length
  · exact sl_tupA pins s σ H x v vl vu lo hi sl Q I rx hs pl pu ⟨a, xs, ex, sq, k1, fun n => absurd c n⟩
  · subst ex
    cases rx
    have ⟨us, r, ht, hz⟩ := I.tuple sq
    have hl : us.toArray.size = xs.length := by simpa using r.length.symm
    refine ⟨"tuple", _, PyProof.Rows.slot_tuple_getitem.lookup, ht.typeIs, HT.getItem_tuple_cut ht hs pl pu (by rw [hl]; exact c) ?_ (by rw [hl]; exact hz)⟩
    rw [hl]
    exact ⟨.ref _, _, inv_tX I ((r.drop (HT.sIx xs.length 0 lo)).take (HT.sIx xs.length xs.length hi - HT.sIx xs.length 0 lo)) (Nat.le_trans (cutV_length xs lo hi) hz), rfl, k2 c _ _ (I.hok.fresh (Nat.le_refl _))⟩
/-- the receiver of a tuple's method -/
def isTX (K : PySem.W.Frag) (x : V) (H : Hp) : Prop := ∃ p, x = .ref p ∧ ((∃ o xs, H p = some (.frz o (.tup xs)) ∧ o.dict = none) ∨ ∃ o, K.lookup p = some o ∧ o.cls = .type "tuple" ∧ o.dict = none)
theorem isTX_is {x : V} {v : Value} (I : Inv X pins σ H s) (r : RelV x v) (h : isTX X.K x H) : s.TypeIs v "tuple" ∧ ∀ a, v = .ref a → ∃ ob, s.heap.get? a = some ob ∧ ob.dict = none := by
  obtain ⟨p, ex, h⟩ := h
  subst ex
  cases r
  rcases h with ⟨o, xs, hp, hd⟩ | ⟨o, hk, hc, hd⟩
  · obtain ⟨g, _, _, _, o2, g2, hc, _⟩ := I.hok p _ hp
    rw [g] at g2
    cases g2
    exact ⟨⟨o, g, hc⟩, fun a e => by cases e; exact ⟨o, g, hd⟩⟩
  · exact ⟨⟨o, I.kIn p o hk, hc⟩, fun a e => by cases e; exact ⟨o, I.kIn p o hk, hd⟩⟩
def tMX (K : PySem.W.Frag) (r : V → List V → Hp → VK → Prop) (to : TE) (t : TA) : TE := fun σ H Q => to σ H fun x H1 => isTX K x H1 ∧ t σ H1 fun xs H2 => r x xs H2 Q
/-- t.m(e) of such a tuple -/
theorem pe_mX {o e : Expr} {to : TE} {m : Str} {ap cp : Pos} {id : String} {r : V → List V → Hp → VK → Prop} (sl : Slot "tuple" m id) (ty : typeOf (.builtin id) = pure (.type "method_descriptor")) (hm : MtR X id r) (ho : PE X o to) (ha : PA X [e] t)
    (hb : attributeBase o m X.env (eval o X.env) = eval o X.env := by rfl) (hf : ((backTo cp (starEach [e] X.env)).all (fun x => !x.1) && (backToKw cp (keywordEach [] X.env)).all (fun x => x.1.isSome) && decide ([e].length + ([] : List Keyword).length + (if ([] : List Keyword).isEmpty then 0 else 1) < 30)) = true := by rfl)
    (hl : (ap.endLine == cp.line) = true := by rfl) (hs : starEach [e] X.env = (false, eval e X.env) :: starEach [] X.env := by rfl) (hp : (backTo cp (starEach [] X.env)).any (·.1) = false := by rfl) : PE X (.Call (.Attribute o m ap) [e] [] cp) (tMX X.K r to t) := ⟨fun pins s σ H Q I q =>
  wpAny_Call_method_late hb hf hl rfl (thn (ho.run pins s σ H _ I q) fun v s1 ⟨x, H1, J, rx, tx, q1⟩ => by
    have ⟨a1, a2⟩ := isTX_is J rx tx
    refine ⟨"tuple", id, PySem.F.plainAttrs_tuple, sl, ty, a1, a2, ?_⟩
    have run := ha.run cp pins s1 σ H1 _ J q1
    rw [hs] at run ⊢
    exact Calls.callWith_builtin (by show (false || (backTo cp (starEach [] X.env)).any (·.1)) = false; rw [hp] <;> rfl) (Calls.evalArgs_plain (thn run fun us s2 ⟨vs, H2, J2, r2, q2⟩ => hm pins s2 σ H2 x vs v us Q J2 rx r2 q2)))⟩
end
end Mir

/-! Mir: a value reading of Python over the hand layer. -/
namespace Mir
open PySem.Spec PySem L2 PyProof.Rows
open Evl (Ex)

/-- what a slot holds: data that no longer changes, a list of its own, a list of lambdas, a lambda, a def, a caught error -/
inductive W where
  | d (x : PyData)
  | own (l : List PyData)
  | bor (l : List PyData)
  | lams (l : List Nat)
  | lam (k : Nat)
  | fn (k : Nat)
  | exc (c : Nat) (x : PyData)
  | dct (l : List PyData)
  | bod (l : List PyData)
abbrev Env := List (Option W)
/-- the items of a list that may be changed here -/
def W.items : W → Option (List PyData)
  | .own l => some l
  | .bor l => some l
  | _ => none
def W.put : W → List PyData → W
  | .own _, l => .own l
  | .bor _, l => .bor l
  | .dct _, l => .dct l
  | .bod _, l => .bod l
  | w, _ => w

/-- a lambda of a def's text, with the cells that it captures -/
structure LamD where
  q : Str
  params : Arguments
  body : Expr
  scope : Scope
  clo : List (Str × Addr)
/-- its function object at a -/
def lamO (d : LamD) (pm : Value) (c' : Addr) (ctv : Value) (a : Addr) : HO := .ext fun h => h.get? a = some (PySem.W.kla_obj "<lambda>" d.q d.params d.body d.scope d.clo pm c' ctv)
def LamAt (d : LamD) (F : Hp) (a : Addr) : Prop := ∃ pm c' ctv, F a = some (lamO d pm c' ctv a) ∧ F c' = some (LamX.CodeO c' d.q)
theorem LamAt.mono {d : LamD} {F F' : Hp} {a : Addr} (h : LamAt d F a) (e : Ex F F') : LamAt d F' a := by
  obtain ⟨pm, c', ctv, h1, h2⟩ := h
  exact ⟨pm, c', ctv, e _ _ h1, e _ _ h2⟩
/-- borrowed -/
def W.isB : W → Bool
  | .bor _ => true
  | .bod _ => true
  | _ => false
/-- borrowed, a list (false) or a dict (true) -/
def W.isK (d : Bool) : W → Bool
  | .bor _ => !d
  | .bod _ => d
  | _ => false
theorem W.isK_B {d : Bool} {w : W} (h : w.isK d = true) : w.isB = true := by
  cases w <;> first | rfl | cases h
/-- a list (false) or a dict (true), its items: a dict's are the pairs of its keys and values -/
def W.cell : W → Option (Bool × List PyData)
  | .own l => some (false, l)
  | .bor l => some (false, l)
  | .dct l => some (true, l)
  | .bod l => some (true, l)
  | _ => none
def W.bx : Bool → List PyData → W
  | false, l => .bor l
  | true, l => .bod l
/-- an object that a slot may own -/
def MuO : HO → Prop
  | .lst _ => True
  | .dK _ => True
  | _ => False
/-- what may be handed to a def -/
def W.plain : W → Bool
  | .d _ => true
  | .fn _ => true
  | _ => false
/-- what is known throughout a def's run -/
structure Sg where
  K : PySem.W.Frag
  fn : Nat → Addr
  lam : Nat → LamD
  cls : Nat → Addr
  fld : Nat → Str
  ea : Addr
  ed : Addr
  ec : Value
  T : List (Addr × Str)
/-- a code table may grow, all else stays -/
def Kept (o o' : HO) : Prop := o' = o ∨ ∃ ps qs, o = .tbl ps ∧ o' = .tbl qs
theorem Kept.mu {o o' : HO} (h : Kept o o') (m : MuO o) : o' = o := by
  rcases h with h | ⟨_, _, e, _⟩
  · exact h
  · rw [e] at m; exact m.elim
theorem Kept.trans {a b c : HO} (h : Kept a b) (k : Kept b c) : Kept a c := by
  rcases h with rfl | ⟨ps, qs, rfl, rfl⟩
  · exact k
  · rcases k with rfl | ⟨ps', qs', _, rfl⟩
    · exact .inr ⟨_, _, rfl, rfl⟩
    · exact .inr ⟨_, _, rfl, rfl⟩
def KeptAll (H H' : Hp) : Prop := ∀ a o, H a = some o → ∃ o', H' a = some o' ∧ Kept o o'
theorem KeptAll.of {H H' : Hp} (e : Ex H H') : KeptAll H H' := fun a o h => ⟨o, e a o h, .inl rfl⟩
/-- tuples among what is frozen are known to the last -/
def Xt (F : Hp) : Prop := ∀ a o, F a = some o → exO o
theorem Xt.upd {F : Hp} {p : Addr} {o : HO} (x : Xt F) (h : exO o) : Xt (L2.upd F p o) := fun a u e => by
  by_cases c : a = p
  · rw [c, upd_same] at e
    cases e
    exact h
  · rw [upd_ne c] at e
    exact x a u e
def TabF (T : List (Addr × Str)) (F : Hp) : Prop := (∀ p ∈ T, F p.1 = none) ∧ Xt F
section
variable {T : List (Addr × Str)} {F H : Hp} {p : Addr} {o : HO} {xs ys : List V}
theorem tabs_new (t : LamX.Tabs T H) (n : H p = none) : LamX.Tabs T (upd H p o) := t.ext (Ex.new n)
theorem tabs_write (t : LamX.Tabs T H) (h : H p = some o) (m : MuO o) {o' : HO} : LamX.Tabs T (upd H p o') := fun q hq => by
  obtain ⟨ps, h1, h2, h3⟩ := t q hq
  have n1 : q.1 ≠ p := fun z => by rw [z, h] at h1; cases h1; exact m.elim
  refine ⟨ps, by rw [upd_ne n1]; exact h1, h2, fun pos cv hc => ?_⟩
  rcases h3 pos cv hc with ⟨c, e1, e2⟩
  have n2 : c ≠ p := fun z => by
    rw [z, h] at e2
    have e3 : o = LamX.CodeO p q.2 := Option.some.inj e2
    unfold LamX.CodeO at e3
    rw [e3] at m
    exact m.elim
  exact ⟨c, e1, by rw [upd_ne n2]; exact e2⟩
theorem tabF_new (f : TabF T F) (t : LamX.Tabs T H) (n : H p = none) (ho : exO o) : TabF T (upd F p o) := ⟨fun q hq => by
  obtain ⟨ps, h1, _⟩ := t q hq
  rw [upd_ne (ne_of_none h1 n)]
  exact f.1 q hq, f.2.upd ho⟩
theorem tabF_lst (f : TabF T F) (t : LamX.Tabs T H) (h : H p = some (.lst xs)) (ho : exO o) : TabF T (upd F p o) := ⟨fun q hq => by
  obtain ⟨ps, h1, _⟩ := t q hq
  have n1 : q.1 ≠ p := fun z => by rw [z, h] at h1; cases h1
  rw [upd_ne n1]
  exact f.1 q hq, f.2.upd ho⟩
end
/-- a def's run -/
structure Ct extends Sg where
  H0 : Hp
  F0 : Hp
  io : List (Nat × Addr)
  ik : Bool

def Ct.ioA (C : Ct) : List Addr := C.io.map (·.2)

/-- a dict's entries: its keys are ints -/
inductive DKs (K : PySem.W.Frag) (F : Hp) : List (Key × V) → List PyData → Prop
  | nil : DKs K F [] []
  | cons {i : Int} {v : V} {x : PyData} {kvs : List (Key × V)} {l : List PyData} : Dp K F v x → DKs K F kvs l → DKs K F ((.inl i, v) :: kvs) (.tuple [.int i, x] :: l)
/-- what stands behind a list or a dict -/
def Cell (K : PySem.W.Frag) (F : Hp) : Bool → HO → List PyData → Prop
  | false, o, l => ∃ xs, o = .lst xs ∧ DpAll K F xs l
  | true, o, l => ∃ kvs, o = .dK kvs ∧ DKs K F kvs l
theorem Cell.mu {K : PySem.W.Frag} {F : Hp} {d : Bool} {o : HO} {l : List PyData} (h : Cell K F d o l) : MuO o := by
  cases d <;> (obtain ⟨_, rfl, _⟩ := h; exact trivial)
inductive RepW (C : Sg) (F H : Hp) : V → W → List Addr → Prop
  | dct {p : Addr} {kvs : List (Key × V)} {l : List PyData} : H p = some (.dK kvs) → DKs C.K F kvs l → RepW C F H (.ref p) (.dct l) [p]
  | bod {p : Addr} {kvs : List (Key × V)} {l : List PyData} : H p = some (.dK kvs) → DKs C.K F kvs l → RepW C F H (.ref p) (.bod l) [p]
  | d {v : V} {x : PyData} : Dp C.K F v x → RepW C F H v (.d x) []
  | own {p : Addr} {xs : List V} {l : List PyData} : H p = some (.lst xs) → DpAll C.K F xs l → RepW C F H (.ref p) (.own l) [p]
  | bor {p : Addr} {xs : List V} {l : List PyData} : H p = some (.lst xs) → DpAll C.K F xs l → RepW C F H (.ref p) (.bor l) [p]
  | lams {p : Addr} {as : List Addr} {l : List Nat} : H p = some (.lst (as.map V.ref)) → as.length = l.length → (∀ (i : Nat) (a : Addr) (k : Nat), as[i]? = some a → l[i]? = some k → LamAt (C.lam k) F a) → RepW C F H (.ref p) (.lams l) [p]
  | lam {a : Addr} {k : Nat} : LamAt (C.lam k) F a → RepW C F H (.ref a) (.lam k) []
  | fn {k : Nat} : RepW C F H (.ref (C.fn k)) (.fn k) []
  | exc {c : Nat} {x : PyData} {v : V} : C.ec = .ref (C.cls c) → F C.ed = some (.xd [(C.fld c, v)]) → Dp C.K F v x → RepW C F H (.ref C.ea) (.exc c x) []

def RepP (C : Sg) (F H : Hp) (v : V) (w : W) : Prop := RepW C F H v w [] ∧ w.plain = true
inductive RepS (C : Sg) (F H : Hp) : L2.St → Env → List (List Addr) → Prop
  | nil : RepS C F H [] [] []
  | skip {s : Option V} {σ : L2.St} {δ : Env} {ps : List (List Addr)} : RepS C F H σ δ ps → RepS C F H (s :: σ) (Option.none :: δ) ([] :: ps)
  | cons {v : V} {w : W} {p : List Addr} {σ : L2.St} {δ : Env} {ps : List (List Addr)} : RepW C F H v w p → RepS C F H σ δ ps → RepS C F H (Option.some v :: σ) (Option.some w :: δ) (p :: ps)

/-- the state: what is frozen (F) within what is (H), the slots' values -/
structure Good (C : Ct) (F H : Hp) (σ : L2.St) (δ : Env) : Prop where
  f0 : Ex C.F0 F
  fh : Ex F H
  tb : LamX.Tabs C.T H
  tf : TabF C.T F
  fr : ∀ a, F a ≠ none → C.F0 a = none → C.H0 a = none
  kp : ∀ a o, C.H0 a = some o → ∃ o', H a = some o' ∧ (a ∉ C.ioA → Kept o o')
  io : ∀ i a, (i, a) ∈ C.io → σ[i]? = some (some (.ref a)) ∧ C.F0 a = none ∧ ∃ w, δ[i]? = some (some w) ∧ w.isK C.ik = true
  sl : ∃ ps, RepS C.toSg F H σ δ ps ∧ ps.flatten.Nodup ∧ ∀ p ∈ ps.flatten, F p = none ∧ (C.H0 p = none ∨ p ∈ C.ioA)

section
variable {K : PySem.W.Frag} {F F' H H' : Hp}
theorem dp_mono (e : Ex F F') : ∀ (d : PyData) (v : V), Dp K F v d → Dp K F' v d ∧ True := by
  intro d v h
  exact ⟨by
    refine Dp.rec (motive_1 := fun v d _ => Dp K F' v d) (motive_2 := fun vs ds _ => DpAll K F' vs ds) ?_ ?_ ?_ ?_ ?_ ?_ ?_ ?_ h
    · exact .non
    · intro b; exact .bl b
    · intro i; exact .int i
    · intro x; exact .str x
    · intro a xs ds h1 _ h2; exact .lst (Evl.ex_l e h1) h2
    · intro a xs ds h1 _ h2; exact .tup (Evl.ex_t e h1) h2
    · exact .nil
    · intro v vs d ds _ _ h1 h2; exact .cons h1 h2, trivial⟩
theorem Dp.ex {v : V} {d : PyData} (h : Dp K F v d) (e : Ex F F') : Dp K F' v d := (dp_mono e d v h).1
theorem DpAll.ex {vs : List V} {ys : List PyData} (h : DpAll K F vs ys) (e : Ex F F') : DpAll K F' vs ys := by
  revert h
  induction vs generalizing ys with
  | nil => intro h; cases h; exact .nil
  | cons v vs ih => intro h; cases h with | cons a b => exact .cons (Dp.ex a e) (ih b)
theorem DKs.ex {vs : List (Key × V)} {ys : List PyData} (h : DKs K F vs ys) (e : Ex F F') : DKs K F' vs ys := by
  induction h with
  | nil => exact .nil
  | cons a _ ih => exact .cons (Dp.ex a e) ih
theorem Cell.ex {d : Bool} {o : HO} {l : List PyData} (h : Cell K F d o l) (e : Ex F F') : Cell K F' d o l := by
  cases d with
  | false => obtain ⟨x, h1, h2⟩ := h; exact ⟨x, h1, DpAll.ex h2 e⟩
  | true => obtain ⟨x, h1, h2⟩ := h; exact ⟨x, h1, DKs.ex h2 e⟩
theorem DKs.len {vs : List (Key × V)} {ys : List PyData} (h : DKs K F vs ys) : vs.length = ys.length := by
  induction h with
  | nil => rfl
  | cons _ _ ihl => rw [List.length_cons, List.length_cons, ihl]
theorem DpAll.len {vs : List V} {ys : List PyData} (h : DpAll K F vs ys) : vs.length = ys.length := by
  revert h
  induction vs generalizing ys with
  | nil => intro h; cases h; rfl
  | cons v vs ih => intro h; cases h with | cons a b => rw [List.length_cons, List.length_cons, ih b]
theorem DpAll.get {vs : List V} {ys : List PyData} (h : DpAll K F vs ys) : ∀ (i : Nat) (x : PyData), ys[i]? = some x → ∃ v, vs[i]? = some v ∧ Dp K F v x := by
  revert h
  induction vs generalizing ys with
  | nil => intro h; cases h; intro i x e; simp at e
  | cons v vs ih =>
    intro h
    cases h with
    | cons a b =>
      intro i x e
      cases i with
      | zero => simp at e; subst e; exact ⟨v, rfl, a⟩
      | succ i => simpa using ih b i x (by simpa using e)
theorem DpAll.getV {vs : List V} {ys : List PyData} (h : DpAll K F vs ys) : ∀ (i : Nat) (v : V), vs[i]? = some v → ∃ x, ys[i]? = some x ∧ Dp K F v x := by
  revert h
  induction vs generalizing ys with
  | nil => intro h; cases h; intro i x e; simp at e
  | cons v vs ih =>
    intro h
    cases h with
    | cons a b =>
      intro i x e
      cases i with
      | zero => simp at e; subst e; exact ⟨_, rfl, a⟩
      | succ i => simpa using ih b i x (by simpa using e)
theorem DpAll.app {vs us : List V} {ys es : List PyData} (h : DpAll K F vs ys) (g : DpAll K F us es) : DpAll K F (vs ++ us) (ys ++ es) := by
  revert h
  induction vs generalizing ys with
  | nil => intro h; cases h; exact g
  | cons v vs ih => intro h; cases h with | cons a b => exact .cons a (ih b)
theorem DpAll.set {vs : List V} {ys : List PyData} {v : V} {x : PyData} (h : DpAll K F vs ys) (hx : Dp K F v x) : ∀ i, DpAll K F (vs.set i v) (ys.set i x) := by
  revert h
  induction vs generalizing ys with
  | nil => intro h; cases h; intro i; exact .nil
  | cons v vs ih =>
    intro h
    cases h with
    | cons a b =>
      intro i
      cases i with
      | zero => exact .cons hx b
      | succ i => exact .cons a (ih b i)
theorem DpAll.of_get {vs : List V} {ys : List PyData} (hl : vs.length = ys.length) (h : ∀ (i : Nat) (v : V) (x : PyData), vs[i]? = some v → ys[i]? = some x → Dp K F v x) : DpAll K F vs ys := by
  induction vs generalizing ys with
  | nil => cases ys with | nil => exact .nil | cons _ _ => simp at hl
  | cons v vs ih =>
    cases ys with
    | nil => simp at hl
    | cons d ys => exact .cons (h 0 v d rfl rfl) (ih (by simpa using hl) fun i u x e1 e2 => h (i + 1) u x (by simpa using e1) (by simpa using e2))

end
section
variable {C : Sg} {F F' H H' : Hp} {σ : L2.St} {δ : Env}
theorem RepW.mono {v : V} {w : W} {p : List Addr} (h : RepW C F H v w p) (e : Ex F F') (k : ∀ q ∈ p, H' q = H q) : RepW C F' H' v w p := by
  cases h with
  | d h => exact .d (Dp.ex h e)
  | own h1 h2 => exact .own (by rw [k _ (by simp)]; exact h1) (DpAll.ex h2 e)
  | bor h1 h2 => exact .bor (by rw [k _ (by simp)]; exact h1) (DpAll.ex h2 e)
  | lams h1 h2 h3 => exact .lams (by rw [k _ (by simp)]; exact h1) h2 fun i a n e1 e2 => (h3 i a n e1 e2).mono e
  | lam h => exact .lam (h.mono e)
  | fn => exact .fn
  | exc h0 h1 h2 => exact .exc h0 (e _ _ h1) (Dp.ex h2 e)
  | dct h1 h2 => exact .dct (by rw [k _ (by simp)]; exact h1) (DKs.ex h2 e)
  | bod h1 h2 => exact .bod (by rw [k _ (by simp)]; exact h1) (DKs.ex h2 e)
theorem RepS.mono {ps : List (List Addr)} (h : RepS C F H σ δ ps) (e : Ex F F') (k : ∀ q ∈ ps.flatten, H' q = H q) : RepS C F' H' σ δ ps := by
  induction h with
  | nil => exact .nil
  | skip _ ih => exact .skip (ih (by simpa using k))
  | cons h1 _ ih => exact .cons (h1.mono e fun q hq => k q (by simp [hq])) (ih fun q hq => k q (by rw [List.flatten_cons]; exact List.mem_append_right _ hq))
theorem RepS.len {ps : List (List Addr)} (h : RepS C F H σ δ ps) : σ.length = δ.length ∧ ps.length = δ.length := by
  induction h with
  | nil => exact ⟨rfl, rfl⟩
  | skip _ ih => simp [ih.1, ih.2]
  | cons _ _ ih => simp [ih.1, ih.2]
theorem RepS.get {ps : List (List Addr)} (h : RepS C F H σ δ ps) : ∀ (i : Nat) (w : W), δ[i]? = some (some w) → ∃ v p, σ[i]? = some (some v) ∧ ps[i]? = some p ∧ RepW C F H v w p := by
  induction h with
  | nil => intro i w e; simp at e
  | skip _ ih =>
    intro i w e
    cases i with
    | zero => simp at e
    | succ i => simpa using ih i w (by simpa using e)
  | cons h1 _ ih =>
    intro i w e
    cases i with
    | zero => simp at e; subst e; exact ⟨_, _, rfl, rfl, h1⟩
    | succ i => simpa using ih i w (by simpa using e)
/-- another slot's footprint is apart -/
theorem flat_apart : ∀ {ps : List (List Addr)} {i j : Nat} {p q : List Addr} {a : Addr}, ps.flatten.Nodup → ps[i]? = some p → ps[j]? = some q → a ∈ p → a ∈ q → i = j := by
  intro ps
  induction ps with
  | nil => intro i j p q a _ h; simp at h
  | cons r ps ih =>
    intro i j p q a nd hp hq ha hb
    rw [List.flatten_cons, List.nodup_append] at nd
    obtain ⟨_, n2, n3⟩ := nd
    cases i with
    | zero =>
      cases j with
      | zero => rfl
      | succ j =>
        simp at hp hq
        subst hp
        exact absurd rfl (n3 a ha a (List.mem_flatten.mpr ⟨q, List.mem_of_getElem? hq, hb⟩))
    | succ i =>
      cases j with
      | zero =>
        simp at hp hq
        subst hq
        exact absurd rfl (n3 a hb a (List.mem_flatten.mpr ⟨p, List.mem_of_getElem? hp, ha⟩))
      | succ j => exact congrArg Nat.succ (ih n2 (by simpa using hp) (by simpa using hq) ha hb)
theorem set_flat : ∀ {ps : List (List Addr)} {i : Nat} {q : List Addr}, ∀ a ∈ (ps.set i q).flatten, a ∈ q ∨ a ∈ ps.flatten := by
  intro ps
  induction ps with
  | nil => intro i q a h; simp at h
  | cons r ps ih =>
    intro i q a h
    cases i with
    | zero =>
      simp only [List.set_cons_zero, List.flatten_cons, List.mem_append] at h
      rcases h with h | h
      · exact .inl h
      · exact .inr (by simp only [List.flatten_cons, List.mem_append]; exact .inr h)
    | succ i =>
      simp only [List.set_cons_succ, List.flatten_cons, List.mem_append] at h
      rcases h with h | h
      · exact .inr (by simp only [List.flatten_cons, List.mem_append]; exact .inl h)
      · rcases ih a h with h | h
        · exact .inl h
        · exact .inr (by simp only [List.flatten_cons, List.mem_append]; exact .inr h)
theorem set_nodup : ∀ {ps : List (List Addr)} {i : Nat} {q : List Addr}, ps.flatten.Nodup → q.Nodup → (∀ a ∈ q, a ∉ ps.flatten ∨ ∃ p, ps[i]? = some p ∧ a ∈ p) → (ps.set i q).flatten.Nodup := by
  intro ps
  induction ps with
  | nil => intro i q h _ _; simpa using h
  | cons r ps ih =>
    intro i q nd nq h
    rw [List.flatten_cons, List.nodup_append] at nd
    obtain ⟨n1, n2, n3⟩ := nd
    cases i with
    | zero =>
      rw [List.set_cons_zero, List.flatten_cons, List.nodup_append]
      refine ⟨nq, n2, fun a ha b hb e => ?_⟩
      subst e
      rcases h a ha with h | ⟨p, h1, h2⟩
      · exact h (by simp only [List.flatten_cons, List.mem_append]; exact .inr hb)
      · simp at h1
        subst h1
        exact n3 a h2 a hb rfl
    | succ i =>
      rw [List.set_cons_succ, List.flatten_cons, List.nodup_append]
      refine ⟨n1, ih n2 nq fun a ha => ?_, fun a ha b hb e => ?_⟩
      · rcases h a ha with h | ⟨p, h1, h2⟩
        · exact .inl fun z => h (by simp only [List.flatten_cons, List.mem_append]; exact .inr z)
        · exact .inr ⟨p, by simpa using h1, h2⟩
      · subst e
        rcases set_flat a hb with hb | hb
        · rcases h a hb with h | ⟨p, h1, h2⟩
          · exact h (by simp only [List.flatten_cons, List.mem_append]; exact .inl ha)
          · exact n3 a ha a (List.mem_flatten.mpr ⟨p, List.mem_of_getElem? (by simpa using h1), h2⟩) rfl
        · exact n3 a ha a hb rfl
theorem RepS.set {ps : List (List Addr)} {v : V} {w : W} {q : List Addr} (h : RepS C F H σ δ ps) (hw : RepW C F H v w q) : ∀ i, RepS C F H (σ.set i (some v)) (δ.set i (some w)) (ps.set i q) := by
  induction h with
  | nil => intro i; exact .nil
  | skip h ih =>
    intro i
    cases i with
    | zero => exact .cons hw h
    | succ i => exact .skip (ih i)
  | cons h1 h ih =>
    intro i
    cases i with
    | zero => exact .cons hw h
    | succ i => exact .cons h1 (ih i)
theorem RepW.there {v : V} {w : W} {p : List Addr} (h : RepW C F H v w p) : p.Nodup ∧ ∀ q ∈ p, ∃ o, H q = some o ∧ MuO o := by
  cases h with
  | d _ => exact ⟨.nil, fun q hq => by cases hq⟩
  | own h1 _ => exact ⟨by simp, fun q hq => by rw [List.mem_singleton.mp hq]; exact ⟨_, h1, trivial⟩⟩
  | bor h1 _ => exact ⟨by simp, fun q hq => by rw [List.mem_singleton.mp hq]; exact ⟨_, h1, trivial⟩⟩
  | dct h1 _ => exact ⟨by simp, fun q hq => by rw [List.mem_singleton.mp hq]; exact ⟨_, h1, trivial⟩⟩
  | bod h1 _ => exact ⟨by simp, fun q hq => by rw [List.mem_singleton.mp hq]; exact ⟨_, h1, trivial⟩⟩
  | lams h1 _ _ => exact ⟨by simp, fun q hq => by rw [List.mem_singleton.mp hq]; exact ⟨_, h1, trivial⟩⟩
  | lam _ => exact ⟨.nil, fun q hq => by cases hq⟩
  | fn => exact ⟨.nil, fun q hq => by cases hq⟩
  | exc _ _ _ => exact ⟨.nil, fun q hq => by cases hq⟩
theorem RepS.there {ps : List (List Addr)} (h : RepS C F H σ δ ps) : ∀ q ∈ ps.flatten, ∃ o, H q = some o ∧ MuO o := by
  induction h with
  | nil => intro q hq; simp at hq
  | skip _ ih => intro q hq; exact ih q (by simpa using hq)
  | cons h1 _ ih =>
    intro q hq
    rw [List.flatten_cons, List.mem_append] at hq
    rcases hq with hq | hq
    · exact h1.there.2 q hq
    · exact ih q hq
theorem RepS.snoc {ps : List (List Addr)} {v : V} {w : W} {p : List Addr} (h : RepS C F H σ δ ps) (hw : RepW C F H v w p) : RepS C F H (σ ++ [some v]) (δ ++ [some w]) (ps ++ [p]) := by
  induction h with
  | nil => exact .cons hw .nil
  | skip _ ih => exact .skip ih
  | cons h1 _ ih => exact .cons h1 ih
theorem RepS.unsnoc : ∀ {σ : L2.St} {δ : Env} {ps : List (List Addr)} {v : V} {w : W}, RepS C F H (σ ++ [some v]) (δ ++ [some w]) ps → ∃ qs p, ps = qs ++ [p] ∧ RepS C F H σ δ qs ∧ RepW C F H v w p := by
  intro σ
  induction σ with
  | nil =>
    intro δ ps v w h
    cases δ with
    | nil =>
      cases h with
      | cons a b => cases b; exact ⟨[], _, rfl, .nil, a⟩
    | cons d δ =>
      have := h.len.1
      simp at this
  | cons s σ ih =>
    intro δ ps v w h
    cases δ with
    | nil =>
      have := h.len.1
      simp at this
    | cons d δ =>
      cases h with
      | skip h =>
        obtain ⟨qs, p, rfl, a, b⟩ := ih h
        exact ⟨[] :: qs, p, rfl, .skip a, b⟩
      | cons h1 h =>
        obtain ⟨qs, p, rfl, a, b⟩ := ih h
        exact ⟨_ :: qs, p, rfl, .cons h1 a, b⟩
/-- a slot is forgotten -/
theorem RepS.drop {ps : List (List Addr)} (h : RepS C F H σ δ ps) : ∀ i, RepS C F H σ (δ.set i none) (ps.set i []) := by
  induction h with
  | nil => intro i; exact .nil
  | skip h ih =>
    intro i
    cases i with
    | zero => exact .skip h
    | succ i => exact .skip (ih i)
  | cons h1 h ih =>
    intro i
    cases i with
    | zero => exact .skip h
    | succ i => exact .cons h1 (ih i)
/-- a slot's value is another one at the same place -/
theorem RepS.put {ps : List (List Addr)} {v : V} {w : W} {q : List Addr} (h : RepS C F H σ δ ps) (hw : RepW C F H v w q) : ∀ i, σ[i]? = some (some v) → RepS C F H σ (δ.set i (some w)) (ps.set i q) := fun i e => by
  have r := h.set hw i
  have e2 : σ.set i (some v) = σ := by
    apply List.ext_getElem?
    intro j
    by_cases hj : j = i
    · subst hj
      have hlt : j < σ.length := by
        rcases Nat.lt_or_ge j σ.length with hh | hh
        · exact hh
        · rw [List.getElem?_eq_none hh] at e; cases e
      rw [List.getElem?_set_self hlt, e]
    · rw [List.getElem?_set_ne (Ne.symm hj)]
  rw [e2] at r
  exact r
end
end Mir

namespace Mir
open PySem.Spec PySem L2 PyProof.Rows
open Evl (Ex)
section
variable {C : Ct} {F F' H H' : Hp} {σ : L2.St} {δ : Env}

/-- nothing borrowed stands in slot i -/
def NoB (δ : Env) (i : Nat) : Prop := ∀ w, w.isB = true → δ[i]? ≠ some (some w)
theorem Good.len (g : Good C F H σ δ) : σ.length = δ.length := by
  obtain ⟨ps, r, _⟩ := g.sl
  exact r.len.1
theorem Good.get (g : Good C F H σ δ) {i : Nat} {w : W} (e : δ[i]? = some (some w)) : ∃ v p, σ[i]? = some (some v) ∧ RepW C.toSg F H v w p ∧ ∀ q ∈ p, F q = none := by
  obtain ⟨ps, r, nd, fr⟩ := g.sl
  obtain ⟨v, p, h1, hp, h2⟩ := r.get i w e
  exact ⟨v, p, h1, h2, fun q hq => (fr q (List.mem_flatten.mpr ⟨_, List.mem_of_getElem? hp, hq⟩)).1⟩
/-- frozen data in a slot -/
theorem Good.getD (g : Good C F H σ δ) {i : Nat} {x : PyData} (e : δ[i]? = some (some (.d x))) : ∃ v, σ[i]? = some (some v) ∧ Dp C.K F v x := by
  obtain ⟨v, p, h1, h2, _⟩ := g.get e
  cases h2 with | d h => exact ⟨v, h1, h⟩
theorem Good.getO (g : Good C F H σ δ) {i : Nat} {w : W} {l : List PyData} (e : δ[i]? = some (some w)) (hw : w.items = some l) : ∃ p xs, σ[i]? = some (some (.ref p)) ∧ H p = some (.lst xs) ∧ DpAll C.K F xs l ∧ F p = none := by
  obtain ⟨v, p, h1, h2, h3⟩ := g.get e
  cases h2 with
  | own a b => cases hw; exact ⟨_, _, h1, a, b, h3 _ (by simp)⟩
  | bor a b => cases hw; exact ⟨_, _, h1, a, b, h3 _ (by simp)⟩
  | _ => cases hw
theorem Good.new0 (g : Good C F H σ δ) {p : Addr} (n : H p = none) : F p = none ∧ C.F0 p = none ∧ C.H0 p = none := by
  have nF : F p = none := Evl.fresh_back g.fh n
  refine ⟨nF, Evl.fresh_back g.f0 nF, ?_⟩
  cases e : C.H0 p with
  | none => rfl
  | some o =>
    obtain ⟨o', h, _⟩ := g.kp p o e
    rw [n] at h; cases h
/-- something new, frozen at once -/
theorem Good.grow {p : Addr} {o : HO} (g : Good C F H σ δ) (n : H p = none) (ho : exO o) : Good C (upd F p o) (upd H p o) σ δ := by
  obtain ⟨nF, nF0, nH0⟩ := g.new0 n
  obtain ⟨ps, r, nd, fr⟩ := g.sl
  have np : ∀ q ∈ ps.flatten, q ≠ p := fun q hq z => by
    obtain ⟨xs, e, _⟩ := r.there q hq
    rw [z, n] at e; cases e
  refine ⟨g.f0.trans (Ex.new nF), fun a u e => ?_, tabs_new g.tb n, tabF_new g.tf g.tb n ho, fun a h1 h2 => ?_, fun a u e => ?_, g.io, ps, r.mono (Ex.new nF) fun q hq => upd_ne (np q hq), nd, fun q hq => ⟨?_, (fr q hq).2⟩⟩
  · by_cases ha : a = p
    · subst ha; rw [upd_same] at e ⊢; exact e
    · rw [upd_ne ha] at e ⊢; exact g.fh a u e
  · by_cases ha : a = p
    · subst ha; exact nH0
    · rw [upd_ne ha] at h1; exact g.fr a h1 h2
  · obtain ⟨o', h1, h2⟩ := g.kp a u e
    exact ⟨o', by rw [upd_ne (ne_of_none h1 n)]; exact h1, h2⟩
  · rw [upd_ne (np q hq)]; exact (fr q hq).1
/-- the heap grows by what is of no concern -/
theorem Good.heap (g : Good C F H σ δ) (e : Ex H H') : Good C F H' σ δ := by
  obtain ⟨ps, r, nd, fr⟩ := g.sl
  refine ⟨g.f0, g.fh.trans e, g.tb.ext e, g.tf, g.fr, fun a u h => ?_, g.io, ps, r.mono (Ex.refl F) fun q hq => ?_, nd, fr⟩
  · obtain ⟨o', h1, h2⟩ := g.kp a u h
    exact ⟨o', e _ _ h1, h2⟩
  · obtain ⟨xs, h, _⟩ := r.there q hq
    rw [h]; exact e _ _ h
theorem app_get {α : Type} {l m : List α} {i : Nat} {x : α} (h : l[i]? = some x) : (l ++ m)[i]? = some x := by
  have : i < l.length := by
    rcases Nat.lt_or_ge i l.length with q | q
    · exact q
    · rw [List.getElem?_eq_none q] at h; cases h
  rw [List.getElem?_append_left this]; exact h
theorem get_lt {α : Type} {l : List α} {i : Nat} {x : α} (h : l[i]? = some x) : i < l.length := by
  rcases Nat.lt_or_ge i l.length with q | q
  · exact q
  · rw [List.getElem?_eq_none q] at h; cases h
/-- a temporary, told as one slot more -/
def GoodT (C : Ct) (F H : Hp) (σ : L2.St) (δ : Env) (v : V) (w : W) : Prop := Good C F H (σ ++ [some v]) (δ ++ [some w])
theorem Good.tmpD (g : Good C F H σ δ) {v : V} {x : PyData} (h : Dp C.K F v x) : GoodT C F H σ δ v (.d x) := by
  obtain ⟨ps, r, nd, fr⟩ := g.sl
  refine ⟨g.f0, g.fh, g.tb, g.tf, g.fr, g.kp, fun i a h => ?_, ps ++ [[]], r.snoc (.d h), by simpa using nd, by simpa using fr⟩
  obtain ⟨h1, h2, l, h3, h4⟩ := g.io i a h
  exact ⟨app_get h1, h2, l, app_get h3, h4⟩
theorem GoodT.forget {v : V} {w : W} (g : GoodT C F H σ δ v w) (hl : σ.length = δ.length) (hio : ∀ i a, (i, a) ∈ C.io → i < σ.length) : Good C F H σ δ := by
  obtain ⟨ps, r, nd, fr⟩ := g.sl
  obtain ⟨qs, p, rfl, a, b⟩ := r.unsnoc
  rw [List.flatten_append, List.nodup_append] at nd
  refine ⟨g.f0, g.fh, g.tb, g.tf, g.fr, g.kp, fun i a h => ?_, qs, a, nd.1, fun q hq => fr q (by simp only [List.flatten_append, List.mem_append]; exact .inl hq)⟩
  obtain ⟨h1, h2, l, h3, h4⟩ := g.io i a h
  rw [List.getElem?_append_left (hio i a h)] at h1
  rw [List.getElem?_append_left (hl ▸ hio i a h)] at h3
  exact ⟨h1, h2, l, h3, h4⟩
/-- the temporary goes into slot i -/
theorem GoodT.set {v : V} {w : W} (g : GoodT C F H σ δ v w) (hl : σ.length = δ.length) {i : Nat} (hi : NoB δ i) (hio : ∀ j a, (j, a) ∈ C.io → j < σ.length) : Good C F H (σ.set i (some v)) (δ.set i (some w)) := by
  obtain ⟨ps, r, nd, fr⟩ := g.sl
  obtain ⟨qs, p, rfl, a, b⟩ := r.unsnoc
  rw [List.flatten_append, List.nodup_append] at nd
  obtain ⟨n1, n2, n3⟩ := nd
  have fl : ([p] : List (List Addr)).flatten = p := by simp
  rw [fl] at n2 n3
  refine ⟨g.f0, g.fh, g.tb, g.tf, g.fr, g.kp, fun j a h => ?_, qs.set i p, a.set b i, set_nodup n1 n2 fun x hx => .inl fun z => n3 x z x hx rfl, fun q hq => fr q ?_⟩
  · obtain ⟨h1, h2, l, h3, h4⟩ := g.io j a h
    rw [List.getElem?_append_left (hio j a h)] at h1
    rw [List.getElem?_append_left (hl ▸ hio j a h)] at h3
    have hj : i ≠ j := fun z => hi l (W.isK_B h4) (by rw [z]; exact h3)
    exact ⟨by rw [List.getElem?_set_ne hj]; exact h1, h2, l, by rw [List.getElem?_set_ne hj]; exact h3, h4⟩
  · simp only [List.flatten_append, List.mem_append, fl]
    rcases set_flat q hq with z | z
    · exact .inr z
    · exact .inl z
theorem Good.iolt (g : Good C F H σ δ) : ∀ j a, (j, a) ∈ C.io → j < σ.length := fun j a h => get_lt (g.io j a h).1
theorem W.cell_items {w : W} {l : List PyData} (h : w.items = some l) : w.cell = some (false, l) := by
  cases w <;> first | (cases h; rfl) | cases h
theorem RepW.cell {v : V} {w : W} {p : List Addr} {d : Bool} {l : List PyData} (h : RepW C.toSg F H v w p) (hw : w.cell = some (d, l)) : ∃ a o, v = .ref a ∧ p = [a] ∧ H a = some o ∧ Cell C.K F d o l := by
  cases h with
  | own a b => cases hw; exact ⟨_, _, rfl, rfl, a, _, rfl, b⟩
  | bor a b => cases hw; exact ⟨_, _, rfl, rfl, a, _, rfl, b⟩
  | dct a b => cases hw; exact ⟨_, _, rfl, rfl, a, _, rfl, b⟩
  | bod a b => cases hw; exact ⟨_, _, rfl, rfl, a, _, rfl, b⟩
  | _ => cases hw
theorem RepW.put {v : V} {w : W} {p : List Addr} {d : Bool} {l l' : List PyData} {o' : HO} (h : RepW C.toSg F H v w p) (hw : w.cell = some (d, l)) (hl : Cell C.K F d o' l') : ∃ a, v = .ref a ∧ p = [a] ∧ RepW C.toSg F (upd H a o') v (w.put l') p := by
  cases h with
  | own a b => cases hw; obtain ⟨_, rfl, hl⟩ := hl; exact ⟨_, rfl, rfl, .own upd_same hl⟩
  | bor a b => cases hw; obtain ⟨_, rfl, hl⟩ := hl; exact ⟨_, rfl, rfl, .bor upd_same hl⟩
  | dct a b => cases hw; obtain ⟨_, rfl, hl⟩ := hl; exact ⟨_, rfl, rfl, .dct upd_same hl⟩
  | bod a b => cases hw; obtain ⟨_, rfl, hl⟩ := hl; exact ⟨_, rfl, rfl, .bod upd_same hl⟩
  | _ => cases hw
theorem RepS.write {ps : List (List Addr)} {p : Addr} {o' : HO} {w' : W} (r : RepS C.toSg F H σ δ ps) : ∀ i, ps[i]? = some [p] → ps.flatten.Nodup → σ[i]? = some (some (V.ref p)) → RepW C.toSg F (upd H p o') (.ref p) w' [p] →
    RepS C.toSg F (upd H p o') σ (δ.set i (some w')) (ps.set i [p]) := by
  induction r with
  | nil => intro i h; simp at h
  | @skip s σ δ ps r ih =>
    intro i h nd e hw
    cases i with
    | zero => simp at h
    | succ i => exact .skip (ih i (by simpa using h) (by simpa using nd) (by simpa using e) hw)
  | @cons v w p' σ δ ps h1 r ih =>
    intro i h nd e hw
    rw [List.flatten_cons, List.nodup_append] at nd
    obtain ⟨n1, n2, n3⟩ := nd
    cases i with
    | zero =>
      simp at h e
      subst h e
      exact .cons hw (r.mono (Ex.refl F) fun q hq => upd_ne fun z => n3 p (by simp) q hq z.symm)
    | succ i =>
      have hpf : p ∈ ps.flatten := List.mem_flatten.mpr ⟨[p], List.mem_of_getElem? (by simpa using h), by simp⟩
      exact .cons (h1.mono (Ex.refl F) fun q hq => upd_ne fun z => n3 q hq p hpf z) (ih i (by simpa using h) n2 (by simpa using e) hw)
theorem Good.getC (g : Good C F H σ δ) {i : Nat} {w : W} {d : Bool} {l : List PyData} (e : δ[i]? = some (some w)) (hw : w.cell = some (d, l)) : ∃ p o, σ[i]? = some (some (.ref p)) ∧ H p = some o ∧ Cell C.K F d o l ∧ F p = none := by
  obtain ⟨v, q, h1, h2, h3⟩ := g.get e
  obtain ⟨a, o, rfl, rfl, k1, k2⟩ := h2.cell hw
  exact ⟨a, o, h1, k1, k2, h3 _ (by simp)⟩
/-- the list or dict in slot i is written -/
theorem Good.writeC (g : Good C F H σ δ) {i : Nat} {w : W} {d : Bool} {l l' : List PyData} {p : Addr} {o' : HO} (e : δ[i]? = some (some w)) (hw : w.cell = some (d, l)) (hp : σ[i]? = some (some (.ref p))) (h : Cell C.K F d o' l') :
    Good C F (upd H p o') σ (δ.set i (some (w.put l'))) := by
  obtain ⟨ps, r, nd, fr⟩ := g.sl
  obtain ⟨v, q, h1, hq, h2⟩ := r.get i _ e
  have ev : v = .ref p := by rw [hp] at h1; exact (Option.some.inj (Option.some.inj h1)).symm
  subst ev
  obtain ⟨a, ea, rfl, h2'⟩ := h2.put hw h
  cases ea
  have pin : p ∈ ps.flatten := List.mem_flatten.mpr ⟨_, List.mem_of_getElem? hq, by simp⟩
  have pF := (fr p pin).1
  obtain ⟨xsl, hpl, hmu⟩ := r.there p pin
  refine ⟨g.f0, fun a u z => ?_, tabs_write g.tb hpl hmu, g.tf, g.fr, fun a u z => ?_, fun j a hj => ?_, ps.set i [p], r.write i hq nd hp h2', set_nodup nd (by simp) fun a ha => .inr ⟨_, hq, ha⟩, fun q hq' => ?_⟩
  · rw [upd_ne (ne_of_none z pF)]; exact g.fh a u z
  · by_cases ha : a = p
    · subst ha
      refine ⟨_, upd_same, fun hn => ?_⟩
      rcases (fr _ pin).2 with z' | z'
      · rw [z] at z'; cases z'
      · exact absurd z' hn
    · obtain ⟨o', h1, h2⟩ := g.kp a u z
      exact ⟨o', by rw [upd_ne ha]; exact h1, h2⟩
  · obtain ⟨h1, h2, w1, h3, h4⟩ := g.io j a hj
    refine ⟨h1, h2, ?_⟩
    by_cases hji : j = i
    · subst hji
      rw [e] at h3; cases h3
      exact ⟨w.put l', by rw [List.getElem?_set_self (get_lt e)], by cases w <;> first | exact h4 | cases h4⟩
    · exact ⟨w1, by rw [List.getElem?_set_ne (Ne.symm hji)]; exact h3, h4⟩
  · rcases set_flat q hq' with z | z
    · rw [List.mem_singleton.mp z]; exact fr p pin
    · exact fr q z
theorem Good.write (g : Good C F H σ δ) {i : Nat} {w : W} {l l' : List PyData} {p : Addr} {xs' : List V} (e : δ[i]? = some (some w)) (hw : w.items = some l) (hp : σ[i]? = some (some (.ref p))) (h : DpAll C.K F xs' l') :
    Good C F (upd H p (.lst xs')) σ (δ.set i (some (w.put l'))) := g.writeC e (W.cell_items hw) hp ⟨_, rfl, h⟩
/-- an own footprint is no borrowed one -/
theorem Good.own0 (g : Good C F H σ δ) {i : Nat} {w : W} {d : Bool} {l : List PyData} {p : Addr} (e : δ[i]? = some (some w)) (hc : w.cell = some (d, l)) (hb : w.isB = false) (hp : σ[i]? = some (some (.ref p))) : C.H0 p = none ∧ p ∉ C.ioA := by
  obtain ⟨ps, r, nd, fr⟩ := g.sl
  obtain ⟨v, q, h1, hq, h2⟩ := r.get i _ e
  obtain ⟨a, o, ev, rfl, _⟩ := h2.cell hc
  have ea : a = p := by
    rw [hp, ev] at h1
    cases h1
    rfl
  subst ea
  have pin : a ∈ ps.flatten := List.mem_flatten.mpr ⟨_, List.mem_of_getElem? hq, by simp⟩
  have nio : a ∉ C.ioA := fun z => by
    obtain ⟨⟨j, a⟩, hm, rfl⟩ := List.mem_map.mp z
    obtain ⟨h3, h4, w1, h5, h6⟩ := g.io j a hm
    obtain ⟨v', q', h7, hq', h8⟩ := r.get j _ h5
    have h6 := W.isK_B h6
    have hc1 : ∃ d1 l1, w1.cell = some (d1, l1) := by
      cases w1 <;> first | exact ⟨_, _, rfl⟩ | cases h6
    obtain ⟨d1, l1, hc1⟩ := hc1
    obtain ⟨a1, o1, ev1, rfl, _⟩ := h8.cell hc1
    have : a1 = a := by
      rw [h3, ev1] at h7
      cases h7
      rfl
    subst this
    have := flat_apart nd hq hq' (a := a1) (by simp) (by simp)
    subst this
    rw [e] at h5
    cases h5
    rw [hb] at h6
    cases h6
  exact ⟨(fr a pin).2.resolve_right nio, nio⟩
/-- an own list in slot i becomes frozen data -/
theorem Good.freeze (g : Good C F H σ δ) {i : Nat} {l : List PyData} (e : δ[i]? = some (some (.own l))) :
    ∃ p F', σ[i]? = some (some (.ref p)) ∧ Ex F F' ∧ Dp C.K F' (.ref p) (.list l) ∧ Good C F' H σ (δ.set i (some (.d (.list l)))) := by
  obtain ⟨v, q, h1, h2, h3⟩ := g.get e
  cases h2 with
  | @own p xs _ a b =>
    have nF := h3 p (by simp)
    obtain ⟨n0, nio⟩ := g.own0 e (d := false) (l := l) rfl rfl h1
    have ex : Ex F (upd F p (.lst xs)) := Ex.new nF
    have hd : Dp C.K (upd F p (.lst xs)) (.ref p) (.list l) := .lst (Evl.sq_of upd_same) (DpAll.ex b ex)
    refine ⟨p, upd F p (.lst xs), h1, ex, hd, ?_⟩
    obtain ⟨ps, r, nd, fr⟩ := g.sl
    obtain ⟨v, q, h1', hq, h2⟩ := r.get i _ e
    have ev : v = .ref p := by rw [h1] at h1'; exact (Option.some.inj (Option.some.inj h1')).symm
    subst ev
    have q1 : q = [p] := by cases h2; rfl
    subst q1
    refine ⟨g.f0.trans ex, fun a' u z => ?_, g.tb, tabF_lst g.tf g.tb a trivial, fun a' z1 z2 => ?_, g.kp, fun j a' hj => ?_, ps.set i [], (r.mono ex fun _ _ => rfl).put (.d hd) i h1, set_nodup nd .nil (fun a ha => by cases ha), fun q' hq' => ?_⟩
    · by_cases ha : a' = p
      · subst ha; rw [upd_same] at z; cases z; exact a
      · rw [upd_ne ha] at z; exact g.fh a' u z
    · by_cases ha : a' = p
      · subst ha; exact n0
      · rw [upd_ne ha] at z1; exact g.fr a' z1 z2
    · obtain ⟨k1, k2, l1, k3, k4⟩ := g.io j a' hj
      have hji : i ≠ j := fun z => by subst z; rw [e] at k3; cases k3; cases k4
      exact ⟨k1, k2, l1, by rw [List.getElem?_set_ne hji]; exact k3, k4⟩
    · have hin : q' ∈ ps.flatten := by
        rcases set_flat q' hq' with z | z
        · cases z
        · exact z
      have hne : q' ≠ p := fun z => by
        subst z
        -- q' is in another slot's footprint too
        obtain ⟨s, hs, hqs⟩ := List.mem_flatten.mp hq'
        obtain ⟨j, hj⟩ := List.mem_iff_getElem?.mp hs
        by_cases hji : j = i
        · subst hji
          rw [List.getElem?_set_self (get_lt hq)] at hj
          cases hj; cases hqs
        · rw [List.getElem?_set_ne (Ne.symm hji)] at hj
          exact hji (flat_apart nd hj hq hqs (by simp))
      exact ⟨by rw [upd_ne hne]; exact (fr q' hin).1, (fr q' hin).2⟩
/-- a slot is forgotten -/
theorem Good.drop (g : Good C F H σ δ) {i : Nat} (hi : NoB δ i) : Good C F H σ (δ.set i none) := by
  obtain ⟨ps, r, nd, fr⟩ := g.sl
  refine ⟨g.f0, g.fh, g.tb, g.tf, g.fr, g.kp, fun j a h => ?_, ps.set i [], r.drop i, set_nodup nd .nil (fun a ha => by cases ha), fun q hq => fr q ?_⟩
  · obtain ⟨h1, h2, l, h3, h4⟩ := g.io j a h
    have hj : i ≠ j := fun z => hi l (W.isK_B h4) (by rw [z]; exact h3)
    exact ⟨h1, h2, l, by rw [List.getElem?_set_ne hj]; exact h3, h4⟩
  · rcases set_flat q hq with z | z
    · cases z
    · exact z
end
end Mir

namespace Mir
open PySem.Spec PySem L2 PyProof.Rows
open Evl (Ex)

inductive R (α : Type) where
  | ok (a : α) (δ : Env)
  | exc (c : Nat) (x : PyData) (δ : Env)
  | stuck
def R.bind {α β : Type} (r : R α) (k : α → Env → R β) : R β :=
  match r with
  | .ok a δ => k a δ
  | .exc c x δ => .exc c x δ
  | .stuck => .stuck
/-- an argument: data, a slot as it stands when the call is made, a def -/
inductive AV where
  | v (x : PyData)
  | sl (i : Nat)
  | fn (k : Nat)
abbrev Den := Env → R PyData
abbrev DenA := Env → R AV
abbrev DenL := Env → R (List AV)

section
variable (C : Ct) (Wx : WX) (σ : L2.St)
def Exc (F : Hp) (c : Nat) (x : PyData) (δ : Env) : Prop :=
  ∀ F' H' dx v, Ex F F' → Good C F' H' σ δ → F' dx = some (.xd [(C.fld c, v)]) → Dp C.K F' v x → Wx (.ref (C.cls c)) (some dx) σ H'
def Post {α : Type} (F : Hp) (P : α → Env → Hp → Hp → Prop) : R α → Prop
  | .ok a δ => ∀ F' H', Ex F F' → Good C F' H' σ δ → P a δ F' H'
  | .exc c x δ => Exc C Wx σ F c x δ
  | .stuck => False
end
section
variable {C : Ct} {Wx : WX} {σ : L2.St} {F F' H H' : Hp} {δ : Env}
theorem Exc.mono {c : Nat} {x : PyData} (e : Ex F F') (h : Exc C Wx σ F c x δ) : Exc C Wx σ F' c x δ := fun F2 H2 dx v e2 => h F2 H2 dx v (e.trans e2)
theorem Post.mono {α : Type} {P : α → Env → Hp → Hp → Prop} (e : Ex F F') : ∀ {r : R α}, Post C Wx σ F P r → Post C Wx σ F' P r
  | .ok _ _, h => fun F2 H2 e2 => h F2 H2 (e.trans e2)
  | .exc _ _ _, h => Exc.mono e h
  | .stuck, h => h.elim
theorem Post.imp {α : Type} {P P' : α → Env → Hp → Hp → Prop} (k : ∀ a δ F2 H2, Ex F F2 → Good C F2 H2 σ δ → P a δ F2 H2 → P' a δ F2 H2) : ∀ {r : R α}, Post C Wx σ F P r → Post C Wx σ F P' r
  | .ok _ _, h => fun F2 H2 e2 g2 => k _ _ _ _ e2 g2 (h F2 H2 e2 g2)
  | .exc _ _ _, h => h
  | .stuck, h => h.elim
theorem Post.bind {α β : Type} {P : β → Env → Hp → Hp → Prop} {k : α → Env → R β} : ∀ {r : R α}, Post C Wx σ F P (r.bind k) → Post C Wx σ F (fun a δ1 F1 _ => Post C Wx σ F1 P (k a δ1)) r
  | .ok _ _, h => fun _ _ e1 _ => Post.mono e1 h
  | .exc _ _ _, h => h
  | .stuck, h => h.elim
end

/-- v is the argument -/
inductive RepAV (C : Ct) (F : Hp) (σ : L2.St) : V → AV → Prop
  | v {v : V} {x : PyData} : Dp C.K F v x → RepAV C F σ v (.v x)
  | sl {v : V} {i : Nat} : σ[i]? = some (some v) → RepAV C F σ v (.sl i)
  | fn {k : Nat} : RepAV C F σ (.ref (C.fn k)) (.fn k)
theorem RepAV.mono {C : Ct} {F F' : Hp} {σ : L2.St} {v : V} {a : AV} (h : RepAV C F σ v a) (e : Ex F F') : RepAV C F' σ v a := by
  cases h with
  | v h => exact .v (Dp.ex h e)
  | sl h => exact .sl h
  | fn => exact .fn
inductive RepAVs (C : Ct) (F : Hp) (σ : L2.St) : List V → List AV → Prop
  | nil : RepAVs C F σ [] []
  | cons {v : V} {a : AV} {vs : List V} {as : List AV} : RepAV C F σ v a → RepAVs C F σ vs as → RepAVs C F σ (v :: vs) (a :: as)
theorem RepAVs.mono {C : Ct} {F F' : Hp} {σ : L2.St} {vs : List V} {as : List AV} (h : RepAVs C F σ vs as) (e : Ex F F') : RepAVs C F' σ vs as := by
  induction h with
  | nil => exact .nil
  | cons a _ ih => exact .cons (a.mono e) ih

/-- data whose topmost list may be one that changes later -/
def DpT (K : PySem.W.Frag) (F H : Hp) (v : V) (x : PyData) : Prop :=
  Dp K F v x ∨ ∃ p xs l, v = .ref p ∧ x = .list l ∧ H p = some (.lst xs) ∧ DpAll K F xs l
def DpTs (K : PySem.W.Frag) (F H : Hp) : List V → List PyData → Prop
  | [], [] => True
  | v :: vs, x :: xs => DpT K F H v x ∧ DpTs K F H vs xs
  | _, _ => False
def AV.peek (δ : Env) : AV → Option PyData
  | .v x => some x
  | .sl i => match δ[i]? with
    | some (some (.d x)) => some x
    | some (some (.own l)) => some (.list l)
    | some (some (.bor l)) => some (.list l)
    | _ => none
  | .fn _ => none
def peekAll (δ : Env) : List AV → Option (List PyData)
  | [] => some []
  | a :: as => match a.peek δ, peekAll δ as with
    | some x, some xs => some (x :: xs)
    | _, _ => none
section
variable {C : Ct} {Wx : WX} {σ : L2.St} {F F' H H' : Hp} {δ : Env}
theorem peek_ok {a : AV} {x : PyData} {v : V} (g : Good C F H σ δ) (r : RepAV C F σ v a) (h : a.peek δ = some x) : DpT C.K F H v x := by
  cases r with
  | v q => cases h; exact .inl q
  | fn => cases h
  | @sl v i q =>
    simp only [AV.peek] at h
    split at h
    · rename_i y e
      cases h
      obtain ⟨u, h1, h2⟩ := g.getD e
      rw [q] at h1; cases h1
      exact .inl h2
    · rename_i l e
      cases h
      obtain ⟨p, xs, h1, h2, h3, _⟩ := g.getO e (l := l) rfl
      rw [q] at h1; cases h1
      exact .inr ⟨p, xs, l, rfl, rfl, h2, h3⟩
    · rename_i l e
      cases h
      obtain ⟨p, xs, h1, h2, h3, _⟩ := g.getO e (l := l) rfl
      rw [q] at h1; cases h1
      exact .inr ⟨p, xs, l, rfl, rfl, h2, h3⟩
    · cases h
theorem peekAll_ok (g : Good C F H σ δ) : ∀ {as : List AV} {xs : List PyData} {vs : List V}, RepAVs C F σ vs as → peekAll δ as = some xs → DpTs C.K F H vs xs
  | [], xs, vs, r, h => by cases r; cases h; exact trivial
  | a :: as, xs, vs, r, h => by
    cases r with
    | cons r1 r2 =>
      unfold peekAll at h
      split at h
      · rename_i x ys h1 h2
        cases h
        exact ⟨peek_ok g r1 h1, peekAll_ok g r2 h2⟩
      · cases h
end

/-! ### the readings -/
def tE (C : Ct) (Wx : WX) (den : Den) : TE := fun σ H Q => ∃ F δ, Good C F H σ δ ∧ Post C Wx σ F (fun x _ F' H' => ∀ v, Dp C.K F' v x → Q v H') (den δ)
def tEA (C : Ct) (Wx : WX) (den : DenA) : TE := fun σ H Q => ∃ F δ, Good C F H σ δ ∧ Post C Wx σ F (fun x _ F' H' => ∀ v, RepAV C F' σ v x → Q v H') (den δ)
def tAL (C : Ct) (Wx : WX) (den : DenL) : TA := fun σ H Q => ∃ F δ, Good C F H σ δ ∧ Post C Wx σ F (fun x _ F' H' => ∀ vs, RepAVs C F' σ vs x → Q vs H') (den δ)
def CE (C : Ct) (Wx : WX) (X : Cx) (e : Expr) (den : Den) : Prop := PE X e (tE C Wx den)
def CEA (C : Ct) (Wx : WX) (X : Cx) (e : Expr) (den : DenA) : Prop := PE X e (tEA C Wx den)
def CAL (C : Ct) (Wx : WX) (X : Cx) (es : List Expr) (den : DenL) : Prop := PA X es (tAL C Wx den)
theorem pe_imp {X : Cx} {e : Expr} {t t' : TE} (h : PE X e t) (k : ∀ σ H Q, t' σ H Q → t σ H Q) : PE X e t' := ⟨fun pins s σ H Q I q => h.run pins s σ H Q I (k σ H Q q)⟩
theorem pt_imp {X : Cx} {e : Expr} {t t' : TT} (h : PT X e t) (k : ∀ σ H Q, t' σ H Q → t σ H Q) : PT X e t' := ⟨fun pins s σ H Q I q => h.run pins s σ H Q I (k σ H Q q)⟩
theorem pa_imp {X : Cx} {e : List Expr} {t t' : TA} (h : PA X e t) (k : ∀ σ H Q, t' σ H Q → t σ H Q) : PA X e t' := ⟨fun pos pins s σ H Q I q => h.run pos pins s σ H Q I (k σ H Q q)⟩

section
variable {C : Ct} {Wx : WX} {X : Cx}

/-! constants, names -/
def dC (x : PyData) : Den := fun δ => .ok x δ
theorem ce_c {e : Expr} {v : V} {x : PyData} (h : PE X e (tC v)) (hd : ∀ F, Dp C.K F v x) : CE C Wx X e (dC x) := pe_imp h fun σ H Q ⟨F, δ, g, q⟩ => q F H (Ex.refl F) g v (hd F)
theorem ce_int {i : Int} {j pos} : CE C Wx X (.Constant (.int i) j pos) (dC (.int i)) := ce_c pe_int fun _ => .int i
theorem ce_bl {i : Bool} {j pos} : CE C Wx X (.Constant (.bool i) j pos) (dC (.bool i)) := ce_c pe_bl fun _ => .bl i
theorem ce_str {i : Str} {j pos} : CE C Wx X (.Constant (.str i) j pos) (dC (.str i)) := ce_c pe_str fun _ => .str i
theorem ce_non {j pos} : CE C Wx X (.Constant .none j pos) (dC .none) := ce_c pe_non fun _ => .non
/-- a name as data: an own list is frozen by it -/
def dVar (i : Nat) : Den := fun δ => match δ[i]? with
  | some (some (.d x)) => .ok x δ
  | some (some (.own l)) => .ok (.list l) (δ.set i (some (.d (.list l))))
  | _ => .stuck
theorem ce_var {e : Expr} {i : Nat} (h : PE X e (tVar i)) : CE C Wx X e (dVar i) := pe_imp h fun σ H Q ⟨F, δ, g, q⟩ => by
  unfold dVar at q
  split at q
  · rename_i x e
    obtain ⟨v, h1, h2⟩ := g.getD e
    exact ⟨v, h1, q F H (Ex.refl F) g v h2⟩
  · rename_i l e
    obtain ⟨p, F', h1, h2, h3, h4⟩ := g.freeze e
    exact ⟨_, h1, q F' H h2 h4 _ h3⟩
  · exact q.elim
/-- a name as an argument: as it stands when the call is made -/
def aSl (i : Nat) : DenA := fun δ => match δ[i]? with
  | some (some _) => .ok (.sl i) δ
  | _ => .stuck
theorem cea_sl {e : Expr} {i : Nat} (h : PE X e (tVar i)) : CEA C Wx X e (aSl i) := pe_imp h fun σ H Q ⟨F, δ, g, q⟩ => by
  unfold aSl at q
  split at q
  · rename_i w e
    obtain ⟨v, p, h1, _, _⟩ := g.get e
    exact ⟨v, h1, q F H (Ex.refl F) g v (.sl h1)⟩
  · exact q.elim
def aEx (d : Den) : DenA := fun δ => (d δ).bind fun x δ' => .ok (.v x) δ'
theorem cea_ex {e : Expr} {d : Den} (h : CE C Wx X e d) : CEA C Wx X e (aEx d) := pe_imp h fun σ H Q ⟨F, δ, g, q⟩ =>
  ⟨F, δ, g, Post.imp (fun x δ1 F1 H1 _ g1 q1 v hv => q1 F1 H1 (Ex.refl F1) g1 v (.v hv)) (Post.bind q)⟩
def aFn (k : Nat) : DenA := fun δ => .ok (.fn k) δ
theorem cea_fn {e : Expr} {k : Nat} (h : PE X e (tC (.ref (C.fn k)))) : CEA C Wx X e (aFn k) := pe_imp h fun σ H Q ⟨F, δ, g, q⟩ => q F H (Ex.refl F) g _ .fn
def aNil : DenL := fun δ => .ok [] δ
def aCons (a : DenA) (r : DenL) : DenL := fun δ => (a δ).bind fun x δ1 => (r δ1).bind fun xs δ2 => .ok (x :: xs) δ2
theorem cal_nil : CAL C Wx X [] aNil := pa_imp pa_nil fun σ H Q ⟨F, δ, g, q⟩ => q F H (Ex.refl F) g [] .nil
theorem cal_cons {e : Expr} {es : List Expr} {a : DenA} {r : DenL} (h : CEA C Wx X e a) (k : CAL C Wx X es r) (hs : starEach (e :: es) X.env = (false, eval e X.env) :: starEach es X.env := by rfl) : CAL C Wx X (e :: es) (aCons a r) :=
  pa_imp (pa_cons h k hs) fun σ H Q ⟨F, δ, g, q⟩ => ⟨F, δ, g, Post.imp (fun x δ1 F1 H1 _ g1 q1 v hv => ⟨F1, δ1, g1, Post.imp (by intro xs δ2 F2 H2 e2 g2 q2 vs hvs; exact q2 F2 H2 (Ex.refl F2) g2 _ (.cons (hv.mono e2) hvs)) (Post.bind q1)⟩) (Post.bind q)⟩

/-! operations on data -/
/-- what r asks of values, when f tells the answer -/
def RD (C : Ct) (r : List V → Hp → VK → Prop) (f : List PyData → Option PyData) : Prop :=
  ∀ (xs : List PyData) (z : PyData), f xs = some z → ∀ (F H : Hp) (σ : L2.St) (δ : Env) (vs : List V) (Q : VK), Good C F H σ δ → DpTs C.K F H vs xs → (∀ v F' H', Ex F F' → Good C F' H' σ δ → Dp C.K F' v z → Q v H') → r vs H Q
def app (f : List PyData → Option PyData) (as : List AV) (δ : Env) : R PyData := match peekAll δ as with
  | some xs => match f xs with
    | some z => .ok z δ
    | none => .stuck
  | none => .stuck
theorem app_ok {r : List V → Hp → VK → Prop} {f : List PyData → Option PyData} (hr : RD C r f) {F H : Hp} {σ : L2.St} {δ : Env} {as : List AV} {vs : List V} {Q : VK} (g : Good C F H σ δ) (ha : RepAVs C F σ vs as)
    (q : Post C Wx σ F (fun x _ F' H' => ∀ v, Dp C.K F' v x → Q v H') (app f as δ)) : r vs H Q := by
  unfold app at q
  split at q
  · rename_i xs hx
    split at q
    · rename_i z hz
      exact hr xs z hz F H σ δ vs Q g (peekAll_ok g ha hx) fun v F' H' e g' hv => q F' H' e g' v hv
    · exact q.elim
  · exact q.elim
def dOp2 (f : List PyData → Option PyData) (a b : DenA) : Den := fun δ => (a δ).bind fun x δ1 => (b δ1).bind fun y δ2 => app f [x, y] δ2
def dOp1 (f : List PyData → Option PyData) (a : DenA) : Den := fun δ => (a δ).bind fun x δ1 => app f [x] δ1
def dApp (f : List PyData → Option PyData) (as : DenL) : Den := fun δ => (as δ).bind fun xs δ1 => app f xs δ1
/-- the shape of a two-place reading -/
theorem tOp_ok {r : R2} {f : List PyData → Option PyData} (hr : RD C (fun vs H Q => ∃ x y, vs = [x, y] ∧ r x y H Q) f) {da db : DenA} : ∀ σ H Q, tE C Wx (dOp2 f da db) σ H Q → tOp r (tEA C Wx da) (tEA C Wx db) σ H Q := fun σ H Q ⟨F, δ, g, q⟩ =>
  ⟨F, δ, g, Post.imp (fun x δ1 F1 H1 _ g1 q1 v hv => ⟨F1, δ1, g1, Post.imp (fun y δ2 F2 H2 e2 g2 q2 u hu => by
    obtain ⟨x', y', e, h⟩ := app_ok hr g2 (.cons (hv.mono e2) (.cons hu .nil)) q2
    cases e
    exact h) (Post.bind q1)⟩) (Post.bind q)⟩
theorem ce_op {a b : Expr} {op : Operator} {r : R2} {f : List PyData → Option PyData} {da db : DenA} {pos : Pos} (ho : OpR X (binaryOp op) r) (hr : RD C (fun vs H Q => ∃ x y, vs = [x, y] ∧ r x y H Q) f) (ha : CEA C Wx X a da) (hb : CEA C Wx X b db) :
    CE C Wx X (.BinOp a op b pos) (dOp2 f da db) := pe_imp (pe_op ho ha hb) (tOp_ok hr)
theorem ce_cmp {a b : Expr} {op : CmpOp} {r : R2} {f : List PyData → Option PyData} {da db : DenA} {pos : Pos} (ho : OpR X (compareOp op) r) (hr : RD C (fun vs H Q => ∃ x y, vs = [x, y] ∧ r x y H Q) f) (ha : CEA C Wx X a da) (hb : CEA C Wx X b db)
    (hm : behindInMarks op b = false) : CE C Wx X (.Compare a [op] [b] pos) (dOp2 f da db) := pe_imp (pe_cmpR ho ha hb hm) (tOp_ok hr)
theorem ce_un {a : Expr} {op : UnaryOp} {r : V → Hp → VK → Prop} {f : List PyData → Option PyData} {da : DenA} {pos : Pos} (ho : UnR X (unaryOp op) r) (hr : RD C (fun vs H Q => ∃ x, vs = [x] ∧ r x H Q) f) (ha : CEA C Wx X a da) :
    CE C Wx X (.UnaryOp op a pos) (dOp1 f da) := pe_imp (pe_un ho ha) fun σ H Q ⟨F, δ, g, q⟩ => ⟨F, δ, g, Post.imp (fun x δ1 F1 H1 _ g1 q1 v hv => by
    obtain ⟨x', e, h⟩ := app_ok hr g1 (.cons hv .nil) q1
    cases e
    exact h) (Post.bind q)⟩
theorem ce_callB {id : String} {x : Str} {e : Expr} {es : List Expr} {r : List V → Hp → VK → Prop} {f : List PyData → Option PyData} {d : DenL} {p pos : Pos} (hc : CallR X (.builtin id) r) (hr : RD C r f) (hg : Gl X x) (hm : X.mg x = none) (hv : bootBuiltins x = some (.builtin id))
    (ha : CAL C Wx X (e :: es) d) (hn : x ≠ "__name__" := by decide) (hdb : (x == ("__debug__" : Str)) = false := by decide) (he : starEach (e :: es) X.env = (false, eval e X.env) :: starEach es X.env := by rfl) (hpl : (backTo pos (starEach es X.env)).any (·.1) = false := by rfl) :
    CE C Wx X (.Call (.Name x p) (e :: es) [] pos) (dApp f d) := pe_imp (pe_callB hc hg hm hv ha hn hdb he hpl) fun σ H Q ⟨F, δ, g, q⟩ =>
  ⟨F, δ, g, Post.imp (fun xs δ1 F1 H1 _ g1 q1 vs hvs => app_ok hr g1 hvs q1) (Post.bind q)⟩
end
end Mir

namespace Mir
open PySem.Spec PySem L2 PyProof.Rows
open Evl (Ex)
abbrev DenW := Env → R W
abbrev DenB := Env → R Bool
/-- the outcome of a statement -/
inductive S where
  | nx (δ : Env)
  | ret (w : W) (δ : Env)
  | brk (δ : Env)
  | cont (δ : Env)
  | exc (c : Nat) (x : PyData) (δ : Env)
  | stuck
abbrev DenS := Env → S
def R.to {α : Type} (r : R α) (k : α → Env → S) : S :=
  match r with
  | .ok a δ => k a δ
  | .exc c x δ => .exc c x δ
  | .stuck => .stuck
section
variable (C : Ct) (Wx : WX)
def PostS (D : Ends) (F : Hp) : S → Prop
  | .nx δ => ∀ σ F' H', Ex F F' → Good C F' H' σ δ → D.nx σ H'
  | .ret w δ => ∀ σ v F' H', Ex F F' → GoodT C F' H' σ δ v w → σ.length = δ.length → (∀ j a, (j, a) ∈ C.io → j < σ.length) → D.rt v H'
  | .brk δ => ∀ σ F' H', Ex F F' → Good C F' H' σ δ → D.bk σ H'
  | .cont δ => ∀ σ F' H', Ex F F' → Good C F' H' σ δ → D.ct σ H'
  | .exc c x δ => ∀ σ, Exc C Wx σ F c x δ
  | .stuck => False
/-- .. of an expression that may give a list of its own -/
def tW (den : DenW) : TE := fun σ H Q => ∃ F δ, Good C F H σ δ ∧ Post C Wx σ F (fun w δ' F' H' => ∀ v F2 H2, Ex F' F2 → GoodT C F2 H2 σ δ' v w → Q v H2) (den δ)
def tS (den : DenS) : TS := fun D σ H => ∃ F δ, Good C F H σ δ ∧ PostS C Wx D F (den δ)
/-- a test -/
def tTB (den : DenB) : TT := fun σ H Q => ∃ F δ, Good C F H σ δ ∧ Post C Wx σ F (fun b _ _ H' => Q b H') (den δ)
end
def CW (C : Ct) (Wx : WX) (X : Cx) (e : Expr) (den : DenW) : Prop := PE X e (tW C Wx den)
def CT (C : Ct) (Wx : WX) (X : Cx) (e : Expr) (den : DenB) : Prop := PT X e (tTB C Wx den)
def CPW (C : Ct) (Wx : WX) (X : Cx) (e : Expr) (den : DenB) : Prop := PW X e (tTB C Wx den)
def CS (C : Ct) (Wx : WX) (X : Cx) (s : Stmt) (den : DenS) : Prop := PS X s (tS C Wx den)
def CSs (C : Ct) (Wx : WX) (X : Cx) (s : List Stmt) (den : DenS) : Prop := PSs X s (tS C Wx den)
theorem ps_imp {X : Cx} {e : Stmt} {t t' : TS} (h : PS X e t) (k : ∀ D σ H, t' D σ H → t D σ H) : PS X e t' := ⟨fun pins s σ H D I q => h.run pins s σ H D I (k D σ H q)⟩
theorem pss_imp {X : Cx} {e : List Stmt} {t t' : TS} (h : PSs X e t) (k : ∀ D σ H, t' D σ H → t D σ H) : PSs X e t' := ⟨fun pins s σ H D I q => h.run pins s σ H D I (k D σ H q)⟩
theorem pw_imp {X : Cx} {e : Expr} {t t' : TT} (h : PW X e t) (k : ∀ σ H Q, t' σ H Q → t σ H Q) : PW X e t' := ⟨fun w pins s σ H D I q => h.run w pins s σ H D I (k σ H D q)⟩

section
variable {C : Ct} {Wx : WX} {σ : L2.St} {F F' H H' : Hp} {δ : Env} {D : Ends}
theorem PostS.mono (e : Ex F F') : ∀ {r : S}, PostS C Wx D F r → PostS C Wx D F' r
  | .nx _, h => fun σ F2 H2 e2 => h σ F2 H2 (e.trans e2)
  | .ret _ _, h => fun σ v F2 H2 e2 => h σ v F2 H2 (e.trans e2)
  | .brk _, h => fun σ F2 H2 e2 => h σ F2 H2 (e.trans e2)
  | .cont _, h => fun σ F2 H2 e2 => h σ F2 H2 (e.trans e2)
  | .exc _ _ _, h => fun σ => Exc.mono e (h σ)
  | .stuck, h => h.elim
theorem Post.to {α : Type} {k : α → Env → S} : ∀ {r : R α}, PostS C Wx D F (r.to k) → Post C Wx σ F (fun a δ1 F1 _ => PostS C Wx D F1 (k a δ1)) r
  | .ok _ _, h => fun _ _ e1 _ => PostS.mono e1 h
  | .exc _ _ _, h => h σ
  | .stuck, h => h.elim
/-- a temporary list is frozen -/
theorem GoodT.frz {v : V} {l : List PyData} (g : GoodT C F H σ δ v (.own l)) (hl : σ.length = δ.length) (hio : ∀ j a, (j, a) ∈ C.io → j < σ.length) : ∃ F', Ex F F' ∧ Dp C.K F' v (.list l) ∧ Good C F' H σ δ := by
  have e : (δ ++ [some (W.own l)])[σ.length]? = some (some (.own l)) := by rw [hl, List.getElem?_append_right (Nat.le_refl _)]; simp
  obtain ⟨p, F', h1, h2, h3, h4⟩ := Good.freeze g e
  have ev : v = .ref p := by
    rw [List.getElem?_append_right (Nat.le_refl _)] at h1
    simpa using h1
  subst ev
  refine ⟨F', h2, h3, ?_⟩
  have e2 : (δ ++ [some (W.own l)]).set σ.length (some (.d (.list l))) = δ ++ [some (W.d (.list l))] := by
    rw [hl, List.set_append_right _ _ (Nat.le_refl _)]; simp
  rw [e2] at h4
  exact GoodT.forget h4 hl hio
theorem GoodT.len {v : V} {w : W} (g : GoodT C F H σ δ v w) : σ.length = δ.length := by
  have := Good.len g
  simpa using this
/-- a slot's own list is moved out -/
theorem Good.move (g : Good C F H σ δ) {i : Nat} {w : W} (e : δ[i]? = some (some w)) (hb : w.isB = false) : ∃ v, σ[i]? = some (some v) ∧ GoodT C F H σ (δ.set i none) v w := by
  obtain ⟨ps, r, nd, fr⟩ := g.sl
  obtain ⟨v, p, h1, hp, h2⟩ := r.get i w e
  have pin : ∀ q ∈ p, q ∈ ps.flatten := fun q hq => List.mem_flatten.mpr ⟨_, List.mem_of_getElem? hp, hq⟩
  refine ⟨v, h1, g.f0, g.fh, g.tb, g.tf, g.fr, g.kp, fun j a hj => ?_, ps.set i [] ++ [p], (r.drop i).snoc h2, ?_, fun q hq => ?_⟩
  · obtain ⟨k1, k2, l1, k3, k4⟩ := g.io j a hj
    have hne : i ≠ j := fun z => by subst z; rw [e] at k3; cases k3; rw [W.isK_B k4] at hb; cases hb
    exact ⟨app_get k1, k2, l1, app_get (by rw [List.getElem?_set_ne hne]; exact k3), k4⟩
  · rw [List.flatten_append, List.nodup_append]
    refine ⟨set_nodup nd .nil (fun a ha => by cases ha), by simpa using h2.there.1, fun a ha b hb' z => ?_⟩
    subst z
    have hb2 : a ∈ p := by simpa using hb'
    obtain ⟨s, hs, has⟩ := List.mem_flatten.mp ha
    obtain ⟨j, hj⟩ := List.mem_iff_getElem?.mp hs
    by_cases hji : j = i
    · subst hji
      rw [List.getElem?_set_self (get_lt hp)] at hj
      cases hj; cases has
    · rw [List.getElem?_set_ne (Ne.symm hji)] at hj
      exact hji (flat_apart nd hj hp has hb2)
  · rw [List.flatten_append, List.mem_append] at hq
    rcases hq with hq | hq
    · rcases set_flat q hq with z | z
      · cases z
      · exact fr q z
    · exact fr q (pin q (by simpa using hq))
/-- a new list or dict of its own -/
theorem Good.newC (g : Good C F H σ δ) {p : Addr} {w : W} {d : Bool} {o : HO} {l : List PyData} (n : H p = none) (hc : w.cell = some (d, l)) (hb : w.isB = false) (h : Cell C.K F d o l) : GoodT C F (upd H p o) σ δ (.ref p) w := by
  obtain ⟨nF, nF0, nH0⟩ := g.new0 n
  have g2 : Good C F (upd H p o) σ δ := g.heap (Ex.new n)
  obtain ⟨ps, r, nd, fr⟩ := g2.sl
  obtain ⟨ps1, r1, nd1, fr1⟩ := g.sl
  have np1 : ∀ q ∈ ps1.flatten, q ≠ p := fun q hq z => by
    obtain ⟨ys, e, _⟩ := r1.there q hq
    rw [z, n] at e; cases e
  have hw : RepW C.toSg F (upd H p o) (.ref p) w [p] := by
    cases w <;> first | (cases hc; cases hb; done) | cases hc
    · obtain ⟨_, rfl, h⟩ := h; exact .own upd_same h
    · obtain ⟨_, rfl, h⟩ := h; exact .dct upd_same h
  refine ⟨g2.f0, g2.fh, g2.tb, g2.tf, g2.fr, g2.kp, fun i a hi => ?_, ps1 ++ [[p]], (r1.mono (Ex.refl F) fun q hq => upd_ne (np1 q hq)).snoc hw, ?_, fun q hq => ?_⟩
  · obtain ⟨h1, h2, l', h3, h4⟩ := g.io i a hi
    exact ⟨app_get h1, h2, l', app_get h3, h4⟩
  · rw [List.flatten_append, List.nodup_append]
    refine ⟨nd1, by simp, fun a ha b hb z => ?_⟩
    subst z
    exact np1 a ha (by simpa using hb)
  · rw [List.flatten_append, List.mem_append] at hq
    rcases hq with hq | hq
    · exact fr1 q hq
    · have : q = p := by simpa using hq
      subst this
      exact ⟨nF, .inl nH0⟩
theorem Good.newOwn (g : Good C F H σ δ) {p : Addr} {xs : List V} {l : List PyData} (n : H p = none) (h : DpAll C.K F xs l) : GoodT C F (upd H p (.lst xs)) σ δ (.ref p) (.own l) := g.newC n rfl rfl ⟨_, rfl, h⟩
end

section
variable {C : Ct} {Wx : WX} {X : Cx}
/-! ### values that may be lists of their own -/
def wE (d : Den) : DenW := fun δ => (d δ).bind fun x δ' => .ok (.d x) δ'
theorem cw_e {e : Expr} {d : Den} (h : CE C Wx X e d) : CW C Wx X e (wE d) := pe_imp h fun σ H Q ⟨F, δ, g, q⟩ =>
  ⟨F, δ, g, Post.imp (fun x δ1 F1 H1 _ g1 q1 v hv => q1 F1 H1 (Ex.refl F1) g1 v F1 H1 (Ex.refl F1) (g1.tmpD hv)) (Post.bind q)⟩
/-- frozen -/
def eW (d : DenW) : Den := fun δ => (d δ).bind fun w δ' => match w with
  | .d x => .ok x δ'
  | .own l => .ok (.list l) δ'
  | _ => .stuck
theorem ce_w {e : Expr} {d : DenW} (h : CW C Wx X e d) : CE C Wx X e (eW d) := pe_imp h fun σ H Q ⟨F, δ, g, q⟩ =>
  ⟨F, δ, g, Post.imp (fun w δ1 F1 H1 _ g1 q1 v F2 H2 e2 g2 => by
    cases w with
    | d x =>
      obtain ⟨u, hu, hd⟩ := Good.getD (i := σ.length) (x := x) g2 (by rw [g1.len, List.getElem?_append_right (Nat.le_refl _)]; simp)
      have ev : u = v := by
        rw [List.getElem?_append_right (Nat.le_refl _)] at hu
        simpa using hu.symm
      subst ev
      exact q1 F2 H2 e2 (GoodT.forget g2 g1.len g1.iolt) _ hd
    | own l =>
      obtain ⟨F3, e3, hd, g3⟩ := GoodT.frz g2 g1.len g1.iolt
      exact q1 F3 H2 (e2.trans e3) g3 v hd
    | _ => exact q1.elim) (Post.bind q)⟩
/-- a name whose list is moved out of it -/
def wMove (i : Nat) : DenW := fun δ => match δ[i]? with
  | some (some (.d x)) => .ok (.d x) δ
  | some (some (.own l)) => .ok (.own l) (δ.set i none)
  | some (some (.dct l)) => .ok (.dct l) (δ.set i none)
  | _ => .stuck
theorem cw_move {e : Expr} {i : Nat} (h : PE X e (tVar i)) : CW C Wx X e (wMove i) := pe_imp h fun σ H Q ⟨F, δ, g, q⟩ => by
  unfold wMove at q
  split at q
  · rename_i x e
    obtain ⟨v, h1, h2⟩ := g.getD e
    exact ⟨v, h1, q F H (Ex.refl F) g v F H (Ex.refl F) (g.tmpD h2)⟩
  · rename_i l e
    obtain ⟨v, h1, h2⟩ := g.move e rfl
    exact ⟨v, h1, q F H (Ex.refl F) (GoodT.forget h2 (by simpa using g.len) g.iolt) v F H (Ex.refl F) h2⟩
  · rename_i l e
    obtain ⟨v, h1, h2⟩ := g.move e rfl
    exact ⟨v, h1, q F H (Ex.refl F) (GoodT.forget h2 (by simpa using g.len) g.iolt) v F H (Ex.refl F) h2⟩
  · exact q.elim
/-- [a, b, ..] -/
def allV : List AV → Option (List PyData)
  | [] => some []
  | .v x :: r => (allV r).map (x :: ·)
  | _ => none
theorem allV_ok {σ : L2.St} {F : Hp} : ∀ {as : List AV} {xs : List PyData} {vs : List V}, RepAVs C F σ vs as → allV as = some xs → DpAll C.K F vs xs
  | [], xs, vs, r, h => by cases r; cases h; exact .nil
  | .v x :: as, xs, vs, r, h => by
    cases r with
    | cons r1 r2 =>
      cases r1 with
      | v hd =>
        simp only [allV] at h
        cases e : allV as with
        | none =>
          rw [e] at h
          cases h
        | some ys =>
          rw [e] at h
          cases h
          exact .cons hd (allV_ok r2 e)
  | .sl _ :: _, _, _, _, h => by cases h
  | .fn _ :: _, _, _, _, h => by cases h
def line : Nat := 100000
theorem line_ok {n : Nat} (h : n ≤ line) : n ≤ sizeLine := Nat.le_trans h (by decide)
theorem line_lt {n : Nat} (h : n < line) : n < sizeLine := Nat.lt_of_lt_of_le h (by decide)
def wList (as : DenL) : DenW := fun δ => (as δ).bind fun xs δ' => match allV xs with
  | some l => if l.length ≤ line then .ok (.own l) δ' else .stuck
  | none => .stuck
theorem cw_list {es : List Expr} {as : DenL} {pos : Pos} (h : CAL C Wx X es as) : CW C Wx X (.List es pos) (wList as) := pe_imp (pe_lst h) fun σ H Q ⟨F, δ, g, q⟩ =>
  ⟨F, δ, g, Post.imp (fun xs δ1 F1 H1 _ g1 q1 vs hvs => by
    split at q1
    · rename_i l hl
      split at q1
      · rename_i hz
        have hd := allV_ok hvs hl
        exact ⟨by rw [DpAll.len hd]; exact line_ok hz, fun p np => q1 F1 H1 (Ex.refl F1) g1 _ F1 _ (Ex.refl F1) (g1.newOwn np hd)⟩
      · exact q1.elim
    · exact q1.elim) (Post.bind q)⟩
def dTup (as : DenL) : Den := fun δ => (as δ).bind fun xs δ' => match allV xs with
  | some l => if l.length ≤ line then .ok (.tuple l) δ' else .stuck
  | none => .stuck
theorem ce_tup {es : List Expr} {as : DenL} {k : Nat} {pos : Pos} (h : CAL C Wx X es as) : CE C Wx X (.Tuple es k pos) (dTup as) := pe_imp (pe_tupX h) fun σ H Q ⟨F, δ, g, q⟩ =>
  ⟨F, δ, g, Post.imp (fun xs δ1 F1 H1 _ g1 q1 vs hvs => by
    split at q1
    · rename_i l hl
      split at q1
      · rename_i hz
        have hd := allV_ok hvs hl
        refine ⟨by rw [DpAll.len hd]; exact line_ok hz, fun p us np => q1 _ _ (Ex.new (g1.new0 np).1) (g1.grow (o := tX us _) np rfl) _ ?_⟩
        exact .tup stX (DpAll.ex hd (Ex.new (g1.new0 np).1))
      · exact q1.elim
    · exact q1.elim) (Post.bind q)⟩

/-! ### tests -/
def bE (d : Den) : DenB := fun δ => (d δ).bind fun x δ' => match x with
  | .bool b => .ok b δ'
  | _ => .stuck
theorem bE_ok {d : Den} : ∀ σ H Q, tTB C Wx (bE d) σ H Q → L2.tB (tE C Wx d) σ H Q := fun σ H Q ⟨F, δ, g, q⟩ =>
  ⟨F, δ, g, Post.imp (fun x δ1 F1 H1 _ g1 q1 v hv => by
    cases x with
    | bool b =>
      cases hv
      exact ⟨b, rfl, q1 F1 H1 (Ex.refl F1) g1⟩
    | _ => exact q1.elim) (Post.bind q)⟩
/-- an expression that is True or False -/
theorem ct_e {e : Expr} {d : Den} (h : CE C Wx X e d) (he : ∀ whole, isTrue e X.env whole = (do let v ← whole; standAt e.pos; holding [v] (truthy v)) := by intro _; rfl) : CT C Wx X e (bE d) := pt_imp (pt_val h he) bE_ok
/-- a comparison -/
theorem ct_cmp {a b : Expr} {op : CmpOp} {r : R2} {f : List PyData → Option PyData} {da db : DenA} {pos : Pos} (ho : OpR X (compareOp op) r) (hr : RD C (fun vs H Q => ∃ x y, vs = [x, y] ∧ r x y H Q) f) (ha : CEA C Wx X a da) (hb : CEA C Wx X b db)
    (hm : behindInMarks op b = false) : CT C Wx X (.Compare a [op] [b] pos) (bE (dOp2 f da db)) := pt_imp (pt_cmpR ho ha hb hm) fun σ H Q q => by
  have := bE_ok σ H Q q
  obtain ⟨F, δ, g, q⟩ := this
  exact tOp_ok hr σ H _ ⟨F, δ, g, q⟩
def bAnd (a b : DenB) : DenB := fun δ => (a δ).bind fun x δ' => if x = true then b δ' else .ok false δ'
def bOr (a b : DenB) : DenB := fun δ => (a δ).bind fun x δ' => if x = true then .ok true δ' else b δ'
def bNot (a : DenB) : DenB := fun δ => (a δ).bind fun x δ' => .ok (!x) δ'
theorem ct_w {e : Expr} {d : DenB} (h : CPW C Wx X e d) : CT C Wx X e d := h.pt
theorem cpw_and1 {a : Expr} {d : DenB} {pos : Pos} (h : CT C Wx X a d) : CPW C Wx X (.BoolOp .And [a] pos) d := pw_and1 h
theorem cpw_or1 {a : Expr} {d : DenB} {pos : Pos} (h : CT C Wx X a d) : CPW C Wx X (.BoolOp .Or [a] pos) d := pw_or1 h
theorem cpw_and {a b : Expr} {rest : List Expr} {d d' : DenB} {pos : Pos} (h : CT C Wx X a d) (k : CPW C Wx X (.BoolOp .And (b :: rest) pos) d') : CPW C Wx X (.BoolOp .And (a :: b :: rest) pos) (bAnd d d') :=
  pw_imp (pw_and h k) fun σ H Q ⟨F, δ, g, q⟩ => ⟨F, δ, g, Post.imp (fun x δ1 F1 H1 _ g1 q1 => by
    cases x with
    | true => exact ⟨F1, δ1, g1, q1⟩
    | false => exact q1 F1 H1 (Ex.refl F1) g1) (Post.bind q)⟩
theorem cpw_or {a b : Expr} {rest : List Expr} {d d' : DenB} {pos : Pos} (h : CT C Wx X a d) (k : CPW C Wx X (.BoolOp .Or (b :: rest) pos) d') : CPW C Wx X (.BoolOp .Or (a :: b :: rest) pos) (bOr d d') :=
  pw_imp (pw_or h k) fun σ H Q ⟨F, δ, g, q⟩ => ⟨F, δ, g, Post.imp (fun x δ1 F1 H1 _ g1 q1 => by
    cases x with
    | false => exact ⟨F1, δ1, g1, q1⟩
    | true => exact q1 F1 H1 (Ex.refl F1) g1) (Post.bind q)⟩
theorem ct_not {a : Expr} {d : DenB} {pos : Pos} (h : CT C Wx X a d) : CT C Wx X (.UnaryOp .Not a pos) (bNot d) :=
  pt_imp (pt_not h) fun σ H Q ⟨F, δ, g, q⟩ => ⟨F, δ, g, Post.imp (fun x δ1 F1 H1 _ g1 q1 => q1 F1 H1 (Ex.refl F1) g1) (Post.bind q)⟩
/-- .. as values, all of them True or False -/
def dAnd (a b : Den) : Den := fun δ => (a δ).bind fun x δ' => match x with
  | .bool true => b δ'
  | .bool false => .ok (.bool false) δ'
  | _ => .stuck
def dOr (a b : Den) : Den := fun δ => (a δ).bind fun x δ' => match x with
  | .bool false => b δ'
  | .bool true => .ok (.bool true) δ'
  | _ => .stuck
def dNot (a : Den) : Den := fun δ => (a δ).bind fun x δ' => match x with
  | .bool b => .ok (.bool (!b)) δ'
  | _ => .stuck
theorem ce_one {op} {a : Expr} {d : Den} {pos : Pos} (h : CE C Wx X a d) : CE C Wx X (.BoolOp op [a] pos) d := pe_one h
theorem ce_and {a b : Expr} {rest : List Expr} {d d' : Den} {pos : Pos} (h : CE C Wx X a d) (k : CE C Wx X (.BoolOp .And (b :: rest) pos) d') : CE C Wx X (.BoolOp .And (a :: b :: rest) pos) (dAnd d d') :=
  pe_imp (pe_and h k) fun σ H Q ⟨F, δ, g, q⟩ => ⟨F, δ, g, Post.imp (fun x δ1 F1 H1 _ g1 q1 v hv => by
    cases x with
    | bool b =>
      cases hv
      cases b with
      | true => exact ⟨true, rfl, F1, δ1, g1, q1⟩
      | false => exact ⟨false, rfl, q1 F1 H1 (Ex.refl F1) g1 _ (.bl false)⟩
    | _ => exact q1.elim) (Post.bind q)⟩
theorem ce_or {a b : Expr} {rest : List Expr} {d d' : Den} {pos : Pos} (h : CE C Wx X a d) (k : CE C Wx X (.BoolOp .Or (b :: rest) pos) d') : CE C Wx X (.BoolOp .Or (a :: b :: rest) pos) (dOr d d') :=
  pe_imp (pe_or h k) fun σ H Q ⟨F, δ, g, q⟩ => ⟨F, δ, g, Post.imp (fun x δ1 F1 H1 _ g1 q1 v hv => by
    cases x with
    | bool b =>
      cases hv
      cases b with
      | false => exact ⟨false, rfl, F1, δ1, g1, q1⟩
      | true => exact ⟨true, rfl, q1 F1 H1 (Ex.refl F1) g1 _ (.bl true)⟩
    | _ => exact q1.elim) (Post.bind q)⟩
theorem ce_not {a : Expr} {d : Den} {pos : Pos} (h : CE C Wx X a d) : CE C Wx X (.UnaryOp .Not a pos) (dNot d) :=
  pe_imp (pe_not h) fun σ H Q ⟨F, δ, g, q⟩ => ⟨F, δ, g, Post.imp (fun x δ1 F1 H1 _ g1 q1 v hv => by
    cases x with
    | bool b =>
      cases hv
      exact ⟨b, rfl, q1 F1 H1 (Ex.refl F1) g1 _ (.bl _)⟩
    | _ => exact q1.elim) (Post.bind q)⟩
def dIf (c : DenB) (a b : Den) : Den := fun δ => (c δ).bind fun x δ' => if x = true then a δ' else b δ'
theorem ce_ifx {c a b : Expr} {dc : DenB} {da db : Den} {pos : Pos} (h : CT C Wx X c dc) (ha : CE C Wx X a da) (hb : CE C Wx X b db) : CE C Wx X (.IfExp c a b pos) (dIf dc da db) :=
  pe_imp (pe_ifExp h ha hb) fun σ H Q ⟨F, δ, g, q⟩ => ⟨F, δ, g, Post.imp (fun x δ1 F1 H1 _ g1 q1 => by
    cases x with
    | true => exact ⟨F1, δ1, g1, q1⟩
    | false => exact ⟨F1, δ1, g1, q1⟩) (Post.bind q)⟩

/-! ### statements -/
def sNil : DenS := fun δ => .nx δ
def sSeq (a b : DenS) : DenS := fun δ => match a δ with
  | .nx δ' => b δ'
  | r => r
theorem css_nil : CSs C Wx X [] sNil := pss_imp pss_nil fun D σ H ⟨F, δ, g, q⟩ => q σ F H (Ex.refl F) g
theorem css_cons {s : Stmt} {r : List Stmt} {a b : DenS} (h : CS C Wx X s a) (k : CSs C Wx X r b) : CSs C Wx X (s :: r) (sSeq a b) :=
  pss_imp (pss_cons h k) fun D σ H ⟨F, δ, g, q⟩ => ⟨F, δ, g, by
    unfold sSeq at q
    cases e : a δ with
    | nx δ' =>
      rw [e] at q
      exact fun σ' F' H' e' g' => ⟨F', δ', g', PostS.mono e' q⟩
    | ret w δ' => rw [e] at q; exact q
    | brk δ' => rw [e] at q; exact q
    | cont δ' => rw [e] at q; exact q
    | exc c x δ' => rw [e] at q; exact q
    | stuck => rw [e] at q; exact q.elim⟩
theorem css_one {s : Stmt} {a : DenS} (h : CS C Wx X s a) : CSs C Wx X [s] a := pss_one h
theorem cs_pass {pos : Pos} : CS C Wx X (.Pass pos) sNil := ps_imp ps_pass fun D σ H ⟨F, δ, g, q⟩ => q σ F H (Ex.refl F) g
theorem cs_break {pos : Pos} : CS C Wx X (.Break pos) (fun δ => .brk δ) := ps_imp ps_break fun D σ H ⟨F, δ, g, q⟩ => q σ F H (Ex.refl F) g
theorem cs_continue {pos : Pos} : CS C Wx X (.Continue pos) (fun δ => .cont δ) := ps_imp ps_continue fun D σ H ⟨F, δ, g, q⟩ => q σ F H (Ex.refl F) g
def sRet (d : DenW) : DenS := fun δ => (d δ).to fun w δ' => .ret w δ'
theorem cs_ret {e : Expr} {d : DenW} {pos : Pos} (h : CW C Wx X e d) : CS C Wx X (.Return (some e) pos) (sRet d) := ps_imp (ps_ret h) fun D σ H ⟨F, δ, g, q⟩ =>
  ⟨F, δ, g, Post.imp (fun w δ1 F1 H1 _ g1 q1 v F2 H2 e2 g2 => q1 σ v F2 H2 e2 g2 g1.len g1.iolt) (Post.to q)⟩
theorem cs_retN {pos : Pos} : CS C Wx X (.Return none pos) (fun δ => .ret (.d .none) δ) := ps_imp ps_retN fun D σ H ⟨F, δ, g, q⟩ => q σ _ F H (Ex.refl F) (g.tmpD .non) g.len g.iolt
def sIf (c : DenB) (a b : DenS) : DenS := fun δ => (c δ).to fun x δ' => if x = true then a δ' else b δ'
theorem cs_if {c : Expr} {a b : List Stmt} {dc : DenB} {da db : DenS} {pos : Pos} (h : CT C Wx X c dc) (ha : CSs C Wx X a da) (hb : CSs C Wx X b db) : CS C Wx X (.If c a b pos) (sIf dc da db) :=
  ps_imp (ps_if h ha hb) fun D σ H ⟨F, δ, g, q⟩ => ⟨F, δ, g, Post.imp (fun x δ1 F1 H1 _ g1 q1 => by
    cases x with
    | true => exact ⟨F1, δ1, g1, q1⟩
    | false => exact ⟨F1, δ1, g1, q1⟩) (Post.to q)⟩
def isBor (δ : Env) (i : Nat) : Bool := match δ[i]? with
  | some (some (.bor _)) => true
  | some (some (.bod _)) => true
  | _ => false
theorem isBor_no {δ : Env} {i : Nat} (h : isBor δ i = false) : NoB δ i := fun w hw e => by
  unfold isBor at h
  rw [e] at h
  cases w <;> first | (cases hw; done) | exact nomatch h
def sSet (i : Nat) (d : DenW) : DenS := fun δ => (d δ).to fun w δ' => if isBor δ' i then .stuck else .nx (δ'.set i (some w))
theorem set_ok {i : Nat} {d : DenW} : ∀ D σ H, tS C Wx (sSet i d) D σ H → tAsg (tW C Wx d) (gName i) D σ H := fun D σ H ⟨F, δ, g, q⟩ =>
  ⟨F, δ, g, Post.imp (fun w δ1 F1 H1 _ g1 q1 v F2 H2 e2 g2 => by
    cases e : isBor δ1 i with
    | true => rw [e] at q1; exact q1.elim
    | false =>
      rw [e] at q1
      exact q1 _ F2 H2 e2 (GoodT.set g2 g1.len (isBor_no e) g1.iolt)) (Post.to q)⟩
theorem cs_set {i : Nat} {x : Str} {e : Expr} {d : DenW} {pos' pos : Pos} (hN : X.N.Nodup) (hi : X.N[i]? = some x) (hx : Loc X.env.scope x) (h : CW C Wx X e d)
    (hs : swapsWith e (some (.Name x pos')) pos.line X.env = pure false := by rfl) (hf : X.fn x = true ∨ X.env.scope.names.lookup x = some .local := by first | exact .inl rfl | exact .inr rfl | assumption) :
    CS C Wx X (.Assign [.Name x pos'] e pos) (sSet i d) := ps_imp (ps_set hN hi hx h hs hf) set_ok
def sExpr (d : Den) : DenS := fun δ => (d δ).to fun _ δ' => .nx δ'
theorem cs_expr {e : Expr} {d : Den} {pos : Pos} (h : CE C Wx X e d) (hs : swapsWith e none pos.line X.env = pure false := by rfl) : CS C Wx X (.Expr e pos) (sExpr d) := ps_imp (ps_expr h hs) fun D σ H ⟨F, δ, g, q⟩ =>
  ⟨F, δ, g, Post.imp (fun x δ1 F1 H1 _ g1 q1 v hv => q1 σ F1 H1 (Ex.refl F1) g1) (Post.to q)⟩
end
end Mir

namespace Mir
open PySem.Spec PySem L2 PyProof.Rows
open Evl (Ex)
/-- an item: data, or (where it is unpacked at once) a tuple that is not held fast -/
def DpY (b : Bool) (K : PySem.W.Frag) (F H : Hp) (v : V) (x : PyData) : Prop := Dp K F v x ∨ (b = true ∧ ∃ T xs l, v = .ref T ∧ x = .tuple l ∧ H T = some (.tup xs) ∧ DpAll K F xs l)
def isTup : Expr → Bool
  | .Tuple _ _ _ => true
  | _ => false
/-- what an iterator gives: these data, one by one -/
def WalkD (b : Bool) (C : Ct) (J : It) (F : Hp) (ds : List PyData) : Prop := ∀ C' : Ct, C'.K = C.K → ∀ F1 H1 σ δ, Ex F F1 → Good C' F1 H1 σ δ →
  (∀ i, i < ds.length → J.go i H1) ∧ J.stop ds.length H1 ∧ ∀ i x H', i < ds.length → J.yld i H1 x H' → ∃ F', Ex F1 F' ∧ Good C' F' H' σ δ ∧ ∃ d, ds[i]? = some d ∧ DpY b C.K F' H' x d
abbrev DenI := Env → R (List PyData)
def tIt (C : Ct) (Wx : WX) (b : Bool) (den : DenI) : TI := fun σ H Q => ∃ F δ, Good C F H σ δ ∧ Post C Wx σ F (fun ds _ F' H' => ∀ J, WalkD b C J F' ds → Q J H') (den δ)
def CI (C : Ct) (Wx : WX) (X : Cx) (tg e : Expr) (den : DenI) : Prop := PI X tg e (tIt C Wx (isTup tg) den)
theorem pi_imp {X : Cx} {tg e : Expr} {t t' : TI} (h : PI X tg e t) (k : ∀ σ H Q, t' σ H Q → t σ H Q) : PI X tg e t' := ⟨fun pins s σ H D I q => h.run pins s σ H D I (k σ H D q)⟩
theorem WalkD.of {b : Bool} {C : Ct} {J : It} {n : Nat} {G : Hp → Prop} {Y : Nat → Hp → V → Hp → Prop} {F : Hp} {ds : List PyData} (w : Walk J n G Y) (hn : n = ds.length) (hG : ∀ F1 H1, Ex F F1 → Ex F1 H1 → G H1)
    (hY : ∀ C' : Ct, C'.K = C.K → ∀ i x F1 H1 H' σ δ, i < ds.length → Ex F F1 → Good C' F1 H1 σ δ → Y i H1 x H' → ∃ F', Ex F1 F' ∧ Good C' F' H' σ δ ∧ ∃ d, ds[i]? = some d ∧ Dp C.K F' x d) : WalkD b C J F ds := fun C' hC F1 H1 σ δ e g => by
  subst hn
  have q := hG F1 H1 e g.fh
  exact ⟨fun i hi => w.goes i H1 hi q, w.stops H1 q, fun i x H' hi y => by
    obtain ⟨F', a, k, d, h1, h2⟩ := hY C' hC i x F1 H1 H' σ δ hi e g (w.yields i H1 x H' hi q y)
    exact ⟨F', a, k, d, h1, .inl h2⟩⟩

/-- a target of an assignment -/
inductive Tgt where
  | nm (i : Nat)
  | tup (l : List Nat)
def Tgt.many : Tgt → Bool
  | .nm _ => false
  | .tup _ => true
def setD (i : Nat) (x : PyData) (δ : Env) : Option Env := if isBor δ i then none else some (δ.set i (some (.d x)))
def setDs : List Nat → List PyData → Env → Option Env
  | [], [], δ => some δ
  | i :: is, x :: xs, δ => (setD i x δ).bind (setDs is xs)
  | _, _, _ => none
def bindT : Tgt → PyData → Env → Option Env
  | .nm i, x, δ => setD i x δ
  | .tup is, .tuple xs, δ => setDs is xs δ
  | .tup _, _, _ => none
def tTg (C : Ct) (tg : Tgt) : TG := fun v σ H Q => ∃ F δ x, Good C F H σ δ ∧ DpY tg.many C.K F H v x ∧ ∃ δ', bindT tg x δ = some δ' ∧ ∀ σ', Good C F H σ' δ' → Q σ' H
def CG (C : Ct) (X : Cx) (e : Expr) (tg : Tgt) : Prop := isTup e = tg.many ∧ PG X e (tTg C tg)
theorem pg_imp {X : Cx} {e : Expr} {t t' : TG} (h : PG X e t) (k : ∀ v σ H Q, t' v σ H Q → t v σ H Q) : PG X e t' := ⟨fun pins s σ H v u Q I r q => h.run pins s σ H v u Q I r (k v σ H Q q)⟩
section
variable {C : Ct} {Wx : WX} {X : Cx}
theorem setD_ok {i : Nat} {x : PyData} {δ δ' : Env} {F H : Hp} {σ : L2.St} {v : V} (h : setD i x δ = some δ') (g : Good C F H σ δ) (hd : Dp C.K F v x) : Good C F H (σ.set i (some v)) δ' := by
  unfold setD at h
  cases e : isBor δ i with
  | true => rw [e] at h; cases h
  | false =>
    rw [e] at h
    cases h
    exact GoodT.set (g.tmpD hd) g.len (isBor_no e) g.iolt
theorem cg_name {i : Nat} {x : Str} {pos : Pos} (hN : X.N.Nodup) (hi : X.N[i]? = some x) (hx : Loc X.env.scope x) (hf : X.fn x = true ∨ X.env.scope.names.lookup x = some .local := by first | exact .inl rfl | exact .inr rfl | assumption) : CG C X (.Name x pos) (.nm i) :=
  ⟨rfl, pg_imp (pg_name hN hi hx hf) fun v σ H Q ⟨F, δ, y, g, hd, δ', h, k⟩ => k _ (setD_ok h g (by
    rcases hd with hd | ⟨z, _⟩
    · exact hd
    · cases z))⟩
def gNames : List Nat → TGs
  | [] => gNil
  | i :: is => gCons (gName i) (gNames is)
theorem gNames_ok {F H : Hp} : ∀ {is : List Nat} {xs : List PyData} {vs : List V} {δ δ' : Env} {σ : L2.St} {Q : L2.St → Hp → Prop}, setDs is xs δ = some δ' → Good C F H σ δ → DpAll C.K F vs xs → (∀ σ', Good C F H σ' δ' → Q σ' H) → gNames is vs σ H Q
  | [], [], vs, δ, δ', σ, Q, h, g, hd, k => by
    cases hd; cases h
    exact ⟨rfl, k σ g⟩
  | i :: is, x :: xs, vs, δ, δ', σ, Q, h, g, hd, k => by
    cases hd with
    | cons h1 h2 =>
      unfold setDs at h
      cases e : setD i x δ with
      | none =>
        rw [e] at h
        cases h
      | some δ1 =>
        rw [e] at h
        exact ⟨_, _, rfl, gNames_ok h (setD_ok e g h1) h2 k⟩
  | [], _ :: _, _, _, _, _, _, h, _, _, _ => by cases h
  | _ :: _, [], _, _, _, _, _, h, _, _, _ => by cases h
theorem gTup_ok {is : List Nat} {n : Nat} (hn : n = is.length) : ∀ v σ H Q, tTg C (.tup is) v σ H Q → gTup C.K n (gNames is) v σ H Q := fun v σ H Q ⟨F, δ, y, g, hd, δ', h, k⟩ => by
  have hd2 : ∃ a vs xs, v = .ref a ∧ y = .tuple xs ∧ SqT C.K H a vs ∧ DpAll C.K F vs xs := by
    rcases hd with hd | ⟨_, T, vs, l, e1, e2, h3, h4⟩
    · cases y with
      | tuple xs =>
        cases hd with
        | tup h1 h2 => exact ⟨_, _, _, rfl, rfl, Evl.ex_t g.fh h1, h2⟩
      | _ => cases h
    · exact ⟨T, vs, l, e1, e2, Evl.st_of h3, h4⟩
  obtain ⟨a, vs, xs, rfl, rfl, h1, h2⟩ := hd2
  have hl : ∀ {is : List Nat} {xs : List PyData} {δ : Env}, setDs is xs δ = some δ' → is.length = xs.length := by
        intro is
        induction is with
        | nil => intro xs δ h; cases xs with | nil => rfl | cons _ _ => cases h
        | cons i is ih =>
          intro xs δ h
          cases xs with
          | nil => cases h
          | cons x xs =>
            unfold setDs at h
            cases e : setD i x δ with
            | none =>
              rw [e] at h
              cases h
            | some δ1 => rw [e] at h; rw [List.length_cons, List.length_cons, ih h]
  exact ⟨_, _, rfl, h1, by rw [DpAll.len h2, hn]; exact (hl h).symm, gNames_ok h g h2 k⟩

/-! ### for -/
def S.loop (r : S) (k : DenS) : S := match r with
  | .nx δ => k δ
  | .cont δ => k δ
  | .brk δ => .nx δ
  | r => r
def S.ofO (o : Option Env) (k : DenS) : S := match o with
  | none => .stuck
  | some δ => k δ
def forD (tg : Tgt) (body : DenS) : List PyData → DenS
  | [], δ => .nx δ
  | x :: xs, δ => S.ofO (bindT tg x δ) fun δ1 => (body δ1).loop (forD tg body xs)
theorem loop_ok {D : Ends} {Nx : L2.St → Hp → Prop} {F : Hp} {r : S} {k : DenS} (h : PostS C Wx D F (r.loop k)) (hn : ∀ δ σ F' H', Ex F F' → Good C F' H' σ δ → PostS C Wx D F' (k δ) → Nx σ H') : PostS C Wx { D with nx := Nx, ct := Nx, bk := D.nx } F r := by
  cases r with
  | nx δ => exact fun σ F' H' e g => hn δ σ F' H' e g (PostS.mono e h)
  | cont δ => exact fun σ F' H' e g => hn δ σ F' H' e g (PostS.mono e h)
  | brk δ => exact h
  | ret w δ => exact h
  | exc c x δ => exact h
  | stuck => exact h.elim
def sFor (tg : Tgt) (it : DenI) (body : DenS) : DenS := fun δ => (it δ).to fun xs δ' => forD tg body xs δ'
theorem cs_for {tge e : Expr} {tg : Tgt} {it : DenI} {b : List Stmt} {body : DenS} {pos : Pos} (hp : PassesOwn (model X.prog X.w) X.A X.env X.xe) (hc : X.calm = true) (hi : CI C Wx X tge e it) (hg : CG C X tge tg) (hb : CSs C Wx X b body) (hs : ∀ v, foldedSetIterable e X.env v = pure v := by intros; rfl) :
    CS C Wx X (.For tge e b [] pos) (sFor tg it body) := ps_imp (ps_for hp hc hi hg.2 hb hs) fun D σ H ⟨F, δ, g, q⟩ =>
  ⟨F, δ, g, Post.imp (fun ds δ1 F1 H1 _ g1 q1 J hJ => by
    refine ⟨fun i m σ H => m = ds.length - i ∧ i ≤ ds.length ∧ ∃ F2 δ2, Ex F1 F2 ∧ Good C F2 H σ δ2 ∧ PostS C Wx D F2 (forD tg body (ds.drop i) δ2), ⟨_, rfl, Nat.zero_le _, F1, δ1, Ex.refl F1, g1, q1⟩, ?_⟩
    rintro i m σ H ⟨rfl, hi, F2, δ2, e2, g2, q2⟩
    obtain ⟨w1, w2, w3⟩ := hJ C rfl F2 H σ δ2 e2 g2
    by_cases hlt : i < ds.length
    · refine .inr ⟨w1 i hlt, fun σ' H' => i + 1 ≤ ds.length ∧ ∃ F3 δ3, Ex F1 F3 ∧ Good C F3 H' σ' δ3 ∧ PostS C Wx D F3 (forD tg body (ds.drop (i + 1)) δ3), fun σ' H' ⟨k1, k2⟩ => ⟨_, by omega, rfl, k1, k2⟩, fun x H' y => ?_⟩
      obtain ⟨F3, e3, g3, d, hd, hx⟩ := w3 i x H' hlt y
      have ed : ds.drop i = d :: ds.drop (i + 1) := by
        rw [List.drop_eq_getElem_cons (h := hlt)]
        rw [List.getElem?_eq_getElem hlt] at hd
        rw [Option.some.inj hd]
      rw [ed] at q2
      have q3 := PostS.mono e3 q2
      unfold forD at q3
      cases eb : bindT tg d δ2 with
      | none => rw [eb] at q3; exact q3.elim
      | some δ3 =>
        rw [eb] at q3
        rw [hg.1] at hx
        exact ⟨F3, δ2, d, g3, hx, δ3, eb, fun σ' g' => ⟨F3, δ3, g', loop_ok q3 fun δ4 σ4 F4 H4 e4 g4 q4 => ⟨hlt, F4, δ4, (e2.trans e3).trans e4, g4, q4⟩⟩⟩
    · have e : i = ds.length := by omega
      subst e
      refine .inl ⟨w2, ?_⟩
      rw [List.drop_length] at q2
      exact q2 σ F2 H (Ex.refl F2) g2) (Post.to q)⟩

/-! ### while -/
def whileD (c : DenB) (body : DenS) : Nat → DenS
  | 0, _ => .stuck
  | n + 1, δ => (c δ).to fun b δ1 => if b = true then (body δ1).loop (whileD c body n) else .nx δ1
theorem cs_while {ce : Expr} {c : DenB} {b : List Stmt} {body : DenS} {pos : Pos} (n : Nat) (hp : PassesOwn (model X.prog X.w) X.A X.env X.xe) (hc : CT C Wx X ce c) (hb : CSs C Wx X b body) :
    CS C Wx X (.While ce b [] pos) (whileD c body n) := ps_imp (ps_while hp hc hb) fun D σ H ⟨F, δ, g, q⟩ => by
  refine ⟨fun m σ H => ∃ F δ, Good C F H σ δ ∧ PostS C Wx D F (whileD c body m δ), ⟨n, F, δ, g, q⟩, ?_⟩
  rintro m σ H ⟨F1, δ1, g1, q1⟩
  cases m with
  | zero => exact q1.elim
  | succ m =>
    unfold whileD at q1
    refine ⟨F1, δ1, g1, Post.imp (fun b δ2 F2 H2 e2 g2 q2 => ?_) (Post.to q1)⟩
    cases b with
    | false => exact q2 σ F2 H2 (Ex.refl F2) g2
    | true =>
      refine ⟨fun σ' H' => ∃ F δ, Good C F H' σ' δ ∧ PostS C Wx D F (whileD c body m δ), fun σ' H' h => ⟨m, Nat.lt_succ_self m, h⟩, F2, δ2, g2, ?_⟩
      rw [if_pos rfl] at q2
      exact loop_ok q2 fun δ4 σ4 F4 H4 e4 g4 q4 => ⟨F4, δ4, g4, q4⟩

/-! ### stores -/
/-- x += e: x data -/
def sAug (f : List PyData → Option PyData) (i : Nat) (a : DenA) : DenS := fun δ => match δ[i]? with
  | some (some (.d x)) => (a δ).to fun y δ' => (app f [.v x, y] δ').to fun z δ2 => if isBor δ2 i then .stuck else .nx (δ2.set i (some (.d z)))
  | _ => .stuck
theorem cs_aug {i : Nat} {x : Str} {e : Expr} {op : Operator} {ti : TIp} {f : List PyData → Option PyData} {a : DenA} {pos' pos : Pos} (hN : X.N.Nodup) (hi : X.N[i]? = some x) (hx : Loc X.env.scope x) (he : CEA C Wx X e a) (ho : PIp X op ti)
    (hr : RD C (fun vs H Q => ∃ x y, vs = [x, y] ∧ ti x y H Q) f)
    (hf : X.fn x = true ∨ X.env.scope.names.lookup x = some .local := by first | exact .inl rfl | exact .inr rfl | assumption) : CS C Wx X (.AugAssign (.Name x pos') op e pos) (sAug f i a) :=
  ps_imp (ps_aug hN hi hx he ho hf) fun D σ H ⟨F, δ, g, q⟩ => by
    unfold sAug at q
    split at q
    · rename_i y ey
      obtain ⟨v, h1, h2⟩ := g.getD ey
      refine ⟨v, h1, F, δ, g, Post.imp (fun b δ1 F1 H1 e1 g1 q1 u hu => ?_) (Post.to q)⟩
      have q2 := Post.to (σ := σ) q1
      obtain ⟨x', y', e, h⟩ := app_ok (Wx := Wx) (Q := fun z H2 => D.nx (σ.set i (some z)) H2) hr g1 (.cons (.v (Dp.ex h2 e1)) (.cons hu .nil)) (Post.imp (fun z δ2 F2 H2 e2 g2 q3 w hw => by
        cases eb : isBor δ2 i with
        | true => rw [eb] at q3; exact q3.elim
        | false =>
          rw [eb] at q3
          exact q3 _ F2 H2 (Ex.refl F2) (GoodT.set (g2.tmpD hw) g2.len (isBor_no eb) g2.iolt)) q2)
      cases e
      exact h
    · exact q.elim
end
end Mir

namespace Mir
open PySem.Spec PySem L2 PyProof.Rows
open Evl (Ex)
section
variable {C : Ct} {Wx : WX} {X : Cx} {F H : Hp} {σ : L2.St} {δ : Env}
/-! ### what is known of an argument -/
theorem dpt_int {K : PySem.W.Frag} {v : V} {i : Int} (h : DpT K F H v (.int i)) : v = .int i := by
  rcases h with h | ⟨_, _, _, _, e, _⟩
  · cases h; rfl
  · cases e
theorem dpt_bl {K : PySem.W.Frag} {v : V} {i : Bool} (h : DpT K F H v (.bool i)) : v = .bl i := by
  rcases h with h | ⟨_, _, _, _, e, _⟩
  · cases h; rfl
  · cases e
theorem dpt_str {K : PySem.W.Frag} {v : V} {i : Str} (h : DpT K F H v (.str i)) : v = .str i := by
  rcases h with h | ⟨_, _, _, _, e, _⟩
  · cases h; rfl
  · cases e
theorem dpt_non {K : PySem.W.Frag} {v : V} (h : DpT K F H v .none) : v = .non := by
  rcases h with h | ⟨_, _, _, _, e, _⟩
  · cases h; rfl
  · cases e
theorem dpt_list {K : PySem.W.Frag} {v : V} {l : List PyData} (h : DpT K F H v (.list l)) (e : Ex F H) : ∃ p xs, v = .ref p ∧ SqL K H p xs ∧ DpAll K F xs l := by
  rcases h with h | ⟨p, xs, l', rfl, e2, hp, hd⟩
  · cases h with | lst h1 h2 => exact ⟨_, _, rfl, Evl.ex_l e h1, h2⟩
  · cases e2; exact ⟨p, xs, rfl, Evl.sq_of hp, hd⟩
theorem dpt_tup {K : PySem.W.Frag} {v : V} {l : List PyData} (h : DpT K F H v (.tuple l)) (e : Ex F H) : ∃ p xs, v = .ref p ∧ SqT K H p xs ∧ DpAll K F xs l := by
  rcases h with h | ⟨p, xs, l', rfl, e2, hp, hd⟩
  · cases h with | tup h1 h2 => exact ⟨_, _, rfl, Evl.ex_t e h1, h2⟩
  · cases e2
theorem dpt_ex {K : PySem.W.Frag} {v : V} {x : PyData} (h : DpT K F H v x) (e : Ex F H) : Dp K H v x := by
  rcases h with h | ⟨p, xs, l', rfl, rfl, hp, hd⟩
  · exact (dp_mono e x v h).1
  · exact .lst (Evl.sq_of hp) (by
      exact DpAll.ex hd e)
theorem dpts1 {K : PySem.W.Frag} {vs : List V} {x : PyData} (h : DpTs K F H vs [x]) : ∃ v, vs = [v] ∧ DpT K F H v x := by
  match vs, h with
  | [v], h => exact ⟨v, rfl, h.1⟩
theorem dpts2 {K : PySem.W.Frag} {vs : List V} {x y : PyData} (h : DpTs K F H vs [x, y]) : ∃ v u, vs = [v, u] ∧ DpT K F H v x ∧ DpT K F H u y := by
  match vs, h with
  | [v, u], h => exact ⟨v, u, rfl, h.1, h.2.1⟩

/-! ### numbers -/
def fI2 (p : Int → Int → Bool) (g : Int → Int → PyData) : List PyData → Option PyData
  | [.int i, .int j] => if p i j then some (g i j) else none
  | _ => none
def yes : Int → Int → Bool := fun _ _ => true
theorem rd_I0 {g : Int → Int → V} {g' : Int → Int → PyData} (hg : ∀ i j F, Dp C.K F (g i j) (g' i j)) : RD C (fun vs H Q => ∃ x y, vs = [x, y] ∧ rI0 g x y H Q) (fI2 yes g') := by
  intro xs z hz F H σ δ vs Q gd hd q
  unfold fI2 at hz
  split at hz
  · rename_i i j
    cases hz
    obtain ⟨v, u, rfl, h1, h2⟩ := dpts2 hd
    exact ⟨v, u, rfl, i, j, dpt_int h1, dpt_int h2, q _ F H (Ex.refl F) gd (hg i j F)⟩
  · cases hz
theorem rd_I {P : Int → Int → Prop} {p : Int → Int → Bool} {g : Int → Int → V} {g' : Int → Int → PyData} (hp : ∀ i j, p i j = true → P i j) (hg : ∀ i j F, Dp C.K F (g i j) (g' i j)) : RD C (fun vs H Q => ∃ x y, vs = [x, y] ∧ rI P g x y H Q) (fI2 p g') := by
  intro xs z hz F H σ δ vs Q gd hd q
  unfold fI2 at hz
  split at hz
  · rename_i i j
    split at hz
    · rename_i hc
      cases hz
      obtain ⟨v, u, rfl, h1, h2⟩ := dpts2 hd
      exact ⟨v, u, rfl, i, j, dpt_int h1, dpt_int h2, hp i j hc, q _ F H (Ex.refl F) gd (hg i j F)⟩
    · cases hz
  · cases hz
def fAdd := fI2 yes fun i j => .int (i + j)
def fSub := fI2 yes fun i j => .int (i - j)
def b64 (i : Int) : Bool := decide (-18446744073709551616 < i) && decide (i < 18446744073709551616)
def fMul := fI2 (fun i j => b64 i || b64 j) fun i j => .int (i * j)
def fMod := fI2 (fun _ j => decide (0 < j)) fun i j => .int (i % j)
def fPow := fI2 (fun i j => decide (0 ≤ j) && decide (j ≤ 1000) && decide (i.natAbs < 18446744073709551616)) fun i j => .int (i ^ j.toNat)
def fLt := fI2 yes fun i j => .bool (decide (i < j))
def fLe := fI2 yes fun i j => .bool (decide (i ≤ j))
def fGt := fI2 yes fun i j => .bool (decide (j < i))
def fGe := fI2 yes fun i j => .bool (decide (j ≤ i))
theorem rd_add : RD C (fun vs H Q => ∃ x y, vs = [x, y] ∧ rI0 (fun i j => .int (i + j)) x y H Q) fAdd := rd_I0 fun _ _ _ => .int _
theorem rd_sub : RD C (fun vs H Q => ∃ x y, vs = [x, y] ∧ rI0 (fun i j => .int (i - j)) x y H Q) fSub := rd_I0 fun _ _ _ => .int _
theorem b64_ok {i : Int} (h : b64 i = true) : -(2 ^ 64) < i ∧ i < 2 ^ 64 := by
  unfold b64 at h
  simp only [decide_eq_true_eq, Bool.and_eq_true] at h
  exact ⟨by omega, by omega⟩
theorem rd_mul : RD C (fun vs H Q => ∃ x y, vs = [x, y] ∧ rI CMul (fun i j => .int (i * j)) x y H Q) fMul := rd_I (fun i j h => by
  rcases Bool.or_eq_true_iff.1 h with h | h
  · exact .inl (b64_ok h)
  · exact .inr (b64_ok h)) fun _ _ _ => .int _
theorem rd_mod : RD C (fun vs H Q => ∃ x y, vs = [x, y] ∧ rI (fun _ j => 0 < j) (fun i j => .int (i % j)) x y H Q) fMod := rd_I (fun i j h => of_decide_eq_true h) fun _ _ _ => .int _
theorem rd_pow : RD C (fun vs H Q => ∃ x y, vs = [x, y] ∧ rI CPow (fun i j => .int (i ^ j.toNat)) x y H Q) fPow := rd_I (fun i j h => by
  simp only [decide_eq_true_eq, Bool.and_eq_true] at h
  exact ⟨h.1.1, by omega, by omega⟩) fun _ _ _ => .int _
theorem rd_lt : RD C (fun vs H Q => ∃ x y, vs = [x, y] ∧ rI0 (fun i j => .bl (decide (i < j))) x y H Q) fLt := rd_I0 fun _ _ _ => .bl _
theorem rd_le : RD C (fun vs H Q => ∃ x y, vs = [x, y] ∧ rI0 (fun i j => .bl (decide (i ≤ j))) x y H Q) fLe := rd_I0 fun _ _ _ => .bl _
theorem rd_gt : RD C (fun vs H Q => ∃ x y, vs = [x, y] ∧ rI0 (fun i j => .bl (decide (j < i))) x y H Q) fGt := rd_I0 fun _ _ _ => .bl _
theorem rd_ge : RD C (fun vs H Q => ∃ x y, vs = [x, y] ∧ rI0 (fun i j => .bl (decide (j ≤ i))) x y H Q) fGe := rd_I0 fun _ _ _ => .bl _
theorem rd_ipI {f : Int → Int → Int} : RD C (fun vs H Q => ∃ x y, vs = [x, y] ∧ ipI f x y H Q) (fI2 yes fun i j => .int (f i j)) := by
  intro xs z hz F H σ δ vs Q gd hd q
  unfold fI2 at hz
  split at hz
  · rename_i i j
    cases hz
    obtain ⟨v, u, rfl, h1, h2⟩ := dpts2 hd
    exact ⟨v, u, rfl, i, j, dpt_int h1, dpt_int h2, q _ F H (Ex.refl F) gd (.int _)⟩
  · cases hz
def fNeg : List PyData → Option PyData
  | [.int i] => some (.int (-i))
  | _ => none
theorem rd_neg : RD C (fun vs H Q => ∃ x, vs = [x] ∧ rU (fun i => .int (-i)) x H Q) fNeg := by
  intro xs z hz F H σ δ vs Q gd hd q
  unfold fNeg at hz
  split at hz
  · rename_i i
    cases hz
    obtain ⟨v, rfl, h1⟩ := dpts1 hd
    exact ⟨v, rfl, i, dpt_int h1, q _ F H (Ex.refl F) gd (.int _)⟩
  · cases hz
def fAbs : List PyData → Option PyData
  | [.int i] => some (.int (if i < 0 then -i else i))
  | _ => none
theorem rd_abs : RD C (fun xs H Q => ∃ i, xs = [.int i] ∧ Q (.int (if i < 0 then -i else i)) H) fAbs := by
  intro xs z hz F H σ δ vs Q gd hd q
  unfold fAbs at hz
  split at hz
  · rename_i i
    cases hz
    obtain ⟨v, rfl, h1⟩ := dpts1 hd
    exact ⟨i, by rw [dpt_int h1], q _ F H (Ex.refl F) gd (.int _)⟩
  · cases hz
def fMax2 : List PyData → Option PyData
  | [.int i, .int j] => some (.int (if j > i then j else i))
  | _ => none
def fMin2 : List PyData → Option PyData
  | [.int i, .int j] => some (.int (if j < i then j else i))
  | _ => none
theorem rd_max2 : RD C (fun xs H Q => ∃ i j, xs = [.int i, .int j] ∧ Q (.int (if j > i then j else i)) H) fMax2 := by
  intro xs z hz F H σ δ vs Q gd hd q
  unfold fMax2 at hz
  split at hz
  · rename_i i j
    cases hz
    obtain ⟨v, u, rfl, h1, h2⟩ := dpts2 hd
    exact ⟨i, j, by rw [dpt_int h1, dpt_int h2], q _ F H (Ex.refl F) gd (.int _)⟩
  · cases hz
theorem rd_min2 : RD C (fun xs H Q => ∃ i j, xs = [.int i, .int j] ∧ Q (.int (if j < i then j else i)) H) fMin2 := by
  intro xs z hz F H σ δ vs Q gd hd q
  unfold fMin2 at hz
  split at hz
  · rename_i i j
    cases hz
    obtain ⟨v, u, rfl, h1, h2⟩ := dpts2 hd
    exact ⟨i, j, by rw [dpt_int h1, dpt_int h2], q _ F H (Ex.refl F) gd (.int _)⟩
  · cases hz
def fInt : List PyData → Option PyData
  | [.int i] => some (.int i)
  | _ => none
theorem rd_int : RD C (fun xs H Q => (∃ i, xs = [.int i] ∧ Q (.int i) H) ∨ ∃ k, xs = [.bl k] ∧ Q (.int (if k then 1 else 0)) H) fInt := by
  intro xs z hz F H σ δ vs Q gd hd q
  unfold fInt at hz
  split at hz
  · rename_i i
    cases hz
    obtain ⟨v, rfl, h1⟩ := dpts1 hd
    exact .inl ⟨i, by rw [dpt_int h1], q _ F H (Ex.refl F) gd (.int _)⟩
  · cases hz
/-! ### equality -/
def scalD : PyData → PyData → Bool
  | .list _, _ => false
  | .tuple _, _ => false
  | .dict _, _ => false
  | _, .list _ => false
  | _, .tuple _ => false
  | _, .dict _ => false
  | _, _ => true
def okEq (x y : PyData) : Bool := SeqAt.shaped x && SeqAt.shaped y
def fEq : List PyData → Option PyData
  | [x, y] => if okEq x y then some (.bool (PyData.eqv x y)) else none
  | _ => none
def fNe : List PyData → Option PyData
  | [x, y] => if okEq x y then some (.bool (!PyData.eqv x y)) else none
  | _ => none
theorem rd_eq : RD C (fun vs H Q => ∃ x y, vs = [x, y] ∧ rEqD C.K x y H Q) fEq := by
  intro xs z hz F H σ δ vs Q gd hd q
  unfold fEq at hz
  split at hz
  · rename_i x y
    split at hz
    · rename_i hc
      cases hz
      unfold okEq at hc
      rw [Bool.and_eq_true] at hc
      obtain ⟨v, u, rfl, h1, h2⟩ := dpts2 hd
      exact ⟨v, u, rfl, x, y, dpt_ex h1 gd.fh, dpt_ex h2 gd.fh, hc.1, hc.2, q _ F H (Ex.refl F) gd (.bl _)⟩
    · cases hz
  · cases hz
theorem rd_ne : RD C (fun vs H Q => ∃ x y, vs = [x, y] ∧ rNeD C.K x y H Q) fNe := by
  intro xs z hz F H σ δ vs Q gd hd q
  unfold fNe at hz
  split at hz
  · rename_i x y
    split at hz
    · rename_i hc
      cases hz
      unfold okEq at hc
      rw [Bool.and_eq_true] at hc
      obtain ⟨v, u, rfl, h1, h2⟩ := dpts2 hd
      exact ⟨v, u, rfl, x, y, dpt_ex h1 gd.fh, dpt_ex h2 gd.fh, hc.1, hc.2, q _ F H (Ex.refl F) gd (.bl _)⟩
    · cases hz
  · cases hz
/-- is None -/
def fIsN : List PyData → Option PyData
  | [.none, .none] => some (.bool true)
  | [_, .none] => some (.bool false)
  | _ => none
def fNotN : List PyData → Option PyData
  | [.none, .none] => some (.bool false)
  | [_, .none] => some (.bool true)
  | _ => none
theorem ne_non {K : PySem.W.Frag} {v : V} {x : PyData} (h : DpT K F H v x) (hx : x ≠ .none) : v ≠ .non := by
  rintro rfl
  rcases h with h | ⟨_, _, _, e, _⟩
  · cases h; exact hx rfl
  · cases e
theorem rd_isN : RD C (fun vs H Q => ∃ x y, vs = [x, y] ∧ y = .non ∧ Q (.bl (decide (x = .non))) H) fIsN := by
  intro xs z hz F H σ δ vs Q gd hd q
  unfold fIsN at hz
  split at hz
  · cases hz
    obtain ⟨v, u, rfl, h1, h2⟩ := dpts2 hd
    refine ⟨v, u, rfl, dpt_non h2, ?_⟩
    rw [dpt_non h1]
    exact q _ F H (Ex.refl F) gd (.bl _)
  · rename_i x hx
    cases hz
    obtain ⟨v, u, rfl, h1, h2⟩ := dpts2 hd
    refine ⟨v, u, rfl, dpt_non h2, ?_⟩
    rw [decide_eq_false (ne_non h1 fun z => hx z)]
    exact q _ F H (Ex.refl F) gd (.bl _)
  · cases hz
theorem rd_notN : RD C (fun vs H Q => ∃ x y, vs = [x, y] ∧ y = .non ∧ Q (.bl (!decide (x = .non))) H) fNotN := by
  intro xs z hz F H σ δ vs Q gd hd q
  unfold fNotN at hz
  split at hz
  · cases hz
    obtain ⟨v, u, rfl, h1, h2⟩ := dpts2 hd
    refine ⟨v, u, rfl, dpt_non h2, ?_⟩
    rw [dpt_non h1]
    exact q _ F H (Ex.refl F) gd (.bl _)
  · rename_i x hx
    cases hz
    obtain ⟨v, u, rfl, h1, h2⟩ := dpts2 hd
    refine ⟨v, u, rfl, dpt_non h2, ?_⟩
    rw [decide_eq_false (ne_non h1 fun z => hx z)]
    exact q _ F H (Ex.refl F) gd (.bl _)
  · cases hz
/-! ### lists and tuples -/
def fLen : List PyData → Option PyData
  | [.list l] => some (.int l.length)
  | [.tuple l] => some (.int l.length)
  | _ => none
theorem rd_len : RD C (fun xs H Q => ∃ p ys, xs = [.ref p] ∧ (SqL C.K H p ys ∨ SqT C.K H p ys) ∧ Q (.int ys.length) H) fLen := by
  intro xs z hz F H σ δ vs Q gd hd q
  unfold fLen at hz
  split at hz
  · cases hz
    obtain ⟨v, rfl, h1⟩ := dpts1 hd
    obtain ⟨p, ys, rfl, h2, h3⟩ := dpt_list h1 gd.fh
    exact ⟨p, ys, rfl, .inl h2, by rw [DpAll.len h3]; exact q _ F H (Ex.refl F) gd (.int _)⟩
  · cases hz
    obtain ⟨v, rfl, h1⟩ := dpts1 hd
    obtain ⟨p, ys, rfl, h2, h3⟩ := dpt_tup h1 gd.fh
    exact ⟨p, ys, rfl, .inr h2, by rw [DpAll.len h3]; exact q _ F H (Ex.refl F) gd (.int _)⟩
  · cases hz
def fIx : List PyData → Option PyData
  | [.list l, .int i] => atI l i
  | [.tuple l, .int i] => atI l i
  | _ => none
theorem atI_dp {K : PySem.W.Frag} {F : Hp} {xs : List V} {l : List PyData} {i : Int} {z : PyData} (hd : DpAll K F xs l) (h : atI l i = some z) : ∃ v, atI xs i = some v ∧ Dp K F v z := by
  unfold atI at h ⊢
  have hl : xs.length = l.length := DpAll.len hd
  rw [hl]
  cases e : ixN l.length i with
  | none =>
    rw [e] at h
    cases h
  | some j =>
    rw [e] at h
    exact DpAll.get hd j z h
theorem rd_ix : RD C (fun vs H Q => ∃ x y, vs = [x, y] ∧ rIx C.K x y H Q) fIx := by
  intro xs z hz F H σ δ vs Q gd hd q
  unfold fIx at hz
  split at hz
  · obtain ⟨v, u, rfl, h1, h2⟩ := dpts2 hd
    obtain ⟨p, ys, rfl, h3, h4⟩ := dpt_list h1 gd.fh
    obtain ⟨w, h5, h6⟩ := atI_dp h4 hz
    exact ⟨_, _, rfl, .inl ⟨p, ys, _, w, rfl, dpt_int h2, h3, h5, q _ F H (Ex.refl F) gd h6⟩⟩
  · obtain ⟨v, u, rfl, h1, h2⟩ := dpts2 hd
    obtain ⟨p, ys, rfl, h3, h4⟩ := dpt_tup h1 gd.fh
    obtain ⟨w, h5, h6⟩ := atI_dp h4 hz
    exact ⟨_, _, rfl, .inr (.inl ⟨p, ys, _, w, rfl, dpt_int h2, h3, h5, q _ F H (Ex.refl F) gd h6⟩)⟩
  · cases hz
theorem ce_ix {a b : Expr} {da db : DenA} {pos : Pos} (hK : X.K = C.K) (ha : CEA C Wx X a da) (hb : CEA C Wx X b db) (hs : PlainIx b := by exact fun _ _ => rfl) : CE C Wx X (.Subscript a b pos) (dOp2 fIx da db) :=
  pe_imp (pe_ix ix_seq ha hb hs) (by rw [hK]; exact tOp_ok rd_ix)
/-- tuple(x) -/
def fTuple : List PyData → Option PyData
  | [.list l] => some (.tuple l)
  | [.tuple l] => some (.tuple l)
  | _ => none
theorem rd_tuple : RD C (fun xs H Q => ∃ p ys, xs = [.ref p] ∧ ((SqL C.K H p ys ∧ ∀ l us, H l = none → Q (.ref l) (upd H l (tX us ys))) ∨ (SqT C.K H p ys ∧ Q (.ref p) H))) fTuple := by
  intro xs z hz F H σ δ vs Q gd hd q
  unfold fTuple at hz
  split at hz
  · cases hz
    obtain ⟨v, rfl, h1⟩ := dpts1 hd
    obtain ⟨p, ys, rfl, h2, h3⟩ := dpt_list h1 gd.fh
    refine ⟨p, ys, rfl, .inl ⟨h2, fun l us hl => q _ _ _ (Ex.new (gd.new0 hl).1) (gd.grow hl rfl) (.tup stX (DpAll.ex h3 (Ex.new (gd.new0 hl).1)))⟩⟩
  · cases hz
    obtain ⟨v, rfl, h1⟩ := dpts1 hd
    rcases h1 with h1 | ⟨_, _, _, _, e, _⟩
    · cases h1 with
      | tup h2 h3 => exact ⟨_, _, rfl, .inr ⟨Evl.ex_t gd.fh h2, q _ F H (Ex.refl F) gd (.tup h2 h3)⟩⟩
    · cases e
  · cases hz
end
end Mir

namespace Mir
open PySem.Spec PySem L2 PyProof.Rows
open Evl (Ex)
/-- what a def tells: its value and its borrowed list behind it -/
inductive RF where
  | ok (w : W) (io : List PyData)
  | exc (c : Nat) (x : PyData) (io : List PyData)
  | stuck
def New (F F' H : Hp) : Prop := (∀ a, F' a ≠ none → F a = none → H a = none) ∧ (Xt F → Xt F')
theorem New.refl (F H : Hp) : New F F H := ⟨fun _ h1 h2 => absurd h2 h1, id⟩
def KT (S : Sg) (H H' : Hp) : Prop := KeptAll H H' ∧ LamX.Tabs S.T H'
def KTB (S : Sg) (p : Addr) (H H' : Hp) : Prop := (∀ a o, H a = some o → a ≠ p → ∃ o', H' a = some o' ∧ Kept o o') ∧ LamX.Tabs S.T H'
/-- a def without borrowed lists -/
def SpPP (Z : Hp → Prop) (S : Sg) (n : Nat) (den : List W → RF) : Sp := fun vs H Q E => vs.length = n ∧ ∃ F ws, Z F ∧ Ex F H ∧ LamX.Tabs S.T H ∧ TabF S.T F ∧ vs.length = ws.length ∧ (∀ (j : Nat) v w, vs[j]? = some v → ws[j]? = some w → RepP S F H v w) ∧
  match den ws with
  | .ok w _ => ∀ v F' H' ps, Ex F F' → Ex F' H' → New F F' H → KT S H H' → RepW S F' H' v w ps → ps.Nodup → (∀ q ∈ ps, F' q = none ∧ H q = none) → Q v H'
  | .exc c x _ => ∀ F' H' dx v, Ex F F' → Ex F' H' → New F F' H → KT S H H' → F' dx = some (.xd [(S.fld c, v)]) → Dp S.K F' v x → E (.ref (S.cls c)) (some dx) H'
  | .stuck => False
/-- the same, whatever is handed over -/
def SpW (Z : Hp → Prop) (S : Sg) (n : Nat) (den : List W → RF) : Sp := fun vs H Q E => vs.length = n ∧ ∃ F ws, Z F ∧ Ex F H ∧ LamX.Tabs S.T H ∧ TabF S.T F ∧ vs.length = ws.length ∧ (∀ (j : Nat) v w, vs[j]? = some v → ws[j]? = some w → RepW S F H v w []) ∧
  match den ws with
  | .ok w _ => ∀ v F' H' ps, Ex F F' → Ex F' H' → New F F' H → KT S H H' → RepW S F' H' v w ps → ps.Nodup → (∀ q ∈ ps, F' q = none ∧ H q = none) → Q v H'
  | .exc c x _ => ∀ F' H' dx v, Ex F F' → Ex F' H' → New F F' H → KT S H H' → F' dx = some (.xd [(S.fld c, v)]) → Dp S.K F' v x → E (.ref (S.cls c)) (some dx) H'
  | .stuck => False
abbrev SpP (S : Sg) (n : Nat) (den : List W → RF) : Sp := SpPP (fun _ => True) S n den
/-- a def whose parameter k is a borrowed list (d false) or dict (d true) -/
def SpBB (Z : Hp → Prop) (S : Sg) (n k : Nat) (d : Bool) (den : List W → RF) : Sp := fun vs H Q E => vs.length = n ∧ ∃ F ws p o l, Z F ∧ Ex F H ∧ LamX.Tabs S.T H ∧ TabF S.T F ∧ vs.length = ws.length ∧ vs[k]? = some (.ref p) ∧ ws[k]? = some (.bx d l) ∧ H p = some o ∧ F p = none ∧ Cell S.K F d o l ∧
  (∀ (j : Nat) v w, j ≠ k → vs[j]? = some v → ws[j]? = some w → RepP S F H v w) ∧
  match den ws with
  | .ok w l' => ∀ v F' H' o' ps, Ex F F' → Ex F' H' → New F F' H → KTB S p H H' → H' p = some o' → Cell S.K F' d o' l' → F' p = none → RepW S F' H' v w ps → ps.Nodup → (∀ q ∈ ps, F' q = none ∧ H q = none) → Q v H'
  | .exc c x l' => ∀ F' H' o' dx v, Ex F F' → Ex F' H' → New F F' H → KTB S p H H' → H' p = some o' → Cell S.K F' d o' l' → F' p = none → F' dx = some (.xd [(S.fld c, v)]) → Dp S.K F' v x → E (.ref (S.cls c)) (some dx) H'
  | .stuck => False
abbrev SpB (S : Sg) (n k : Nat) (den : List W → RF) : Sp := SpBB (fun _ => True) S n k false den
abbrev SpD (S : Sg) (n k : Nat) (den : List W → RF) : Sp := SpBB (fun _ => True) S n k true den
/-! ### a body's run -/
def envOf (n : Nat) (ws : List W) : Env := ws.map some ++ List.replicate (n - ws.length) none
def ioAt (k : Nat) (δ : Env) : Option (List PyData) := match δ[k]? with
  | some (some (.bor l)) => some l
  | some (some (.bod l)) => some l
  | _ => none
def ioOf : Option Nat → Env → Option (List PyData)
  | none, _ => some []
  | some k, δ => ioAt k δ
def RF.fin : Option (List PyData) → W → RF
  | some l, .d x => .ok (.d x) l
  | some l, .own x => .ok (.own x) l
  | some l, .dct x => .ok (.dct x) l
  | _, _ => .stuck
def RF.fexc (c : Nat) (x : PyData) : Option (List PyData) → RF
  | some l => .exc c x l
  | none => .stuck
def S.toRF (io : Option Nat) : S → RF
  | .nx δ => .fin (ioOf io δ) (.d .none)
  | .ret w δ => .fin (ioOf io δ) w
  | .exc c x δ => .fexc c x (ioOf io δ)
  | _ => .stuck
def runF (n : Nat) (io : Option Nat) (body : DenS) (ws : List W) : RF := (body (envOf n ws)).toRF io

theorem repS_start {S : Sg} {F H : Hp} : ∀ {vs : List V} {ws : List W} (n : Nat), vs.length = ws.length → (∀ (j : Nat) v w, vs[j]? = some v → ws[j]? = some w → RepW S F H v w []) →
    RepS S F H (vs.map some ++ List.replicate n none) (ws.map some ++ List.replicate n none) (List.replicate (ws.length + n) [])
  | [], [], n, _, _ => by
    induction n with
    | zero => exact .nil
    | succ n ih => 
      simp only [List.map_nil, List.nil_append, List.length_nil, Nat.zero_add, List.replicate_succ] at ih ⊢
      exact .skip ih
  | v :: vs, w :: ws, n, hl, h => by
    simp only [List.map_cons, List.cons_append, List.length_cons]
    rw [show ws.length + 1 + n = (ws.length + n) + 1 by omega, List.replicate_succ]
    exact .cons (h 0 v w rfl rfl) (repS_start n (by simpa using hl) fun j v w e1 e2 => h (j + 1) v w (by simpa using e1) (by simpa using e2))
  | [], _ :: _, _, hl, _ => by simp at hl
  | _ :: _, [], _, hl, _ => by simp at hl
theorem flat_nil : ∀ n : Nat, (List.replicate n ([] : List Addr)).flatten = []
  | 0 => rfl
  | n + 1 => by rw [List.replicate_succ, List.flatten_cons, flat_nil n]; rfl
theorem rep_bx {S : Sg} {F H : Hp} {p : Addr} {d : Bool} {o : HO} {l : List PyData} (hp : H p = some o) (h : Cell S.K F d o l) : RepW S F H (.ref p) (.bx d l) [p] := by
  cases d with
  | false => obtain ⟨_, rfl, h⟩ := h; exact .bor hp h
  | true => obtain ⟨_, rfl, h⟩ := h; exact .bod hp h
theorem repS_startB {S : Sg} {F H : Hp} {p : Addr} {d : Bool} {l : List PyData} : ∀ {vs : List V} {ws : List W} (k n : Nat), vs.length = ws.length → vs[k]? = some (.ref p) → ws[k]? = some (.bx d l) → RepW S F H (.ref p) (.bx d l) [p] → (∀ (j : Nat) v w, j ≠ k → vs[j]? = some v → ws[j]? = some w → RepW S F H v w []) →
    ∃ ps, RepS S F H (vs.map some ++ List.replicate n none) (ws.map some ++ List.replicate n none) ps ∧ ps.flatten = [p]
  | v :: vs, w :: ws, 0, n, hl, e1, e2, hp, h => by
    simp at e1 e2
    subst e1 e2
    refine ⟨[p] :: List.replicate (ws.length + n) [], .cons hp (repS_start n (by simpa using hl) fun j v w e1 e2 => h (j + 1) v w (by omega) (by simpa using e1) (by simpa using e2)), ?_⟩
    rw [List.flatten_cons, flat_nil]; rfl
  | v :: vs, w :: ws, k + 1, n, hl, e1, e2, hp, h => by
    obtain ⟨ps, r, e⟩ := repS_startB k n (by simpa using hl) (by simpa using e1) (by simpa using e2) hp fun j v w hj a b => h (j + 1) v w (by omega) (by simpa using a) (by simpa using b)
    exact ⟨[] :: ps, .cons (h 0 v w (by omega) rfl rfl) r, by rw [List.flatten_cons, e]; rfl⟩
  | [], _, _, _, _, e1, _, _, _ => by simp at e1
  | _ :: _, [], _, _, hl, _, _, _, _ => by simp at hl

/-- the wish of a def's caller -/
def wishOf (E : XK) : WX := fun cls d _ H => E cls d H
section
variable {P : Program} {w : World} {K : PySem.W.Frag} {mg : Str → Option Value} {base : Heap} {S : Sg}
/-- a body's reading gives the def's promise -/
theorem body_pureW {Z : Hp → Prop} {N : List Str} {n : Nat} {body : DenS} {vs : List V} {H : Hp} {Q : VK} {E : XK} (h : SpW Z S n (runF N.length none body) vs H Q E) :
    ∃ C : Ct, C.toSg = S ∧ C.io = [] ∧ C.H0 = H ∧ Z C.F0 ∧ tS C (wishOf E) body { nx := fun _ H' => Q .non H', rt := Q } (start N vs) H := by
  obtain ⟨_, F, ws, hZ, ex, tb0, tf0, hl, ha, q⟩ := h
  refine ⟨⟨S, H, F, [], false⟩, rfl, rfl, rfl, hZ, F, envOf N.length ws, ⟨Ex.refl F, ex, tb0, tf0, fun a h1 h2 => absurd h2 h1, fun a o e => ⟨o, e, fun _ => .inl rfl⟩, fun i a h => (by cases h), ?_⟩, ?_⟩
  · have r := repS_start (S := S) (F := F) (H := H) (N.length - ws.length) hl ha
    refine ⟨List.replicate (ws.length + (N.length - ws.length)) [], ?_, by rw [flat_nil]; exact .nil, fun p hp => by rw [flat_nil] at hp; cases hp⟩
    show RepS S F H (vs.map some ++ List.replicate (N.length - vs.length) none) (envOf N.length ws) _
    rw [hl]
    exact r
  · have ioE : ∀ δ, ioOf none δ = some [] := fun _ => rfl
    unfold runF at q
    cases e : body (envOf N.length ws) with
    | nx δ =>
      rw [e] at q
      intro σ F' H' e' g
      exact q .non F' H' [] e' g.fh ⟨fun a h1 h2 => g.fr a h1 h2, fun _ => g.tf.2⟩ ⟨fun a o h => by
        obtain ⟨o', h1, h2⟩ := g.kp a o h
        exact ⟨o', h1, h2 (by simp [Ct.ioA])⟩, g.tb⟩ (.d .non) .nil (fun q hq => by cases hq)
    | ret w δ =>
      rw [e] at q
      intro σ v F' H' e' g hlen hio
      obtain ⟨ps, r, nd, fr⟩ := g.sl
      obtain ⟨qs, p, rfl, a, b⟩ := r.unsnoc
      have kp : KT S H H' := ⟨fun a o h => by
        obtain ⟨o', h1, h2⟩ := g.kp a o h
        exact ⟨o', h1, h2 (by simp [Ct.ioA])⟩, g.tb⟩
      have fp : ∀ q ∈ p, F' q = none ∧ H q = none := fun q hq => by
        obtain ⟨z1, z2⟩ := fr q (by rw [List.flatten_append, List.mem_append]; exact .inr (by simpa using hq))
        exact ⟨z1, z2.resolve_right (by simp [Ct.ioA])⟩
      cases w with
      | d x => exact q v F' H' p e' g.fh ⟨fun a h1 h2 => g.fr a h1 h2, fun _ => g.tf.2⟩ kp b b.there.1 fp
      | own l => exact q v F' H' p e' g.fh ⟨fun a h1 h2 => g.fr a h1 h2, fun _ => g.tf.2⟩ kp b b.there.1 fp
      | dct l => exact q v F' H' p e' g.fh ⟨fun a h1 h2 => g.fr a h1 h2, fun _ => g.tf.2⟩ kp b b.there.1 fp
      | _ => exact q.elim
    | exc c x δ =>
      rw [e] at q
      intro σ F' H' dx v e' g h1 h2
      exact q F' H' dx v e' g.fh ⟨fun a h1 h2 => g.fr a h1 h2, fun _ => g.tf.2⟩ ⟨fun a o h => by
        obtain ⟨o', h1, h2⟩ := g.kp a o h
        exact ⟨o', h1, h2 (by simp [Ct.ioA])⟩, g.tb⟩ h1 h2
    | brk δ => rw [e] at q; exact q.elim
    | cont δ => rw [e] at q; exact q.elim
    | stuck => rw [e] at q; exact q.elim
theorem body_pureP {Z : Hp → Prop} {N : List Str} {n : Nat} {body : DenS} {vs : List V} {H : Hp} {Q : VK} {E : XK} (h : SpPP Z S n (runF N.length none body) vs H Q E) :
    ∃ C : Ct, C.toSg = S ∧ C.io = [] ∧ C.H0 = H ∧ Z C.F0 ∧ tS C (wishOf E) body { nx := fun _ H' => Q .non H', rt := Q } (start N vs) H := by
  obtain ⟨hn, F, ws, hZ, ex, tb0, tf0, hl, ha, q⟩ := h
  exact body_pureW ⟨hn, F, ws, hZ, ex, tb0, tf0, hl, fun j v w a b => (ha j v w a b).1, q⟩
theorem body_pure {N : List Str} {n : Nat} {body : DenS} {vs : List V} {H : Hp} {Q : VK} {E : XK} (h : SpP S n (runF N.length none body) vs H Q E) :
    ∃ C : Ct, C.toSg = S ∧ C.io = [] ∧ tS C (wishOf E) body { nx := fun _ H' => Q .non H', rt := Q } (start N vs) H := by
  obtain ⟨C, h1, h2, _, _, h3⟩ := body_pureP h
  exact ⟨C, h1, h2, h3⟩
theorem body_borP {Z : Hp → Prop} {N : List Str} {n : Nat} {body : DenS} {vs : List V} {H : Hp} {Q : VK} {E : XK} {k : Nat} {d : Bool} (h : SpBB Z S n k d (runF N.length (some k) body) vs H Q E) :
    ∃ C : Ct, C.toSg = S ∧ C.H0 = H ∧ Z C.F0 ∧ tS C (wishOf E) body { nx := fun _ H' => Q .non H', rt := Q } (start N vs) H := by
  obtain ⟨_, F, ws, p, o, l, hZ, ex, tb0, tf0, hl, hv, hw, hp, hF, hd, ha, q⟩ := h
  have ioA : ∀ a, a ∈ (⟨S, H, F, [(k, p)], d⟩ : Ct).ioA ↔ a = p := fun a => by simp [Ct.ioA]
  have keep : ∀ {F' H' : Hp} {σ : L2.St} {δ : Env}, Good ⟨S, H, F, [(k, p)], d⟩ F' H' σ δ → KTB S p H H' := fun {F' H' σ δ} g => ⟨fun a o h hne => by
    obtain ⟨o', h1, h2⟩ := g.kp a o h
    exact ⟨o', h1, h2 fun z => hne ((ioA a).mp z)⟩, g.tb⟩
  have list : ∀ {F' H' : Hp} {σ : L2.St} {δ : Env} {m : List PyData}, Good ⟨S, H, F, [(k, p)], d⟩ F' H' σ δ → ioOf (some k) δ = some m → ∃ o', H' p = some o' ∧ Cell S.K F' d o' m ∧ F' p = none := fun {F' H' σ δ m} g e => by
    obtain ⟨h1, _, w', h3, hk⟩ := g.io k p (by simp)
    have e2 : ioAt k δ = some m := e
    unfold ioAt at e2
    rw [h3] at e2
    have hk : w'.isK d = true := hk
    have hc : w'.cell = some (d, m) := by
      cases w' <;> first | (cases hk; done) | skip
      · cases e2; cases d <;> first | rfl | cases hk
      · cases e2; cases d <;> first | rfl | cases hk
    obtain ⟨p', o', h4, h5, h6, h7⟩ := g.getC h3 hc
    rw [h1] at h4; cases h4
    exact ⟨o', h5, h6, h7⟩
  have bxK : ∀ m : List PyData, (W.bx d m).isK d = true := fun m => by cases d <;> rfl
  refine ⟨⟨S, H, F, [(k, p)], d⟩, rfl, rfl, hZ, F, envOf N.length ws, ⟨Ex.refl F, ex, tb0, tf0, fun a h1 h2 => absurd h2 h1, fun a o e => ⟨o, e, fun _ => .inl rfl⟩, fun i a h => ?_, ?_⟩, ?_⟩
  · have : i = k ∧ a = p := by simpa using h
    obtain ⟨rfl, rfl⟩ := this
    refine ⟨?_, hF, .bx d l, ?_, bxK l⟩
    · show (vs.map some ++ _)[i]? = _
      exact app_get (by rw [List.getElem?_map, hv]; rfl)
    · exact app_get (by rw [List.getElem?_map, hw]; rfl)
  · obtain ⟨ps, r, e⟩ := repS_startB (S := S) (F := F) (H := H) k (N.length - ws.length) hl hv hw (rep_bx hp hd) (fun j v w hj e1 e2 => (ha j v w hj e1 e2).1)
    refine ⟨ps, ?_, by rw [e]; simp, fun a ha => ?_⟩
    · show RepS S F H (vs.map some ++ List.replicate (N.length - vs.length) none) (envOf N.length ws) _
      rw [hl]
      exact r
    · rw [e] at ha
      have : a = p := by simpa using ha
      subst this
      exact ⟨hF, .inr ((ioA a).mpr rfl)⟩
  · unfold runF at q
    cases e : body (envOf N.length ws) with
    | nx δ =>
      rw [e] at q
      have q : match RF.fin (ioOf (some k) δ) (.d .none) with
        | .ok w l' => _
        | .exc c x l' => _
        | .stuck => False := q
      intro σ F' H' e' g
      cases z : ioOf (some k) δ with
      | none => rw [z] at q; exact q.elim
      | some m =>
        rw [z] at q
        obtain ⟨xs', h1, h2, h3⟩ := list g z
        exact q .non F' H' xs' [] e' g.fh ⟨fun a h1 h2 => g.fr a h1 h2, fun _ => g.tf.2⟩ (keep g) h1 h2 h3 (.d .non) .nil (fun q hq => by cases hq)
    | ret w δ =>
      rw [e] at q
      intro σ v F' H' e' g hlen hio
      have g0 := GoodT.forget g hlen hio
      have q : match RF.fin (ioOf (some k) δ) w with
        | .ok w l' => _
        | .exc c x l' => _
        | .stuck => False := q
      cases z : ioOf (some k) δ with
      | none => rw [z] at q; exact q.elim
      | some m =>
        rw [z] at q
        obtain ⟨xs', h1, h2, h3⟩ := list g0 z
        obtain ⟨ps, r, nd, fr⟩ := g.sl
        obtain ⟨qs, p', rfl, a, b⟩ := r.unsnoc
        -- the borrowed slot's footprint
        obtain ⟨k1, _, w1, k3, kk⟩ := g0.io k p (by simp)
        obtain ⟨v1, p1, k4, k5, k6⟩ := a.get k _ k3
        have ev : v1 = .ref p := by rw [k1] at k4; exact (Option.some.inj (Option.some.inj k4)).symm
        have hc1 : ∃ d1 l1, w1.cell = some (d1, l1) := by
          have kk := W.isK_B kk
          cases w1 <;> first | exact ⟨_, _, rfl⟩ | cases kk
        obtain ⟨d1, l1, hc1⟩ := hc1
        obtain ⟨p2, o2, e1, ep, _⟩ := k6.cell hc1
        rw [ev] at e1
        cases e1
        subst ep
        have pin : p ∈ qs.flatten := List.mem_flatten.mpr ⟨_, List.mem_of_getElem? k5, by simp⟩
        rw [List.flatten_append, List.nodup_append] at nd
        have fp : ∀ q ∈ p', F' q = none ∧ H q = none := fun q hq => by
          obtain ⟨z1, z2⟩ := fr q (by rw [List.flatten_append, List.mem_append]; exact .inr (by simpa using hq))
          exact ⟨z1, z2.resolve_right fun z3 => nd.2.2 p pin q (by simpa using hq) ((ioA q).mp z3).symm⟩
        cases w with
        | d x => exact q v F' H' xs' p' e' g.fh ⟨fun a h1 h2 => g.fr a h1 h2, fun _ => g.tf.2⟩ (keep g0) h1 h2 h3 b b.there.1 fp
        | own l => exact q v F' H' xs' p' e' g.fh ⟨fun a h1 h2 => g.fr a h1 h2, fun _ => g.tf.2⟩ (keep g0) h1 h2 h3 b b.there.1 fp
        | dct l => exact q v F' H' xs' p' e' g.fh ⟨fun a h1 h2 => g.fr a h1 h2, fun _ => g.tf.2⟩ (keep g0) h1 h2 h3 b b.there.1 fp
        | _ => exact q.elim
    | exc c x δ =>
      rw [e] at q
      intro σ F' H' dx v e' g hx hy
      have q : match RF.fexc c x (ioOf (some k) δ) with
        | .ok w l' => _
        | .exc c x l' => _
        | .stuck => False := q
      cases z : ioOf (some k) δ with
      | none => rw [z] at q; exact q.elim
      | some m =>
        rw [z] at q
        obtain ⟨xs', h1, h2, h3⟩ := list g z
        exact q F' H' xs' dx v e' g.fh ⟨fun a h1 h2 => g.fr a h1 h2, fun _ => g.tf.2⟩ (keep g) h1 h2 h3 hx hy
    | brk δ => rw [e] at q; exact q.elim
    | cont δ => rw [e] at q; exact q.elim
    | stuck => rw [e] at q; exact q.elim
theorem body_borD {N : List Str} {n : Nat} {body : DenS} {vs : List V} {H : Hp} {Q : VK} {E : XK} {k : Nat} (h : SpD S n k (runF N.length (some k) body) vs H Q E) :
    ∃ C : Ct, C.toSg = S ∧ tS C (wishOf E) body { nx := fun _ H' => Q .non H', rt := Q } (start N vs) H := by
  obtain ⟨C, h1, _, _, h3⟩ := body_borP h
  exact ⟨C, h1, h3⟩
theorem body_bor {N : List Str} {n : Nat} {body : DenS} {vs : List V} {H : Hp} {Q : VK} {E : XK} {k : Nat} (h : SpB S n k (runF N.length (some k) body) vs H Q E) :
    ∃ C : Ct, C.toSg = S ∧ tS C (wishOf E) body { nx := fun _ H' => Q .non H', rt := Q } (start N vs) H := by
  obtain ⟨C, h1, _, _, h3⟩ := body_borP h
  exact ⟨C, h1, h3⟩
end
end Mir

namespace Mir
open PySem.Spec PySem L2 PyProof.Rows
/-! defs that are called where nothing is being shown: repr asks for it -/
structure RoomG (k : Nat) (A : Around) : Prop where
  room : Room k A
  none : A.guards = some []
theorem RoomG.mono {j k : Nat} {A : Around} (r : RoomG k A) (h : j ≤ k) : RoomG j A := ⟨r.room.mono h, r.none⟩
theorem RoomG.deeper {k : Nat} {A : Around} (r : RoomG (k + 1) A) (env : PySem.Env) : RoomG k (A.deeper env) := ⟨r.room.deeper env, r.none⟩
structure FnG (P : Program) (w : World) (K : PySem.W.Frag) (mg : Str → Option Value) (base : Heap) (k : Nat) (f : Addr) (fd : FuncData) (ps : List Str) (sp : Sp) : Prop where
  len : ∀ us H Q E, sp us H Q E → us.length = ps.length
  go : ∀ (A : Around) (outer : List PySem.Env) (s : Shared) (H : Hp) (args : Args) (us : List Value) (vs : List V) (Q : VK) (E : XK), RoomG k A → Env0 P w K mg base A outer s H → BindsTo s fd args (ps.zip us) → Vals vs us → sp vs H Q E →
    codeAny (model P w) A (.call (.ref f) args) (CR (L2.CX P w) outer P w H s Q E) s
section
variable {base : Heap} {K : PySem.W.Frag} {mg : Str → Option Value} {P : Program} {w : World}
theorem FnG.mono {j k : Nat} {f : Addr} {fd : FuncData} {ps : List Str} {sp : Sp} (F : FnG P w K mg base j f fd ps sp) (h : j ≤ k) : FnG P w K mg base k f fd ps sp :=
  ⟨F.len, fun A outer s H args us vs Q E hr => F.go A outer s H args us vs Q E (hr.mono h)⟩
/-- a def's promise from its body -/
theorem okG {x qual : Str} {st : Stmt} {f : Addr} {fd : FuncData} {N ps : List Str} {k : Nat} {sp : Sp} (F : Fun K x qual st f fd) (S : FnScope N ps (defScope st)) (len : ∀ us H Q E, sp us H Q E → us.length = ps.length)
    (hbody : ∀ (cdv : Value) (A : Around) (outer : List PySem.Env) (s : Shared) (H : Hp) (vs : List V) (Q : VK) (E : XK), RoomG k (A.deeper (envOfC qual (defScope st) s.heap.objs.size f cdv)) → sp vs H Q E →
      ∃ t, PSs (cxOf (L2.CX P w) P w K mg base N qual (defScope st) f cdv A outer s H E) (defBody st) t ∧ t { nx := fun _ H' => Q .non H', rt := Q } (start N vs) H) : FnG P w K mg base (k + 1) f fd ps sp := by
  obtain ⟨o1, o2, o3, o4, o5, o6, cdv, o8, o9, rfl, lk, hcd⟩ := F.ex
  refine ⟨len, fun A outer s H args us vs Q E hr e0 hb r hsp => LamX.run_ofS lk hcd S hr.room e0 hb r (len _ _ _ _ hsp) fun _ => hbody cdv A outer s H vs Q E (hr.deeper _) hsp⟩
end
section
variable {X : Cx} {k : Nat} {f : Addr} {fd : FuncData} {ps : List Str} {sp : Sp} {E : L2.St → XK} {pins : List (Addr × Obj)} {σ : L2.St} {H : Hp} {s : Shared} {Q : VK}
abbrev FnX (X : Cx) (k : Nat) (f : Addr) (fd : FuncData) (ps : List Str) (sp : Sp) : Prop := FnG X.prog X.w X.K X.mg X.base k f fd ps sp
/-- what is behind a call -/
theorem after_call {E : XK} {c : Code} (hx : ∀ e s', L2.CX X.prog X.w X.stack H s E e s' → X.xe e s') (I : Inv X pins σ H s) (h : codeAny (model X.prog X.w) X.A c (CR (L2.CX X.prog X.w) X.stack X.prog X.w H s Q E) s) :
    codeAny (model X.prog X.w) X.A c (fun r s' => match r with | .ok (.ret u) => EP X pins σ Q u s' | .ok _ => False | .error e => X.xe e s') s := codeAny_mono h fun r s' hq => by
  match r, hq with
  | .error e, hq => exact hx e s' hq
  | .ok (.ret u), hq => exact I.after hq
  | .ok .next, hq => exact hq.elim
  | .ok .brk, hq => exact hq.elim
  | .ok .cont, hq => exact hq.elim
theorem go_fn {us ds : List Value} {vs dvs : List V} {E : XK} (F : FnX X k f fd ps sp) (hr : RoomG k X.A) (hb : Binds X.K fd ps ds) (hd : Vals dvs ds) (hx : ∀ e s', L2.CX X.prog X.w X.stack H s E e s' → X.xe e s') (I : Inv X pins σ H s) (r : Vals vs us) (h : sp (vs ++ dvs) H Q E) : wpAny (model X.prog X.w) X.A (call (.ref f) us) (EP X pins σ Q) X.xe s := by
  have hl : (us ++ ds).length = ps.length := (r.append hd).length.symm.trans (F.len _ _ _ _ h)
  refine wpAny_call (codeAny_mono (after_call hx I (F.go X.A X.stack s H ⟨us, []⟩ (us ++ ds) (vs ++ dvs) Q E hr I.env0 (hb s us I.kIn hl) (r.append hd) h)) fun q s' hq => ?_)
  cases q with
  | error e => exact hq
  | ok fl => cases fl <;> exact hq
variable {x : Str} {p pos : Pos} {e : Expr} {es : List Expr} {t : TA} {dvs : List V} {ds : List Value}
/-- f(e, ..) -/
theorem pe_callG (F : FnX X k f fd ps sp) (hr : RoomG k X.A) (hg : Gl X x) (hm : X.mg x = some (.ref f)) (hk : PySem.W.keepIn X.K (.ref f) = true) (hb : Binds X.K fd ps ds) (hd : Vals dvs ds) (hx : ∀ σ, PassesAt (L2.CX X.prog X.w) X σ (E σ)) (ha : PA X (e :: es) t) (hdb : (x == ("__debug__" : Str)) = false := by decide) (he : starEach (e :: es) X.env = (false, eval e X.env) :: starEach es X.env := by rfl) (hpl : (backTo pos (starEach es X.env)).any (·.1) = false := by rfl) : PE X (.Call (.Name x p) (e :: es) [] pos) (tCallSD sp dvs E t) :=
  ⟨fun pins s σ H Q I h => wpAny_Call_Name_kw (ld_glob I hg hm (PySem.W.callWith_K (h₀ := X.base) I.ok.mod.kin hk (thn (ha.run pos pins s σ H _ I h) fun us s1 ⟨vs, H1, I1, r, q⟩ => ⟨I1.kIn, go_fn F hr hb hd (fun e s' c => hx σ pins H1 s1 e s' I1 c) I1 r q⟩) he hpl) hdb)⟩
/-- the same without arguments -/
theorem pe_callG0 (F : FnX X k f fd ps sp) (hr : RoomG k X.A) (hg : Gl X x) (hm : X.mg x = some (.ref f)) (hk : PySem.W.keepIn X.K (.ref f) = true) (hb : Binds X.K fd ps ds) (hd : Vals dvs ds) (hx : ∀ σ, PassesAt (L2.CX X.prog X.w) X σ (E σ))
    (hdb : (x == ("__debug__" : Str)) = false := by decide) : PE X (.Call (.Name x p) [] [] pos) (tCallSD sp dvs E tNil) :=
  ⟨fun pins s σ H Q I h => wpAny_Call_Name_kw (ld_glob I hg hm (PySem.W.callWith_K0 I.kIn hk (go_fn (us := []) (vs := []) F hr hb hd (fun e s' c => hx σ pins H s e s' I c) I .nil h)) hdb)⟩
/-- a local name's def -/
def tCallLG (i : Nat) (f : Addr) (sp : Sp) (E : L2.St → XK) (t : TA) : TE := fun σ H Q => σ[i]? = some (some (.ref f)) ∧ t σ H fun vs H1 => sp vs H1 Q (E σ)
theorem pe_callLG {i : Nat} (F : FnX X k f fd ps sp) (hr : RoomG k X.A) (hN : X.N[i]? = some x) (hv : Vis X.env.scope x) (hk : PySem.W.keepIn X.K (.ref f) = true) (hb : Binds X.K fd ps []) (hx : ∀ σ, PassesAt (L2.CX X.prog X.w) X σ (E σ)) (ha : PA X (e :: es) t)
    (hdb : (x == ("__debug__" : Str)) = false := by decide) (hcd : (x == ("__classdict__" : Str)) = false := by decide) (he : starEach (e :: es) X.env = (false, eval e X.env) :: starEach es X.env := by rfl) (hpl : (backTo pos (starEach es X.env)).any (·.1) = false := by rfl) :
    PE X (.Call (.Name x p) (e :: es) [] pos) (tCallLG i f sp E t) := ⟨fun pins s σ H Q I ⟨hs, h⟩ => by
  refine wpAny_Call_Name_kw (thn ((pe_var (pos := p) hN hv hdb hcd).run pins s σ H (fun z G1 => z = .ref f ∧ G1 = H) I ⟨.ref f, hs, rfl, rfl⟩) fun u s1 ⟨v, H1, I1, r1, q1⟩ => ?_)
  obtain ⟨rfl, rfl⟩ := q1
  cases r1
  refine PySem.W.callWith_K (h₀ := X.base) I.ok.mod.kin hk (thn (ha.run pos pins s1 σ _ _ I1 h) fun us s2 ⟨vs, H2, I2, r, q⟩ => ⟨I2.kIn, go_fn (ds := []) (dvs := []) F hr hb .nil (fun e s' c => hx σ pins H2 s2 e s' I2 c) I2 r ?_⟩) he hpl
  rw [List.append_nil]
  exact q⟩
/-- f(e, .., k = v, ..) -/
def tCallKG (sp : Sp) (gV : List V → List V → List V) (E : L2.St → XK) (t tk : TA) : TE := fun σ H Q => t σ H fun vs H1 => tk σ H1 fun zs H2 => sp (gV vs zs) H2 Q (E σ)
theorem go_fnK {ks : List Str} {g : List Value → List Value → List Value} {gV : List V → List V → List V} {us ws : List Value} {vs zs : List V} {E : XK} (F : FnX X k f fd ps sp) (hr : RoomG k X.A) (hb : KBinds X.K fd ps ks g gV) (hx : ∀ e s', L2.CX X.prog X.w X.stack H s E e s' → X.xe e s') (I : Inv X pins σ H s) (r : Vals vs us) (rz : Vals zs ws) (h : sp (gV vs zs) H Q E) :
    wpAny (model X.prog X.w) X.A (call (.ref f) us (ks.zip ws)) (EP X pins σ Q) X.xe s := by
  have hl : (g us ws).length = ps.length := (hb.rel r rz).length.symm.trans (F.len _ _ _ _ h)
  refine wpAny_call (codeAny_mono (after_call hx I (F.go X.A X.stack s H ⟨us, ks.zip ws⟩ (g us ws) (gV vs zs) Q E hr I.env0 (hb.to s us ws I.kIn hl) (hb.rel r rz) h)) fun q s' hq => ?_)
  cases q with
  | error e => exact hq
  | ok fl => cases fl <;> exact hq
theorem pe_callKG {ks : List Str} {g : List Value → List Value → List Value} {gV : List V → List V → List V} {kws : List Keyword} {tk : TA} (F : FnX X k f fd ps sp) (hr : RoomG k X.A) (hg : Gl X x) (hm : X.mg x = some (.ref f)) (hk : PySem.W.keepIn X.K (.ref f) = true) (hb : KBinds X.K fd ps ks g gV) (hx : ∀ σ, PassesAt (L2.CX X.prog X.w) X σ (E σ))
    (ha : PA X (e :: es) t) (hkw : PK X kws tk) (hall : (backToKw pos (keywordEach kws X.env)).all (·.1.isSome) = true := by rfl) (hks : (backToKw pos (keywordEach kws X.env)).filterMap (·.1) = ks := by rfl) (hdb : (x == ("__debug__" : Str)) = false := by decide) (he : starEach (e :: es) X.env = (false, eval e X.env) :: starEach es X.env := by rfl) (hpl : ((backTo pos (starEach (e :: es) X.env)).any (·.1) || (backToKw pos (keywordEach kws X.env)).any (·.1.isNone)) = false := by rfl) :
    PE X (.Call (.Name x p) (e :: es) kws pos) (tCallKG sp gV E t tk) := ⟨fun pins s σ H Q I h => by
  refine wpAny_Call_Name_kw (ld_glob I hg hm (PySem.W.callWith_KW (h₀ := X.base) I.ok.mod.kin hk hall (thn (ha.run pos pins s σ H _ I h) fun us s1 ⟨vs, H1, I1, r, q⟩ => ?_) hpl he) hdb)
  refine thn (hkw.run pos pins s1 σ H1 _ I1 q) fun ws t2 ⟨zs, G2, I2, rz, q2⟩ => ⟨I2.kIn, ?_⟩
  rw [hks]
  exact go_fnK F hr hb (fun e s' c => hx σ pins G2 t2 e s' I2 c) I2 r rz q2⟩
/-! repr of data -/
theorem call_reprD (hG : X.A.guards = some []) (hu : X.A.units + 70 < cLine) : CallR X (.builtin "repr") (fun xs H Q => ∃ x d, xs = [x] ∧ Dp X.K H x d ∧ d.showable = true ∧ d.hasDict = false ∧ d.depth ≤ 60 ∧ d.shown.length ≤ sizeLine ∧ Q (.str d.shown) H) := by
  intro pins s σ H xs us
  intro Q I r h
  obtain ⟨x, d, rfl, hd, h1, h2, h3, h4, q⟩ := h
  rcases vals1 r with ⟨u, rfl, ru⟩
  obtain ⟨as, hr⟩ := Dp.reads I d x u hd ru
  have fin : ∀ (h' : Heap) (t : Tok) (tk : Nat), (∀ b o, s.heap.get? b = some o → h'.get? b = some o) → EP X pins σ Q (.str d.shown t) { s with heap := h', toks := tk } := fun h' t tk hk => ⟨.str _, H, I.kept (h' := h') (t' := tk) hk, ⟨t, rfl⟩, q⟩
  cases hd with
  | non => cases ru; exact P.repr_of_none (fin s.heap _ _ fun _ _ e => e)
  | bl b => cases ru; exact P.repr_of_bool (by cases b <;> exact fin s.heap _ _ fun _ _ e => e)
  | int i =>
    obtain ⟨t, rfl⟩ := ru
    exact P.repr_of_int (of_decide_eq_true h1) (fin s.heap _ _ fun _ _ e => e)
  | str z =>
    obtain ⟨t, rfl⟩ := ru
    exact P.repr_of_str (fin s.heap _ _ fun _ _ e => e) h4
  | lst a b =>
    cases ru
    exact repr_of_reads' hr h1 (PyData.noDict_hsm h2) hG (by omega) (fun _ _ e => e) fin h4
  | tup a b =>
    cases ru
    exact repr_of_reads' hr h1 (PyData.noDict_hsm h2) hG (by omega) (fun _ _ e => e) fin h4
end
end Mir

namespace Mir
open PySem.Spec PySem L2 PyProof.Rows
open Evl (Ex)
section
variable {C : Ct} {F F' H H' : Hp} {σ : L2.St} {δ : Env}
theorem RepW.same {S : Sg} {v : V} {w : W} {p p' : List Addr} {F F' H H' : Hp} (a : RepW S F H v w p) (b : RepW S F' H' v w p') : p = p' := by
  cases w with
  | d _ => cases a; cases b; rfl
  | own _ => cases a; cases b; rfl
  | bor _ => cases a; cases b; rfl
  | dct _ => cases a; cases b; rfl
  | bod _ => cases a; cases b; rfl
  | lams _ => cases a; cases b; rfl
  | lam _ => cases a; cases b; rfl
  | fn _ =>
    have key : ∀ {v w p} {F H : Hp}, RepW S F H v w p → (∃ k, w = .fn k) → p = [] := fun r h => by
      obtain ⟨k, e⟩ := h
      cases r <;> first | rfl | cases e
    rw [key a ⟨_, rfl⟩, key b ⟨_, rfl⟩]
  | exc _ _ =>
    have key : ∀ {v w p} {F H : Hp}, RepW S F H v w p → (∃ k x, w = .exc k x) → p = [] := fun r h => by
      obtain ⟨k, x, e⟩ := h
      cases r <;> first | rfl | cases e
    rw [key a ⟨_, _, rfl⟩, key b ⟨_, _, rfl⟩]
theorem Good.aft (g : Good C F H σ δ) (e1 : Ex F F') (e2 : Ex F' H') (nw : New F F' H) (e3 : KT C.toSg H H') : Good C F' H' σ δ := by
  obtain ⟨ps, r, nd, fr⟩ := g.sl
  have st : ∀ q ∈ ps.flatten, H' q = H q := fun q hq => by
    obtain ⟨xs, h, hm⟩ := r.there q hq
    obtain ⟨o', k1, k2⟩ := e3.1 _ _ h
    rw [h, k1, k2.mu hm]
  refine ⟨g.f0.trans e1, e2, e3.2, ⟨fun q hq => ?_, nw.2 g.tf.2⟩, fun a h1 h2 => ?_, fun a o h => ?_, g.io, ps, r.mono e1 st, nd, fun q hq => ⟨?_, (fr q hq).2⟩⟩
  · cases z : F' q.1 with
    | none => rfl
    | some o =>
      have h5 := nw.1 q.1 (by rw [z]; simp) (g.tf.1 q hq)
      obtain ⟨ps', h6, _⟩ := g.tb q hq
      rw [h6] at h5; cases h5
  · cases z : F a with
    | none => exact (g.new0 (nw.1 a h1 z)).2.2
    | some o => exact g.fr a (by rw [z]; simp) h2
  · obtain ⟨o', h1, h2⟩ := g.kp a o h
    obtain ⟨o2, k1, k2⟩ := e3.1 _ _ h1
    exact ⟨o2, k1, fun z => (h2 z).trans k2⟩
  · cases z : F' q with
    | none => rfl
    | some o =>
      have := nw.1 q (by rw [z]; simp) (fr q hq).1
      obtain ⟨xs, h, _⟩ := r.there q hq
      rw [h] at this; cases this
theorem Good.snoc (g : Good C F H σ δ) {v : V} {w : W} {p : List Addr} (h : RepW C.toSg F H v w p) (nd : p.Nodup) (fp : ∀ q ∈ p, F q = none ∧ C.H0 q = none) (dis : ∀ (i : Nat) w' v' p', δ[i]? = some (some w') → σ[i]? = some (some v') → RepW C.toSg F H v' w' p' → ∀ q ∈ p', q ∉ p) : GoodT C F H σ δ v w := by
  obtain ⟨ps, r, nd', fr⟩ := g.sl
  refine ⟨g.f0, g.fh, g.tb, g.tf, g.fr, g.kp, fun i a hi => ?_, ps ++ [p], r.snoc h, ?_, fun q hq => ?_⟩
  · obtain ⟨h1, h2, l, h3, h4⟩ := g.io i a hi
    exact ⟨app_get h1, h2, l, app_get h3, h4⟩
  · rw [List.flatten_append, List.nodup_append]
    refine ⟨nd', by simpa using nd, fun a ha b hb z => ?_⟩
    subst z
    have hb : a ∈ p := by simpa using hb
    clear nd' fr nd fp
    have key : ∀ {σ : L2.St} {δ : Env} {ps : List (List Addr)}, RepS C.toSg F H σ δ ps → a ∈ ps.flatten → ∃ (i : Nat) (w' : W) (v' : V) (p' : List Addr), δ[i]? = some (some w') ∧ σ[i]? = some (some v') ∧ RepW C.toSg F H v' w' p' ∧ a ∈ p' := by
      intro σ δ ps r
      induction r with
      | nil => intro ha; simp at ha
      | skip _ ih =>
        intro ha
        obtain ⟨i, w', v', p', h1, h2, h3, h4⟩ := ih (by simpa using ha)
        exact ⟨i + 1, w', v', p', by simpa using h1, by simpa using h2, h3, h4⟩
      | cons h1 _ ih =>
        intro ha
        rw [List.flatten_cons, List.mem_append] at ha
        rcases ha with ha | ha
        · exact ⟨0, _, _, _, rfl, rfl, h1, ha⟩
        · obtain ⟨i, w', v', p', h1, h2, h3, h4⟩ := ih ha
          exact ⟨i + 1, w', v', p', by simpa using h1, by simpa using h2, h3, h4⟩
    obtain ⟨i, w', v', p', h1, h2, h3, h4⟩ := key r ha
    exact dis i w' v' p' h1 h2 h3 a h4 hb
  · rw [List.flatten_append, List.mem_append] at hq
    rcases hq with hq | hq
    · exact fr q hq
    · have hq : q ∈ p := by simpa using hq
      exact ⟨(fp q hq).1, .inl (fp q hq).2⟩
theorem Good.aftT (g : Good C F H σ δ) (e1 : Ex F F') (e2 : Ex F' H') (nw : New F F' H) (e3 : KT C.toSg H H') {v : V} {w : W} {p : List Addr} (h : RepW C.toSg F' H' v w p) (nd : p.Nodup) (fp : ∀ q ∈ p, F' q = none ∧ H q = none) : GoodT C F' H' σ δ v w := by
  have g2 := g.aft e1 e2 nw e3
  refine g2.snoc h nd (fun q hq => ⟨(fp q hq).1, (g.new0 (fp q hq).2).2.2⟩) fun i w' v' p' h1 h2 h3 q hq hq' => ?_
  obtain ⟨v2, p2, k1, k2, k3⟩ := g.get h1
  rw [h2] at k1; cases k1
  have ep : p2 = p' := by
    exact RepW.same k2 h3
  subst ep
  obtain ⟨xs, h, _⟩ := k2.there.2 q hq
  rw [(fp q hq').2] at h; cases h
/-- the borrowed list or dict at p (slot i) has changed, all else stands -/
theorem Good.aftB (g : Good C F H σ δ) {i : Nat} {w : W} {d : Bool} {l l' : List PyData} {p : Addr} {o' : HO} (ei : δ[i]? = some (some w)) (hw : w.cell = some (d, l)) (hi : σ[i]? = some (some (.ref p)))
    (e1 : Ex F F') (e2 : Ex F' H') (nw : New F F' H) (e3 : KTB C.toSg p H H') (hp : H' p = some o') (hd : Cell C.K F' d o' l') (hF : F' p = none) : Good C F' H' σ (δ.set i (some (w.put l'))) := by
  -- first as if it were emptied at once, then all else
  obtain ⟨ob, hob⟩ : ∃ ob : HO, ∀ F1, Cell C.K F1 d ob [] := by
    cases d with
    | false => exact ⟨.lst [], fun F1 => ⟨_, rfl, .nil⟩⟩
    | true => exact ⟨.dK [], fun F1 => ⟨_, rfl, .nil⟩⟩
  have hpH : H p ≠ none := by
    obtain ⟨p2, xs, h1, h2, _, _⟩ := g.getC ei hw
    rw [hi] at h1; cases h1
    rw [h2]; simp
  have g1 : Good C F (upd H p ob) σ (δ.set i (some (w.put []))) := g.writeC ei hw hi (hob F)
  have e3' : KT C.toSg (upd H p ob) (upd H' p ob) := ⟨fun a o h => by
    by_cases ha : a = p
    · subst ha; rw [upd_same] at h ⊢; exact ⟨o, h, .inl rfl⟩
    · rw [upd_ne ha] at h ⊢; exact e3.1 a o h ha, tabs_write e3.2 hp hd.mu⟩
  have e2' : Ex F' (upd H' p ob) := fun a o h => by
    rw [upd_ne (ne_of_none h hF)]; exact e2 a o h
  have nw' : New F F' (upd H p ob) := ⟨fun a h1 h2 => by
    have h3 := nw.1 a h1 h2
    rw [upd_ne (fun z => by rw [z] at h3; exact hpH h3)]; exact h3, nw.2⟩
  have g2 := g1.aft e1 e2' nw' e3'
  have ei2 : (δ.set i (some (w.put [])))[i]? = some (some (w.put [])) := by rw [List.getElem?_set_self (get_lt ei)]
  have hw2 : (w.put []).cell = some (d, []) := by
    cases w <;> first | (cases hw; rfl) | cases hw
  have g3 := g2.writeC (l' := l') (o' := o') ei2 hw2 hi hd
  have eH : upd (upd H' p ob) p o' = H' := by
    rw [upd_upd]
    funext a
    by_cases ha : a = p
    · subst ha; rw [upd_same, hp]
    · rw [upd_ne ha]
  have eD : (δ.set i (some (w.put []))).set i (some ((w.put []).put l')) = δ.set i (some (w.put l')) := by
    rw [List.set_set]
    cases w <;> rfl
  rw [eH, eD] at g3
  exact g3
end

/-! ### calls -/
def AV.toW (δ : Env) : AV → Option W
  | .v x => some (.d x)
  | .fn k => some (.fn k)
  | .sl i => match δ[i]? with
    | some (some (.d x)) => some (.d x)
    | some (some (.fn k)) => some (.fn k)
    | _ => none
def wsOf (δ : Env) : List AV → Option (List W)
  | [] => some []
  | a :: as => match a.toW δ, wsOf δ as with
    | some w, some ws => some (w :: ws)
    | _, _ => none
section
variable {C : Ct} {Wx : WX} {X : Cx}
theorem toW_ok {F H : Hp} {σ : L2.St} {δ : Env} {v : V} {a : AV} {w : W} (g : Good C F H σ δ) (r : RepAV C F σ v a) (h : a.toW δ = some w) : RepP C.toSg F H v w := by
  cases r with
  | v hd => cases h; exact ⟨.d hd, rfl⟩
  | fn => cases h; exact ⟨.fn, rfl⟩
  | @sl v i hs =>
    simp only [AV.toW] at h
    split at h
    all_goals (try cases h)
    all_goals
      rename_i e
      obtain ⟨v', p', k1, k2, _⟩ := g.get e
      rw [hs] at k1
      cases k1
    · cases k2; exact ⟨.d ‹_›, rfl⟩
    · generalize hw : W.fn _ = w at k2
      cases k2 <;> first | cases hw | skip
      exact ⟨.fn, rfl⟩
theorem wsOf_ok {F H : Hp} {σ : L2.St} {δ : Env} (g : Good C F H σ δ) : ∀ {vs : List V} {as : List AV} {ws : List W}, RepAVs C F σ vs as → wsOf δ as = some ws → vs.length = ws.length ∧ ∀ (j : Nat) v w, vs[j]? = some v → ws[j]? = some w → RepP C.toSg F H v w
  | [], as, ws, r, h => by
    cases r; cases h
    exact ⟨rfl, fun j v w e => by simp at e⟩
  | v :: vs, a :: as, ws, r, h => by
    cases r with
    | cons r1 r2 =>
      unfold wsOf at h
      split at h
      · rename_i w ws' h1 h2
        cases h
        obtain ⟨k1, k2⟩ := wsOf_ok g r2 h2
        refine ⟨by rw [List.length_cons, List.length_cons, k1], fun j v' w' e1 e2 => ?_⟩
        cases j with
        | zero => simp at e1 e2; subst e1 e2; exact toW_ok g r1 h1
        | succ j => exact k2 j v' w' (by simpa using e1) (by simpa using e2)
      · cases h
  | _ :: _, [], _, r, _ => by cases r
def RF.to (δ : Env) : RF → R W
  | .ok w _ => .ok w δ
  | .exc c x _ => .exc c x δ
  | .stuck => .stuck
def wCall (n : Nat) (den : List W → RF) (as : DenL) : DenW := fun δ => (as δ).bind fun avs δ1 => match wsOf δ1 avs with
  | some ws => if ws.length = n then (den ws).to δ1 else .stuck
  | none => .stuck
theorem callP_ok {n : Nat} {den : List W → RF} {F H : Hp} {σ : L2.St} {δ : Env} {avs : List AV} {vs : List V} {Q : VK} {E : XK} (hE : ∀ cls d H', Wx cls d σ H' → E cls d H') (g : Good C F H σ δ) (r : RepAVs C F σ vs avs)
    (q : Post C Wx σ F (fun w δ' F' H' => ∀ v F2 H2, Ex F' F2 → GoodT C F2 H2 σ δ' v w → Q v H2) (match wsOf δ avs with
  | some ws => if ws.length = n then (den ws).to δ else .stuck
  | none => .stuck)) : SpP C.toSg n den vs H Q E := by
  split at q
  · rename_i ws hws
    obtain ⟨hl, hr⟩ := wsOf_ok g r hws
    by_cases hn : ws.length = n
    case neg => rw [if_neg hn] at q; exact q.elim
    rw [if_pos hn] at q
    refine ⟨hl.trans hn, F, ws, trivial, g.fh, g.tb, g.tf, hl, hr, ?_⟩
    cases e : den ws with
    | ok w l =>
      rw [e] at q
      intro v F' H' ps e1 e2 nw e3 rw' nd fp
      exact q F H (Ex.refl F) g v F' H' e1 (g.aftT e1 e2 nw e3 rw' nd fp)
    | exc c x l =>
      rw [e] at q
      intro F' H' dx v e1 e2 nw e3 h1 h2
      exact hE _ _ _ (q F' H' dx v e1 (g.aft e1 e2 nw e3) h1 h2)
    | stuck => rw [e] at q; exact q.elim
  · exact q.elim
/-- f(a, ..): a def without borrowed lists -/
theorem cw_call {n : Nat} {den : List W → RF} {k : Nat} {f : Addr} {fd : FuncData} {ps : List Str} {x : Str} {p pos : Pos} {e : Expr} {es : List Expr} {as : DenL} (Fn : FnX X k f fd ps (SpP C.toSg n den)) (hr : RoomG k X.A) (hg : Gl X x) (hm : X.mg x = some (.ref f)) (hk : PySem.W.keepIn X.K (.ref f) = true) (hb : Binds X.K fd ps [])
    (tk : Takes X Wx) (ha : CAL C Wx X (e :: es) as) (hdb : (x == ("__debug__" : Str)) = false := by decide) (he : starEach (e :: es) X.env = (false, eval e X.env) :: starEach es X.env := by rfl) (hpl : (backTo pos (starEach es X.env)).any (·.1) = false := by rfl) :
    CW C Wx X (.Call (.Name x p) (e :: es) [] pos) (wCall n den as) :=
  pe_imp (pe_callG (E := fun σ cls d H => Wx cls d σ H) Fn hr hg hm hk hb .nil (fun σ pins H s e s' I c => tk e s' (XE.of_call I (fun cls d H' h => h) c)) ha hdb he hpl) fun σ H Q ⟨F, δ, g, q⟩ =>
    ⟨F, δ, g, Post.imp (fun avs δ1 F1 H1 _ g1 q1 vs hvs => by
      show SpP C.toSg n den (vs ++ []) H1 Q _
      rw [List.append_nil]
      exact callP_ok (fun _ _ _ h => h) g1 hvs q1) (Post.bind q)⟩

/-! a def with a borrowed list -/
/-- the arguments' values, the borrowed list's slot and items -/
def AV.bor (δ : Env) : AV → Option (Nat × W × List PyData)
  | .sl i => match δ[i]? with
    | some (some (.own l)) => some (i, .own l, l)
    | some (some (.bor l)) => some (i, .bor l, l)
    | _ => none
  | _ => none
/-- .. of a dict -/
def AV.bod (δ : Env) : AV → Option (Nat × W × List PyData)
  | .sl i => match δ[i]? with
    | some (some (.dct l)) => some (i, .dct l, l)
    | some (some (.bod l)) => some (i, .bod l, l)
    | _ => none
  | _ => none
def AV.bk (d : Bool) (δ : Env) (a : AV) : Option (Nat × W × List PyData) := if d then a.bod δ else a.bor δ
/-- k-th argument borrowed, the others plain -/
def wsOfK (d : Bool) (δ : Env) : Nat → List AV → Option (List W × Nat × W × List PyData)
  | 0, a :: as => match a.bk d δ, wsOf δ as with
    | some (i, w, l), some ws => some (.bx d l :: ws, i, w, l)
    | _, _ => none
  | k + 1, a :: as => match a.toW δ, wsOfK d δ k as with
    | some w, some (ws, r) => some (w :: ws, r)
    | _, _ => none
  | _, [] => none
abbrev wsOfB (δ : Env) (k : Nat) (as : List AV) := wsOfK false δ k as
theorem bor_ok {F H : Hp} {σ : L2.St} {δ : Env} {v : V} {a : AV} {d : Bool} {i : Nat} {w : W} {l : List PyData} (g : Good C F H σ δ) (r : RepAV C F σ v a) (h : a.bk d δ = some (i, w, l)) :
    ∃ p o, v = .ref p ∧ σ[i]? = some (some (.ref p)) ∧ δ[i]? = some (some w) ∧ w.cell = some (d, l) ∧ H p = some o ∧ Cell C.K F d o l ∧ F p = none := by
  unfold AV.bk at h
  cases r with
  | v hd => cases d <;> cases h
  | fn => cases d <;> cases h
  | @sl v i' hs =>
    cases d
    all_goals
      simp only [AV.bor, AV.bod, if_true, Bool.false_eq_true, if_false] at h
      split at h
    all_goals (try cases h)
    all_goals
      rename_i e
      obtain ⟨p, xs, k1, k2, k3, k4⟩ := g.getC e rfl
      rw [hs] at k1
      cases k1
      exact ⟨p, xs, rfl, hs, e, rfl, k2, k3, k4⟩
theorem wsOfB_ok {F H : Hp} {σ : L2.St} {δ : Env} {d : Bool} (g : Good C F H σ δ) : ∀ {k : Nat} {vs : List V} {as : List AV} {ws : List W} {i : Nat} {w : W} {l : List PyData}, RepAVs C F σ vs as → wsOfK d δ k as = some (ws, i, w, l) →
    vs.length = ws.length ∧ (∃ p o, vs[k]? = some (.ref p) ∧ σ[i]? = some (some (.ref p)) ∧ δ[i]? = some (some w) ∧ w.cell = some (d, l) ∧ H p = some o ∧ Cell C.K F d o l ∧ F p = none) ∧ ws[k]? = some (.bx d l) ∧ ∀ (j : Nat) v w, j ≠ k → vs[j]? = some v → ws[j]? = some w → RepP C.toSg F H v w
  | 0, v :: vs, a :: as, ws, i, w, l, r, h => by
    cases r with
    | cons r1 r2 =>
      unfold wsOfK at h
      split at h
      · rename_i i' w' l' ws' h1 h2
        cases h
        obtain ⟨p, xs, rfl, k⟩ := bor_ok g r1 h1
        obtain ⟨k1, k2⟩ := wsOf_ok g r2 h2
        refine ⟨by rw [List.length_cons, List.length_cons, k1], ⟨p, xs, rfl, k⟩, rfl, fun j v' w' hj e1 e2 => ?_⟩
        cases j with
        | zero => exact absurd rfl hj
        | succ j => exact k2 j v' w' (by simpa using e1) (by simpa using e2)
      · cases h
  | k + 1, v :: vs, a :: as, ws, i, w, l, r, h => by
    cases r with
    | cons r1 r2 =>
      unfold wsOfK at h
      split at h
      · rename_i w0 ws' r' h1 h2
        cases h
        obtain ⟨k1, k2, k3, k4⟩ := wsOfB_ok g r2 h2
        refine ⟨by rw [List.length_cons, List.length_cons, k1], by simpa using k2, by simpa using k3, fun j v' w' hj e1 e2 => ?_⟩
        cases j with
        | zero => simp at e1 e2; subst e1 e2; exact toW_ok g r1 h1
        | succ j => exact k4 j v' w' (by omega) (by simpa using e1) (by simpa using e2)
      · cases h
  | 0, [], [], _, _, _, _, _, h => by cases h
  | 0, _ :: _, [], _, _, _, _, r, _ => by cases r
  | 0, [], _ :: _, _, _, _, _, r, _ => by cases r
  | _ + 1, [], [], _, _, _, _, _, h => by cases h
  | _ + 1, _ :: _, [], _, _, _, _, r, _ => by cases r
  | _ + 1, [], _ :: _, _, _, _, _, r, _ => by cases r
def RF.toB (δ : Env) (i : Nat) (w : W) : RF → R W
  | .ok z l => .ok z (δ.set i (some (w.put l)))
  | .exc c x l => .exc c x (δ.set i (some (w.put l)))
  | .stuck => .stuck
def wCallM (d : Bool) (m k : Nat) (den : List W → RF) (as : DenL) : DenW := fun δ => (as δ).bind fun avs δ1 => match wsOfK d δ1 k avs with
  | some (ws, i, w, _) => if ws.length = m then (den ws).toB δ1 i w else .stuck
  | none => .stuck
abbrev wCallB := wCallM false
abbrev wCallD := wCallM true
theorem callK_ok {m k : Nat} {d : Bool} {den : List W → RF} {F H : Hp} {σ : L2.St} {δ : Env} {avs : List AV} {vs : List V} {Q : VK} {E : XK} (hE : ∀ cls dx H', Wx cls dx σ H' → E cls dx H') (g1 : Good C F H σ δ) (hvs : RepAVs C F σ vs avs)
    (q1 : Post C Wx σ F (fun w δ' F' H' => ∀ v F2 H2, Ex F' F2 → GoodT C F2 H2 σ δ' v w → Q v H2) (match wsOfK d δ k avs with
  | some (ws, i, w, _) => if ws.length = m then (den ws).toB δ i w else .stuck
  | none => .stuck)) : SpBB (fun _ => True) C.toSg m k d den vs H Q E := by
  split at q1
  · rename_i ws i w l hws
    obtain ⟨hl, ⟨p, xs, hv, hs, hd, hw, hp, ha, hF⟩, hk', hrest⟩ := wsOfB_ok g1 hvs hws
    by_cases hn : ws.length = m
    case neg => rw [if_neg hn] at q1; exact q1.elim
    rw [if_pos hn] at q1
    refine ⟨hl.trans hn, F, ws, p, xs, l, trivial, g1.fh, g1.tb, g1.tf, hl, hv, hk', hp, hF, ha, hrest, ?_⟩
    cases e : den ws with
    | ok z l' =>
      rw [e] at q1
      intro v F' H' xs' ps e1 e2 nw e3 h1 h2 h3 rw' nd fp
      have g2 := g1.aftB hd hw hs e1 e2 nw e3 h1 h2 h3
      refine q1 F' H' e1 g2 v F' H' (Ex.refl F') (g2.snoc rw' nd (fun q hq => ⟨(fp q hq).1, (g1.new0 (fp q hq).2).2.2⟩) fun j w' v' p' k1 k2 k3 q hq hq' => ?_)
      -- an own one of the slots is no new one
      have hnone := (fp q hq').2
      by_cases hj : j = i
      · subst hj
        rw [hs] at k2; cases k2
        rw [List.getElem?_set_self (get_lt hd)] at k1
        cases k1
        have hcp : (w.put l').cell = some (d, l') := by
          cases w <;> first | (cases hw; rfl) | cases hw
        obtain ⟨a, o, ea, ep, _⟩ := k3.cell hcp
        cases ea
        rw [ep] at hq
        rw [List.mem_singleton.mp hq] at hnone
        rw [hp] at hnone; cases hnone
      · rw [List.getElem?_set_ne (Ne.symm hj)] at k1
        obtain ⟨v2, p2, m1, m2, m3⟩ := g1.get k1
        rw [k2] at m1; cases m1
        rw [RepW.same k3 m2] at hq
        obtain ⟨xs2, hx, _⟩ := m2.there.2 q hq
        rw [hnone] at hx; cases hx
    | exc c x l' =>
      rw [e] at q1
      intro F' H' xs' dx v e1 e2 nw e3 h1 h2 h3 h4 h5
      exact hE _ _ _ (q1 F' H' dx v e1 (g1.aftB hd hw hs e1 e2 nw e3 h1 h2 h3) h4 h5)
    | stuck => rw [e] at q1; exact q1.elim
  · exact q1.elim
theorem cw_callM {d : Bool} {m : Nat} {den : List W → RF} {n k : Nat} {f : Addr} {fd : FuncData} {ps : List Str} {x : Str} {p pos : Pos} {e : Expr} {es : List Expr} {as : DenL} (Fn : FnX X n f fd ps (SpBB (fun _ => True) C.toSg m k d den)) (hr : RoomG n X.A) (hg : Gl X x) (hm : X.mg x = some (.ref f)) (hk : PySem.W.keepIn X.K (.ref f) = true) (hb : Binds X.K fd ps [])
    (tk : Takes X Wx) (ha : CAL C Wx X (e :: es) as) (hdb : (x == ("__debug__" : Str)) = false := by decide) (he : starEach (e :: es) X.env = (false, eval e X.env) :: starEach es X.env := by rfl) (hpl : (backTo pos (starEach es X.env)).any (·.1) = false := by rfl) :
    CW C Wx X (.Call (.Name x p) (e :: es) [] pos) (wCallM d m k den as) :=
  pe_imp (pe_callG (E := fun σ cls d H => Wx cls d σ H) Fn hr hg hm hk hb .nil (fun σ pins H s e s' I c => tk e s' (XE.of_call I (fun cls d H' h => h) c)) ha hdb he hpl) fun σ H Q ⟨F, δ, g, q⟩ =>
    ⟨F, δ, g, Post.imp (fun avs δ1 F1 H1 _ g1 q1 vs hvs => by
      show SpBB (fun _ => True) C.toSg m k d den (vs ++ []) H1 Q _
      rw [List.append_nil]
      exact callK_ok (fun _ _ _ h => h) g1 hvs q1) (Post.bind q)⟩
theorem cw_callB {m : Nat} {den : List W → RF} {n k : Nat} {f : Addr} {fd : FuncData} {ps : List Str} {x : Str} {p pos : Pos} {e : Expr} {es : List Expr} {as : DenL} (Fn : FnX X n f fd ps (SpB C.toSg m k den)) (hr : RoomG n X.A) (hg : Gl X x) (hm : X.mg x = some (.ref f)) (hk : PySem.W.keepIn X.K (.ref f) = true) (hb : Binds X.K fd ps [])
    (tk : Takes X Wx) (ha : CAL C Wx X (e :: es) as) (hdb : (x == ("__debug__" : Str)) = false := by decide) (he : starEach (e :: es) X.env = (false, eval e X.env) :: starEach es X.env := by rfl) (hpl : (backTo pos (starEach es X.env)).any (·.1) = false := by rfl) :
    CW C Wx X (.Call (.Name x p) (e :: es) [] pos) (wCallB m k den as) := cw_callM Fn hr hg hm hk hb tk ha hdb he hpl
theorem cw_callD {m : Nat} {den : List W → RF} {n k : Nat} {f : Addr} {fd : FuncData} {ps : List Str} {x : Str} {p pos : Pos} {e : Expr} {es : List Expr} {as : DenL} (Fn : FnX X n f fd ps (SpD C.toSg m k den)) (hr : RoomG n X.A) (hg : Gl X x) (hm : X.mg x = some (.ref f)) (hk : PySem.W.keepIn X.K (.ref f) = true) (hb : Binds X.K fd ps [])
    (tk : Takes X Wx) (ha : CAL C Wx X (e :: es) as) (hdb : (x == ("__debug__" : Str)) = false := by decide) (he : starEach (e :: es) X.env = (false, eval e X.env) :: starEach es X.env := by rfl) (hpl : (backTo pos (starEach es X.env)).any (·.1) = false := by rfl) :
    CW C Wx X (.Call (.Name x p) (e :: es) [] pos) (wCallD m k den as) := cw_callM Fn hr hg hm hk hb tk ha hdb he hpl
end
end Mir

namespace Mir
open PySem.Spec PySem L2 PyProof.Rows
open Evl (Ex)
section
variable {C : Ct} {Wx : WX} {X : Cx} {F H : Hp} {σ : L2.St} {δ : Env}
/-! ### isinstance -/
def tyD : PyData → String
  | .none => "NoneType"
  | .bool _ => "bool"
  | .int _ => "int"
  | .str _ => "str"
  | .list _ => "list"
  | .tuple _ => "tuple"
  | .dict _ => "dict"
inductive TyN where
  | int | bool | list | tuple | str
def TyN.nm : TyN → String
  | .int => "int"
  | .bool => "bool"
  | .list => "list"
  | .tuple => "tuple"
  | .str => "str"
def isTy : PyData → TyN → Bool
  | .bool _, .bool => true
  | .bool _, .int => true
  | .int _, .int => true
  | .str _, .str => true
  | .list _, .list => true
  | .tuple _, .tuple => true
  | _, _ => false
def noDict : PyData → Bool
  | .dict _ => false
  | _ => true
def fIsA (ts : List TyN) : List PyData → Option PyData
  | [x] => if noDict x then some (.bool (ts.any (isTy x))) else none
  | _ => none
theorem kit_one {K : PySem.W.Frag} {x : PyData} (hx : noDict x = true) (t : TyN) : PySem.W.kitOne K (.type (tyD x)) (.type t.nm) = some (isTy x t) := by
  cases x with
  | dict _ => cases hx
  | none => exact kit_ty (by cases t <;> decide +kernel)
  | bool b =>
    rw [show isTy (.bool b) t = isTy (.bool true) t by cases t <;> rfl]
    exact kit_ty (a := "bool") (by cases t <;> decide +kernel)
  | int b =>
    rw [show isTy (.int b) t = isTy (.int 0) t by cases t <;> rfl]
    exact kit_ty (a := "int") (by cases t <;> decide +kernel)
  | str b =>
    rw [show isTy (.str b) t = isTy (.str "") t by cases t <;> rfl]
    exact kit_ty (a := "str") (by cases t <;> decide +kernel)
  | list b =>
    rw [show isTy (.list b) t = isTy (.list []) t by cases t <;> rfl]
    exact kit_ty (a := "list") (by cases t <;> decide +kernel)
  | tuple b =>
    rw [show isTy (.tuple b) t = isTy (.tuple []) t by cases t <;> rfl]
    exact kit_ty (a := "tuple") (by cases t <;> decide +kernel)
theorem kit_any {K : PySem.W.Frag} {x : PyData} (hx : noDict x = true) : ∀ ts : List TyN, PySem.W.kitAny K (.type (tyD x)) (ts.map fun t => .type t.nm) = some (ts.any (isTy x))
  | [] => rfl
  | t :: ts => by
    refine kitAny_cons (b := isTy x t) (r := (t :: ts).any (isTy x)) (kit_one hx t) (fun e => ?_) (fun e => ?_)
    · rw [kit_any hx ts, List.any_cons, e]; rfl
    · rw [List.any_cons, e]; rfl
theorem tyx_of {K : PySem.W.Frag} {v : V} {x : PyData} (h : DpT K F H v x) (e : Ex F H) : TyX K H v (.type (tyD x)) := by
  have hl : ∀ {p : Addr} {xs : List V}, SqL K H p xs → TyX K H (.ref p) (.type "list") := fun {p xs} q => by
    rcases q with (q | ⟨o, q⟩) | q
    · exact .base (.lst q)
    · exact .base (.frz q)
    · obtain ⟨o, its, n, q, qc, _⟩ := q
      exact .kList q qc
  have ht : ∀ {p : Addr} {xs : List V}, SqT K H p xs → TyX K H (.ref p) (.type "tuple") := fun {p xs} q => by
    rcases q with (q | ⟨o, q⟩) | q
    · exact .base (.tup q)
    · exact .fTuple q
    · obtain ⟨o, its, n, q, qc, _⟩ := q
      exact .kTuple q qc
  have d := dpt_ex h e
  cases d with
  | non => exact .base .non
  | bl b => exact .base (.bl b)
  | int i => exact .base (.int i)
  | str s => exact .base (.str s)
  | lst a _ => exact hl a
  | tup a _ => exact ht a
theorem ce_isA1 {a : Expr} {t : TyN} {da : DenA} {p p2 pos : Pos} (hK : X.K = C.K) (hg : Gl X "isinstance") (hm : X.mg "isinstance" = none) (hg2 : Gl X (Str.ofString t.nm)) (hm2 : X.mg (Str.ofString t.nm) = none) (hv : bootBuiltins (Str.ofString t.nm) = some (.type t.nm))
    (hn : Str.ofString t.nm ≠ "__name__") (hd : (Str.ofString t.nm == ("__debug__" : Str)) = false) (ha : CEA C Wx X a da) (hs : starEach [a, .Name (Str.ofString t.nm) p2] X.env = [(false, eval a X.env), (false, eval (.Name (Str.ofString t.nm) p2) X.env)] := by rfl)
    (hs2 : starEach [.Name (Str.ofString t.nm) p2] X.env = [(false, eval (.Name (Str.ofString t.nm) p2) X.env)] := by rfl) (hpl : (backTo pos (starEach [.Name (Str.ofString t.nm) p2] X.env)).any (·.1) = false := by rfl) :
    CE C Wx X (.Call (.Name "isinstance" p) [a, .Name (Str.ofString t.nm) p2] [] pos) (dOp1 (fIsA [t]) da) :=
  pe_imp (pe_callB call_isi hg hm (by decide +kernel) (pa_cons ha (pa_cons (pe_bltn (v := .ty t.nm) hg2 hm2 hv rfl hn hd) pa_nil hs2) hs) (by decide) (by decide) hs hpl) fun σ H Q ⟨F, δ, g, q⟩ =>
    ⟨F, δ, g, Post.imp (fun x δ1 F1 H1 _ g1 q1 v hv => by
      refine (show rIsi X.K [v, .ty t.nm] H1 Q from ?_)
      rw [hK]
      have key : (∃ x', [v] = [x'] ∧ rIsi C.K [x', .ty t.nm] H1 Q) := app_ok (r := fun vs H Q => ∃ x', vs = [x'] ∧ rIsi C.K [x', .ty t.nm] H Q) (f := fIsA [t]) (fun xs z hz F H σ δ vs Q gd hd q => by
        unfold fIsA at hz
        split at hz
        · rename_i x
          split at hz
          · rename_i hx
            cases hz
            obtain ⟨v, rfl, h1⟩ := dpts1 hd
            refine ⟨v, rfl, v, .ty t.nm, _, _, _, rfl, .ty _, tyx_of h1 gd.fh, kit_one hx t, ?_⟩
            have := q (.bl ([t].any (isTy x))) F H (Ex.refl F) gd (.bl _)
            simpa using this
          · cases hz
        · cases hz) g1 (.cons hv .nil) q1
      obtain ⟨x', e, h⟩ := key
      cases e
      exact h) (Post.bind q)⟩
end
end Mir

namespace MirX
open PySem PySem.W PySem.Calls PyProof.Rows PySem.HandSPX
/-! what makes an own error: its base's __new__, whatever class below that base it stands under -/
abbrev keyTail : List Value := [.type "KeyError", .type "LookupError", .type "Exception", .type "BaseException", .type "object"]
structure MadeBy (newId : String) (bm : List Value) : Prop where
  base : ∃ (B initId : String) (bmB : List Value), ExcBaseFacts B newId initId bmB ∧ bm.contains (.type B) = true
  nA : bm.contains (.type "AttributeError") = false
  nN : bm.contains (.type "NameError") = false
  pass : ∀ self, refuseLoop self "__setattr__" bm = pure ()
  obj : bm.contains (.type "object") = true
theorem made_value {bm : List Value} (h : refsVE bm = true) : MadeBy "ValueError.__new__" bm :=
  ⟨⟨_, _, _, F.excBase_ValueError, (refsVE_contains _ bm h).trans (by decide +kernel)⟩, (refsVE_contains _ bm h).trans (by decide +kernel), (refsVE_contains _ bm h).trans (by decide +kernel), fun self => refsVE_pass self bm h, (refsVE_contains _ bm h).trans (by decide +kernel)⟩
theorem made_key : MadeBy "LookupError.__new__" keyTail :=
  ⟨⟨_, _, _, F.excBase_LookupError, by decide +kernel⟩, by decide +kernel, by decide +kernel, fun self => by kernel_rfl, by decide +kernel⟩
section
variable {M : Model} {A : Around} {E : Value → Shared → Prop} {hp : Heap} {gs : Array GenState} {dr : Drawn} {tk : Nat} {os : OsState}
variable {nm q : Str} {C N : Addr} {bs bm bmB : List Value} {hd : Bool} {sn : List Str} {sub : List Value} {ab : Bool} {col : Option Bool} {dd : Option Addr} {k0 k1 k2 k3 k5 : Option Value} {B newId initId : String}
theorem looked_new (Z : ExcBaseFacts B newId initId bmB) (hB : bm.contains (.type B) = true) {vs : List Value} {Q : Unit → Shared → Prop}
    (at_ : hp.get? C = some (excClassObj nm q C N bs bm hd sn sub ab col dd k0 k1 k2 k3 k5 newId)) (z : Q () ⟨hp, gs, dr, tk, os⟩) : wpAny M A (checkBuiltinCall newId ⟨.ref C :: vs, []⟩) Q E ⟨hp, gs, dr, tk, os⟩ := by
  have c1 : (Value.ref C :: bm).contains (.type B) = true := by rw [List.contains_cons, hB, Bool.or_true]
  have c2 := Z.noStar
  simp only [checkBuiltinCall, Z.newKind, Z.newSplit, Z.newRow]
  repeat (first
    | refine wpAny_loadPart_at at_ ?_
    | (refine wpAny_isSubtype_exc at_ ?_; rw [c1])
    | refine wpAny_staticBase_exc at_ ?_
    | refine wpAny_madeBy_exc at_ ?_
    | simp only [bne_self_eq_false, Bool.false_eq_true, if_false]
    | wp_step)
  exact z
end
section
variable {prog : Program} {w : World} {A : Around} {E : Value → Shared → Prop} {R : Result → Shared → Prop} {hp : Heap} {gs : Array GenState} {dr : Drawn} {tk : Nat} {os : OsState}
variable {nm q : Str} {C N : Addr} {bs bm bmB : List Value} {hd : Bool} {sn : List Str} {sub : List Value} {ab : Bool} {col : Option Bool} {dd : Option Addr} {k0 k1 k2 k3 k5 : Option Value} {B newId initId : String}
theorem laid_new (Z : ExcBaseFacts B newId initId bmB) (hB : bm.contains (.type B) = true) (hA : bm.contains (.type "AttributeError") = false) (hN : bm.contains (.type "NameError") = false) {vs : List Value}
    (at_ : hp.get? C = some (excClassObj nm q C N bs bm hd sn sub ab col dd k0 k1 k2 k3 k5 newId))
    (z : R (.ok (.ret (.ref (hp.objs.size + 1)))) ⟨(hp.push { cls := .type "tuple", data := .seq vs.toArray }).push { cls := .ref C, data := .fields #[.ref hp.objs.size, .none, .none, .none, .bool false, .none] }, gs, dr, tk, os⟩) (few : vs.length ≤ sizeLine) :
    codeAny (model prog w) A (.builtin newId ⟨.ref C :: vs, []⟩) R ⟨hp, gs, dr, tk, os⟩ := by
  have c0 := Z.ends
  have c1 : (Value.ref C :: bm).contains (.type B) = true := by rw [List.contains_cons, hB, Bool.or_true]
  have c2 : (Value.ref C :: bm).contains (.type "AttributeError") = false := by rw [List.contains_cons, hA]; rfl
  have c3 : (Value.ref C :: bm).contains (.type "NameError") = false := by rw [List.contains_cons, hN]; rfl
  refine codeAny_builtinAt Z.entry ?_
  delta Builtin.«BaseException.__new__»
  refine PySem.wpAt_bind ?_
  show PySem.wpAt _ _ _ (stack >>= _) _ _ _
  refine PySem.wpAt_bind (PySem.wpAt_stack fun _ _ => PySem.wpAt_of_wpAny ?_)
  wp_walk
  refine PySem.wpAt_of_wpAny ?_
  rw [Z.owner]
  repeat (first
    | with_reducible refine wpAny_madeHere_exc Z.canon at_ ?_
    | with_reducible refine wpAny_loadPart_at at_ ?_
    | (with_reducible refine wpAny_isSubtype_exc at_ ?_; first | rw [c1] | rw [c2] | rw [c3])
    | wp_step)
  show R _ _
  rw [Heap.size_push]
  exact z
theorem made_call (Z : ExcBaseFacts B newId initId bmB) (hB : bm.contains (.type B) = true) (hA : bm.contains (.type "AttributeError") = false) (hN : bm.contains (.type "NameError") = false) {vs : List Value} {fI : Addr} {Q : Fin → Shared → Prop}
    (at_ : hp.get? C = some (excClassObj nm q C N bs bm hd sn sub ab col dd k0 k1 k2 k3 k5 newId))
    (hi : Looks (model prog w) hp (typeLookup (.ref C) "__init__") (some (.ref fI))) (hb : ∀ self, Looks (model prog w) hp (bindSpecial (.ref fI) self) (.ref fI, [self])) (few : vs.length ≤ sizeLine)
    (z : codeAny (model prog w) A (.call (.ref fI) ⟨.ref (hp.objs.size + 1) :: vs, []⟩)
      (fun r s2 => match r with
        | .ok (.ret v) => v = .none ∧ Q (.done (.ret (.ref (hp.objs.size + 1)))) s2
        | .ok _ => False
        | .error e => E e s2)
      ⟨(hp.push (kdv_tup vs)).push (excO C hp.objs.size), gs, dr, tk, os⟩) :
    wpAny (model prog w) A (Builtin.«type.__call__» ⟨.ref C :: vs, []⟩) Q E ⟨hp, gs, dr, tk, os⟩ := by
  repeat (first
    | with_reducible refine wpAny_loadPart_at at_ ?_
    | with_reducible refine wpAny_madeBy_exc at_ ?_
    | wp_step)
  refine codeAny_call_builtin_code (Code.quiet_builtin _ Z.quiet) (looked_new Z hB at_ ?_)
  refine laid_new Z hB hA hN at_ ?_ few
  show wpAny _ _ _ _ _ _
  have kk : ∀ b o, hp.get? b = some o → ((hp.push (kdv_tup vs)).push (excO C hp.objs.size)).get? b = some o := fun b o e => Heap.get?_push_of_some _ (Heap.get?_push_of_some _ e)
  have at1 := kk _ _ at_
  have at2 : ((hp.push (kdv_tup vs)).push (excO C hp.objs.size)).get? (hp.objs.size + 1) = some (excO C hp.objs.size) := by heap_get
  have c4 : (Value.ref C :: bm).contains (.ref C) = true := by simp
  have hi1 := hi.keeps kk
  have hb1 := (hb (.ref (hp.objs.size + 1))).keeps kk
  unfold isInstance
  repeat (first
    | with_reducible refine wpAny_loadPart_at at2 ?_
    | (with_reducible refine wpAny_isSubtype_exc at1 ?_; rw [c4])
    | wp_step)
  change wpAny _ _ (typeLookup (.ref C) _) _ _ _
  refine hi1.at ?_
  refine wpAny_holding (wpAny_bind (hb1.at ?_))
  refine wpAny_bind (wpAny_call (codeAny_mono z fun r s2 y => ?_))
  rcases r with e | (v | _ | _ | _) <;> first | exact y | exact y.elim | skip
  obtain ⟨rfl, y⟩ := y
  first
    | exact wpAny_pure (wpAny_pure y)
    | (wp_walk; exact y)
theorem called_own {vs : List Value} {fI : Addr} (m : MadeBy newId bm)
    (at_ : hp.get? C = some (excClassObj nm q C N bs bm hd sn sub ab col dd k0 k1 k2 k3 k5 newId))
    (hi : Looks (model prog w) hp (typeLookup (.ref C) "__init__") (some (.ref fI))) (hb : ∀ self, Looks (model prog w) hp (bindSpecial (.ref fI) self) (.ref fI, [self])) (few : vs.length ≤ sizeLine)
    (z : codeAny (model prog w) (A.under (.builtin "type.__call__" ⟨.ref C :: vs, []⟩)) (.call (.ref fI) ⟨.ref (hp.objs.size + 1) :: vs, []⟩) (InitBack (hp.objs.size + 1) R)
      ⟨(hp.push (kdv_tup vs)).push (excO C hp.objs.size), gs, dr, tk, os⟩) :
    codeAny (model prog w) A (.call (.ref C) ⟨vs, []⟩) R ⟨hp, gs, dr, tk, os⟩ := by
  obtain ⟨B, initId, bmB, Z, hB⟩ := m.base
  have f1 := tc_lookup
  have f2 := tc_bind (.ref C)
  have ty : (⟨hp, gs, dr, tk, os⟩ : Shared).TypeIs (.ref C) "type" := ⟨_, at_, rfl⟩
  refine codeAny_of_tree ?_
  change wpAny _ _ (callAny (.ref C) _) _ _ _
  repeat (any_goals (first
    | assumption
    | with_reducible refine wpAny_loadPart_at at_ ?_
    | wp_step))
  refine ⟨rfl, ?_⟩
  refine codeAny_call_builtin_at (Code.quiet_builtin _ (by decide +kernel)) entry_typeCall (wpAny_check_type_call_sub at_ (made_call Z hB m.nA m.nN at_ hi hb few ?_))
  refine codeAny_mono z fun r s2 y => ?_
  rcases r with e | (v | _ | _ | _) <;> exact y
open Builtin.ObjectAttr in
theorem set_first {K : Frag} {name : Str} {tt : Tok} {v : Value} {x : Addr} {fv : Array Value} {cd : ClassData}
    (X : K.In hp) (hx : hp.get? x = some { cls := .ref C, data := .fields fv }) (hcd : clsIn K C = some cd) (pass : ∀ self, refuseLoop self "__setattr__" cd.mro = pure ()) (hob : cd.mro.contains (.type "object") = true) (hh : cd.hasDict = true) (ha : findIn K (.ref C) name = some none)
    (z : ∀ h2 t2 dx, (∀ b o, b ≠ x → hp.get? b = some o → h2.get? b = some o) → hp.objs.size ≤ dx → dx ≠ x → h2.get? x = some { cls := .ref C, dict := some dx, data := .fields fv } →
      h2.Ns1 dx (fun y => if y = name then some v else none) → R (.ok (.ret .none)) ⟨h2, gs, dr, t2, os⟩) :
    codeAny (model prog w) A (.call (.builtin "object.__setattr__") ⟨[.ref x, .str name tt, v], []⟩) R ⟨hp, gs, dr, tk, os⟩ := by
  have I : InstAt hp x { cls := .ref C, data := .fields fv } C none := ⟨hx, rfl, rfl, trivial⟩
  have so := F.store_object
  have ne : cd.mro.isEmpty = false := by
    cases e : cd.mro with
    | nil => rw [e] at hob; cases hob
    | cons _ _ => rfl
  have xn : x ≠ hp.objs.size := Nat.ne_of_lt (Heap.lt_size hx)
  have isO : Looks (model prog w) hp (isInstance (.ref x) (.type "object")) true := I.type.andThen (looks_mroIn X (by unfold mroIn; rw [hcd, Option.bind_some, if_neg (by rw [ne]; decide), hob]))
  refine codeAny_call_builtin so.slot.plain so.entry (@check_slot (model prog w) _ _ ⟨hp, gs, dr, tk, os⟩ "object.__setattr__" "object" "__setattr__" (.ref x) [.str name tt, v] [] _ so.kind so.split isO (so.args (.ref x) (.str name tt) v) ?_)
  have l1 : Looks (model prog w) hp (mroOf (.ref C)) cd.mro := (looks_clsIn X hcd).andThen .now
  have l2 : Looks (model prog w) hp (storeTaker? none) none := .now
  have l3 : Looks (model prog w) hp (classData C) cd := looks_clsIn X hcd
  rw [osa_eq, refuse_eq]
  refine wpAny_bind (wpAny_bind (I.type.at (wpAny_bind (l1.at ?_))))
  rw [pass]
  refine wpAny_pure (wpAny_bind (I.type.at (wpAny_bind ((looks_findIn X ha).at (wpAny_bind (l2.at ?_))))))
  show wpAny _ _ (storeInOwnDict (.ref x) (.ref C) (.str name tt) name v false) _ _ _
  obtain ⟨cn, cb, cm, cs, cq, ch, cl, cu, ca, cc, ce⟩ := cd
  dsimp only at hh
  subst hh
  unfold storeInOwnDict; unfold ownDictForStores
  repeat (first
    | with_reducible refine store_in_new ?_ ?_
    | with_reducible refine wpAny_loadPart_at hx ?_
    | with_reducible refine l3.at ?_
    | wp_step)
  · exact ⟨_, #[], _, (Heap.get?_update_ne _ _ _ _ xn.symm).trans (Heap.get?_push_at rfl rfl), rfl, fun e he => absurd he (by simp), fun _ => rfl⟩
  · intro h2 t2 hn2 hs
    have hx2 : (hp.push { cls := .type "dict", data := .dict #[] }).get? x = some { cls := .ref C, data := .fields fv } := Heap.get?_push_of_some _ hx
    refine z h2 t2 hp.objs.size (fun b o nb ob => ?_) (Nat.le_refl _) xn.symm ?_ hn2
    · exact (hs.2 b (Nat.ne_of_lt (Heap.lt_size ob))).trans ((Heap.get?_update_ne _ _ _ _ nb).trans (Heap.get?_push_of_some _ ob))
    · exact (hs.2 x xn).trans (Heap.get?_update_self _ hx2 rfl)
end
/-! own errors: class nm(..ValueError): def __init__(self, f): self.f = f -/
def iA (f : Str) (p1 p2 : Pos) : Arguments := { posonlyargs := [], args := [{ arg := "self", annotation := none, pos := p1 }, { arg := f, annotation := none, pos := p2 }], vararg := none, kwonlyargs := [], kw_defaults := [], kwarg := none, defaults := [] }
def iB (f : Str) (q1 q2 q3 q4 : Pos) : List Stmt := [.Assign [.Attribute (.Name "self" q1) f q2] (.Name f q3) q4]
def iS (f : Str) : Scope := { kind := .function, names := [(PySem.Str.ofString "self", .local), (f, .local)], isGenerator := false, isCoroutine := false, more := [] }
structure ErrTxt (K : Frag) (mg : Str → Option Value) (nm q f : Str) (C fI : Addr) : Prop where
  gC : mg nm = some (.ref C)
  cls : ∃ nm q N bs bm sn sub ab col dd k0 k1 k2 k3 k5 newId, K.lookup C = some (excClassObj nm q C N bs bm true sn sub ab col dd k0 k1 k2 k3 k5 newId) ∧ MadeBy newId bm
  sa : findIn K (.ref C) "__setattr__" = some (some (.builtin "object.__setattr__"))
  ga : findIn K (.ref C) "__getattribute__" = some (some (.builtin "BaseException.__getattribute__"))
  gg : findIn K (.ref C) "__getattr__" = some none
  noN : findIn K (.ref C) f = some none
  iC : findIn K (.ref C) "__init__" = some (some (.ref fI))
  tC : typeIn K (.ref fI) = some (.type "function")
  kC : keepIn K (.ref C) = true
  exC : subIn K (.ref C) (.type "BaseException") = some true
  tyC : typeIn K (.ref C) = some (.type "type")
  hdC : hasDictIn K C = true
  fn : ∃ (oc : Value) (od : Option Addr) (doc pm : Value) (an : Option Addr) (cdv ct : Value) (osl : Array (Option Value)) (p1 p2 q1 q2 q3 q4 : Pos),
    K.lookup fI = some ⟨oc, od, .func (fnOf "__init__" q (iA f p1 p2) (iB f q1 q2 q3 q4) (iS f) .none .none doc pm an cdv ct), osl⟩ ∧ codeIn K cdv q = true
theorem one_size (v : Value) : [v].length ≤ sizeLine := by
  rw [sizeLine_eq]
  exact (by decide : 1 ≤ 16777216)
theorem ldC {M : Model} {s : Shared} {name : Str} {scope : Scope} {L a : Addr} {cd : Value} {m : Str → Option Value} {x : Str} {pos : Pos} {v : Value} {Q : Value → Shared → Prop} {A : Around} {E : Value → Shared → Prop} (hn : s.heap.Ns L m) (hv : m x = some v) (h : Q v s)
    (hk : scope.kind = .function) (hl : (envOfC name scope L a cd).kindOf x = some .local) (hd : (x == ("__debug__" : Str)) = false) :
    wpAny M A (eval (.Name x pos) (envOfC name scope L a cd)) Q E s := wpAny_Name (wpAny_loadName_local hk hl hn hv h) hd
/-- what __init__ leaves of a fresh exception at x -/
structure InitEnd (f : Str) (h h' : Heap) (x C dx t1 : Addr) (v : Value) : Prop where
  keep : ∀ b o, b ≠ x → h.get? b = some o → h'.get? b = some o
  obj : h'.get? x = some { cls := .ref C, dict := some dx, data := .fields #[.ref t1, .none, .none, .none, .bool false, .none] }
  dbig : h.objs.size ≤ dx
  dne : dx ≠ x
  ns : h'.Ns1 dx (fun y => if y = f then some v else none)
structure OwnMade (f : Str) (h h' : Heap) (e C d : Addr) (v : Value) : Prop where
  keep : ∀ b o, h.get? b = some o → h'.get? b = some o
  new : h.objs.size ≤ e
  obj : ∃ oe vs, h'.get? e = some oe ∧ oe.cls = .ref C ∧ oe.dict = some d ∧ oe.data = .fields vs ∧ vs[1]? = some .none
  dbig : h.objs.size ≤ d
  dne : d ≠ e
  ns : h'.Ns1 d (fun y => if y = f then some v else none)
/-- a plain field's name -/
structure FieldOk (f : Str) : Prop where
  d : (f == ("__debug__" : Str)) = false
  sc : ∀ (x v : Value), ([((PySem.Str.ofString "self"), x), (f, v)].all fun y => List.lookup y.1 (iS f).names == some NameKind.local || List.lookup y.1 (iS f).names == some NameKind.cell) = true
  bind : ∀ (q : Str) (p1 p2 q1 q2 q3 q4 : Pos) (doc pm cdv ct : Value) (an : Option Addr) (x : Addr) (v : Value), bindArgs (fnOf "__init__" q (iA f p1 p2) (iB f q1 q2 q3 q4) (iS f) .none .none doc pm an cdv ct) ⟨[.ref x, v], []⟩ = pure [((PySem.Str.ofString "self"), .ref x), (f, v)]
  b1 : ∀ (q : Str) (L fI : Addr) (cdv x v : Value), bindL (envOfC q (iS f) L fI cdv).kindOf [((PySem.Str.ofString "self"), x), (f, v)] (fun _ => none) f = some v
  b2 : ∀ (q : Str) (L fI : Addr) (cdv x v : Value), bindL (envOfC q (iS f) L fI cdv).kindOf [((PySem.Str.ofString "self"), x), (f, v)] (fun _ => none) (PySem.Str.ofString "self") = some x
  kd : ∀ (q : Str) (L fI : Addr) (cdv : Value), (envOfC q (iS f) L fI cdv).kindOf f = some .local
  kc : ∀ (q : Str) (L fI : Addr) (cdv : Value), (envOfC q (iS f) L fI cdv).kindOf (PySem.Str.ofString "self") = some .local
  lk : ∀ v : L2.V, List.lookup f [(f, v)] = some v
theorem field_value : FieldOk "value" := ⟨by decide, fun _ _ => rfl, fun _ _ _ _ _ _ _ _ _ _ _ _ _ _ => rfl, fun _ _ _ _ _ _ => rfl, fun _ _ _ _ _ _ => rfl, fun _ _ _ _ => rfl, fun _ _ _ _ => rfl, fun _ => by simp [List.lookup]⟩
theorem field_at : FieldOk "at" := ⟨by decide, fun _ _ => rfl, fun _ _ _ _ _ _ _ _ _ _ _ _ _ _ => rfl, fun _ _ _ _ _ _ => rfl, fun _ _ _ _ _ _ => rfl, fun _ _ _ _ => rfl, fun _ _ _ _ => rfl, fun _ => by simp [List.lookup]⟩
theorem field_size : FieldOk "size" := ⟨by decide, fun _ _ => rfl, fun _ _ _ _ _ _ _ _ _ _ _ _ _ _ => rfl, fun _ _ _ _ _ _ => rfl, fun _ _ _ _ _ _ => rfl, fun _ _ _ _ => rfl, fun _ _ _ _ => rfl, fun _ => by simp [List.lookup]⟩
section
variable {prog : Program} {w : World} {A : Around} {E : Value → Shared → Prop} {R : Result → Shared → Prop} {s : Shared} {K : Frag} {mg : Str → Option Value} {nm q f : Str} {C fI : Addr}
theorem err_init (T : ErrTxt K mg nm q f C fI) (hf : FieldOk f) {x t0 : Addr} {v : Value} (X : K.In s.heap) (hlim : s.heap.NoLimit) (hx : s.heap.get? x = some (excO C t0)) (hroom : A.depth < recursionLimit)
    (hq : ∀ h' tk dx, InitEnd f s.heap h' x C dx t0 v → R (.ok (.ret .none)) { s with heap := h', toks := tk }) :
    codeAny (model prog w) A (.call (.ref fI) ⟨[.ref x, v], []⟩) R s := by
  obtain ⟨oc, od, doc, pm, an, cdv, ct, osl, p1, p2, q1, q2, q3, q4, ho, hcd⟩ := T.fn
  rcases T.cls with ⟨nm, q, N, bs, bm, sn, sub, ab, col, dd, k0, k1, k2, k3, k5, newId, hC, hbm⟩
  have hcl : clsIn K C = some { name := nm, bases := bs, mro := .ref C :: bm, ns := N, qualname := q, hasDict := true, slotNames := sn, subclasses := sub, abstract := ab, collection := col, hasDel := false } := by unfold clsIn; rw [hC] <;> rfl
  refine Att.call_fn (binds := [((PySem.Str.ofString "self"), .ref x), (f, v)]) X hlim ho hcd hroom (BindsTo.of_eq (hf.bind ..)) ?_ (fun s₁ IC => ?_) rfl rfl rfl
  · exact hf.sc _ _
  obtain ⟨h₁, tk₁, rfl⟩ := IC.toInCall.same
  have k : ∀ b o, s.heap.get? b = some o → h₁.get? b = some o := IC.toInCall.keep
  have hn := IC.toInCall.ns
  have hxL : s.heap.objs.size ≠ x := Nat.ne_of_gt (Heap.lt_size hx)
  have X₁ : K.In h₁ := X.keeps k
  have hx₁ := k _ _ hx
  show wpAny _ _ (execs _ _) _ _ _
  refine wpAny_execs_cons (plainObj_wpAny_Assign_Attribute ?_)
  refine ldC (v := v) hn ?hv1 (ldC (v := .ref x) hn ?hv2 ?_ rfl (hf.kc ..) (by decide)) rfl ?hl1 hf.d
  case hv1 => exact hf.b1 ..
  case hv2 => exact hf.b2 ..
  case hl1 => exact hf.kd ..
  refine set_plain X₁ (ox := excO C t0) (od := none) ⟨hx₁, rfl, rfl, trivial⟩ T.sa ?_
  refine set_first X₁ hx₁ hcl (fun self => (refuseLoop_ref _ _ _ _).trans (hbm.pass self)) (by rw [List.contains_cons, hbm.obj, Bool.or_true]) rfl T.noN (fun h₃ tk₃ dx k₃ dn dne hx₃ hn₃ => ?_)
  show wpAny _ _ (execs _ _) _ _ _
  have z : s.heap.objs.size < h₁.objs.size := hn.lt
  exact wpAny_execs_nil (hq h₃ tk₃ dx ⟨fun b o hb e => k₃ b o hb (k b o e), hx₃, Nat.le_of_lt (Nat.lt_of_lt_of_le z dn), dne, hn₃⟩)
theorem err_made (T : ErrTxt K mg nm q f C fI) (hf : FieldOk f) {v : Value} (X : K.In s.heap) (hlim : s.heap.NoLimit) (hroom : A.depth + 1 < recursionLimit)
    (hq : ∀ h' tk e d, OwnMade f s.heap h' e C d v → R (.ok (.ret (.ref e))) { s with heap := h', toks := tk }) :
    codeAny (model prog w) A (.call (.ref C) ⟨[v], []⟩) R s := by
  rcases T.cls with ⟨nm, q, N, bs, bm, sn, sub, ab, col, dd, k0, k1, k2, k3, k5, newId, hC, hbm⟩
  rcases s with ⟨hp, g, dr, tk, os⟩
  have k : ∀ b o, hp.get? b = some o → ((hp.push (kdv_tup [v])).push (excO C hp.objs.size)).get? b = some o := fun b o e => Heap.get?_push_of_some _ (Heap.get?_push_of_some _ e)
  have hget : ((hp.push (kdv_tup [v])).push (excO C hp.objs.size)).get? (hp.objs.size + 1) = some (excO C hp.objs.size) := by heap_get
  have hnx : K.lookup (hp.objs.size + 1) = none := by
    cases e : K.lookup (hp.objs.size + 1) with
    | none => rfl
    | some o =>
      have z : hp.get? (hp.objs.size + 1) = some o := X _ _ e
      exact absurd (Nat.lt_of_succ_lt (Heap.lt_size z)) (Nat.lt_irrefl _)
  refine called_own hbm (X _ _ hC) (looks_findIn X T.iC) (fun self => bind_fn X self T.tC) (one_size v) ?_
  refine err_init (s := ⟨(hp.push (kdv_tup [v])).push (excO C hp.objs.size), g, dr, tk, os⟩) T hf (X.keeps k) (hlim.keeps k) hget ?_ fun h' tk' dx ⟨k', hx, dn, dne, hns⟩ => ?_
  · show A.depth + 1 < recursionLimit
    exact hroom
  · have old : ∀ b o, hp.get? b = some o → h'.get? b = some o := fun b o e => k' b o (Nat.ne_of_lt (Nat.lt_succ_of_lt (Heap.lt_size e))) (k b o e)
    have z : hp.objs.size + 1 + 1 ≤ dx := by
      first
        | (simpa only [Heap.size_push] using dn)
        | exact dn
        | (have q := dn; rw [Heap.size_push, Heap.size_push] at q; exact q)
    exact ⟨rfl, hq h' tk' (hp.objs.size + 1) dx ⟨old, Nat.le_succ _, ⟨_, _, hx, rfl, rfl, rfl, rfl⟩, Nat.le_trans (Nat.le_trans (Nat.le_succ _) (Nat.le_succ _)) z, dne, hns⟩⟩
end
end MirX
namespace Mir
open PySem PySem.Spec PyProof.Rows L2 MirX
open Evl (Ex)
theorem relO_err {f0 : Str} {v : V} {v' : Value} (r : RelV v v') (f : Str) : RelO (List.lookup f [(f0, v)]) (if f = f0 then some v' else none) := by
  by_cases hw : f = f0
  · subst hw
    rw [if_pos rfl, List.lookup, beq_self_eq_true]
    exact r
  · rw [if_neg hw]
    have qw : (f == f0) = false := by simpa using hw
    rw [List.lookup, qw]
    trivial
section
variable {X : Cx} {C fI : Addr} {nm q f : Str}
def tMkE (f : Str) (C : Addr) (ta : TA) : L2.St → Hp → XK → Prop := fun σ H Q => ta σ H fun vs H1 => ∃ v, vs = [v] ∧ ∀ d, H1 d = none → Q (.ref C) (some d) (upd H1 d (.xd [(f, v)]))
theorem pmk_err {a : Expr} {ta : TA} {p pos : Pos} {k : Nat} (T : ErrTxt X.K X.mg nm q f C fI) (hf : FieldOk f) (hr : Room k X.A) (ha : PA X [a] ta) (hg : Gl X nm) (hdb : (nm == ("__debug__" : Str)) = false)
    (he : starEach (a :: []) X.env = (false, eval a X.env) :: starEach [] X.env := by rfl) (hpl : (backTo pos (starEach [] X.env)).any (·.1) = false := by rfl) :
    PMk X (.Call (.Name nm p) [a] [] pos) (tMkE f C ta) := by
  intro pins s σ H Q I h
  refine wpAny_Call_Name_kw (ld_glob I hg T.gC ?_ hdb)
  refine PySem.W.callWith_K (h₀ := X.base) I.ok.mod.kin T.kC (thn (ha.run pos pins s σ H _ I h) fun us s1 hh => ?_) he hpl
  obtain ⟨vs, H1, I1, r1, v, ev, q1⟩ := hh
  subst ev
  refine ⟨I1.kIn, ?_⟩
  cases r1 with
  | cons rv rn =>
    rename_i v' us'
    cases rn
    show wpAny _ _ (call (.ref C) [v']) _ _ _
    have hlim := I1.nolimit
    rcases s1 with ⟨hp, g, dr, tk, os⟩
    refine wpAny_call (err_made T hf I1.kIn hlim (by have := hr.dp; omega) fun h' tk' e d M => ?_)
    show MkP X pins σ Q (.ref e) ⟨h', g, dr, tk', os⟩
    obtain ⟨oe, fv, hoe, hc, hd, hdat, h1⟩ := M.obj
    have hns := M.ns
    obtain ⟨G', g1, g2⟩ := restrict h' fun b => decide (b ≠ e)
    have gk : ∀ b, b ≠ e → G'.get? b = h'.get? b := fun b hb => g1 b (decide_eq_true hb)
    have ge : G'.get? e = none := g2 e (by simp)
    have old : ∀ b o, hp.get? b = some o → G'.get? b = some o := fun b o q => (gk b (Nat.ne_of_lt (Nat.lt_of_lt_of_le (Heap.lt_size q) M.new))).trans (M.keep b o q)
    have ob : ObjOk X.prog X.w (upd H1 d (.xd [(f, v)])) G' d (.xd [(f, v)]) :=
      ⟨_, hns.at (fun o q => (gk d M.dne).trans q), fun g => relO_err rv g⟩
    have J : Inv X pins σ (upd H1 d (.xd [(f, v)])) ⟨G', g, dr, tk', os⟩ := I1.laid (t' := tk') old M.dbig ob
    refine ⟨e, oe, fv, ⟨G', g, dr, tk', os⟩, _, .ref C, some d, rfl, J, fun b o q => ?_, ge, hoe, ⟨hc, hd⟩, hdat, h1, ?_, rfl, I1.bare, raises_own T.exC T.tyC, q1 d (I1.hok.fresh M.dbig)⟩
    · by_cases hb : b = e
      · have q' : G'.get? b = some o := q
        rw [hb, ge] at q'; cases q'
      · exact (gk b hb).symm.trans q
    · rw [upd_ne (Ne.symm M.dne)]
      exact I1.hok.fresh M.new
end
section
variable {C : Ct} {Wx : WX} {X : Cx}
def sRaise (c : Nat) (d : Den) : DenS := fun δ => (d δ).to fun x δ' => .exc c x δ'
theorem cs_raise {c k : Nat} {nm q : Str} {fI : Addr} {a : Expr} {d : Den} {p pos pos2 : Pos} (hc : X.calm = true) (T : ErrTxt X.K X.mg nm q (C.fld c) (C.cls c) fI) (hf : FieldOk (C.fld c)) (hr : Room k X.A) (tk : Takes X Wx) (ha : CE C Wx X a d) (hg : Gl X nm) (hdb : (nm == ("__debug__" : Str)) = false)
    (he : starEach (a :: []) X.env = (false, eval a X.env) :: starEach [] X.env := by rfl) (hpl : (backTo pos (starEach [] X.env)).any (·.1) = false := by rfl) :
    CS C Wx X (.Raise (some (.Call (.Name nm p) [a] [] pos)) none pos2) (sRaise c d) :=
  ps_imp (ps_raise hc tk (pmk_err T hf hr (pa_cons ha pa_nil he) hg hdb he hpl)) fun D σ H ⟨F, δ, g, q⟩ =>
    ⟨F, δ, g, Post.imp (fun x δ1 F1 H1 _ g1 q1 v hv => ⟨v, rfl, fun dx hd => q1 σ _ _ dx v (Ex.new (g1.new0 hd).1) (g1.grow hd trivial) upd_same (Dp.ex hv (Ex.new (g1.new0 hd).1))⟩) (Post.to q)⟩
end
end Mir

namespace Mir
open PySem PySem.Spec PyProof.Rows L2 MirX
open Evl (Ex)
/-! several clauses, each with a name -/
/-- a clause: its class, its name's slot, its suite -/
structure Cl where
  c : Value
  i : Nat
  ts : Addr → Value → Option Addr → TS
/-- the ends of a suite: the clause's name goes -/
def endsOf (D : Ends) (i : Nat) : Ends := { nx := fun τ G => D.nx (τ.set i none) G, rt := D.rt, bk := fun τ G => D.bk (τ.set i none) G, ct := fun τ G => D.ct (τ.set i none) G }
def wCls (K : PySem.W.Frag) (Wout : WX) (D : Ends) : List Cl → WX
  | [] => Wout
  | k :: r => fun cls d τ G => ∃ b, PySem.W.exmOne K cls k.c = some b ∧ (b = true → ∀ a, G a = none → k.ts a cls d (endsOf D k.i) (τ.set k.i (some (.ref a))) G) ∧ (b = false → wCls K Wout D r cls d τ G)
inductive ClsOk (X : Cx) : List ExceptHandler → List Cl → Prop
  | nil : ClsOk X [] []
  | cons {x n : Str} {k : Cl} {b₀ : Stmt} {more : List Stmt} {p1 p2 : Pos} {hs : List ExceptHandler} {r : List Cl} (hc : Names X x k.c) (hi : X.N[k.i]? = some n) (hl : X.env.kindOf n = some .local)
      (su : ∀ (a : Addr) (oe : Obj) (cls : Value) (d : Option Addr) (pn : List (Addr × Obj)), Zc cls d oe → (∃ vs, oe.data = .fields vs) → PSs (X.suite a ((a, oe) :: pn)) (b₀ :: more) (k.ts a cls d)) (h : ClsOk X hs r) :
      ClsOk X (.ExceptHandler (some (.Name x p1)) (some n) (b₀ :: more) p2 :: hs) (k :: r)
section
variable {X : Cx} {body : List Stmt} {h0 : ExceptHandler} {hs : List ExceptHandler} {cl : List Cl} {tpos : Pos} {tb : WX → TS} {Wout : WX}
theorem ps_try_cls (hst : X.stack = X.env :: X.outer) (hfm : X.env.frame = some X.env.locals) (hN : X.N.Nodup) (tk : Takes X Wout) (hb : ∀ (W : WX) (pn : List (Addr × Obj)) (xe : Value → Shared → Prop), Takes (X.tr pn xe) W → PassesOwn (model X.prog X.w) X.A X.env xe → PSs (X.tr pn xe) body (tb W))
    (hh : ClsOk X (h0 :: hs) cl) : PS X (.Try body (h0 :: hs) [] [] tpos) (fun D τ G => tb (wCls X.K Wout D cl) D τ G) := by
  constructor
  intro pins st τ G D I hw
  have okX := I.ok
  have frm : X.A.frames = some (X.env :: X.outer) := okX.frames.trans (by rw [hst])
  apply wpAny_Try_except
  obtain ⟨xe, hxe⟩ : ∃ xe : Value → Shared → Prop, xe = fun e s₁ => wpAny (model X.prog X.w) X.A (noteFrame e X.env) (fun _ s₂ => wpAny (model X.prog X.w) X.A (setFlight e none)
    (fun _ s₃ => wpAny (model X.prog X.w) X.A (handleBy e X.env (h0 :: hs)) (SP X pins D) X.xe s₃) X.xe s₂) X.xe s₁ := ⟨_, rfl⟩
  have pass : PassesOwn (model X.prog X.w) X.A X.env xe := hxe ▸ PassesOwn.looking
  have ctch : Takes (X.tr (X.pn ++ pins) xe) (wCls X.K Wout D cl) := by
    subst hxe
    rintro u s2 ⟨a, B, sB, pins2, τ2, G2, cls, d, rfl, JB, inB, upB, skyB, freeA, osB, agB, wish⟩
    have J : Inv X pins τ2 G2 sB := JB.ofTry okX
    have sky2 : Sky B (X.env :: X.outer) a (Zc cls d) X.env.locals s2.heap := hst ▸ skyB
    show wpAny (model X.prog X.w) X.A (noteFrame (Value.ref a) X.env) _ _ _
    apply Sky.land Zc.steady frm hfm sky2
    intro g3 fly3 up3
    have JL : ∀ {g : Heap}, HandSPX.FlyingZ B (X.env :: X.outer) a (Zc cls d) g → s2.heap.UpToSlots g → Inv X pins τ2 G2 { s2 with heap := g } := fun fl up => J.landed inB fl.1 (upB.trans up) osB agB
    have J3 := JL fly3 up3
    obtain ⟨o3, f3, got3, z3, dat3⟩ := fly3.there
    have nofrm : ∀ b ∈ frs (X.env :: X.outer), a ≠ b := fun b hb e => by
      subst e
      obtain ⟨_, oo, he, hnf⟩ := fly3.2.2.1.mem hb
      rw [got3] at he
      cases he
      exact hnf _ dat3
    have notLoc : a ≠ X.env.locals := nofrm _ (List.mem_filterMap.mpr ⟨X.env, List.mem_cons_self, hfm⟩)
    have notFs : a ∉ X.fs := fun hm => by
      obtain ⟨en, hen, q⟩ := List.mem_filterMap.mp hm
      exact nofrm a (List.mem_filterMap.mpr ⟨en, List.mem_cons_of_mem _ hen, q⟩) rfl
    have S3 := J3.suite got3 dat3 freeA notLoc notFs
    have walk : ∀ {hs' : List ExceptHandler} {cl' : List Cl}, ClsOk X hs' cl' → wCls X.K Wout D cl' cls d τ2 G2 → wpAny (model X.prog X.w) X.A (handleBy (.ref a) X.env hs') (SP X pins D) X.xe { s2 with heap := g3 } := by
      intro hs' cl' ok
      induction ok with
      | nil =>
        intro wish
        apply wpAny_handleBy_nil
        obtain ⟨_, _, _, oe, fv, T, _, _, got, _, dat, at1, _⟩ := id fly3
        unfold PySem.passOn
        apply wpAny_bind
        refine wpAny_field got dat at1 ?_
        rw [if_neg (show ¬ ((Value.ref T == Value.none) = true) by simp)]
        have fin : wpAny (model X.prog X.w) X.A (setFlight (.ref a) X.env.frame) (fun _ s4 => wpAny (model X.prog X.w) X.A (throw (.ref a) : Sem Flow) (SP X pins D) X.xe s4) X.xe { s2 with heap := g3 } := by
          rw [hfm]
          apply HandSPX.setFlight_upZ fly3
          intro g4 held4 up4
          apply wpAny_throw
          exact tk _ _ ⟨a, B, sB, pins, τ2, G2, cls, d, rfl, J, inB, (upB.trans up3).trans up4, .inr (.inr (hst ▸ held4)), freeA, osB, agB, wish⟩
        first
          | (refine wpAny_bind (wpAny_pure ?_); exact wpAny_bind fin)
          | exact wpAny_bind fin
      | @cons x n k b₀ more p1 p2 hs2 r hc hi hl su _ ih =>
        rintro ⟨b, isB, yes, no⟩
        refine wpAny_handleBy_cons (codeAny_handlers_test ?_) (fun q => by cases q)
        have lookT : PySem.W.Looks (model X.prog X.w) g3 (typeOf (.ref a)) cls := fun A' Q' E' s' kk q => wpAny_typeOf_ref (kk _ _ got3) (z3.1.symm ▸ q)
        have lookM := PySem.W.exm_one (M := model X.prog X.w) J3.kIn lookT isB
        have named : ∀ {Q : Value → Shared → Prop} {E : Value → Shared → Prop}, Q k.c { s2 with heap := g3 } → wpAny (model X.prog X.w) (X.A.mark (some (.ref a))) (eval (.Name x p1) X.env) Q E { s2 with heap := g3 } := fun {Q E} q => by
          rcases hc with ⟨hg, hd, hm | ⟨hm, hv, hn⟩⟩
          · exact ld_glob (X := X.suite a ((a, o3) :: (X.pn ++ pins))) S3 hg hm q hd
          · exact ld_blt (X := X.suite a ((a, o3) :: (X.pn ++ pins))) S3 hg hm hv q hn hd
        refine named (lookM.here ?_)
        cases b with
        | false =>
          show wpAny _ X.A (handleBy (.ref a) X.env hs2) _ _ _
          exact ih (no rfl)
        | true =>
          apply codeAny_handlers_suite_as
          apply HandSPX.lands_againZ fly3
          intro g4 fly4 up4
          have J4 := JL fly4 (up3.trans up4)
          obtain ⟨o4, f4, got4, z4, dat4⟩ := fly4.there
          have S4 := J4.suite got4 dat4 freeA notLoc notFs
          refine store_ok (X := X.suite a ((a, o4) :: (X.pn ++ pins))) (v := .ref a) S4 hN hi (.inl hl) rfl (fun s5 S5 => ?_) (.inr hl)
          have sui := (su a o4 cls d (X.pn ++ pins) z4 ⟨_, dat4⟩).run [] s5 _ G2 (endsOf D k.i) S5 (yes rfl a freeA)
          refine wpAny_mono sui (fun fl s6 hsp => ?_) (fun _ _ z => z.elim)
          have gone : ∀ {τ6 : L2.St} {G6 : Hp} {Q : Shared → Prop}, Inv (X.suite a ((a, o4) :: (X.pn ++ pins))) [] τ6 G6 s6 → (∀ s7, Inv X pins (τ6.set k.i none) G6 s7 → Q s7) →
              wpAny (model X.prog X.w) X.A (do bindName X.env n .none; unbindBehindTheSuite X.env n p2) (fun _ s7 => Q s7) X.xe s6 := fun {τ6 G6 Q} S6 hq => gone_ok (S6.unsuite okX) hN hi hl hq
          cases fl with
          | next => obtain ⟨τ6, G6, S6, q6⟩ := hsp; exact gone S6 fun s7 J7 => ⟨_, _, J7, q6⟩
          | brk => obtain ⟨τ6, G6, S6, q6⟩ := hsp; exact gone S6 fun s7 J7 => ⟨_, _, J7, q6⟩
          | cont => obtain ⟨τ6, G6, S6, q6⟩ := hsp; exact gone S6 fun s7 J7 => ⟨_, _, J7, q6⟩
          | ret u => obtain ⟨v6, τ6, G6, S6, r6, q6⟩ := hsp; exact gone S6 fun s7 J7 => ⟨_, _, _, J7, r6, q6⟩
    exact walk hh wish
  refine wpAny_mono ((hb _ (X.pn ++ pins) xe ctch pass).run [] st τ G D (I.toTry _) hw) (fun fl s1 hsp => ?_) (fun e s1 he => by subst hxe; exact he)
  · cases fl with
    | next => obtain ⟨τ1, G1, J1, q⟩ := hsp; exact wpAny_execs_nil ⟨τ1, G1, J1.ofTry okX, q⟩
    | brk => obtain ⟨τ1, G1, J1, q⟩ := hsp; exact ⟨τ1, G1, J1.ofTry okX, q⟩
    | cont => obtain ⟨τ1, G1, J1, q⟩ := hsp; exact ⟨τ1, G1, J1.ofTry okX, q⟩
    | ret u => obtain ⟨v, τ1, G1, J1, r, q⟩ := hsp; exact ⟨v, τ1, G1, J1.ofTry okX, r, q⟩
end
end Mir

namespace MirX
open PySem.Spec PySem.Calls PySem PyProof.Rows PySem.W
section
variable {pg : Program} {wd : World} {A : Around} {E : Value → Shared → Prop} {s : Shared} {K : Frag} {x D : Addr} {ox : Obj} {od : Option Obj}
/-- __class__ is a data descriptor: what the error's own dict holds does not matter -/
theorem obj_class (hc : (clsIn K D).isSome = true) (ha : findIn K (.ref D) "__class__" = some (some (.builtin "object.__class__"))) (hg : specialIn K (.builtin "object.__class__") "__get__" = some (some (.builtin "getset_descriptor.__get__"))) (ht : takesIn K (.builtin "object.__class__") = some true) :
    findObj K D od "__class__" = some (.bind (.builtin "getset_descriptor.__get__") (.builtin "object.__class__")) := by
  obtain ⟨cd, e⟩ := Option.isSome_iff_exists.mp hc
  unfold findObj
  simp only [e, ha, hg, ht, Option.bind_some]
theorem class_of_err (T : L2.ExcC K D) (X : K.In s.heap) (I : InstAt s.heap x ox D od) {Q : Option Value → Shared → Prop} (h : Q (some (.ref D)) { s with toks := s.toks + 1 }) : wpAny (model pg wd) A (getAttr? (.ref x) "__class__") Q E s := by
  have found : findObj K D od "__class__" = some (.bind (.builtin "getset_descriptor.__get__") (.builtin "object.__class__")) := obj_class (by obtain ⟨cd, hc, _⟩ := any_some T.hd; rw [hc]; rfl) T.ha T.hn T.ht
  obtain ⟨hp, gs, dr, tk, oz⟩ := s
  have lk0 := I.type (M := model pg wd)
  have lk1 := looks_findIn (M := model pg wd) X T.hg
  have lk2 := looks_findIn (M := model pg wd) X T.hk
  have lk3 := looks_find (M := model pg wd) X I found
  have isB : Looks (model pg wd) hp (isInstance (.ref x) (.type "BaseException")) true := lk0.andThen (looks_subIn X T.hs)
  have ne1 : (Value.builtin "BaseException.__getattribute__" == Value.builtin "object.__getattribute__") = false := by decide +kernel
  have ne2 : (onTheHeap (Value.ref D) && Value.builtin "BaseException.__getattribute__" == Value.builtin "object.__getattribute__") = false := by rw [ne1, Bool.and_false]
  unfold getAttr?
  unfold getAttrBy? getAttrBy
  apply wpAny_bind
  apply wpAny_mkText
  apply wpAny_bind
  apply wpAny_attempt
  apply wpAny_holding
  apply wpAny_bind
  apply lk0.at
  apply wpAny_bind
  apply lk1.at
  show wpAny _ _ (if (onTheHeap (Value.ref D) && Value.builtin "BaseException.__getattribute__" == Value.builtin "object.__getattribute__") = true
    then _ else _) _ _ _
  rw [if_neg (by rw [ne2]; exact Bool.false_ne_true)]
  unfold getAttrByItsOwn
  unfold hookBefore
  apply wpAny_bind
  rw [if_pos (show onTheHeap (Value.ref D) = true by rfl)]
  apply lk2.at
  apply wpAny_bind
  apply wpAny_attempt
  apply wpAny_holding
  unfold callGetattribute
  rw [if_neg (show ¬ (false && onTheHeap (Value.builtin "BaseException.__getattribute__")) = true by simp)]
  unfold boundAndCalled
  rw [PySem.F.excAttr_ValueError.ga.bind (Value.ref x)]
  apply wpAny_bind
  apply wpAny_pure
  show wpAny _ _ (call (.builtin "BaseException.__getattribute__") [.ref x, .str "__class__" tk]) _ _ _
  apply wpAny_call
  apply codeAny_call_builtin PySem.F.excAttr_ValueError.ga.plain PySem.F.entry_bexc_ga
  refine @check_slot (model pg wd) _ _ ⟨hp, gs, dr, tk + 1, oz⟩ "BaseException.__getattribute__" "BaseException" "__getattribute__" (.ref x) [.str "__class__" tk] [] _ (by decide +kernel) (by decide +kernel) isB (PySem.F.args_bexc_ga (.ref x) (.str "__class__" tk)) ?_
  delta Builtin.«object.__getattribute__»
  apply wpAny_bind
  refine wpAny_of_eq (a := ((Value.ref x : Value), [Value.str "__class__" tk])) (by first | rfl | (simp only [slotArgs]; rfl)) ?_
  apply wpAny_bind
  apply wpAny_pure
  apply wpAny_bind
  apply lk0.at
  apply wpAny_bind
  apply lk3.at
  show wpAny _ _ (holding [Value.builtin "object.__class__"] (call (.builtin "getset_descriptor.__get__") [.builtin "object.__class__", .ref x, .ref D])
    >>= ret) _ _ _
  apply wpAny_bind
  apply wpAny_holding
  apply wpAny_call
  refine class_get (s := ⟨hp, gs, dr, tk + 1, oz⟩) (ox := ox) (od := od) X I T.hm ?_
  apply wpAny_pure
  show wpAny _ _ (handedOut (Value.ref D)) _ _ _
  rw [handedOut_of (v := Value.ref D) rfl]
  first
    | (refine wpAny_pure ?_; exact wpAny_pure h)
    | exact wpAny_pure h
    | (refine wpAny_pure (wpAny_bind ?_); exact wpAny_pure (wpAny_pure h))
theorem kit_err (T : L2.ExcC K D) : KitX K (.ref x) (.ref D) (fun h => ∃ od, InstAt h x ox D od) where
  ty := fun _ _ _ ⟨_, I⟩ => I.type
  it := fun M h X _ => by
    obtain ⟨cdD, hcD, _⟩ := any_some T.hd
    unfold clsIn at hcD
    split at hcD
    · rename_i o
      intro A' Q' E' s' k q
      unfold isType loadHead
      exact wpAny_bind (wpAny_loadPart (k _ _ (X _ _ o)) (wpAny_pure q))
    · cases hcD
  ne := (handS_kitx_exc (x := x) (ox := ox) T.hg T.hk T.hs T.hd T.ha T.hn T.ht T.hm).ne
  ca := fun X ⟨_, I⟩ k => class_of_err T X I k
end
end MirX

namespace Mir
open PySem PySem.Spec PyProof.Rows L2 MirX
open Evl (Ex)
/-- the suite's context: the error at a, its dict at e -/
def Ct.at (C : Ct) (a e : Addr) (c : Value) : Ct := { C with ea := a, ed := e, ec := c }
def noExc : Env → Bool
  | [] => true
  | some (.exc _ _) :: _ => false
  | _ :: r => noExc r
theorem repS_at {C : Ct} {F H : Hp} {a e : Addr} {c : Value} {σ : L2.St} {δ : Env} {ps : List (List Addr)} (r : RepS C.toSg F H σ δ ps) (h : noExc δ = true) : RepS (C.at a e c).toSg F H σ δ ps := by
  induction r with
  | nil => exact .nil
  | skip _ ih => exact .skip (ih h)
  | @cons v w p σ δ ps h1 _ ih =>
    have h2 : noExc δ = true := by
      cases w <;> first | exact h | cases h
    refine .cons ?_ (ih h2)
    cases h1 with
    | d q => exact .d q
    | own q1 q2 => exact .own q1 q2
    | bor q1 q2 => exact .bor q1 q2
    | dct q1 q2 => exact .dct q1 q2
    | bod q1 q2 => exact .bod q1 q2
    | lams q1 q2 q3 => exact .lams q1 q2 q3
    | lam q => exact .lam q
    | fn => exact .fn (C := (C.at a e c).toSg)
    | exc _ _ _ => cases h
theorem repS_back {C : Ct} {F H : Hp} {a e : Addr} {c : Value} {σ : L2.St} {δ : Env} {ps : List (List Addr)} (r : RepS (C.at a e c).toSg F H σ δ ps) (h : noExc δ = true) : RepS C.toSg F H σ δ ps := by
  induction r with
  | nil => exact .nil
  | skip _ ih => exact .skip (ih h)
  | @cons v w p σ δ ps h1 _ ih =>
    have h2 : noExc δ = true := by
      cases w <;> first | exact h | cases h
    refine .cons ?_ (ih h2)
    cases h1 with
    | d q => exact .d q
    | own q1 q2 => exact .own q1 q2
    | bor q1 q2 => exact .bor q1 q2
    | dct q1 q2 => exact .dct q1 q2
    | bod q1 q2 => exact .bod q1 q2
    | lams q1 q2 q3 => exact .lams q1 q2 q3
    | lam q => exact .lam q
    | fn => exact .fn
    | exc _ _ _ => cases h
theorem Good.at {C : Ct} {F H : Hp} {a e : Addr} {c : Value} {σ : L2.St} {δ : Env} (g : Good C F H σ δ) (h : noExc δ = true) : Good (C.at a e c) F H σ δ := by
  obtain ⟨ps, r, nd, fr⟩ := g.sl
  exact ⟨g.f0, g.fh, g.tb, g.tf, g.fr, g.kp, g.io, ps, repS_at r h, nd, fr⟩
theorem Good.back {C : Ct} {F H : Hp} {a e : Addr} {c : Value} {σ : L2.St} {δ : Env} (g : Good (C.at a e c) F H σ δ) (h : noExc δ = true) : Good C F H σ δ := by
  obtain ⟨ps, r, nd, fr⟩ := g.sl
  exact ⟨g.f0, g.fh, g.tb, g.tf, g.fr, g.kp, g.io, ps, repS_back r h, nd, fr⟩
/-- forgetting a slot's value and its content -/
theorem Good.wipe {C : Ct} {F H : Hp} {σ : L2.St} {δ : Env} {i : Nat} (g : Good C F H σ δ) (hi : isBor δ i = false) : Good C F H (σ.set i none) (δ.set i none) := by
  have g1 := g.drop (isBor_no hi)
  obtain ⟨ps, r, nd, fr⟩ := g1.sl
  refine ⟨g1.f0, g1.fh, g1.tb, g1.tf, g1.fr, g1.kp, fun j a hj => ?_, ps, ?_, nd, fr⟩
  · obtain ⟨h1, h2, l, h3, h4⟩ := g1.io j a hj
    have hne : i ≠ j := fun z => by
      subst z
      rw [List.getElem?_set_self (by have := (g.io i a hj).2.2; obtain ⟨_, e, _⟩ := this; exact get_lt e)] at h3
      cases h3
    exact ⟨by rw [List.getElem?_set_ne hne]; exact h1, h2, l, h3, h4⟩
  · have key : ∀ {σ : L2.St} {δ : Env} {ps : List (List Addr)} (i : Nat), RepS C.toSg F H σ (δ.set i none) ps → RepS C.toSg F H (σ.set i none) (δ.set i none) ps := by
      intro σ δ ps i
      induction i generalizing σ δ ps with
      | zero =>
        intro r
        cases δ with
        | nil => cases r; exact .nil
        | cons d δ => cases r with | skip r => exact .skip r
      | succ i ih =>
        intro r
        cases δ with
        | nil => cases r; exact .nil
        | cons d δ =>
          cases r with
          | skip r => exact .skip (ih r)
          | cons a r => exact .cons a (ih r)
    exact key i r

/-- a clause: its class by number, its name's slot, its suite -/
structure ClD where
  k : Nat
  i : Nat
  su : DenS
/-- a suite's outcome -/
def endD (i : Nat) : S → S
  | .nx δ => if isBor δ i = false ∧ noExc (δ.set i none) = true then .nx (δ.set i none) else .stuck
  | .brk δ => if isBor δ i = false ∧ noExc (δ.set i none) = true then .brk (δ.set i none) else .stuck
  | .cont δ => if isBor δ i = false ∧ noExc (δ.set i none) = true then .cont (δ.set i none) else .stuck
  | .ret (.d x) δ => if noExc (δ.set i none) = true ∧ isBor δ i = false then .ret (.d x) (δ.set i none) else .stuck
  | _ => .stuck
def handle (sub : Nat → Nat → Option Bool) (c : Nat) (x : PyData) (δ : Env) : List ClD → S
  | [] => .exc c x δ
  | k :: r => match sub c k.k with
    | some true => if noExc δ = true ∧ isBor δ k.i = false then endD k.i (k.su (δ.set k.i (some (.exc c x)))) else .stuck
    | some false => handle sub c x δ r
    | none => .stuck
def sTry (sub : Nat → Nat → Option Bool) (body : DenS) (cl : List ClD) : DenS := fun δ => match body δ with
  | .exc c x δ' => handle sub c x δ' cl
  | r => r
/-- the reading of a clause's suite -/
def rdCl (C : Ct) (k : ClD) (cv : Value) : Cl := ⟨cv, k.i, fun a cls d D σ H => ((∃ dd, d = some dd) ∧ ∃ c, cls = .ref (C.cls c)) ∧ tS (C.at a (d.getD 0) cls) (fun _ _ _ _ => False) k.su D σ H⟩
theorem pss_fact {P : Prop} {X : Cx} {s : List Stmt} {t : TS} (h : P → PSs X s t) : PSs X s (fun D σ H => P ∧ t D σ H) := ⟨fun pins st σ H D I q => (h q.1).run pins st σ H D I q.2⟩
inductive RdCls (C : Ct) (sub : Nat → Nat → Option Bool) : List ClD → List Cl → Prop
  | nil : RdCls C sub [] []
  | cons {k : ClD} {cv : Value} {r : List ClD} {rs : List Cl} (h : ∀ c b, sub c k.k = some b → PySem.W.exmOne C.K (.ref (C.cls c)) cv = some b) (t : RdCls C sub r rs) : RdCls C sub (k :: r) (rdCl C k cv :: rs)
section
variable {C : Ct} {Wx : WX} {X : Cx}
theorem Good.setExc {F H : Hp} {σ : L2.St} {δ : Env} {c i : Nat} {x : PyData} {a dx : Addr} {v : V} (g : Good C F H σ δ) (hn : noExc δ = true) (hi : isBor δ i = false) (hx : F dx = some (.xd [(C.fld c, v)])) (hd : Dp C.K F v x) :
    Good (C.at a dx (.ref (C.cls c))) F H (σ.set i (some (.ref a))) (δ.set i (some (.exc c x))) := by
  have g1 := g.at (a := a) (e := dx) (c := .ref (C.cls c)) hn
  have gt : GoodT (C.at a dx (.ref (C.cls c))) F H σ δ (.ref a) (.exc c x) := g1.snoc (p := []) (.exc rfl hx hd) .nil (fun q hq => by cases hq) fun _ _ _ _ _ _ _ q _ hq => by cases hq
  exact GoodT.set gt g1.len (isBor_no hi) g1.iolt
theorem endD_ok {D : Ends} {F F2 : Hp} {i : Nat} {r : S} {a e : Addr} {c : Value} (h : PostS C Wx D F (endD i r)) (e2 : Ex F F2) : PostS (C.at a e c) (fun _ _ _ _ => False) (endsOf D i) F2 r := by
  have h := PostS.mono e2 h
  cases r with
  | nx δ =>
    simp only [endD] at h
    split at h
    · rename_i hc
      exact fun σ F' H' e g => h _ F' H' e ((g.wipe hc.1).back hc.2)
    · exact h.elim
  | brk δ =>
    simp only [endD] at h
    split at h
    · rename_i hc
      exact fun σ F' H' e g => h _ F' H' e ((g.wipe hc.1).back hc.2)
    · exact h.elim
  | cont δ =>
    simp only [endD] at h
    split at h
    · rename_i hc
      exact fun σ F' H' e g => h _ F' H' e ((g.wipe hc.1).back hc.2)
    · exact h.elim
  | ret w δ =>
    cases w with
    | d x =>
      simp only [endD] at h
      split at h
      · rename_i hc
        intro σ v F' H' e g hl hio
        have g0 := GoodT.forget g hl hio
        obtain ⟨u, hu, hd⟩ := Good.getD (i := σ.length) (x := x) g (by rw [hl, List.getElem?_append_right (Nat.le_refl _)]; simp)
        have ev : u = v := by
          rw [List.getElem?_append_right (Nat.le_refl _)] at hu
          simpa using hu.symm
        subst ev
        have g1 := (g0.wipe hc.2).back hc.1
        exact h _ _ F' H' e (g1.tmpD hd) (by simpa using hl) (fun j a hj => by simpa using hio j a hj)
      · exact h.elim
    | _ => exact h.elim
  | exc c x δ => exact h.elim
  | stuck => exact h.elim
theorem handle_ok {sub : Nat → Nat → Option Bool} {cl : List ClD} {rs : List Cl} (hr : RdCls C sub cl rs) {D : Ends} {F : Hp} {c : Nat} {x : PyData} {δ : Env} (h : PostS C Wx D F (handle sub c x δ cl)) (σ : L2.St) :
    ∀ F' H' dx v, Ex F F' → Good C F' H' σ δ → F' dx = some (.xd [(C.fld c, v)]) → Dp C.K F' v x → wCls C.K Wx D rs (.ref (C.cls c)) (some dx) σ H' := by
  induction hr with
  | nil => exact h σ
  | @cons k cv r rs hk _ ih =>
    intro F' H' dx v e g hx hd
    unfold handle at h
    cases es : sub c k.k with
    | none => rw [es] at h; exact h.elim
    | some b =>
      rw [es] at h
      refine ⟨b, hk c b es, fun hb a ha => ?_, fun hb => ?_⟩
      · subst hb
        have h2 : PostS C Wx D F (if noExc δ = true ∧ isBor δ k.i = false then endD k.i (k.su (δ.set k.i (some (.exc c x)))) else .stuck) := h
        split at h2
        · rename_i hc
          exact ⟨⟨⟨dx, rfl⟩, c, rfl⟩, F', _, g.setExc hc.1 hc.2 hx hd, endD_ok h2 e⟩
        · exact h2.elim
      · subst hb
        exact ih h F' H' dx v e g hx hd
theorem cs_try {sub : Nat → Nat → Option Bool} {body : List Stmt} {h0 : ExceptHandler} {hs : List ExceptHandler} {db : DenS} {cl : List ClD} {rs : List Cl} {tpos : Pos} (hK : X.K = C.K) (hst : X.stack = X.env :: X.outer) (hfm : X.env.frame = some X.env.locals) (hN : X.N.Nodup) (tk : Takes X Wx)
    (hb : ∀ (W : WX) (pn : List (Addr × Obj)) (xe : Value → Shared → Prop), Takes (X.tr pn xe) W → PassesOwn (model X.prog X.w) X.A X.env xe → CSs C W (X.tr pn xe) body db)
    (hr : RdCls C sub cl rs) (hh : ClsOk X (h0 :: hs) rs) : CS C Wx X (.Try body (h0 :: hs) [] [] tpos) (sTry sub db cl) :=
  ps_imp (ps_try_cls (tb := fun W => tS C W db) hst hfm hN tk hb hh) fun D σ H ⟨F, δ, g, q⟩ => by
    refine ⟨F, δ, g, ?_⟩
    unfold sTry at q
    rw [hK]
    cases e : db δ with
    | nx δ' => rw [e] at q; exact q
    | ret w δ' => rw [e] at q; exact q
    | brk δ' => rw [e] at q; exact q
    | cont δ' => rw [e] at q; exact q
    | stuck => rw [e] at q; exact q.elim
    | exc c x δ' =>
      rw [e] at q
      exact fun σ' => handle_ok hr q σ'
theorem exc_inv {S : Sg} {F H : Hp} {v : V} {c : Nat} {x : PyData} {p : List Addr} (h : RepW S F H v (.exc c x) p) : ∃ u, v = .ref S.ea ∧ S.ec = .ref (S.cls c) ∧ F S.ed = some (.xd [(S.fld c, u)]) ∧ Dp S.K F u x := by
  cases h with
  | exc h0 h1 h2 => exact ⟨_, rfl, h0, h1, h2⟩
/-! within a suite: the error's field, its class -/
def dFld (i k : Nat) : Den := fun δ => match δ[i]? with
  | some (some (.exc c x)) => if c = k then .ok x δ else .stuck
  | _ => .stuck
theorem ce_fld {a : Addr} {oe : Obj} {cls : Value} {d : Option Addr} {pn : List (Addr × Obj)} {e : Expr} {i k : Nat} {n : Str} {pos : Pos} {Wq : WX} (hd : ∃ dd, d = some dd) (hc : ∃ c, cls = .ref (C.cls c)) (hn : n = C.fld k) (hf : FieldOk n) (T : XfC X.K (C.cls k)) (hno : PySem.W.findIn X.K (.ref (C.cls k)) n = some none)
    (hz : Zc cls d oe) (hv : ∃ vs, oe.data = .fields vs) (he : PE (X.suite a ((a, oe) :: pn)) e (tVar i)) (hb : attributeBase e n X.env (eval e X.env) = eval e X.env := by rfl) :
    CE (C.at a (d.getD 0) cls) Wq (X.suite a ((a, oe) :: pn)) (.Attribute e n pos) (dFld i k) :=
  pe_imp (pe_xf T hno hz hv he hb) fun σ H Q ⟨F, δ, g, q⟩ => by
    unfold dFld at q
    split at q
    · rename_i c x ex
      split at q
      · rename_i hck
        subst hck
        obtain ⟨v, p, h1, h2, _⟩ := g.get ex
        obtain ⟨u, rfl, he, hF, hdp⟩ := exc_inv h2
        obtain ⟨dd, rfl⟩ := hd
        have hF2 : F dd = some (.xd [(C.fld c, u)]) := hF
        refine ⟨_, h1, rfl, he, dd, _, u, rfl, g.fh _ _ hF2, ?_, q F H (Ex.refl F) g u hdp⟩
        rw [← hn]; exact hf.lk u
      · exact q.elim
    · exact q.elim
/-! isinstance(error, class) -/
def dIsE (i k : Nat) (isi : Nat → Nat → Option Bool) : Den := fun δ => match δ[i]? with
  | some (some (.exc c _)) => match isi c k with
    | some b => .ok (.bool b) δ
    | none => .stuck
  | _ => .stuck
theorem call_isErr {a : Addr} {D : Addr} {oe : Obj} {d : Option Addr} {pn : List (Addr × Obj)} (T : ExcC X.K D) (hz : Zc (.ref D) d oe) (hv : ∃ vs, oe.data = .fields vs) (hd : ∃ dd, d = some dd) :
    CallR (X.suite a ((a, oe) :: pn)) (.builtin "isinstance") (fun xs H Q => ∃ (c : V) (cv : Value) (b : Bool) (dd : Addr) (fs : List (Str × V)), xs = [.ref a, c] ∧ (∀ u, RelV c u → u = cv) ∧ d = some dd ∧ H dd = some (.xd fs) ∧ PySem.W.kitOne X.K (.ref D) cv = some b ∧ Q (.bl b) H) := by
  intro pins s σ H xs us
  intro Q I r h
  obtain ⟨c, cv, b, dd, fs, rfl, hcv, hdd, hH, e, q⟩ := h
  rcases vals2 r with ⟨u1, u2, rfl, r1, r2⟩
  cases r1
  have e2 := hcv _ r2
  subst e2
  obtain ⟨got, _⟩ := I.pin (a, oe) (List.mem_append.mpr (.inl List.mem_cons_self))
  obtain ⟨vs, hvs⟩ := hv
  have hx : ObjOk X.prog X.w H s.heap dd (.xd fs) := I.hok dd _ hH
  obtain ⟨mA, hns, _⟩ := hx
  obtain ⟨od, ho, _⟩ := lookIn_ns hns
  have J : PySem.W.InstAt s.heap a oe D (some od) := ⟨got, hz.1, by unfold PySem.W.notCls; rw [hvs] <;> rfl, by rw [hz.2, hdd]; exact ho⟩
  exact PySem.W.kia_one (kit_err T) I.kIn ⟨some od, J⟩ e (fun z => nomatch z) fun tk => ⟨.bl b, H, I.kept (t' := tk) fun _ _ z => z, rfl, q⟩
theorem ce_isE {a : Addr} {oe : Obj} {cls : Value} {d : Option Addr} {pn : List (Addr × Obj)} {e : Expr} {i k : Nat} {n : Str} {isi : Nat → Nat → Option Bool} {p p2 pos : Pos} {Wq : WX} (hd : ∃ dd, d = some dd) (hc : ∃ c, cls = .ref (C.cls c)) (T : ∀ c, cls = .ref (C.cls c) → ExcC X.K (C.cls c))
    (hisi : ∀ c b, isi c k = some b → PySem.W.kitOne X.K (.ref (C.cls c)) (.ref (C.cls k)) = some b) (hz : Zc cls d oe) (hv : ∃ vs, oe.data = .fields vs) (hg : Gl X "isinstance") (hm : X.mg "isinstance" = none) (hg2 : Gl X n) (hm2 : X.mg n = some (.ref (C.cls k))) (hdb : (n == ("__debug__" : Str)) = false)
    (he : PE (X.suite a ((a, oe) :: pn)) e (tVar i)) (hs : starEach [e, .Name n p2] X.env = [(false, eval e X.env), (false, eval (.Name n p2) X.env)] := by rfl) (hs2 : starEach [.Name n p2] X.env = [(false, eval (.Name n p2) X.env)] := by rfl) (hpl : (backTo pos (starEach [.Name n p2] X.env)).any (·.1) = false := by rfl) :
    CE (C.at a (d.getD 0) cls) Wq (X.suite a ((a, oe) :: pn)) (.Call (.Name "isinstance" p) [e, .Name n p2] [] pos) (dIsE i k isi) := by
  obtain ⟨c0, rfl⟩ := hc
  refine pe_imp (pe_callB (X := X.suite a ((a, oe) :: pn)) (call_isErr (T c0 rfl) hz hv hd) hg hm (by decide +kernel) (pa_cons he (pa_cons (pe_glob (v := .ref (C.cls k)) hg2 hm2 rfl hdb) pa_nil hs2) hs) (by decide) (by decide) hs hpl) fun σ H Q ⟨F, δ, g, q⟩ => ?_
  unfold dIsE at q
  split at q
  · rename_i c x ex
    split at q
    · rename_i b hb
      obtain ⟨v, p, h1, h2, _⟩ := g.get ex
      obtain ⟨u, rfl, he, hF, hdp⟩ := exc_inv h2
      obtain ⟨dd, rfl⟩ := hd
      have ee : (.ref (C.cls c0) : Value) = .ref (C.cls c) := he
      have hb2 := hisi c b hb
      rw [← ee] at hb2
      exact ⟨_, h1, .ref (C.cls k), .ref (C.cls k), b, dd, _, rfl, fun u hu => hu, rfl, g.fh _ _ hF, hb2, q F H (Ex.refl F) g _ (.bl b)⟩
    · exact q.elim
  · exact q.elim
end
end Mir

namespace Mir
open PySem PySem.Spec PyProof.Rows L2 MirX
open Evl (Ex)
/-! ### a list or a tuple, walked -/
/-- at a stands a list (k) or a tuple -/
def SqA (k : Bool) (K : PySem.W.Frag) (H : Hp) (a : Addr) (xs : List V) : Prop := if k then SqL K H a xs else SqT K H a xs
def StA (k : Bool) (h : Heap) (a : Addr) (its : Array Value) : Prop := if k then h.IsList a its else h.IsTuple a its
def ItA (k : Bool) (h : Heap) (it a : Addr) (i : Nat) : Prop := if k then h.IsListIter it a i else h.IsTupleIter it a i
def obA (k : Bool) (a : Addr) : Obj := if k then { cls := .type "list_iterator", data := .fields #[.ref a, .int 0 0] } else { cls := .type "tuple_iterator", data := .fields #[.ref a, .int 0 0] }
section
variable {X : Cx} {pins : List (Addr × Obj)} {σ : L2.St} {H : Hp} {s : Shared} {k : Bool} {a it : Addr} {xs ys : List V} {its : Array Value} {h h' : Heap}
theorem L2inv_sq (I : L2.Inv X pins σ H s) (q : SqA k X.K H a xs) : ∃ vs : List Value, Vals xs vs ∧ StA k s.heap a vs.toArray ∧ xs.length ≤ sizeLine ∧ a < s.heap.objs.size := by
  cases k with
  | true =>
    obtain ⟨vs, r, p, z⟩ := I.list q
    exact ⟨vs, r, p.isList, z, p.lt⟩
  | false =>
    obtain ⟨vs, r, p, z⟩ := I.tuple q
    exact ⟨vs, r, p, z, by obtain ⟨o, e, _⟩ := id p; exact Heap.lt_size e⟩
theorem sq_inj (I : L2.Inv X pins σ H s) (q : SqA k X.K H a xs) (q' : SqA k X.K H a ys) : xs = ys := by
  cases k with
  | true => exact I.list_inj q q'
  | false => exact I.tuple_inj q q'
theorem drawsA {P : Program} {w : World} {A : Around} (hh : A.handled = none) (hne : a ≠ it) : Draws P w A it [it, a] its.size (fun i v => its[i]? = some v) (fun i h => ItA k h it a i ∧ StA k h a its) := by
  cases k with
  | true => exact Draws.list hh it a hne its
  | false => exact Draws.tuple hh it a hne its
theorem beginsA : Begins (.ref a) (obA k a) (fun h => StA k h a its) := by
  cases k with
  | true => exact begins_list a its
  | false => exact begins_tuple a its
theorem itA_new (e : h.get? it = some (obA k a)) : ItA k h it a 0 := by
  cases k with
  | true => exact ⟨_, e, rfl, rfl⟩
  | false => exact ⟨_, e, rfl, rfl⟩
theorem itA_obj {i : Nat} (q : ItA k h it a i) : ∃ o, h.get? it = some o ∧ ∀ v, o.data ≠ .cell v := by
  cases k with
  | true => obtain ⟨o, e, _, d⟩ := q; exact ⟨o, e, fun v z => by rw [d] at z; cases z⟩
  | false => obtain ⟨o, e, _, d⟩ := q; exact ⟨o, e, fun v z => by rw [d] at z; cases z⟩
theorem itA_keep {i : Nat} (q : ItA k h it a i) (kp : ∀ o, h.get? it = some o → h'.get? it = some o) : ItA k h' it a i := by
  cases k with
  | true => exact Heap.IsListIter.at q kp
  | false => exact Heap.IsTupleIter.at q kp
theorem stA_keep (q : StA k h a its) (kp : ∀ o, h.get? a = some o → h'.get? a = some o) : StA k h' a its := by
  cases k with
  | true => exact Heap.IsList.at q kp
  | false => exact Heap.IsTuple.at q kp
end
/-- items in pairs with their numbers -/
def ItE (k : Bool) (K : PySem.W.Frag) (a : Addr) : It :=
  ⟨fun i H => ∃ (xs : List V) (x : V), SqA k K H a xs ∧ xs[i]? = some x, fun i H v H' => ∃ T x, v = .ref T ∧ H T = none ∧ H' = upd H T (.tup [.int (i : Nat), x]) ∧ ∀ xs, SqA k K H a xs → xs[i]? = some x, fun i H => ∃ xs : List V, SqA k K H a xs ∧ xs.length = i⟩
theorem turn_enumA {P : Program} {w : World} {K : PySem.W.Frag} {elts : List Expr} {kk : Nat} {tp : Pos} (k : Bool) (a e it : Addr) (hei : e ≠ it) (hea : e ≠ a) (hia : a ≠ it) :
    Turn P w K (.Tuple elts kk tp) (ItE k K a) [e, it] e (fun i h => (∃ old, IsEnum h e it (i : Int) old) ∧ ItA k h it a i) where
  mem := List.mem_cons_self
  obj := fun i h st b hb => by
    obtain ⟨⟨old, he⟩, hi⟩ := st
    rcases List.mem_cons.1 hb with z | z
    · subst z; exact ⟨_, he, fun v q => nomatch q⟩
    · rw [List.mem_singleton.mp z]; exact itA_obj hi
  keep := fun i h h' st kp => by
    obtain ⟨⟨old, he⟩, hi⟩ := st
    exact ⟨⟨old, kp e (by simp) _ he⟩, itA_keep hi fun o q => kp it (by simp) o q⟩
  item := by
    intro X hP hw hK hc i
    intro pins s σ H E I hf st hg
    subst hP hw hK
    obtain ⟨hE, hit⟩ := st
    obtain ⟨xs, x, hq, hx⟩ := hg
    obtain ⟨vs, rv, hs, _, hal⟩ := L2inv_sq I hq
    rcases rv.get hx with ⟨u, hu, ru⟩
    have hlt : i < vs.toArray.size := by
      rw [List.size_toArray]
      exact get_lt hu
    have G := GoesN.enumFrom (prog := X.prog) (w := X.w) (A := X.A) (elts := elts) (x1 := kk) (pos := tp) 0 (drawsA (k := k) (A := X.A.in1) (its := vs.toArray) (I.ok.hd hc) hia) e hei (by simp [hei, hea]) List.mem_cons_self
    have z0 : ((0 : Int) + (i : Int)) = i := by omega
    have z1 : ((0 : Int) + ((i + 1 : Nat) : Int)) = ((i + 1 : Nat) : Int) := by omega
    refine wpAny_mono (G.goes i s (fun v s2 => ∃ y H', L2.Inv X pins σ H' s2 ∧ RelV y v ∧ (ItE k X.K a).yld i H y H' ∧ ((∃ old, IsEnum s2.heap e it ((i + 1 : Nat) : Int) old) ∧ ItA k s2.heap it a (i + 1)) ∧ ∀ b ∈ [e, it], H' b = none) E hlt ⟨by rw [z0]; exact hE, hit, hs⟩ fun v h' tk hY st2 kp _ => ?_) (fun r s1 q => q) fun _ _ q => q
    obtain ⟨T, t, y, rfl, hT, hy, hTup⟩ := hY
    have ey : y = u := by
      have h1 : vs.toArray[i]? = some u := by simpa using hu
      exact Option.some.inj (hy.symm.trans h1)
    subst ey
    rw [z0] at hTup
    have new : ObjOk X.prog X.w (upd H T (.tup [.int (i : Nat), x])) h' T (.tup [.int (i : Nat), x]) := ⟨by show 2 ≤ sizeLine; decide, [.int i t, y], .cons ⟨_, rfl⟩ (.cons ru .nil), hTup⟩
    have I1 := I.turnedNew (t' := tk) (ch := [e, it]) kp hf hT new
    obtain ⟨st3, st4, _⟩ := st2
    rw [z1] at st3
    refine ⟨.ref T, _, I1, rfl, ⟨T, x, rfl, I.hok.fresh hT, rfl, fun zs hz => by rw [sq_inj I hz hq]; exact hx⟩, ⟨st3, st4⟩, fun b hb => ?_⟩
    have hbl : b < s.heap.objs.size := by
      rcases List.mem_cons.1 hb with z | z
      · obtain ⟨old, he⟩ := hE; rw [z]; exact Heap.lt_size he
      · obtain ⟨o, ho, _⟩ := itA_obj hit; rw [List.mem_singleton.mp z]; exact Heap.lt_size ho
    rw [upd_ne (Nat.ne_of_lt (Nat.lt_of_lt_of_le hbl hT))]
    exact (hf b hb).1
  done := by
    intro X hP hw hK hc i
    intro pins s σ H E I hf st hg
    subst hP hw hK
    obtain ⟨hE, hit⟩ := st
    obtain ⟨xs, hq, hx⟩ := hg
    obtain ⟨vs, rv, hs, _, _⟩ := L2inv_sq I hq
    have hn : vs.toArray.size = i := by rw [List.size_toArray, ← rv.length, hx]
    have G := GoesN.enumFrom (prog := X.prog) (w := X.w) (A := X.A) (elts := elts) (x1 := kk) (pos := tp) 0 (drawsA (k := k) (A := X.A.in1) (its := vs.toArray) (I.ok.hd hc) hia) e hei (by simp [hei, hea]) List.mem_cons_self
    have z0 : ((0 : Int) + (i : Int)) = i := by omega
    refine G.stops s _ E ?_ fun h' tk kp _ => I.turnedL (t' := tk) (ch := [e, it]) kp hf
    rw [hn]
    exact ⟨by rw [z0]; exact hE, hit, hs⟩
  self := fun A i s Q E =>
    fun st h => by
    obtain ⟨⟨old, he⟩, _⟩ := st
    exact wpAny_pyIter_enum he h
/-- items of two in pairs -/
def ItZ (k l : Bool) (K : PySem.W.Frag) (a b : Addr) : It :=
  ⟨fun i H => ∃ (xs ys : List V) (x y : V), SqA k K H a xs ∧ SqA l K H b ys ∧ xs[i]? = some x ∧ ys[i]? = some y,
   fun i H v H' => ∃ T x y, v = .ref T ∧ H T = none ∧ H' = upd H T (.tup [x, y]) ∧ (∀ xs, SqA k K H a xs → xs[i]? = some x) ∧ ∀ ys, SqA l K H b ys → ys[i]? = some y,
   fun i H => ∃ xs ys : List V, SqA k K H a xs ∧ SqA l K H b ys ∧ min xs.length ys.length = i⟩
theorem turn_zipA {P : Program} {w : World} {K : PySem.W.Frag} {elts : List Expr} {kk : Nat} {tp : Pos} (k l : Bool) {a b z TI TO i1 i2 : Addr} (S : ZipSep2 z TI TO i1 i2 [i1, a] [i2, b]) (ha : a ≠ i1) (hb : b ≠ i2) :
    Turn P w K (.Tuple elts kk tp) (ItZ k l K a b) [z, TI, TO, i1, i2] z (fun i h => IsZip h z TI TO .none ∧ IsTupOf2 h TI (.ref i1) (.ref i2) ∧ (∃ p q, IsTupOf2 h TO p q) ∧ ItA k h i1 a i ∧ ItA l h i2 b i) where
  mem := List.mem_cons_self
  obj := fun i h st c hc => by
    obtain ⟨h1, h2, ⟨p, q, h3⟩, h4, h5⟩ := st
    simp only [List.mem_cons, List.not_mem_nil, or_false] at hc
    rcases hc with e | e | e | e | e <;> subst e
    · exact ⟨_, h1, fun v z => nomatch z⟩
    · exact ⟨_, h2, fun v z => nomatch z⟩
    · exact ⟨_, h3, fun v z => nomatch z⟩
    · exact itA_obj h4
    · exact itA_obj h5
  keep := fun i h h' st kp => by
    obtain ⟨h1, h2, ⟨p, q, h3⟩, h4, h5⟩ := st
    exact ⟨kp z (by simp) _ h1, kp TI (by simp) _ h2, ⟨p, q, kp TO (by simp) _ h3⟩, itA_keep h4 fun o q => kp i1 (by simp) o q, itA_keep h5 fun o q => kp i2 (by simp) o q⟩
  item := by
    intro X hP hw hK hc i
    intro pins s σ H E I hf st hg
    subst hP hw hK
    obtain ⟨h1, h2, h3, h4, h5⟩ := st
    rcases hg with ⟨xs, ys, x, y, hqx, hqy, hx, hy⟩
    obtain ⟨us, ru, su, _, _⟩ := L2inv_sq I hqx
    obtain ⟨vs, rv, sv, _, _⟩ := L2inv_sq I hqy
    obtain ⟨u, hu, r1⟩ := ru.get hx
    obtain ⟨v, hv, r2⟩ := rv.get hy
    have G := GoesN.zip2 (prog := X.prog) (w := X.w) (A := X.A) (elts := elts) (x1 := kk) (pos := tp) S (drawsA (k := k) (A := X.A.in1) (its := us.toArray) (I.ok.hd hc) ha) (drawsA (k := l) (A := X.A.in1) (its := vs.toArray) (I.ok.hd hc) hb)
    have hlt : i < min us.toArray.size vs.toArray.size := by
      simp only [List.size_toArray]
      have q1 := get_lt hu
      have q2 := get_lt hv
      omega
    refine wpAny_mono (G.goes i s (fun v s2 => ∃ y' H', L2.Inv X pins σ H' s2 ∧ RelV y' v ∧ (ItZ k l X.K a b).yld i H y' H' ∧ (IsZip s2.heap z TI TO .none ∧ IsTupOf2 s2.heap TI (.ref i1) (.ref i2) ∧ (∃ p q, IsTupOf2 s2.heap TO p q) ∧ ItA k s2.heap i1 a (i + 1) ∧ ItA l s2.heap i2 b (i + 1)) ∧ ∀ c ∈ [z, TI, TO, i1, i2], H' c = none) E hlt ⟨h1, h2, h3, ⟨h4, su⟩, h5, sv⟩ fun val h' tk hY st2 kp _ => ?_) (fun r s1 q => q) fun _ _ q => q
    obtain ⟨T, p, q, rfl, hT, hp, hq, hTup⟩ := hY
    have ep : p = u := Option.some.inj (hp.symm.trans (by simpa using hu))
    have eq : q = v := Option.some.inj (hq.symm.trans (by simpa using hv))
    subst ep eq
    have new : ObjOk X.prog X.w (upd H T (.tup [x, y])) h' T (.tup [x, y]) := ⟨by show 2 ≤ sizeLine; decide, [p, q], .cons r1 (.cons r2 .nil), hTup⟩
    have I1 := I.turnedNew (t' := tk) (ch := [z, TI, TO, i1, i2]) (fun c o hc' q => kp c o (fun hm => hc' (by
      simp only [List.mem_cons, List.not_mem_nil, or_false] at hm ⊢
      rcases hm with e | e | e | e <;> simp [e])) q) hf hT new
    obtain ⟨t1, t2, t3, ⟨t4, _⟩, t5, _⟩ := st2
    refine ⟨.ref T, _, I1, rfl, ⟨T, x, y, rfl, I.hok.fresh hT, rfl, fun zs hz => by rw [sq_inj I hz hqx]; exact hx, fun zs hz => by rw [sq_inj I hz hqy]; exact hy⟩, ⟨t1, t2, t3, t4, t5⟩, fun c hcm => ?_⟩
    have hcl : c < s.heap.objs.size := by
      have hcm2 := hcm
      simp only [List.mem_cons, List.not_mem_nil, or_false] at hcm2
      obtain ⟨p', q', h3'⟩ := h3
      rcases hcm2 with e | e | e | e | e <;> subst e
      · exact Heap.lt_size h1
      · exact Heap.lt_size h2
      · exact Heap.lt_size h3'
      · obtain ⟨o, ho, _⟩ := itA_obj h4; exact Heap.lt_size ho
      · obtain ⟨o, ho, _⟩ := itA_obj h5; exact Heap.lt_size ho
    rw [upd_ne (Nat.ne_of_lt (Nat.lt_of_lt_of_le hcl hT))]
    exact (hf c hcm).1
  done := by
    intro X hP hw hK hc i
    intro pins s σ H E I hf st hg
    subst hP hw hK
    obtain ⟨h1, h2, h3, h4, h5⟩ := st
    obtain ⟨xs, ys, hqx, hqy, hn⟩ := hg
    obtain ⟨us, ru, su, _, _⟩ := L2inv_sq I hqx
    obtain ⟨vs, rv, sv, _, _⟩ := L2inv_sq I hqy
    have G := GoesN.zip2 (prog := X.prog) (w := X.w) (A := X.A) (elts := elts) (x1 := kk) (pos := tp) S (drawsA (k := k) (A := X.A.in1) (its := us.toArray) (I.ok.hd hc) ha) (drawsA (k := l) (A := X.A.in1) (its := vs.toArray) (I.ok.hd hc) hb)
    have hm : min us.toArray.size vs.toArray.size = i := by
      rw [List.size_toArray, List.size_toArray, ← ru.length, ← rv.length, hn]
    refine G.stops s _ E ?_ fun h' tk kp _ => I.turnedL (t' := tk) (ch := [z, TI, TO, i1, i2]) (fun c o hc' q => kp c o (fun hm => hc' (by
      simp only [List.mem_cons, List.not_mem_nil, or_false] at hm ⊢
      rcases hm with e | e | e | e <;> simp [e])) q) hf
    rw [hm]
    exact ⟨h1, h2, h3, ⟨h4, su⟩, h5, sv⟩
  self := fun A i s Q E st k => wpAny_pyIter_zip st.1 k
end Mir

namespace Mir
open PySem PySem.Spec PyProof.Rows L2 MirX
open Evl (Ex)
theorem meets_enum1 {v : Value} {o : Obj} {G : Heap → Prop} (B : Begins v o G) :
    Meets (Builtin.«enumerate.__new__» ⟨[.type "enumerate", v], []⟩) (fun _ R s => G s.heap ∧
      R (.ok (.ret (.ref (s.heap.push o).objs.size))) { s with heap := (s.heap.push o).push { cls := .type "enumerate", data := .fields #[.none, .bool false, .ref s.heap.objs.size, rawInt 0, .none, .none] } }) :=
  .of_wp fun prog w A R s hG => by
    obtain ⟨hp, gs, dr, tk, oz⟩ := s
    obtain ⟨g1, hR⟩ := hG
    have hsub := sub_enumerate
    have begun : ∀ {A' : Around} {E Q : Value → Shared → Prop}, Q (.ref hp.objs.size) ⟨hp.push o, gs, dr, tk, oz⟩ → wpAny (model prog w) A' (pyIter v) Q E ⟨hp, gs, dr, tk, oz⟩ := fun q => B.iter prog w _ _ ⟨hp, gs, dr, tk, oz⟩ _ g1 q
    wp_walk using begun
    refine wpAny_stack_any fun stk => wpAny_pure ?_
    split
    · rename_i cc _ _ _ _ _
      cases (cc == Value.type "enumerate")
      · wp_walk using begun
        exact ⟨_, rfl, hR⟩
      · wp_walk using begun
        exact ⟨_, rfl, hR⟩
    · wp_walk using begun
      exact ⟨_, rfl, hR⟩
theorem enum1_begins {prog : Program} {w : World} {A : Around} {E : Value → Shared → Prop} {s : Shared} {v : Value} {o : Obj} {G : Heap → Prop} {Q : Value → Shared → Prop} (B : Begins v o G) (g1 : G s.heap)
    (h : ∀ h', IsEnum h' (s.heap.objs.size + 1) s.heap.objs.size 0 .none → h'.get? s.heap.objs.size = some o → (∀ b u, s.heap.get? b = some u → h'.get? b = some u) → Q (.ref (s.heap.objs.size + 1)) { s with heap := h' }) :
    wpAny (model prog w) A (call (.type "enumerate") [v]) Q E s := by
  refine callType_new F.called_enumerate (by decide) (F.typeCall_enumerate_1 _) (F.newCall_enumerate_1 _) (fun obj => F.args_object_init_2 obj _) F.entry_enumerate_new (meets_enum1 B) ⟨g1, ?_⟩
  have sz : (s.heap.push o).objs.size = s.heap.objs.size + 1 := Heap.size_push ..
  show _ ∧ _
  rw [sz]
  have isE : IsEnum ((s.heap.push o).push { cls := .type "enumerate", data := .fields #[.none, .bool false, .ref s.heap.objs.size, rawInt 0, .none, .none] }) (s.heap.objs.size + 1) s.heap.objs.size 0 .none := by
    have q := Heap.get?_push_size (s.heap.push o) (o := { cls := .type "enumerate", data := .fields #[.none, .bool false, .ref s.heap.objs.size, rawInt 0, .none, .none] }) rfl
    rw [sz] at q
    exact q
  exact ⟨⟨_, isE, rfl⟩, h _ isE (Heap.get?_push_of_some _ (Heap.get?_push_size _ B.free)) fun b u x => Heap.get?_push_of_some _ (Heap.get?_push_of_some _ x)⟩
section
variable {X : Cx} {tg : Expr}
/-- a list or a tuple at an address -/
def iSq (K : PySem.W.Frag) (te : TE) : TI := fun σ H R => te σ H fun x H1 => ∃ a xs, x = .ref a ∧ ((SqL K H1 a xs ∧ R (Itl K a) H1) ∨ (SqT K H1 a xs ∧ R (Itt K a) H1))
theorem pi_sq {e : Expr} {te : TE} (he : PE X e te) : PI X tg e (iSq X.K te) := by
  constructor
  intro pins s σ H R I h
  refine thn (he.run pins s σ H _ I h) ?_
  rintro v s1 ⟨x, H1, I1, r1, a, xs, rfl, q⟩
  cases r1
  have fp : ∀ b ∈ [s1.heap.objs.size], FpOk X pins H1 b := fun b hb => by
    rw [List.mem_singleton.mp hb]
    refine I1.fpOk (Nat.le_refl _) ?_
    exact I1.hok.fresh (Nat.le_refl _)
  obtain ⟨hq, q⟩ | ⟨hq, q⟩ := q
  · obtain ⟨vs, rv, p, _⟩ := I1.list hq
    apply wpAny_pyIter_list p.isList
    exact ⟨_, _, _, _, H1, rfl, I1.kept (t' := s1.toks) fun b o e => Heap.get?_push_of_some _ e, turn_list a s1.heap.objs.size, ⟨_, Heap.get?_push_size _ rfl, rfl, rfl⟩, fp, q⟩
  · obtain ⟨vs, rv, p, _⟩ := I1.tuple hq
    apply wpAny_pyIter_tuple (show s1.heap.IsTuple a vs.toArray from p)
    exact ⟨_, _, _, _, H1, rfl, I1.kept (t' := s1.toks) fun b o e => Heap.get?_push_of_some _ e, turn_tuple a s1.heap.objs.size, ⟨_, Heap.get?_push_size _ rfl, rfl, rfl⟩, fp, q⟩
def iEnA (K : PySem.W.Frag) (ta : TA) : TI := fun σ H R => ta σ H fun vs H1 => ∃ k a xs, vs = [.ref a] ∧ SqA k K H1 a xs ∧ R (ItE k K a) H1
theorem pi_enA {e : Expr} {ta : TA} {p pos tp : Pos} {elts : List Expr} {kk : Nat} (hg : Gl X "enumerate") (hm : X.mg "enumerate" = none) (ha : PA X [e] ta) (hs : starEach [e] X.env = [(false, eval e X.env)] := by rfl) :
    PI X (.Tuple elts kk tp) (.Call (.Name "enumerate" p) [e] [] pos) (iEnA X.K ta) := by
  constructor
  intro pins s σ H R I h
  refine Call_ (ld_blt I hg hm boot_enumerate (PyProof.Rows.callWith_type1 (thn (ha.run pos pins s σ H _ I h) ?_) hs rfl))
  rintro us s1 ⟨vs, H1, I1, r1, k, a, xs, rfl, hq, q⟩
  cases r1 with
  | cons r rr =>
    cases rr
    cases r
    obtain ⟨its, rv, st, _, hal⟩ := L2inv_sq I1 hq
    refine enum1_begins (beginsA (k := k) (its := its.toArray)) st fun h' hE hO kp => wpAny_pyIter_enum hE ?_
    refine ⟨_, [s1.heap.objs.size + 1, s1.heap.objs.size], _, _, H1, rfl, I1.kept (t' := s1.toks) kp, turn_enumA k a (s1.heap.objs.size + 1) s1.heap.objs.size (Nat.succ_ne_self _) (Nat.ne_of_gt (Nat.lt_succ_of_lt hal)) (Nat.ne_of_lt hal), ⟨⟨_, hE⟩, itA_new hO⟩, fun b hb => ?_, q⟩
    have hle : b ≥ s1.heap.objs.size := by
      rcases List.mem_cons.1 hb with z | z
      · rw [z]; exact Nat.le_succ _
      · rw [List.mem_singleton.mp z]; exact Nat.le_refl _
    refine I1.fpOk hle ?_
    exact I1.hok.fresh hle
def iZpA (K : PySem.W.Frag) (ta : TA) : TI := fun σ H R => ta σ H fun vs H1 => ∃ k l a b xs ys, vs = [.ref a, .ref b] ∧ SqA k K H1 a xs ∧ SqA l K H1 b ys ∧ R (ItZ k l K a b) H1
theorem pi_zpA {e e2 : Expr} {ta : TA} {p pos tp : Pos} {elts : List Expr} {kk : Nat} (hg : Gl X "zip") (hm : X.mg "zip" = none) (ha : PA X [e, e2] ta) (hs : starEach [e, e2] X.env = (false, eval e X.env) :: starEach [e2] X.env := by rfl) (hpl : (backTo pos (starEach [e2] X.env)).any (·.1) = false := by rfl) :
    PI X (.Tuple elts kk tp) (.Call (.Name "zip" p) [e, e2] [] pos) (iZpA X.K ta) := by
  constructor
  intro pins s σ H R I h
  refine Call_ (ld_blt I hg hm PyProof.Rows.boot_zip (PyProof.Rows.callWith_type1 (thn (ha.run pos pins s σ H _ I h) ?_) hs hpl))
  rintro us s1 ⟨vs, H1, I1, r1, k, l, a, b, xs, ys, rfl, hqx, hqy, q⟩
  cases r1 with
  | cons r rr =>
    cases rr with
    | cons r' rr =>
      cases rr
      cases r
      cases r'
      obtain ⟨its, rv, st, _, hal⟩ := L2inv_sq I1 hqx
      obtain ⟨its2, rv2, st2, _, hbl⟩ := L2inv_sq I1 hqy
      refine zip_begins2 (beginsA (k := k) (its := its.toArray)) (beginsA (k := l) (its := its2.toArray)) st st2 fun h' hz hTI hTO h1 h2 _ kp => wpAny_pyIter_zip hz ?_
      refine ⟨_, [s1.heap.objs.size + 4, s1.heap.objs.size + 2, s1.heap.objs.size + 3, s1.heap.objs.size, s1.heap.objs.size + 1], _, _, H1, rfl, I1.kept (t' := s1.toks) kp,
        turn_zipA k l (zip_sep2 (fp1 := [a]) (fp2 := [b]) (fun c hc => by rw [List.mem_singleton.mp hc]; exact hal) (fun c hc => by rw [List.mem_singleton.mp hc]; exact hbl)) (Nat.ne_of_lt hal) (Nat.ne_of_lt (Nat.lt_succ_of_lt hbl)), ⟨hz, hTI, ⟨_, _, hTO⟩, itA_new h1, itA_new h2⟩, fun c hc => ?_, q⟩
      have hle : c ≥ s1.heap.objs.size := by
        simp only [List.mem_cons, List.not_mem_nil, or_false] at hc
        rcases hc with z | z | z | z | z <;> rw [z] <;> first | exact Nat.le_refl _ | exact Nat.le_add_right _ _
      refine I1.fpOk hle ?_
      exact I1.hok.fresh hle
end
/-! ### by data -/
def seqD : PyData → Option (List PyData)
  | .list l => some l
  | .tuple l => some l
  | _ => none
section
variable {C : Ct} {Wx : WX} {X : Cx} {tg : Expr}
theorem dpt_seq {F H : Hp} {v : V} {x : PyData} {l : List PyData} (h : DpT C.K F H v x) (e : Ex F H) (hx : seqD x = some l) : ∃ k a xs, v = .ref a ∧ SqA k C.K H a xs ∧ DpAll C.K F xs l ∧ (∀ a xs', v = .ref a → SqA k C.K F a xs' → True) := by
  cases x with
  | list m =>
    cases hx
    obtain ⟨p, xs, rfl, h1, h2⟩ := dpt_list h e
    exact ⟨true, p, xs, rfl, h1, h2, fun _ _ _ _ => trivial⟩
  | tuple m =>
    cases hx
    obtain ⟨p, xs, rfl, h1, h2⟩ := dpt_tup h e
    exact ⟨false, p, xs, rfl, h1, h2, fun _ _ _ _ => trivial⟩
  | _ => cases hx
theorem dp_seq {F : Hp} {v : V} {x : PyData} {l : List PyData} (h : Dp C.K F v x) (hx : seqD x = some l) : ∃ k a xs, v = .ref a ∧ SqA k C.K F a xs ∧ DpAll C.K F xs l := by
  cases h with
  | lst a b => cases hx; exact ⟨true, _, _, rfl, a, b⟩
  | tup a b => cases hx; exact ⟨false, _, _, rfl, a, b⟩
  | _ => cases hx
theorem sqA_ex {k : Bool} {K : PySem.W.Frag} {F H : Hp} {a : Addr} {xs : List V} (h : SqA k K F a xs) (e : Ex F H) : SqA k K H a xs := by
  cases k with
  | true => exact Evl.ex_l e h
  | false => exact Evl.ex_t e h
/-- for x in e: e data, a list or a tuple -/
def iSeq (d : Den) : DenI := fun δ => (d δ).bind fun x δ' => match seqD x with
  | some l => .ok l δ'
  | none => .stuck
theorem ci_seq {e : Expr} {d : Den} (hK : X.K = C.K) (h : CE C Wx X e d) : CI C Wx X tg e (iSeq d) := pi_imp (pi_sq h) fun σ H Q ⟨F, δ, g, q⟩ =>
  ⟨F, δ, g, Post.imp (fun x δ1 F1 H1 _ g1 q1 v hv => by
    split at q1
    · rename_i l hl
      obtain ⟨k, a, xs, rfl, hs, hd⟩ := dp_seq hv hl
      rw [hK]
      refine ⟨a, xs, rfl, ?_⟩
      cases k with
      | true =>
        refine .inl ⟨Evl.ex_l g1.fh hs, q1 F1 H1 (Ex.refl F1) g1 _ (WalkD.of walk_list (DpAll.len hd) (fun F2 H2 e1 e2 => Evl.ex_l (e1.trans e2) hs) ?_)⟩
        intro C2 hC2 i x F2 H2 H' σ2 δ2 hi e1 g2 hy
        obtain ⟨rfl, hx⟩ := hy
        obtain ⟨d, h1, h2⟩ := DpAll.getV hd i x hx
        exact ⟨F2, Ex.refl F2, g2, d, h1, Dp.ex h2 e1⟩
      | false =>
        refine .inr ⟨Evl.ex_t g1.fh hs, q1 F1 H1 (Ex.refl F1) g1 _ (WalkD.of walk_tup (DpAll.len hd) (fun F2 H2 e1 e2 => Evl.ex_t (e1.trans e2) hs) ?_)⟩
        intro C2 hC2 i x F2 H2 H' σ2 δ2 hi e1 g2 hy
        obtain ⟨rfl, hx⟩ := hy
        obtain ⟨d, h1, h2⟩ := DpAll.getV hd i x hx
        exact ⟨F2, Ex.refl F2, g2, d, h1, Dp.ex h2 e1⟩
    · exact q1.elim) (Post.bind q)⟩
/-- reversed(e) -/
def iRevD (d : Den) : DenI := fun δ => (d δ).bind fun x δ' => match seqD x with
  | some l => .ok l.reverse δ'
  | none => .stuck
theorem rev_get {α : Type} {l : List α} {i : Nat} (h : i < l.length) : l.reverse[i]? = l[l.length - 1 - i]? := by
  rw [List.getElem?_reverse h]
theorem ci_rev {e : Expr} {d : Den} {p pos : Pos} (hK : X.K = C.K) (hg : Gl X "reversed") (hm : X.mg "reversed" = none) (h : CE C Wx X e d) (hs : starEach [e] X.env = (false, eval e X.env) :: starEach [] X.env := by rfl) : CI C Wx X tg (.Call (.Name "reversed" p) [e] [] pos) (iRevD d) :=
  pi_imp (RT.pi_revA hg hm h hs) fun σ H Q ⟨F, δ, g, q⟩ =>
  ⟨F, δ, g, Post.imp (fun x δ1 F1 H1 _ g1 q1 v hv => by
    split at q1
    · rename_i l hl
      obtain ⟨k, a, xs, rfl, hs, hd⟩ := dp_seq hv hl
      have hlen := DpAll.len hd
      rw [hK]
      refine ⟨a, xs, rfl, ?_⟩
      have item : ∀ {i : Nat} {x : V} {F2 : Hp}, i < l.reverse.length → Ex F1 F2 → xs[xs.length - 1 - i]? = some x → ∃ d, l.reverse[i]? = some d ∧ Dp C.K F2 x d := fun {i x F2} hi e1 hx => by
        obtain ⟨d, h1, h2⟩ := DpAll.getV hd _ x hx
        rw [List.length_reverse] at hi
        exact ⟨d, by rw [rev_get hi, ← hlen]; exact h1, Dp.ex h2 e1⟩
      cases k with
      | true =>
        refine .inl ⟨Evl.ex_l g1.fh hs, q1 F1 H1 (Ex.refl F1) g1 _ (WalkD.of walk_rev (by rw [List.length_reverse]; exact hlen) (fun F2 H2 e1 e2 => Evl.ex_l (e1.trans e2) hs) ?_)⟩
        intro C2 hC2 i x F2 H2 H' σ2 δ2 hi e1 g2 hy
        obtain ⟨rfl, hx⟩ := hy
        obtain ⟨d, h1, h2⟩ := item hi e1 hx
        exact ⟨F2, Ex.refl F2, g2, d, h1, h2⟩
      | false =>
        refine .inr ⟨Evl.ex_t g1.fh hs, q1 F1 H1 (Ex.refl F1) g1 _ ?_⟩
        intro C2 hC2 F2 H2 σ2 δ2 e1 g2
        have hs2 : SqT C.K H2 a xs := Evl.ex_t (e1.trans g2.fh) hs
        rw [List.length_reverse, ← hlen]
        refine ⟨fun i hi => ⟨hi, xs, xs[xs.length - 1 - i]'(by omega), hs2, by simp [show xs.length - 1 - i < xs.length by omega]⟩, Nat.le_refl _, fun i x H' hi hy => ?_⟩
        obtain ⟨rfl, hx⟩ := hy
        obtain ⟨d, h1, h2⟩ := item (by rw [List.length_reverse, ← hlen]; exact hi) e1 (hx xs hs2)
        exact ⟨F2, Ex.refl F2, g2, d, h1, .inl h2⟩
    · exact q1.elim) (Post.bind q)⟩
/-- enumerate(e) -/
def enumF : Nat → List PyData → List PyData
  | _, [] => []
  | i, x :: xs => .tuple [.int i, x] :: enumF (i + 1) xs
theorem enumF_len : ∀ (l : List PyData) (i : Nat), (enumF i l).length = l.length
  | [], _ => rfl
  | _ :: l, i => by rw [enumF, List.length_cons, enumF_len l, List.length_cons]
theorem enumF_get : ∀ (l : List PyData) (n i : Nat) (x : PyData), l[i]? = some x → (enumF n l)[i]? = some (.tuple [.int ((n + i : Nat) : Int), x])
  | [], _, _, _, h => absurd h (by simp)
  | a :: l, n, 0, x, h => by simp at h; subst h; rfl
  | a :: l, n, i + 1, x, h => by
    have := enumF_get l (n + 1) i x (by simpa using h)
    rw [show n + (i + 1) = n + 1 + i by omega]
    simpa [enumF] using this
def iEnum (d : Den) : DenI := fun δ => (d δ).bind fun x δ' => match seqD x with
  | some l => .ok (enumF 0 l) δ'
  | none => .stuck
theorem pair_grow {K : PySem.W.Frag} (hk : C.K = K) {u : Bool} (hu : u = true) {F H H' : Hp} {σ : L2.St} {δ : Env} {T : Addr} {x y : V} {a b : PyData} (g : Good C F H σ δ) (n : H T = none) (e : H' = upd H T (.tup [x, y])) (hx : Dp K F x a) (hy : Dp K F y b) :
    ∃ F', Ex F F' ∧ Good C F' H' σ δ ∧ DpY u K F' H' (.ref T) (.tuple [a, b]) := by
  subst e
  exact ⟨F, Ex.refl F, g.heap (Ex.new n), .inr ⟨hu, T, _, _, rfl, rfl, upd_same, .cons hx (.cons hy .nil)⟩⟩
theorem ci_enum {e : Expr} {d : Den} {p pos tp : Pos} {elts : List Expr} {kk : Nat} (hK : X.K = C.K) (hg : Gl X "enumerate") (hm : X.mg "enumerate" = none) (h : CE C Wx X e d) (hs : starEach [e] X.env = [(false, eval e X.env)] := by rfl) : CI C Wx X (.Tuple elts kk tp) (.Call (.Name "enumerate" p) [e] [] pos) (iEnum d) :=
  pi_imp (pi_enA hg hm (pa_cons h pa_nil hs) hs) fun σ H Q ⟨F, δ, g, q⟩ =>
  ⟨F, δ, g, Post.imp (fun x δ1 F1 H1 _ g1 q1 v hv => by
    split at q1
    · rename_i l hl
      obtain ⟨k, a, xs, rfl, hs, hd⟩ := dp_seq hv hl
      have hlen := DpAll.len hd
      rw [hK]
      refine ⟨k, a, xs, rfl, sqA_ex hs g1.fh, q1 F1 H1 (Ex.refl F1) g1 _ ?_⟩
      intro C2 hC2 F2 H2 σ2 δ2 e1 g2
      have hs2 : SqA k C.K H2 a xs := sqA_ex hs (e1.trans g2.fh)
      rw [enumF_len]
      refine ⟨fun i hi => ⟨xs, xs[i]'(by omega), hs2, List.getElem?_eq_getElem (by omega)⟩, ⟨xs, hs2, hlen⟩, fun i x H' hi hy => ?_⟩
      obtain ⟨T, y, rfl, hn, hH, hx⟩ := hy
      obtain ⟨d, h1, h2⟩ := DpAll.getV hd i y (hx xs hs2)
      obtain ⟨F3, e3, g3, h3⟩ := pair_grow hC2 rfl g2 hn hH (.int (i : Nat)) (Dp.ex h2 e1)
      exact ⟨F3, e3, g3, _, by rw [enumF_get l 0 i d h1, Nat.zero_add], h3⟩
    · exact q1.elim) (Post.bind q)⟩
/-- zip(a, b) -/
def zipD : List PyData → List PyData → List PyData
  | x :: xs, y :: ys => .tuple [x, y] :: zipD xs ys
  | _, _ => []
theorem zipD_len : ∀ (l m : List PyData), (zipD l m).length = min l.length m.length
  | [], m => by simp [zipD]
  | _ :: _, [] => by simp [zipD]
  | _ :: l, _ :: m => by simp only [zipD, List.length_cons, zipD_len l m]; omega
theorem zipD_get : ∀ (l m : List PyData) (i : Nat) (x y : PyData), l[i]? = some x → m[i]? = some y → (zipD l m)[i]? = some (.tuple [x, y])
  | [], _, _, _, _, h, _ => absurd h (by simp)
  | _ :: _, [], _, _, _, _, h => absurd h (by simp)
  | a :: l, b :: m, 0, x, y, h, k => by simp at h k; subst h k; rfl
  | a :: l, b :: m, i + 1, x, y, h, k => by simpa [zipD] using zipD_get l m i x y (by simpa using h) (by simpa using k)
def iZip (a b : Den) : DenI := fun δ => (a δ).bind fun x δ1 => (b δ1).bind fun y δ2 => match seqD x, seqD y with
  | some l, some m => .ok (zipD l m) δ2
  | _, _ => .stuck
theorem ci_zip {e e2 : Expr} {d d2 : Den} {p pos tp : Pos} {elts : List Expr} {kk : Nat} (hK : X.K = C.K) (hg : Gl X "zip") (hm : X.mg "zip" = none) (h : CE C Wx X e d) (h' : CE C Wx X e2 d2) (hs : starEach [e, e2] X.env = (false, eval e X.env) :: starEach [e2] X.env := by rfl)
    (hs2 : starEach [e2] X.env = (false, eval e2 X.env) :: starEach [] X.env := by rfl) (hpl : (backTo pos (starEach [e2] X.env)).any (·.1) = false := by rfl) : CI C Wx X (.Tuple elts kk tp) (.Call (.Name "zip" p) [e, e2] [] pos) (iZip d d2) :=
  pi_imp (pi_zpA hg hm (pa_cons h (pa_cons h' pa_nil hs2) hs) hs hpl) fun σ H Q ⟨F, δ, g, q⟩ =>
  ⟨F, δ, g, Post.imp (fun x δ1 F1 H1 _ g1 q1 v hv => ⟨F1, δ1, g1, Post.imp (fun y δ2 F2 H2 e2 g2 q2 u hu => by
    split at q2
    · rename_i l m hl hm
      obtain ⟨k, a, xs, rfl, hs, hd⟩ := dp_seq (Dp.ex hv e2) hl
      obtain ⟨k', b, ys, rfl, hs', hd'⟩ := dp_seq hu hm
      have hlen := DpAll.len hd
      have hlen' := DpAll.len hd'
      rw [hK]
      refine ⟨k, k', a, b, xs, ys, rfl, sqA_ex hs g2.fh, sqA_ex hs' g2.fh, q2 F2 H2 (Ex.refl F2) g2 _ ?_⟩
      intro C3 hC3 F3 H3 σ3 δ3 e3 g3
      have s1 : SqA k C.K H3 a xs := sqA_ex hs (e3.trans g3.fh)
      have s2 : SqA k' C.K H3 b ys := sqA_ex hs' (e3.trans g3.fh)
      rw [zipD_len]
      refine ⟨fun i hi => ⟨xs, ys, xs[i]'(by omega), ys[i]'(by omega), s1, s2, List.getElem?_eq_getElem (by omega), List.getElem?_eq_getElem (by omega)⟩, ⟨xs, ys, s1, s2, by omega⟩, fun i x H' hi hy => ?_⟩
      obtain ⟨T, p, q, rfl, hn, hH, hx, hy⟩ := hy
      obtain ⟨d, h1, h2⟩ := DpAll.getV hd i p (hx xs s1)
      obtain ⟨d', h3, h4⟩ := DpAll.getV hd' i q (hy ys s2)
      obtain ⟨F4, e4, g4, h5⟩ := pair_grow hC3 rfl g3 hn hH (Dp.ex h2 e3) (Dp.ex h4 e3)
      exact ⟨F4, e4, g4, _, zipD_get l m i d d' h1 h3, h5⟩
    · exact q2.elim) (Post.bind q1)⟩) (Post.bind q)⟩
/-- range(n), range(a, b) -/
def rangeD (lo : Int) (n : Nat) : List PyData := (List.range n).map fun i => .int (lo + (i : Nat))
theorem rangeD_len (lo : Int) (n : Nat) : (rangeD lo n).length = n := by simp [rangeD]
theorem rangeD_get (lo : Int) {n i : Nat} (h : i < n) : (rangeD lo n)[i]? = some (.int (lo + (i : Nat))) := by
  simp [rangeD, h]
def big (i : Int) : Bool := decide (-4611686018427387904 ≤ i) && decide (i < 4611686018427387904)
theorem big_ok {i : Int} (h : big i = true) : -(2 ^ 62) ≤ i ∧ i < 2 ^ 62 := by
  unfold big at h
  simp only [decide_eq_true_eq, Bool.and_eq_true] at h
  exact ⟨by omega, by omega⟩
def iRange1 (d : Den) : DenI := fun δ => (d δ).bind fun x δ' => match x with
  | .int j => if big j = true then .ok (rangeD 0 j.toNat) δ' else .stuck
  | _ => .stuck
def iRange2 (a b : Den) : DenI := fun δ => (a δ).bind fun x δ1 => (b δ1).bind fun y δ2 => match x, y with
  | .int i, .int j => if big i = true ∧ big j = true then .ok (rangeD i (j - i).toNat) δ2 else .stuck
  | _, _ => .stuck
theorem walk_rng {u : Bool} {F : Hp} {lo : Int} {n : Nat} : WalkD u C (Itr lo n) F (rangeD lo n) := fun C2 hC2 F1 H1 σ δ e g => by
  rw [rangeD_len]
  refine ⟨fun i hi => hi, Nat.le_refl _, fun i x H' hi hy => ?_⟩
  obtain ⟨rfl, rfl⟩ := hy
  exact ⟨F1, Ex.refl F1, g, _, rangeD_get lo hi, .inl (.int _)⟩
theorem ci_range1 {e : Expr} {d : Den} {p pos : Pos} (hg : Gl X "range") (hm : X.mg "range" = none) (h : CE C Wx X e d) (hs : starEach [e] X.env = [(false, eval e X.env)] := by rfl) : CI C Wx X tg (.Call (.Name "range" p) [e] [] pos) (iRange1 d) :=
  pi_imp (pi_range1 hg hm (pa_cons h pa_nil hs) hs) fun σ H Q ⟨F, δ, g, q⟩ =>
  ⟨F, δ, g, Post.imp (fun x δ1 F1 H1 _ g1 q1 v hv => by
    split at q1
    · rename_i j
      split at q1
      · rename_i hj
        cases hv
        obtain ⟨b1, b2⟩ := big_ok hj
        exact ⟨j, rfl, b1, b2, q1 F1 H1 (Ex.refl F1) g1 _ walk_rng⟩
      · exact q1.elim
    · exact q1.elim) (Post.bind q)⟩
theorem ci_range2 {e e2 : Expr} {d d2 : Den} {p pos : Pos} (hg : Gl X "range") (hm : X.mg "range" = none) (h : CE C Wx X e d) (h' : CE C Wx X e2 d2) (hs : starEach [e, e2] X.env = [(false, eval e X.env), (false, eval e2 X.env)] := by rfl) (hs2 : starEach [e2] X.env = [(false, eval e2 X.env)] := by rfl) : CI C Wx X tg (.Call (.Name "range" p) [e, e2] [] pos) (iRange2 d d2) :=
  pi_imp (pi_range2 hg hm (pa_cons h (pa_cons h' pa_nil hs2) (by rw [hs, hs2])) hs hs2) fun σ H Q ⟨F, δ, g, q⟩ =>
  ⟨F, δ, g, Post.imp (fun x δ1 F1 H1 _ g1 q1 v hv => ⟨F1, δ1, g1, Post.imp (fun y δ2 F2 H2 e2 g2 q2 u hu => by
    split at q2
    · rename_i i j
      split at q2
      · rename_i hj
        cases hv
        cases hu
        obtain ⟨b1, b2⟩ := big_ok hj.1
        obtain ⟨b3, b4⟩ := big_ok hj.2
        exact ⟨i, j, rfl, ⟨b1, b2, b3, b4⟩, q2 F2 H2 (Ex.refl F2) g2 _ walk_rng⟩
      · exact q2.elim
    · exact q2.elim) (Post.bind q1)⟩) (Post.bind q)⟩
end
end Mir

namespace Mir
open PySem PySem.Spec PyProof.Rows L2 MirX
open Evl (Ex)
/-- the entry's heap told anew -/
def Ct.wH (C : Ct) (h : Hp) : Ct := { C with H0 := h }
/-- an object that is no slot's is held fast -/
theorem Good.hold {C : Ct} {F H : Hp} {σ : L2.St} {δ : Env} {D : Addr} {o : HO} (g : Good C F H σ δ) (hH : H D = some o) (hF : F D = none) (hp : ∀ (i : Nat) w v p, δ[i]? = some (some w) → σ[i]? = some (some v) → RepW C.toSg F H v w p → D ∉ p) (hio : D ∉ C.ioA) : Good (C.wH (upd C.H0 D o)) F H σ δ := by
  obtain ⟨ps, r, nd, fr⟩ := g.sl
  have hD : D ∉ ps.flatten := fun hm => by
    have key : ∀ {σ : L2.St} {δ : Env} {ps : List (List Addr)}, RepS C.toSg F H σ δ ps → D ∈ ps.flatten → ∃ (i : Nat) (w : W) (v : V) (p : List Addr), δ[i]? = some (some w) ∧ σ[i]? = some (some v) ∧ RepW C.toSg F H v w p ∧ D ∈ p := by
      intro σ δ ps r
      induction r with
      | nil => intro ha; simp at ha
      | skip _ ih =>
        intro ha
        obtain ⟨i, w', v', p', h1, h2, h3, h4⟩ := ih (by simpa using ha)
        exact ⟨i + 1, w', v', p', by simpa using h1, by simpa using h2, h3, h4⟩
      | cons h1 _ ih =>
        intro ha
        rw [List.flatten_cons, List.mem_append] at ha
        rcases ha with ha | ha
        · exact ⟨0, _, _, _, rfl, rfl, h1, ha⟩
        · obtain ⟨i, w', v', p', h1, h2, h3, h4⟩ := ih ha
          exact ⟨i + 1, w', v', p', by simpa using h1, by simpa using h2, h3, h4⟩
    obtain ⟨i, w', v', p', h1, h2, h3, h4⟩ := key r hm
    exact hp i w' v' p' h1 h2 h3 h4
  refine ⟨g.f0, g.fh, g.tb, g.tf, fun a h1 h2 => ?_, fun a u h => ?_, g.io, ps, r, nd, fun q hq => ⟨(fr q hq).1, ?_⟩⟩
  · have hne : a ≠ D := fun z => h1 (by rw [z]; exact hF)
    show upd C.H0 D o a = none
    rw [upd_ne hne]
    exact g.fr a h1 h2
  · by_cases ha : a = D
    · subst ha
      have : some o = some u := by
        have h' : upd C.H0 a o a = some u := h
        rw [upd_same] at h'; exact h'
      cases this
      exact ⟨_, hH, fun _ => .inl rfl⟩
    · have h' : upd C.H0 D o a = some u := h
      rw [upd_ne ha] at h'
      exact g.kp a u h'
  · have hne : q ≠ D := fun z => hD (z ▸ hq)
    show upd C.H0 D o q = none ∨ _
    rw [upd_ne hne]
    exact (fr q hq).2
theorem Good.unholdC {C : Ct} {F H : Hp} {σ : L2.St} {δ : Env} {D : Addr} {ob : HO} (mu : MuO ob) (g : Good (C.wH (upd C.H0 D ob)) F H σ δ) (h0 : C.H0 D = none) (hio : D ∉ C.ioA) : Good C F H σ δ ∧ H D = some ob := by
  obtain ⟨ps, r, nd, fr⟩ := g.sl
  obtain ⟨o', h1, h2⟩ := g.kp D ob (show upd C.H0 D ob D = some ob from upd_same)
  have h3 := Kept.mu (h2 hio) mu
  rw [h3] at h1
  refine ⟨⟨g.f0, g.fh, g.tb, g.tf, fun a h1 h2 => ?_, fun a u h => ?_, g.io, ps, r, nd, fun q hq => ⟨(fr q hq).1, ?_⟩⟩, h1⟩
  · have := g.fr a h1 h2
    by_cases ha : a = D
    · rw [ha]; exact h0
    · have h' : upd C.H0 D ob a = none := this
      rw [upd_ne ha] at h'; exact h'
  · have ha : a ≠ D := fun z => by rw [z, h0] at h; cases h
    exact g.kp a u (by show upd C.H0 D ob a = some u; rw [upd_ne ha]; exact h)
  · rcases (fr q hq).2 with z | z
    · left
      by_cases ha : q = D
      · rw [ha]; exact h0
      · have h' : upd C.H0 D ob q = none := z
        rw [upd_ne ha] at h'; exact h'
    · exact .inr z

theorem Good.unhold {C : Ct} {F H : Hp} {σ : L2.St} {δ : Env} {D : Addr} {xs : List V} (g : Good (C.wH (upd C.H0 D (.lst xs))) F H σ δ) (h0 : C.H0 D = none) (hio : D ∉ C.ioA) : Good C F H σ δ ∧ H D = some (.lst xs) := g.unholdC trivial h0 hio

section
variable {C : Ct} {F F' H H' : Hp} {σ : L2.St} {δ : Env} {D : Addr} {acc : List PyData}
theorem GoodT.holdC {w0 : W} {d : Bool} (g : GoodT C F H σ δ (.ref D) w0) (hc : w0.cell = some (d, acc)) (hb : w0.isB = false) (hl : σ.length = δ.length) (hio : ∀ j a, (j, a) ∈ C.io → j < σ.length) :
    ∃ o, H D = some o ∧ Cell C.K F d o acc ∧ Good (C.wH (upd C.H0 D o)) F H σ δ ∧ C.H0 D = none ∧ D ∉ C.ioA ∧ F D = none := by
  have e : (δ ++ [some w0])[σ.length]? = some (some w0) := by rw [hl, List.getElem?_append_right (Nat.le_refl _)]; simp
  have eσ : (σ ++ [some (V.ref D)])[σ.length]? = some (some (.ref D)) := by rw [List.getElem?_append_right (Nat.le_refl _)]; simp
  obtain ⟨p, o, h1, h2, h3, h4⟩ := Good.getC g e hc
  rw [eσ] at h1
  cases h1
  obtain ⟨n0, nio⟩ := Good.own0 g e hc hb eσ
  refine ⟨o, h2, h3, Good.hold (GoodT.forget g hl hio) h2 h4 (fun i w v p h5 h6 h7 hm => ?_) nio, n0, nio, h4⟩
  -- a slot with D in its footprint would be the temporary's own
  obtain ⟨ps, r, nd, _⟩ := g.sl
  obtain ⟨v1, p1, k1, k2, k3⟩ := r.get i w (app_get h5)
  rw [app_get h6] at k1
  cases k1
  obtain ⟨v2, p2, k4, k5, k6⟩ := r.get σ.length _ e
  rw [eσ] at k4
  cases k4
  obtain ⟨a2, o2, ea, e2, _⟩ := k6.cell hc
  cases ea
  subst e2
  rw [RepW.same h7 k3] at hm
  have := flat_apart nd k2 k5 hm (by simp)
  have hlt := get_lt h6
  omega
theorem GoodT.hold (g : GoodT C F H σ δ (.ref D) (.own acc)) (hl : σ.length = δ.length) (hio : ∀ j a, (j, a) ∈ C.io → j < σ.length) :
    ∃ xs, H D = some (.lst xs) ∧ DpAll C.K F xs acc ∧ Good (C.wH (upd C.H0 D (.lst xs))) F H σ δ ∧ C.H0 D = none ∧ D ∉ C.ioA ∧ F D = none := by
  obtain ⟨o, h1, ⟨xs, rfl, h2⟩, h3⟩ := g.holdC (d := false) rfl rfl hl hio
  exact ⟨xs, h1, h2, h3⟩
theorem rep_own {S : Sg} {w0 : W} {d : Bool} {o : HO} (hc : w0.cell = some (d, acc)) (hb : w0.isB = false) (hp : H D = some o) (h : Cell S.K F d o acc) : RepW S F H (.ref D) w0 [D] := by
  cases w0 <;> first | (cases hc; cases hb; done) | cases hc
  · obtain ⟨_, rfl, h⟩ := h; exact .own hp h
  · obtain ⟨_, rfl, h⟩ := h; exact .dct hp h
theorem GoodT.unholdC {w0 : W} {d : Bool} {o : HO} (hc : w0.cell = some (d, acc)) (hb : w0.isB = false) (g : Good (C.wH (upd C.H0 D o)) F' H' σ δ) (h0 : C.H0 D = none) (hio : D ∉ C.ioA) (hF0 : C.F0 D = none) (hd : Cell C.K F d o acc) (e : Ex F F') : GoodT C F' H' σ δ (.ref D) w0 := by
  obtain ⟨g1, hH⟩ := Good.unholdC hd.mu g h0 hio
  have hF : F' D = none := by
    cases z : F' D with
    | none => rfl
    | some ob =>
      have hne : F' D ≠ none := by rw [z]; simp
      have := g.fr D hne hF0
      have h' : upd C.H0 D o D = none := this
      rw [upd_same] at h'; cases h'
  refine g1.snoc (rep_own hc hb hH (hd.ex e)) (by simp) (fun q hq => by rw [List.mem_singleton.mp hq]; exact ⟨hF, h0⟩) fun i w v p h1 h2 h3 q hq hq' => ?_
  rw [List.mem_singleton.mp hq'] at hq
  -- the slot's own would stand at D in the held heap's entry
  obtain ⟨ps, r, nd, fr⟩ := g.sl
  obtain ⟨v1, p1, k1, k2, k3⟩ := r.get i w h1
  rw [h2] at k1
  cases k1
  rw [RepW.same h3 k3] at hq
  rcases (fr D (List.mem_flatten.mpr ⟨p1, List.mem_of_getElem? k2, hq⟩)).2 with z | z
  · have h' : upd C.H0 D o D = none := z
    rw [upd_same] at h'; cases h'
  · exact hio z
theorem GoodT.unhold {xs : List V} (g : Good (C.wH (upd C.H0 D (.lst xs))) F' H' σ δ) (h0 : C.H0 D = none) (hio : D ∉ C.ioA) (hF0 : C.F0 D = none) (hd : DpAll C.K F xs acc) (e : Ex F F') : GoodT C F' H' σ δ (.ref D) (.own acc) := GoodT.unholdC (d := false) rfl rfl g h0 hio hF0 ⟨_, rfl, hd⟩ e
theorem GoodT.push {xs : List V} {y : V} {d : PyData} (g : GoodT C F H σ δ (.ref D) (.own acc)) (hl : σ.length = δ.length) (hH : H D = some (.lst xs)) (hd : DpAll C.K F xs acc) (hy : Dp C.K F y d) :
    GoodT C F (upd H D (.lst (xs ++ [y]))) σ δ (.ref D) (.own (acc ++ [d])) := by
  have e : (δ ++ [some (W.own acc)])[σ.length]? = some (some (.own acc)) := by rw [hl, List.getElem?_append_right (Nat.le_refl _)]; simp
  have eσ : (σ ++ [some (V.ref D)])[σ.length]? = some (some (.ref D)) := by rw [List.getElem?_append_right (Nat.le_refl _)]; simp
  have g2 := Good.write g (l := acc) (l' := acc ++ [d]) (xs' := xs ++ [y]) e rfl eσ (DpAll.app hd (.cons hy .nil))
  have e2 : (δ ++ [some (W.own acc)]).set σ.length (some ((W.own acc).put (acc ++ [d]))) = δ ++ [some (W.own (acc ++ [d]))] := by
    rw [hl, List.set_append_right _ _ (Nat.le_refl _)]; simp [W.put]
  rw [e2] at g2
  exact g2
end
/-! targets whose slots are a block's own -/
def Tgt.slots : Tgt → List Nat
  | .nm i => [i]
  | .tup l => l
def gT (K : PySem.W.Frag) : Tgt → TG
  | .nm i => gName i
  | .tup l => gTup K l.length (gNames l)
theorem set_set_none {σ : L2.St} {i j : Nat} {x : Option V} : ((σ.set i x).set j none).set i none = (σ.set j none).set i none := by
  apply List.ext_getElem?
  intro k
  by_cases h1 : k = i
  · subst h1
    by_cases h2 : k < σ.length
    · rw [List.getElem?_set_self (by simpa using h2), List.getElem?_set_self (by simpa using h2)]
    · rw [List.getElem?_eq_none (by simp; omega), List.getElem?_eq_none (by simp; omega)]
  · rw [List.getElem?_set_ne (Ne.symm h1), List.getElem?_set_ne (Ne.symm h1)]
    by_cases h2 : k = j
    · subst h2
      by_cases h3 : k < σ.length
      · rw [List.getElem?_set_self (by simpa using h3), List.getElem?_set_self (by simpa using h3)]
      · rw [List.getElem?_eq_none (by simp; omega), List.getElem?_eq_none (by simp; omega)]
    · rw [List.getElem?_set_ne (Ne.symm h2), List.getElem?_set_ne (Ne.symm h2), List.getElem?_set_ne (Ne.symm h1)]
theorem wipe_get (σ : L2.St) : ∀ (vs : List Nat) (k : Nat), (wipe σ vs)[k]? = if k ∈ vs then (if k < σ.length then some none else none) else σ[k]?
  | [], k => by simp [wipe]
  | v :: vs, k => by
    unfold wipe
    by_cases h : v = k
    · subst h
      by_cases h2 : v < σ.length
      · rw [List.getElem?_set_self (by rw [wipe_length]; exact h2)]; simp [h2]
      · rw [List.getElem?_eq_none (by rw [List.length_set, wipe_length]; omega)]; simp [h2]
    · rw [List.getElem?_set_ne h, wipe_get σ vs k]
      simp [Ne.symm h]
theorem wipe_set {σ : L2.St} {vs : List Nat} {i : Nat} {x : Option V} (h : i ∈ vs) : wipe (σ.set i x) vs = wipe σ vs := by
  apply List.ext_getElem?
  intro k
  rw [wipe_get, wipe_get, List.length_set]
  by_cases hk : k ∈ vs
  · rw [if_pos hk, if_pos hk]
  · rw [if_neg hk, if_neg hk, List.getElem?_set_ne (fun z => hk (by rw [← z]; exact h))]
section
variable {C : Ct} {Wx : WX} {X : Cx} {F F' H H' : Hp}
theorem gNames_wipe {vs : List Nat} : ∀ {is : List Nat} {xs : List PyData} {ws : List V} {δ δ' : Env} {σ : L2.St} {Q : L2.St → Hp → Prop}, (∀ i ∈ is, i ∈ vs) → setDs is xs δ = some δ' → Good C F H σ δ → DpAll C.K F ws xs → (∀ σ', Good C F H σ' δ' → wipe σ' vs = wipe σ vs → Q σ' H) → gNames is ws σ H Q
  | [], [], ws, δ, δ', σ, Q, _, h, g, hd, k => by
    cases hd; cases h
    exact ⟨rfl, k σ g rfl⟩
  | i :: is, x :: xs, ws, δ, δ', σ, Q, hv, h, g, hd, k => by
    cases hd with
    | cons h1 h2 =>
      unfold setDs at h
      cases e : setD i x δ with
      | none =>
        rw [e] at h
        cases h
      | some δ1 =>
        rw [e] at h
        exact ⟨_, _, rfl, gNames_wipe (fun j hj => hv j (List.mem_cons_of_mem _ hj)) h (setD_ok e g h1) h2 fun σ' g' e' => k σ' g' (e'.trans (wipe_set (hv i List.mem_cons_self)))⟩
  | [], _ :: _, _, _, _, _, _, _, h, _, _, _ => by cases h
  | _ :: _, [], _, _, _, _, _, _, h, _, _, _ => by cases h
theorem setDs_len : ∀ {is : List Nat} {xs : List PyData} {δ δ' : Env}, setDs is xs δ = some δ' → is.length = xs.length
  | [], [], _, _, _ => rfl
  | i :: is, x :: xs, δ, δ', h => by
    unfold setDs at h
    cases e : setD i x δ with
    | none =>
      rw [e] at h
      cases h
    | some δ1 => rw [e] at h; rw [List.length_cons, List.length_cons, setDs_len h]
  | [], _ :: _, _, _, h => by cases h
  | _ :: _, [], _, _, h => by cases h
theorem gT_ok {tg : Tgt} {σ : L2.St} {δ δ' : Env} {v : V} {x : PyData} {Q : L2.St → Hp → Prop} (g : Good C F H σ δ) (hd : DpY tg.many C.K F H v x) (h : bindT tg x δ = some δ') (k : ∀ σ', Good C F H σ' δ' → wipe σ' tg.slots = wipe σ tg.slots → Q σ' H) : gT C.K tg v σ H Q := by
  cases tg with
  | nm i =>
    rcases hd with hd | ⟨z, _⟩
    · exact k _ (setD_ok h g hd) (wipe_set (by simp [Tgt.slots]))
    · cases z
  | tup l =>
    have hd2 : ∃ a vs xs, v = .ref a ∧ x = .tuple xs ∧ SqT C.K H a vs ∧ DpAll C.K F vs xs := by
      rcases hd with hd | ⟨_, T, vs, m, e1, e2, h3, h4⟩
      · cases x with
        | tuple xs =>
          cases hd with
          | tup h1 h2 => exact ⟨_, _, _, rfl, rfl, Evl.ex_t g.fh h1, h2⟩
        | _ => cases h
      · exact ⟨T, vs, m, e1, e2, Evl.st_of h3, h4⟩
    obtain ⟨a, vs, xs, rfl, rfl, h1, h2⟩ := hd2
    have h3 : setDs l xs δ = some δ' := h
    exact ⟨_, _, rfl, h1, by rw [DpAll.len h2]; exact (setDs_len h3).symm, gNames_wipe (fun i hi => hi) h3 g h2 k⟩
/-! ### comprehensions -/
def wipeD (δ : Env) : List Nat → Env
  | [] => δ
  | v :: vs => (wipeD δ vs).set v none
def noBor (δ : Env) : List Nat → Bool
  | [] => true
  | v :: vs => !isBor δ v && noBor δ vs
def lcD (tg : Tgt) (tt : DenB) (te : Den) : List PyData → List PyData → DenW
  | [], acc, δ => .ok (.own acc) δ
  | x :: xs, acc, δ => match bindT tg x δ with
    | none => .stuck
    | some δ1 => (tt δ1).bind fun b δ2 => if b = true then (te δ2).bind fun y δ3 => if acc.length < line then lcD tg tt te xs (acc ++ [y]) (wipeD δ3 tg.slots) else .stuck
      else lcD tg tt te xs acc (wipeD δ2 tg.slots)
def wComp (tg : Tgt) (it : DenI) (tt : DenB) (te : Den) : DenW := fun δ => (it δ).bind fun xs δ1 => if noBor δ1 tg.slots = true then lcD tg tt te xs [] (wipeD δ1 tg.slots) else .stuck
theorem Good.wipes {σ : L2.St} {δ : Env} : ∀ {vs : List Nat}, noBor δ vs = true → Good C F H σ δ → Good C F H (L2.wipe σ vs) (wipeD δ vs)
  | [], _, g => g
  | v :: vs, h, g => by
    unfold noBor at h
    rw [Bool.and_eq_true, Bool.not_eq_true'] at h
    have g1 := Good.wipes h.2 g
    refine g1.wipe ?_
    -- a borrowed slot stays one, others do not become one
    have key : ∀ (vs : List Nat) (i : Nat), isBor δ i = false → isBor (wipeD δ vs) i = false := by
      intro vs i hi
      induction vs with
      | nil => exact hi
      | cons w ws ih =>
        unfold wipeD
        by_cases hw : w = i
        · subst hw
          unfold isBor
          by_cases hl : w < (wipeD δ ws).length
          · rw [List.getElem?_set_self hl]
          · rw [List.getElem?_eq_none (by simpa using hl)]
        · unfold isBor
          rw [List.getElem?_set_ne hw]
          exact ih
    exact key vs v h.1
end
end Mir

namespace Mir
open PySem PySem.Spec PyProof.Rows L2 MirX
open Evl (Ex)
/-- no error comes out of a comprehension's block -/
def R.calm {α : Type} : R α → R α
  | .ok a δ => .ok a δ
  | _ => .stuck
def lc (tg : Tgt) (tt : DenB) (te : Den) : List PyData → List PyData → DenW
  | [], acc, δ => .ok (.own acc) δ
  | x :: xs, acc, δ => match bindT tg x δ with
    | none => .stuck
    | some δ1 => (tt δ1).calm.bind fun b δ2 => if b = true then (te δ2).calm.bind fun y δ3 => if acc.length < line then (if noBor δ3 tg.slots = true then lc tg tt te xs (acc ++ [y]) (wipeD δ3 tg.slots) else .stuck) else .stuck
      else if noBor δ2 tg.slots = true then lc tg tt te xs acc (wipeD δ2 tg.slots) else .stuck
def wLc (tg : Tgt) (it : DenI) (tt : DenB) (te : Den) : DenW := fun δ => (it δ).bind fun xs δ1 => if noBor δ1 tg.slots = true then lc tg tt te xs [] (wipeD δ1 tg.slots) else .stuck
def WF : WX := fun _ _ _ _ => False
section
variable {C : Ct} {Wx : WX} {X : Cx} {F F' H H' : Hp}
theorem calm_ok {C' : Ct} {σ σ' : L2.St} {α β : Type} {P : β → Env → Hp → Hp → Prop} {P' : α → Env → Hp → Hp → Prop} {k : α → Env → R β} {F3 : Hp} : ∀ {r : R α}, Post C Wx σ F P (r.calm.bind k) → (∀ a δ, Post C Wx σ F P (k a δ) → ∀ F' H', Ex F3 F' → Good C' F' H' σ' δ → P' a δ F' H') → Post C' WF σ' F3 P' r
  | .ok a δ, h, q => q a δ h
  | .exc _ _ _, h, _ => h.elim
  | .stuck, h, _ => h.elim
theorem RepS.agree {S : Sg} : ∀ {σ σ' : L2.St} {δ : Env} {ps : List (List Addr)}, RepS S F H σ δ ps → σ'.length = σ.length → (∀ (i : Nat) (w : W), δ[i]? = some (some w) → σ'[i]? = σ[i]?) → RepS S F H σ' δ ps
  | [], [], _, _, .nil, _, _ => .nil
  | [], _ :: _, _, _, .nil, h, _ => by simp at h
  | _ :: _, [], _, _, _, h, _ => by simp at h
  | s :: σ, s' :: σ', _, _, .skip r, h, k => .skip (RepS.agree r (by simpa using h) fun i w e => by simpa using k (i + 1) w (by simpa using e))
  | _ :: σ, s' :: σ', _, _, .cons (v := v) (w := w) h1 r, h, k => by
    have : s' = some v := by simpa using k 0 w rfl
    subst this
    exact .cons h1 (RepS.agree r (by simpa using h) fun i w e => by simpa using k (i + 1) w (by simpa using e))
theorem Good.agree {σ σ' : L2.St} {δ : Env} (g : Good C F H σ δ) (h : σ'.length = σ.length) (k : ∀ (i : Nat) (w : W), δ[i]? = some (some w) → σ'[i]? = σ[i]?) : Good C F H σ' δ := by
  obtain ⟨ps, r, nd, fr⟩ := g.sl
  refine ⟨g.f0, g.fh, g.tb, g.tf, g.fr, g.kp, fun j a hj => ?_, ps, r.agree h k, nd, fr⟩
  obtain ⟨h1, h2, l, h3, h4⟩ := g.io j a hj
  exact ⟨(k j _ h3).trans h1, h2, l, h3, h4⟩
theorem wipeD_none (δ : Env) : ∀ (vs : List Nat) (k : Nat) (w : W), k ∈ vs → (wipeD δ vs)[k]? ≠ some (some w)
  | v :: vs, k, w, h, e => by
    unfold wipeD at e
    by_cases hv : v = k
    · subst hv
      by_cases hl : v < (wipeD δ vs).length
      · rw [List.getElem?_set_self hl] at e; cases e
      · rw [List.getElem?_eq_none (by simpa using hl)] at e; cases e
    · rw [List.getElem?_set_ne hv] at e
      rcases List.mem_cons.1 h with z | z
      · exact hv z.symm
      · exact wipeD_none δ vs k w z e
theorem wipe_wipe (σ : L2.St) (vs : List Nat) : L2.wipe (L2.wipe σ vs) vs = L2.wipe σ vs := by
  apply List.ext_getElem?
  intro k
  rw [wipe_get, wipe_length, wipe_get]
  by_cases hk : k ∈ vs
  · simp only [if_pos hk]
  · simp only [if_neg hk]
theorem GoodT.unwipe {σ : L2.St} {vs : List Nat} {δ : Env} {v : V} {w : W} (g : GoodT C F H (L2.wipe σ vs) δ v w) (hn : ∀ k w, k ∈ vs → δ[k]? ≠ some (some w)) : GoodT C F H σ δ v w := by
  have hl : (L2.wipe σ vs).length = δ.length := GoodT.len g
  rw [wipe_length] at hl
  refine Good.agree g (by rw [List.length_append, List.length_append, wipe_length]) fun i u e => ?_
  by_cases hi : i < σ.length
  · rw [List.getElem?_append_left hi, List.getElem?_append_left (by rw [wipe_length]; exact hi), wipe_get]
    rw [List.getElem?_append_left (by omega)] at e
    by_cases hm : i ∈ vs
    · exact absurd e (hn i u hm)
    · rw [if_neg hm]
  · rw [List.getElem?_append_right (by omega), List.getElem?_append_right (by rw [wipe_length]; omega), wipe_length]
theorem pe_some {e : Expr} {t : Hp → TE} (h : ∀ a, PE X e (t a)) : PE X e fun σ H Q => ∃ a, t a σ H Q := ⟨fun pins s σ H Q I ⟨a, q⟩ => (h a).run pins s σ H Q I q⟩
theorem pts_some {e : List Expr} {t : Hp → TT} (h : ∀ a, PTs X e (t a)) : PTs X e fun σ H Q => ∃ a, t a σ H Q := ⟨fun pins s σ H Q I ⟨a, q⟩ => (h a).run pins s σ H Q I q⟩
def CTs (C : Ct) (Wx : WX) (X : Cx) (ifs : List Expr) (den : DenB) : Prop := PTs X ifs (tTB C Wx den)
def tYesD : DenB := fun δ => .ok true δ
theorem cts_nil : CTs C Wx X [] tYesD := ⟨fun pins s σ H Q I ⟨F, δ, g, q⟩ => (pts_nil).run pins s σ H Q I (q F H (Ex.refl F) g)⟩
theorem cts_one {c : Expr} {t : DenB} (h : CT C Wx X c t) : CTs C Wx X [c] t := pts_one h
theorem GoodT.io {σ : L2.St} {δ : Env} {v : V} {w : W} (g : GoodT C F H σ δ v w) (hl : σ.length = δ.length) (hw : w.isB = false) : ∀ j a, (j, a) ∈ C.io → j < σ.length := fun j a h => by
  obtain ⟨h1, h2, l, h3, h4⟩ := Good.io g j a h
  rcases Nat.lt_or_ge j σ.length with q | q
  · exact q
  · rw [List.getElem?_append_right (by omega)] at h3
    have hj := get_lt h3
    have : j - δ.length = 0 := by simp at hj; omega
    rw [this] at h3
    simp at h3
    rw [h3] at hw
    rw [W.isK_B h4] at hw
    cases hw
theorem tLc_ok {tg : Tgt} {u : Bool} (hu : u = tg.many) {it : DenI} {tt : DenB} {te : Den} {σ : L2.St} {H : Hp} {Q : VK} (h : tW C Wx (wLc tg it tt te) σ H Q) :
    tLc (tIt C Wx u it) (gT C.K tg) (fun σ H Q => ∃ h, tTB (C.wH h) WF tt σ H Q) (fun σ H Q => ∃ h, tE (C.wH h) WF te σ H Q) tg.slots σ H Q := by
  subst hu
  obtain ⟨F, δ, g, q⟩ := h
  refine ⟨F, δ, g, Post.imp (fun ds δ1 F1 H1 e1 g1 q1 J hJ D hD => ?_) (Post.bind q)⟩
  split at q1
  · rename_i hb
    refine ⟨fun i m H => m = ds.length - i ∧ i ≤ ds.length ∧ ∃ F2 δ2 acc, Ex F1 F2 ∧ GoodT C F2 H (L2.wipe σ tg.slots) δ2 (.ref D) (.own acc) ∧ (∀ k w, k ∈ tg.slots → δ2[k]? ≠ some (some w)) ∧
      Post C Wx σ F2 (fun w δ' F' H' => ∀ v F2 H2, Ex F' F2 → GoodT C F2 H2 σ δ' v w → Q v H2) (lc tg tt te (ds.drop i) acc δ2), ⟨_, rfl, Nat.zero_le _, F1, wipeD δ1 tg.slots, [], Ex.refl F1, ?_, wipeD_none δ1 tg.slots, q1⟩, ?_⟩
    · exact (Good.wipes hb g1).newOwn hD .nil
    · rintro i m H ⟨rfl, hi, F2, δ2, acc, e2, g2, hn, q2⟩
      obtain ⟨w1, w2, w3⟩ := hJ C rfl F2 H _ _ e2 g2
      by_cases hlt : i < ds.length
      · refine .inr ⟨w1 i hlt, fun H' => i + 1 ≤ ds.length ∧ ∃ F3 δ3 acc, Ex F1 F3 ∧ GoodT C F3 H' (L2.wipe σ tg.slots) δ3 (.ref D) (.own acc) ∧ (∀ k w, k ∈ tg.slots → δ3[k]? ≠ some (some w)) ∧
          Post C Wx σ F3 (fun w δ' F' H' => ∀ v F2 H2, Ex F' F2 → GoodT C F2 H2 σ δ' v w → Q v H2) (lc tg tt te (ds.drop (i + 1)) acc δ3), fun H' ⟨k1, k2⟩ => ⟨_, by omega, rfl, k1, k2⟩, fun x H' y => ?_⟩
        obtain ⟨F3, e3, g3, d, hd, hx⟩ := w3 i x H' hlt y
        have g3 : GoodT C F3 H' (L2.wipe σ tg.slots) δ2 (.ref D) (.own acc) := g3
        have hl := GoodT.len g3
        have hio := GoodT.io g3 hl rfl
        obtain ⟨xs, hH, hda, g4, n0, nio, nF⟩ := GoodT.hold g3 hl hio
        have ed : ds.drop i = d :: ds.drop (i + 1) := by
          rw [List.drop_eq_getElem_cons (h := hlt)]
          rw [List.getElem?_eq_getElem hlt] at hd
          rw [Option.some.inj hd]
        rw [ed] at q2
        have q3 := Post.mono e3 q2
        unfold lc at q3
        cases eb : bindT tg d δ2 with
        | none => rw [eb] at q3; exact q3.elim
        | some δ3 =>
          rw [eb] at q3
          have nF0 : C.F0 D = none := Evl.fresh_back g3.f0 nF
          refine gT_ok (C := C.wH (upd C.H0 D (.lst xs))) g4 hx eb fun σ' g5 ew => ⟨ew.trans (wipe_wipe σ tg.slots), upd C.H0 D (.lst xs), F3, δ3, g5, calm_ok q3 fun b δ4 q4 F4 H4 e4 g6 => ?_⟩
          have fin : ∀ {F5 H5 : Hp} {δ5 : Env} {acc' : List PyData} {xs' : List V}, Ex F3 F5 → Good (C.wH (upd C.H0 D (.lst xs))) F5 H5 σ' δ5 → noBor δ5 tg.slots = true → GoodT C F5 H5 (L2.wipe σ tg.slots) (wipeD δ5 tg.slots) (.ref D) (.own acc) := fun {F5 H5 δ5 acc' xs'} e5 g7 hb5 => by
            have g8 := Good.wipes hb5 g7
            rw [ew, wipe_wipe] at g8
            exact GoodT.unhold g8 n0 nio nF0 hda e5
          cases b with
          | false =>
            show (if (false = true) then _ else _)
            rw [if_neg (by simp)] at q4 ⊢
            split at q4
            · rename_i hb4
              exact ⟨hlt, F4, _, acc, (e2.trans e3).trans e4, fin (acc' := acc) (xs' := xs) e4 g6 hb4, wipeD_none _ _, Post.mono e4 q4⟩
            · exact q4.elim
          | true =>
            show (if (true = true) then _ else _)
            rw [if_pos rfl] at q4 ⊢
            refine ⟨_, F4, δ4, g6, calm_ok q4 fun y δ5 q5 F5 H5 e5 g7 v hv => ?_⟩
            obtain ⟨_, hH5⟩ := Good.unhold g7 n0 nio
            split at q5
            · rename_i hlen
              split at q5
              · rename_i hb5
                refine ⟨xs, hH5, by rw [DpAll.len hda]; exact line_lt hlen, hlt, F5, _, acc ++ [y], ((e2.trans e3).trans e4).trans e5, ?_, wipeD_none _ _, Post.mono (e4.trans e5) q5⟩
                have g9 := fin (acc' := acc) (xs' := xs) (e4.trans e5) g7 hb5
                exact GoodT.push g9 (GoodT.len g9) hH5 (DpAll.ex hda (e4.trans e5)) hv
              · exact q5.elim
            · exact q5.elim
      · have e : i = ds.length := by omega
        subst e
        refine .inl ⟨w2, ?_⟩
        rw [List.drop_length] at q2
        have g3 : GoodT C F2 H (L2.wipe σ tg.slots) δ2 (.ref D) (.own acc) := g2
        have hl := GoodT.len g3
        have g4 := GoodT.unwipe g3 hn
        have hl2 : σ.length = δ2.length := by rw [← hl, wipe_length]
        exact q2 F2 H (Ex.refl F2) (GoodT.forget g4 hl2 (GoodT.io g4 hl2 rfl)) _ F2 H (Ex.refl F2) g4
  · exact q1.elim
/-- a comprehension of one clause -/
theorem cw_lc {elt tge iter : Expr} {ifs : List Expr} {scope : Scope} {own : List (Str × Nat)} {pos : Pos} {tg : Tgt} {it : DenI} {tt : DenB} {te : Den} (hc : X.calm = true) (hN : X.N.Nodup) (hi : CI C Wx X tge iter it) (ok : BlkOk X.N X.env.scope scope own)
    (hg : ∀ (s : Shared) (H : Hp) (D : Addr) (cl : List (Str × Addr)) (fp : List Addr), PG (X.blk s H scope (compEnvC scope cl D X.env) fp) tge (gT C.K tg)) (ht : ∀ (s : Shared) (H : Hp) (D : Addr) (cl : List (Str × Addr)) (fp : List Addr) (h : Hp), CTs (C.wH h) WF (X.blk s H scope (compEnvC scope cl D X.env) fp) ifs tt)
    (he : ∀ (s : Shared) (H : Hp) (D : Addr) (cl : List (Str × Addr)) (fp : List Addr) (h : Hp), CE (C.wH h) WF (X.blk s H scope (compEnvC scope cl D X.env) fp) elt te) (hv : own.map (·.2) = tg.slots := by rfl) (hs : ∀ x, foldedSetIterable iter X.env x = pure x := by intro _; rfl) (hu : isTup tge = tg.many := by rfl) :
    CW C Wx X (.ListComp elt [⟨tge, iter, ifs, 0⟩] scope pos) (wLc tg it tt te) := pe_imp (pe_lc (g := gT C.K tg) hc hN hi ok hg (fun s H D cl fp => pts_some fun h => ht s H D cl fp h) (fun s H D cl fp => pe_some fun h => he s H D cl fp h) hs) fun σ H Q q => by
  rw [hv]
  exact tLc_ok hu q
/-- a name set to a comprehension on one line -/
theorem cs_setLc {i : Nat} {y : Str} {py spos : Pos} {elt tge iter : Expr} {ifs : List Expr} {scope : Scope} {own : List (Str × Nat)} {pos : Pos} {tg : Tgt} {it : DenI} {tt : DenB} {te : Den} (hc : X.calm = true) (hN : X.N.Nodup) (hy : X.N[i]? = some y) (hyl : X.env.scope.names.lookup y = some .local)
    (hsw : swapsWith (.ListComp elt [⟨tge, iter, ifs, 0⟩] scope pos) (some (.Name y py)) spos.line X.env = pure true) (hi : CI C Wx X tge iter it) (ok : BlkOk X.N X.env.scope scope own)
    (hg : ∀ (s : Shared) (H : Hp) (D : Addr) (cl : List (Str × Addr)) (fp : List Addr), PG (X.blk s H scope (compEnvC scope cl D X.env) fp) tge (gT C.K tg)) (ht : ∀ (s : Shared) (H : Hp) (D : Addr) (cl : List (Str × Addr)) (fp : List Addr) (h : Hp), CTs (C.wH h) WF (X.blk s H scope (compEnvC scope cl D X.env) fp) ifs tt)
    (he : ∀ (s : Shared) (H : Hp) (D : Addr) (cl : List (Str × Addr)) (fp : List Addr) (h : Hp), CE (C.wH h) WF (X.blk s H scope (compEnvC scope cl D X.env) fp) elt te) (hv : own.map (·.2) = tg.slots := by rfl) (hs : ∀ x, foldedSetIterable iter X.env x = pure x := by intro _; rfl) (hu : isTup tge = tg.many := by rfl) :
    CS C Wx X (.Assign [.Name y py] (.ListComp elt [⟨tge, iter, ifs, 0⟩] scope pos) spos) (sSet i (wLc tg it tt te)) := ps_imp (ps_setLc (g := gT C.K tg) hc hN hy hyl hsw hi ok hg (fun s H D cl fp => pts_some fun h => ht s H D cl fp h) (fun s H D cl fp => pe_some fun h => he s H D cl fp h) hs) fun D σ H q => by
  rw [hv]
  exact tLc_ok hu (set_ok D σ H q)
end
end Mir

namespace Mir
open PySem PySem.Spec PyProof.Rows L2 MirX
open Evl (Ex)
section
variable {C : Ct} {Wx : WX} {X : Cx} {F H : Hp} {σ : L2.St} {δ : Env}
/-! ### // and * of greater numbers -/
def fDiv := fI2 (fun _ j => decide (0 < j) && decide (j.natAbs.log2 < 9000)) fun i j => .int (i / j)
theorem rd_div : RD C (fun vs H Q => ∃ x y, vs = [x, y] ∧ rI CDivW (fun i j => .int (i / j)) x y H Q) fDiv := rd_I (fun i j h => by
  rw [Bool.and_eq_true, decide_eq_true_eq, decide_eq_true_eq] at h
  exact h) fun _ _ _ => .int _
def fMulW := fI2 (fun i j => decide (i.natAbs.log2 + j.natAbs.log2 < 1000000)) fun i j => .int (i * j)
theorem rd_mulW : RD C (fun vs H Q => ∃ x y, vs = [x, y] ∧ rI CMulW (fun i j => .int (i * j)) x y H Q) fMulW := rd_I (fun i j h => by
  rw [decide_eq_true_eq] at h
  exact h) fun _ _ _ => .int _
/-! ### a < b < c -/
def dChain (f f' : List PyData → Option PyData) (a b c : DenA) : Den := fun δ => (a δ).bind fun x δ1 => (b δ1).bind fun y δ2 => (app f [x, y] δ2).bind fun z δ3 => match z with
  | .bool true => (c δ3).bind fun w δ4 => app f' [y, w] δ4
  | .bool false => .ok (.bool false) δ3
  | _ => .stuck
theorem tChain_ok {r r' : R2} {f f' : List PyData → Option PyData} (hr : RD C (fun vs H Q => ∃ x y, vs = [x, y] ∧ r x y H Q) f) (hr' : RD C (fun vs H Q => ∃ x y, vs = [x, y] ∧ r' x y H Q) f') {a b c : DenA} : ∀ σ H Q, tE C Wx (dChain f f' a b c) σ H Q → tChain r r' (tEA C Wx a) (tEA C Wx b) (tEA C Wx c) σ H Q := fun σ H Q ⟨F, δ, g, q⟩ =>
  ⟨F, δ, g, Post.imp (fun x δ1 F1 H1 _ g1 q1 v hv => ⟨F1, δ1, g1, Post.imp (fun y δ2 F2 H2 e2 g2 q2 u hu => by
    obtain ⟨x', y', e, h⟩ := app_ok (Wx := Wx) hr (Q := fun z H3 => ∃ k, z = .bl k ∧ (if k = true then tEA C Wx c σ H3 fun w' H4 => r' u w' H4 Q else Q (.bl false) H3)) g2 (.cons (hv.mono e2) (.cons hu .nil)) (Post.imp (fun z δ3 F3 H3 e3 g3 q3 v3 hv3 => by
      split at q3
      · cases hv3
        refine ⟨true, rfl, ?_⟩
        rw [if_pos rfl]
        exact ⟨F3, δ3, g3, Post.imp (fun w δ4 F4 H4 e4 g4 q4 v4 hv4 => by
          obtain ⟨x', y', e, h⟩ := app_ok hr' g4 (.cons (hu.mono (e3.trans e4)) (.cons hv4 .nil)) q4
          cases e
          exact h) (Post.bind q3)⟩
      · cases hv3
        exact ⟨false, rfl, q3 F3 H3 (Ex.refl F3) g3 _ (.bl false)⟩
      · exact q3.elim) (Post.bind q2))
    cases e
    exact h) (Post.bind q1)⟩) (Post.bind q)⟩
theorem ce_chain {a b c : Expr} {op op' : CmpOp} {r r' : R2} {f f' : List PyData → Option PyData} {da db dc : DenA} {pos : Pos} (ho : OpR X (compareOp op) r) (ho' : OpR X (compareOp op') r') (hr : RD C (fun vs H Q => ∃ x y, vs = [x, y] ∧ r x y H Q) f) (hr' : RD C (fun vs H Q => ∃ x y, vs = [x, y] ∧ r' x y H Q) f')
    (ha : CEA C Wx X a da) (hb : CEA C Wx X b db) (hc : CEA C Wx X c dc) (hm : lastMarks [op, op'] [b, c] = false := by with_unfolding_all rfl) : CE C Wx X (.Compare a [op, op'] [b, c] pos) (dChain f f' da db dc) :=
  pe_imp (pe_chain ho ho' ha hb hc hm) (tChain_ok hr hr')
def tB (d : Den) : DenB := fun δ => (d δ).bind fun z δ1 => match z with
  | .bool b => .ok b δ1
  | _ => .stuck
theorem ct_chain {a b c : Expr} {op op' : CmpOp} {r r' : R2} {f f' : List PyData → Option PyData} {da db dc : DenA} {pos : Pos} (ho : OpR X (compareOp op) r) (ho' : OpR X (compareOp op') r') (hr : RD C (fun vs H Q => ∃ x y, vs = [x, y] ∧ r x y H Q) f) (hr' : RD C (fun vs H Q => ∃ x y, vs = [x, y] ∧ r' x y H Q) f')
    (ha : CEA C Wx X a da) (hb : CEA C Wx X b db) (hc : CEA C Wx X c dc) (hm : lastMarks [op, op'] [b, c] = false := by with_unfolding_all rfl) : CT C Wx X (.Compare a [op, op'] [b, c] pos) (tB (dChain f f' da db dc)) :=
  pt_imp (pt_chain ho ho' ha hb hc hm) fun σ H Q ⟨F, δ, g, q⟩ => tChain_ok hr hr' σ H _ ⟨F, δ, g, Post.imp (fun z δ1 F1 H1 e1 g1 q1 v hv => by
    split at q1
    · cases hv
      exact ⟨_, rfl, q1 F1 H1 (Ex.refl F1) g1⟩
    · exact q1.elim) (Post.bind q)⟩
/-! ### isinstance(x, (a, b)) -/
theorem ce_isA2 {a : Expr} {da : DenA} {t u : TyN} {p p2 p3 p4 pos : Pos} {w} (hK : X.K = C.K) (hg : Gl X "isinstance") (hm : X.mg "isinstance" = none) (hg2 : Gl X (Str.ofString t.nm)) (hm2 : X.mg (Str.ofString t.nm) = none) (hv2 : bootBuiltins (Str.ofString t.nm) = some (.type t.nm))
    (hn2 : Str.ofString t.nm ≠ "__name__") (hd2 : (Str.ofString t.nm == ("__debug__" : Str)) = false) (hg3 : Gl X (Str.ofString u.nm)) (hm3 : X.mg (Str.ofString u.nm) = none) (hv3 : bootBuiltins (Str.ofString u.nm) = some (.type u.nm))
    (hn3 : Str.ofString u.nm ≠ "__name__") (hd3 : (Str.ofString u.nm == ("__debug__" : Str)) = false) (ha : CEA C Wx X a da)
    (hs : starEach [a, .Tuple [.Name (Str.ofString t.nm) p2, .Name (Str.ofString u.nm) p3] w p4] X.env = [(false, eval a X.env), (false, eval (.Tuple [.Name (Str.ofString t.nm) p2, .Name (Str.ofString u.nm) p3] w p4) X.env)] := by rfl)
    (hs2 : starEach [.Tuple [.Name (Str.ofString t.nm) p2, .Name (Str.ofString u.nm) p3] w p4] X.env = [(false, eval (.Tuple [.Name (Str.ofString t.nm) p2, .Name (Str.ofString u.nm) p3] w p4) X.env)] := by rfl)
    (hs3 : starEach [.Name (Str.ofString t.nm) p2, .Name (Str.ofString u.nm) p3] X.env = [(false, eval (.Name (Str.ofString t.nm) p2) X.env), (false, eval (.Name (Str.ofString u.nm) p3) X.env)] := by rfl)
    (hs4 : starEach [.Name (Str.ofString u.nm) p3] X.env = [(false, eval (.Name (Str.ofString u.nm) p3) X.env)] := by rfl)
    (hpl : (backTo pos (starEach [.Tuple [.Name (Str.ofString t.nm) p2, .Name (Str.ofString u.nm) p3] w p4] X.env)).any (·.1) = false := by rfl) :
    CE C Wx X (.Call (.Name "isinstance" p) [a, .Tuple [.Name (Str.ofString t.nm) p2, .Name (Str.ofString u.nm) p3] w p4] [] pos) (dOp1 (fIsA [t, u]) da) :=
  pe_imp (pe_callB call_isiT hg hm (by decide +kernel) (pa_cons ha (pa_cons (pe_tup (pa_cons (pe_bltn (v := .ty t.nm) hg2 hm2 hv2 rfl hn2 hd2) (pa_cons (pe_bltn (v := .ty u.nm) hg3 hm3 hv3 rfl hn3 hd3) pa_nil hs4) hs3)) pa_nil hs2) hs) (by decide) (by decide) hs hpl) fun σ H Q ⟨F, δ, g, q⟩ =>
    ⟨F, δ, g, Post.imp (fun x δ1 F1 H1 _ g1 q1 v hv => ⟨by show 2 ≤ sizeLine; decide, fun tp hf => by
      refine (show rIsiT X.K [v, .ref tp] (upd H1 tp (.tup [.ty t.nm, .ty u.nm])) Q from ?_)
      rw [hK]
      have key : (∃ x', [v] = [x'] ∧ rIsiT C.K [x', .ref tp] (upd H1 tp (.tup [.ty t.nm, .ty u.nm])) Q) := app_ok (r := fun vs H Q => H tp = some (.tup [.ty t.nm, .ty u.nm]) → ∃ x', vs = [x'] ∧ rIsiT C.K [x', .ref tp] H Q) (f := fIsA [t, u]) (fun xs z hz F H σ δ vs Q gd hd q hH => by
        unfold fIsA at hz
        split at hz
        · rename_i x
          split at hz
          · rename_i hx
            cases hz
            obtain ⟨v, rfl, h1⟩ := dpts1 hd
            refine ⟨v, rfl, v, tp, _, _, _, _, rfl, hH, .cons (.ty t.nm) (.cons (.ty u.nm) .nil), tyx_of h1 gd.fh, kit_any hx [t, u], ?_⟩
            exact q (.bl ([t, u].any (isTy x))) F H (Ex.refl F) gd (.bl _)
          · cases hz
        · cases hz) (g1.heap (Ex.new hf)) (.cons hv .nil) q1 upd_same
      obtain ⟨x', e, h⟩ := key
      cases e
      exact h⟩) (Post.bind q)⟩
end
end Mir

namespace Mir
open PySem PySem.Spec PyProof.Rows L2 MirX
open Evl (Ex)
/-! ### rules of the hand layer that were not there: list + list of any kind, str * int -/
section
variable {X : Cx}
def rCatL (K : PySem.W.Frag) : R2 := fun x y H Q => ∃ a b xs ys, x = .ref a ∧ y = .ref b ∧ SqL K H a xs ∧ SqL K H b ys ∧ xs.length + ys.length ≤ sizeLine ∧ ∀ p, H p = none → Q (.ref p) (upd H p (.lst (xs ++ ys)))
theorem op_catL : OpR X (binaryOp .Add) (rCatL X.K) := fun pins s σ H x y v u Q I rx ry h => by
  obtain ⟨a, b, xs, ys, rfl, rfl, h1, h2, hz, q⟩ := h
  cases rx
  cases ry
  obtain ⟨us, r1, pl1, _⟩ := I.list h1
  obtain ⟨ws, r2, pl2, _⟩ := I.list h2
  obtain ⟨⟨c1, d1, t1, s1⟩, n1, o1, k1, _, e1⟩ := id pl1
  obtain ⟨⟨c2, d2, t2, s2⟩, n2, o2, k2, _, e2⟩ := id pl2
  simp only at k1 e1 k2 e2
  subst k1 e1 k2 e2
  have l1 := r1.length
  have l2 := r2.length
  refine concat_meets ⟨_, o1, rfl⟩ ⟨_, o2, rfl⟩ noFill_list_add seq_list_add PySem.F.slot_list_add PySem.F.entry_list_add (PySem.F.args_list_add_2 _ _) (list_addW a b us.toArray ws.toArray n1 n2 d1 d2 s1 s2 (by simp only [List.size_toArray]; omega)) ⟨o1, o2, ?_⟩
  rw [show us.toArray ++ ws.toArray = (us ++ ws).toArray by simp]
  exact ⟨.ref _, _, I.lnew (t' := s.toks) (r1.append r2) (by rw [List.length_append]; exact hz), rfl, q _ I.fresh⟩
def rMulS : R2 := fun x y H Q => ∃ z i, x = .str z ∧ y = .int i ∧ 0 ≤ i ∧ i ≤ 1000 ∧ z.length ≤ 1000 ∧ Q (.str (Txt.mul z i)) H
theorem op_mulS : OpR X (binaryOp .Mult) rMulS := fun pins s σ H x y v u Q I rx ry h => by
  obtain ⟨z, i, rfl, rfl, h0, h1, h2, q⟩ := h
  obtain ⟨t, rfl⟩ := rx
  obtain ⟨t', rfl⟩ := ry
  refine SB.mul ⟨?_, fun h3 _ => ?_, fun _ _ => ?_⟩ fun t'' k => ⟨.str _, H, I.tok _, ⟨_, rfl⟩, q⟩
  · rw [Bool.or_eq_false_iff]
    exact ⟨decide_eq_false (by omega), decide_eq_false (by omega)⟩
  · have h6 : (z.length : Int) ≤ 1000 := by exact_mod_cast h2
    have h7 : (1000 : Int) ≤ (2 ^ 63 - 1) / i := (Int.le_ediv_iff_mul_le (by omega)).mpr (by omega)
    omega
  · have h8 : z.length * i.toNat ≤ 1000 * 1000 := Nat.mul_le_mul h2 (by omega)
    exact decide_eq_false (by
      have e : sizeLine = 16777216 := by decide
      omega)
end
end Mir

namespace Mir
open PySem PySem.Spec PyProof.Rows L2 MirX
open Evl (Ex)
section
variable {C : Ct} {Wx : WX} {X : Cx} {F H : Hp} {σ : L2.St} {δ : Env}
/-! ### operations that may give a list of their own -/
def RDW (C : Ct) (r : List V → Hp → VK → Prop) (f : List PyData → Option W) : Prop :=
  ∀ (xs : List PyData) (w : W), f xs = some w → ∀ (F H : Hp) (σ : L2.St) (δ : Env) (vs : List V) (Q : VK), Good C F H σ δ → DpTs C.K F H vs xs → (∀ v F' H', Ex F F' → GoodT C F' H' σ δ v w → Q v H') → r vs H Q
def appW (f : List PyData → Option W) (as : List AV) (δ : Env) : R W := match peekAll δ as with
  | some xs => match f xs with
    | some w => .ok w δ
    | none => .stuck
  | none => .stuck
abbrev PW' (C : Ct) (σ : L2.St) (Q : VK) : W → Env → Hp → Hp → Prop := fun w δ' F' H' => ∀ v F2 H2, Ex F' F2 → GoodT C F2 H2 σ δ' v w → Q v H2
theorem appW_ok {r : List V → Hp → VK → Prop} {f : List PyData → Option W} (hr : RDW C r f) {as : List AV} {vs : List V} {Q : VK} (g : Good C F H σ δ) (ha : RepAVs C F σ vs as) (q : Post C Wx σ F (PW' C σ Q) (appW f as δ)) : r vs H Q := by
  unfold appW at q
  split at q
  · rename_i xs hx
    split at q
    · rename_i w hw
      exact hr xs w hw F H σ δ vs Q g (peekAll_ok g ha hx) fun v F' H' e g' => q F H (Ex.refl F) g v F' H' e g'
    · exact q.elim
  · exact q.elim
def wOp2 (f : List PyData → Option W) (a b : DenA) : DenW := fun δ => (a δ).bind fun x δ1 => (b δ1).bind fun y δ2 => appW f [x, y] δ2
def wApp (f : List PyData → Option W) (as : DenL) : DenW := fun δ => (as δ).bind fun xs δ1 => appW f xs δ1
theorem wOp_ok {r : R2} {f : List PyData → Option W} (hr : RDW C (fun vs H Q => ∃ x y, vs = [x, y] ∧ r x y H Q) f) {da db : DenA} : ∀ σ H Q, tW C Wx (wOp2 f da db) σ H Q → tOp r (tEA C Wx da) (tEA C Wx db) σ H Q := fun σ H Q ⟨F, δ, g, q⟩ =>
  ⟨F, δ, g, Post.imp (fun x δ1 F1 H1 _ g1 q1 v hv => ⟨F1, δ1, g1, Post.imp (fun y δ2 F2 H2 e2 g2 q2 u hu => by
    obtain ⟨x', y', e, h⟩ := appW_ok hr g2 (.cons (hv.mono e2) (.cons hu .nil)) q2
    cases e
    exact h) (Post.bind q1)⟩) (Post.bind q)⟩
theorem cw_op {a b : Expr} {op : Operator} {r : R2} {f : List PyData → Option W} {da db : DenA} {pos : Pos} (ho : OpR X (binaryOp op) r) (hr : RDW C (fun vs H Q => ∃ x y, vs = [x, y] ∧ r x y H Q) f) (ha : CEA C Wx X a da) (hb : CEA C Wx X b db) :
    CW C Wx X (.BinOp a op b pos) (wOp2 f da db) := pe_imp (pe_op ho ha hb) (wOp_ok hr)
theorem cw_callTy {T : String} {x : Str} {e : Expr} {es : List Expr} {r : List V → Hp → VK → Prop} {f : List PyData → Option W} {d : DenL} {p pos : Pos} (hc : CallR X (.type T) r) (hr : RDW C r f) (hg : Gl X x) (hm : X.mg x = none) (hv : bootBuiltins x = some (.type T))
    (ha : CAL C Wx X (e :: es) d) (hn : x ≠ "__name__" := by decide) (hdb : (x == ("__debug__" : Str)) = false := by decide) (he : starEach (e :: es) X.env = (false, eval e X.env) :: starEach es X.env := by rfl) (hpl : (backTo pos (starEach es X.env)).any (·.1) = false := by rfl) :
    CW C Wx X (.Call (.Name x p) (e :: es) [] pos) (wApp f d) := pe_imp (pe_callTy hc hg hm hv ha hn hdb he hpl) fun σ H Q ⟨F, δ, g, q⟩ =>
  ⟨F, δ, g, Post.imp (by intro xs δ1 F1 H1 _ g1 q1 vs hvs; exact appW_ok hr g1 hvs q1) (Post.bind (k := fun xs δ1 => appW f xs δ1) q)⟩
theorem ce_callTy {T : String} {x : Str} {e : Expr} {es : List Expr} {r : List V → Hp → VK → Prop} {f : List PyData → Option PyData} {d : DenL} {p pos : Pos} (hc : CallR X (.type T) r) (hr : RD C r f) (hg : Gl X x) (hm : X.mg x = none) (hv : bootBuiltins x = some (.type T))
    (ha : CAL C Wx X (e :: es) d) (hn : x ≠ "__name__" := by decide) (hdb : (x == ("__debug__" : Str)) = false := by decide) (he : starEach (e :: es) X.env = (false, eval e X.env) :: starEach es X.env := by rfl) (hpl : (backTo pos (starEach es X.env)).any (·.1) = false := by rfl) :
    CE C Wx X (.Call (.Name x p) (e :: es) [] pos) (dApp f d) := pe_imp (pe_callTy hc hg hm hv ha hn hdb he hpl) fun σ H Q ⟨F, δ, g, q⟩ =>
  ⟨F, δ, g, Post.imp (fun xs δ1 F1 H1 _ g1 q1 vs hvs => app_ok hr g1 hvs q1) (Post.bind q)⟩
/-! ### list(x) -/
def fListOf : List PyData → Option W
  | [.list l] => some (.own l)
  | [.tuple l] => some (.own l)
  | _ => none
theorem rd_listOf : RDW C (fun xs H Q => ∃ p ys, xs = [.ref p] ∧ (SqL C.K H p ys ∨ SqT C.K H p ys) ∧ ∀ l, H l = none → Q (.ref l) (upd H l (.lst ys))) fListOf := by
  intro xs w hw F H σ δ vs Q g hd q
  unfold fListOf at hw
  split at hw
  · cases hw
    obtain ⟨v, rfl, h1⟩ := dpts1 hd
    obtain ⟨p, ys, rfl, h2, h3⟩ := dpt_list h1 g.fh
    exact ⟨p, ys, rfl, .inl h2, fun l hl => q _ F _ (Ex.refl F) (g.newOwn hl h3)⟩
  · cases hw
    obtain ⟨v, rfl, h1⟩ := dpts1 hd
    obtain ⟨p, ys, rfl, h2, h3⟩ := dpt_tup h1 g.fh
    exact ⟨p, ys, rfl, .inr h2, fun l hl => q _ F _ (Ex.refl F) (g.newOwn hl h3)⟩
  · cases hw
/-! ### + of any kind, * of numbers and texts -/
def fAddA : List PyData → Option W
  | [.int i, .int j] => some (.d (.int (i + j)))
  | [.str a, .str b] => if a.length + b.length ≤ line then some (.d (.str (a ++ b))) else none
  | [.tuple a, .tuple b] => if a.length + b.length ≤ line then some (.d (.tuple (a ++ b))) else none
  | [.list a, .list b] => if a.length + b.length ≤ line then some (.own (a ++ b)) else none
  | _ => none
def rAddA (K : PySem.W.Frag) : R2 := fun x y H Q => rI0 (fun i j => .int (i + j)) x y H Q ∨ (∃ i j, x = .str i ∧ y = .str j ∧ i.length + j.length ≤ sizeLine ∧ Q (.str (i ++ j)) H) ∨ rCatX K x y H Q ∨ rCatL K x y H Q
theorem op_addA : OpR X (binaryOp .Add) (rAddA X.K) := op_add.or (op_add_str.or (op_catX.or op_catL))
theorem rd_addA : RDW C (fun vs H Q => ∃ x y, vs = [x, y] ∧ rAddA C.K x y H Q) fAddA := by
  intro xs w hw F H σ δ vs Q g hd q
  unfold fAddA at hw
  split at hw
  · cases hw
    obtain ⟨v, u, rfl, h1, h2⟩ := dpts2 hd
    exact ⟨v, u, rfl, .inl ⟨_, _, dpt_int h1, dpt_int h2, q _ F H (Ex.refl F) (g.tmpD (.int _))⟩⟩
  · split at hw
    · rename_i hz
      cases hw
      obtain ⟨v, u, rfl, h1, h2⟩ := dpts2 hd
      exact ⟨v, u, rfl, .inr (.inl ⟨_, _, dpt_str h1, dpt_str h2, line_ok hz, q _ F H (Ex.refl F) (g.tmpD (.str _))⟩)⟩
    · cases hw
  · split at hw
    · rename_i a b hz
      cases hw
      obtain ⟨v, u, rfl, h1, h2⟩ := dpts2 hd
      rcases h1 with h1 | ⟨_, _, _, _, e, _⟩
      · rcases h2 with h2 | ⟨_, _, _, _, e, _⟩
        · cases h1 with
          | @tup p ys _ a1 a2 =>
            cases h2 with
            | @tup p' ys' _ b1 b2 =>
              have l1 := DpAll.len a2
              have l2 := DpAll.len b2
              refine ⟨_, _, rfl, .inr (.inr (.inl ⟨p, p', ys, ys', rfl, rfl, Evl.ex_t g.fh a1, Evl.ex_t g.fh b1, by rw [l1, l2]; exact line_ok hz, fun e => ?_, fun _ e => ?_, fun _ _ p2 us hp2 => ?_⟩))⟩
              · subst e
                cases a2
                exact q _ F H (Ex.refl F) (g.tmpD (by rw [List.nil_append]; exact .tup b1 b2))
              · subst e
                cases b2
                exact q _ F H (Ex.refl F) (g.tmpD (by rw [List.append_nil]; exact .tup a1 a2))
              · have ex := Ex.new (o := tX us (ys ++ ys')) (g.new0 hp2).1
                exact q _ _ _ ex (Good.tmpD (g.grow (o := tX us (ys ++ ys')) hp2 rfl) (.tup stX (DpAll.app (DpAll.ex a2 ex) (DpAll.ex b2 ex))))
        · cases e
      · cases e
    · cases hw
  · split at hw
    · rename_i a b hz
      cases hw
      obtain ⟨v, u, rfl, h1, h2⟩ := dpts2 hd
      obtain ⟨p, ys, rfl, a1, a2⟩ := dpt_list h1 g.fh
      obtain ⟨p', ys', rfl, b1, b2⟩ := dpt_list h2 g.fh
      exact ⟨_, _, rfl, .inr (.inr (.inr ⟨p, p', ys, ys', rfl, rfl, a1, b1, by rw [DpAll.len a2, DpAll.len b2]; exact line_ok hz, fun p2 hp2 => q _ F _ (Ex.refl F) (g.newOwn hp2 (DpAll.app a2 b2))⟩))⟩
    · cases hw
  · cases hw
def fMulA : List PyData → Option PyData
  | [.int i, .int j] => if i.natAbs.log2 + j.natAbs.log2 < 1000000 then some (.int (i * j)) else none
  | [.str z, .int i] => if 0 ≤ i ∧ i ≤ 1000 ∧ z.length ≤ 1000 then some (.str (Txt.mul z i)) else none
  | _ => none
theorem op_mulA : OpR X (binaryOp .Mult) (fun x y H Q => rI CMulW (fun i j => .int (i * j)) x y H Q ∨ rMulS x y H Q) := op_mulW.or op_mulS
theorem rd_mulA : RD C (fun vs H Q => ∃ x y, vs = [x, y] ∧ (rI CMulW (fun i j => .int (i * j)) x y H Q ∨ rMulS x y H Q)) fMulA := by
  intro xs z hz F H σ δ vs Q g hd q
  unfold fMulA at hz
  split at hz
  · split at hz
    · rename_i hc
      cases hz
      obtain ⟨v, u, rfl, h1, h2⟩ := dpts2 hd
      exact ⟨v, u, rfl, .inl ⟨_, _, dpt_int h1, dpt_int h2, hc, q _ F H (Ex.refl F) g (.int _)⟩⟩
    · cases hz
  · split at hz
    · rename_i hc
      cases hz
      obtain ⟨v, u, rfl, h1, h2⟩ := dpts2 hd
      exact ⟨v, u, rfl, .inr ⟨_, _, dpt_str h1, dpt_int h2, hc.1, hc.2.1, hc.2.2, q _ F H (Ex.refl F) g (.str _)⟩⟩
    · cases hz
  · cases hz
/-! ### slices -/
def cutD (l : List PyData) (lo hi : Option Int) : List PyData := (l.drop (HT.sIx l.length 0 lo)).take (HT.sIx l.length l.length hi - HT.sIx l.length 0 lo)
theorem DpAll.drop {K : PySem.W.Frag} {vs : List V} {ys : List PyData} (h : DpAll K F vs ys) : ∀ n : Nat, DpAll K F (vs.drop n) (ys.drop n) := by
  revert h
  induction vs generalizing ys with
  | nil => intro h; cases h; intro n; simpa using DpAll.nil
  | cons v vs ih =>
    intro h
    cases h with
    | cons a b =>
      intro n
      cases n with
      | zero => exact .cons a b
      | succ n => exact ih b n
theorem DpAll.take {K : PySem.W.Frag} {vs : List V} {ys : List PyData} (h : DpAll K F vs ys) : ∀ n : Nat, DpAll K F (vs.take n) (ys.take n) := by
  revert h
  induction vs generalizing ys with
  | nil => intro h; cases h; intro n; simpa using DpAll.nil
  | cons v vs ih =>
    intro h
    cases h with
    | cons a b =>
      intro n
      cases n with
      | zero => exact .nil
      | succ n => exact .cons a (ih b n)
theorem cut_dp {K : PySem.W.Frag} {vs : List V} {ds : List PyData} (h : DpAll K F vs ds) (lo hi : Option Int) : DpAll K F (cutV vs lo hi) (cutD ds lo hi) := by
  unfold cutV cutD
  rw [DpAll.len h]
  exact DpAll.take (DpAll.drop h _) _
abbrev DenO := Env → R (Option Int)
def oNone : DenO := fun δ => .ok none δ
def oSome (d : DenA) : DenO := fun δ => (d δ).bind fun a δ1 => match a.peek δ1 with
  | some (.int i) => .ok (some i) δ1
  | _ => .stuck
def tOI (C : Ct) (Wx : WX) (d : DenO) : TO := fun σ H Q => ∃ F δ, Good C F H σ δ ∧ Post C Wx σ F (fun o _ _ H' => Q o H') (d δ)
def CO (C : Ct) (Wx : WX) (X : Cx) (e : Option Expr) (d : DenO) : Prop := PO X e (tOI C Wx d)
theorem po_imp {e : Option Expr} {t t' : TO} (h : PO X e t) (k : ∀ σ H Q, t' σ H Q → t σ H Q) : PO X e t' := ⟨fun pins s σ H Q I q => h.run pins s σ H Q I (k σ H Q q)⟩
theorem co_none : CO C Wx X none oNone := po_imp po_none fun σ H Q ⟨F, δ, g, q⟩ => q F H (Ex.refl F) g
theorem co_some {e : Expr} {d : DenA} (h : CEA C Wx X e d) : CO C Wx X (some e) (oSome d) := po_imp (po_some h) fun σ H Q ⟨F, δ, g, q⟩ =>
  ⟨F, δ, g, Post.imp (fun a δ1 F1 H1 _ g1 q1 v hv => by
    split at q1
    · rename_i i hi
      exact ⟨i, dpt_int (peek_ok g1 hv hi), q1 F1 H1 (Ex.refl F1) g1⟩
    · exact q1.elim) (Post.bind q)⟩
def wSl (a : DenA) (lo hi : DenO) : DenW := fun δ => (a δ).bind fun x δ1 => (lo δ1).bind fun l δ2 => (hi δ2).bind fun u δ3 => match x.peek δ3 with
  | some (.list xs) => .ok (.own (cutD xs l u)) δ3
  | some (.tuple xs) => .ok (.d (.tuple (cutD xs l u))) δ3
  | _ => .stuck
theorem cutD_whole {l : List PyData} {lo hi : Option Int} (h : HT.sIx l.length 0 lo = 0 ∧ HT.sIx l.length l.length hi = l.length) : cutD l lo hi = l := by
  unfold cutD
  rw [h.1, h.2]
  simp
theorem cw_sl {a : Expr} {lo hi : Option Expr} {da : DenA} {dl du : DenO} {p2 pos : Pos} (hK : X.K = C.K) (ha : CEA C Wx X a da) (hl : CO C Wx X lo dl) (hu : CO C Wx X hi du) : CW C Wx X (.Subscript a (.Slice lo hi none p2) pos) (wSl da dl du) :=
  pe_imp (pe_slice (sl_list.or sl_tupX) ha hl hu) fun σ H Q ⟨F, δ, g, q⟩ => ⟨F, δ, g, Post.imp (fun x δ1 F1 H1 _ g1 q1 v hv => ⟨F1, δ1, g1, Post.imp (fun l δ2 F2 H2 e2 g2 q2 => ⟨F2, δ2, g2, Post.imp (fun u δ3 F3 H3 e3 g3 q3 => by
    split at q3
    · rename_i xs hx
      obtain ⟨p, ys, rfl, h2, h3⟩ := dpt_list (peek_ok g3 (hv.mono (e2.trans e3)) hx) g3.fh
      exact .inl ⟨p, ys, rfl, by rw [hK]; exact h2, fun p2 hp2 => q3 F3 H3 (Ex.refl F3) g3 _ F3 _ (Ex.refl F3) (g3.newOwn hp2 (cut_dp h3 l u))⟩
    · rename_i xs hx
      rcases peek_ok g3 (hv.mono (e2.trans e3)) hx with hd | ⟨_, _, _, _, e, _⟩
      · cases hd with
        | @tup p ys _ a1 a2 =>
          have hl := DpAll.len a2
          refine .inr ⟨p, ys, rfl, by rw [hK]; exact Evl.ex_t g3.fh a1, fun hw => ?_, fun _ p2 us hp2 => ?_⟩
          · rw [hl] at hw
            exact q3 F3 H3 (Ex.refl F3) g3 _ F3 H3 (Ex.refl F3) (g3.tmpD (by rw [cutD_whole hw]; exact .tup a1 a2))
          · have ex := Ex.new (o := tX us (cutV ys l u)) (g3.new0 hp2).1
            exact q3 F3 H3 (Ex.refl F3) g3 _ _ _ ex (Good.tmpD (g3.grow (o := tX us (cutV ys l u)) hp2 rfl) (.tup stX (cut_dp (DpAll.ex a2 ex) l u)))
      · cases e
    · exact q3.elim) (Post.bind q2)⟩) (Post.bind q1)⟩) (Post.bind q)⟩
/-- xs[::-1] of a list -/
def wRev (a : DenA) : DenW := fun δ => (a δ).bind fun x δ1 => match x.peek δ1 with
  | some (.list xs) => .ok (.own xs.reverse) δ1
  | _ => .stuck
theorem DpAll.rev {K : PySem.W.Frag} {vs : List V} {ys : List PyData} (h : DpAll K F vs ys) : DpAll K F vs.reverse ys.reverse := by
  revert h
  induction vs generalizing ys with
  | nil => intro h; cases h; exact .nil
  | cons v vs ih =>
    intro h
    cases h with
    | cons a b =>
      simp only [List.reverse_cons]
      exact DpAll.app (ih b) (.cons a .nil)
theorem cw_rev {a : Expr} {da : DenA} {k : Nat} {p1 p2 p3 pos : Pos} (hK : X.K = C.K) (ha : CEA C Wx X a da) : CW C Wx X (.Subscript a (.Slice none none (some (.UnaryOp .USub (.Constant (.int 1) k p1) p2)) p3) pos) (wRev da) :=
  pe_imp (pe_revL ha) fun σ H Q ⟨F, δ, g, q⟩ => ⟨F, δ, g, Post.imp (fun x δ1 F1 H1 _ g1 q1 v hv => by
    split at q1
    · rename_i xs hx
      obtain ⟨p, ys, rfl, h2, h3⟩ := dpt_list (peek_ok g1 hv hx) g1.fh
      exact ⟨p, ys, rfl, by rw [hK]; exact h2, fun p2 hp2 => q1 F1 H1 (Ex.refl F1) g1 _ F1 _ (Ex.refl F1) (g1.newOwn hp2 (DpAll.rev h3))⟩
    · exact q1.elim) (Post.bind q)⟩
end
end Mir

namespace Mir
open PySem PySem.Spec PyProof.Rows L2 MirX
open Evl (Ex)
/-! ### extend by any list or tuple -/
theorem ext_any (T : String) (hT : T = "list" ∨ T = "tuple") (l b : Addr) (us ws : Array Value) (n m : Nat) (d : Option Addr) (sl : Array (Option Value)) (h1 : ¬(!us.isEmpty && Builtin.List.listTooLong (us.size + ws.size)) = true) (h2 : us.size ≤ sizeLine) (h3 : us.size + ws.size ≤ sizeLine + 1) :
    Meets (Builtin.«list.extend» ⟨[.ref l, .ref b], []⟩) (fun _ R s => s.heap.get? l = some { cls := .type "list", data := .seq us n } ∧ s.heap.get? b = some { cls := .type T, dict := d, data := .seq ws m, slots := sl } ∧ R (.ok (.ret Value.none)) { s with heap := s.heap.update l (Obj.mapSeq fun x => x ++ ws), toks := s.toks }) := by
  rcases hT with rfl | rfl <;>
  exact .of_wp fun prog w A R s ⟨hl, hb, q⟩ => by
    rcases s with ⟨hp, g, dr, tk, os⟩
    have t1 := AutoSeq1.idx_int
    have t2 := AutoSeq1.sub_tuple_tuple
    have t3 := AutoSeq1.sub_list_list
    have t4 := AutoSeq1.sub_tuple_list
    have t5 := AutoSeq1.sub_list_tuple
    have hz : (us ++ ws).size ≤ sizeLine + 1 := by rw [Array.size_append]; exact h3
    wp_walk using (wpAny_updateSeq hl rfl (hz := h2) (_hz' := hz)), AutoSeq1.wpAny_loadPart' hl, AutoSeq1.wpAny_loadPart' hb
    exact ⟨_, rfl, q⟩
def rExtA (K : PySem.W.Frag) : V → List V → Hp → VK → Prop := fun x vs H Q => ∃ l b xs zs, x = .ref l ∧ vs = [.ref b] ∧ H l = some (.lst xs) ∧ (SqL K H b zs ∨ SqT K H b zs) ∧ xs.length + zs.length ≤ sizeLine ∧ Q .non (upd H l (.lst (xs ++ zs)))
theorem mt_extA {X : Cx} : MtM X "list.extend" (rExtA X.K) := fun pins s σ H x vs v us Q I rx rv h => by
  rcases h with ⟨l, b, xs, zs, rfl, rfl, hH, hB, hz, q⟩
  cases rx
  obtain ⟨u, rfl, ru⟩ := rv.one
  cases ru
  rcases I.lstM hH with ⟨z, its, n, r, hl, e⟩
  have fin : ∀ (ws : List Value) (T : String) (d : Option Addr) (sl : Array (Option Value)) (m : Nat), (T = "list" ∨ T = "tuple") → Vals zs ws → s.heap.get? b = some { cls := .type T, dict := d, data := .seq ws.toArray m, slots := sl } → wpAny (model X.prog X.w) X.A (call (.builtin "list.extend") [.ref l, .ref b]) (EP X pins σ Q) X.xe s := fun ws T d sl m hT rw' eb => by
    have hl2 := rw'.length
    have hsz : its.toArray.size + ws.toArray.size ≤ sizeLine := by rw [List.size_toArray, List.size_toArray]; omega
    have hlong : ¬ (!its.toArray.isEmpty && Builtin.List.listTooLong (its.toArray.size + ws.toArray.size)) = true := by
      rw [notLongL hsz]
      rw [Bool.and_false]
      simp
    refine call_meets F.slot_list_extend ⟨_, e, rfl⟩ F.entry_list_extend (F.args_list_extend_2 _ _) (ext_any T hT l b its.toArray ws.toArray n m d sl hlong (by omega) (by omega)) ⟨e, eb, ?_⟩
    exact ⟨.non, _, I.lset (its' := its ++ ws) hH e (by simp) (r.append rw') (by rw [List.length_append]; omega), rfl, q⟩
  rcases hB with hB | hB
  · obtain ⟨ws, r2, ⟨⟨c, d, t, sl⟩, m, o1, k1, _, e1⟩, _⟩ := I.list hB
    simp only at k1 e1
    subst k1 e1
    exact fin ws "list" d sl m (.inl rfl) r2 o1
  · obtain ⟨ws, r2, ⟨⟨c, d, t, sl⟩, o1, k1, m, e1⟩, _⟩ := I.tuple hB
    simp only at k1 e1
    subst k1 e1
    exact fin ws "tuple" d sl m (.inr rfl) r2 o1
/-- a list's item, for x[i] op= e -/
theorem get_lst {X : Cx} : PGet X (rIxL X.K) := fun pins s σ H o i ov iv Q I ro ri h => by
  obtain ⟨p, xs, k, z, rfl, rfl, hq, he, q⟩ := h
  cases ro
  obtain ⟨t, rfl⟩ := ri
  rcases I.list hq with ⟨its, r, pl, hz⟩
  rcases atI_get he with ⟨j, h1, h2, h3, h4, h5⟩
  rcases r.get h2 with ⟨w, ew, rw'⟩
  have hl := r.length
  have hn := line63
  have fin : EP X pins σ Q w s := by exact ⟨z, H, I, rw', q⟩
  by_cases h0 : 0 ≤ k
  · have hj : k.toNat = j := by
      rw [seqIndex_of h0 h5] at h1
      exact Option.some.inj h1
    exact getItem_listL pl.isList h0 (by omega) (by rw [hj]; simpa using ew) fin
  · have hj : (k + (its.toArray.size : Int)).toNat = j := by
      rewrite [seqIndex_neg (by omega) h4] at h1
      rw [List.size_toArray, ← hl]
      exact Option.some.inj h1
    exact wpAny_getItem_list_neg pl.isList (by omega) (by rw [List.size_toArray] <;> omega) (by omega) (by rw [hj]; simpa using ew) fin
section
variable {C : Ct} {Wx : WX} {X : Cx} {F H : Hp} {σ : L2.St} {δ : Env}
def ownL (δ : Env) (i : Nat) : Option (W × List PyData) := match δ[i]? with
  | some (some w) => match w.items with
    | some l => some (w, l)
    | none => none
  | _ => none
theorem ownL_ok {i : Nat} {w : W} {l : List PyData} (h : ownL δ i = some (w, l)) : δ[i]? = some (some w) ∧ w.items = some l := by
  unfold ownL at h
  split at h
  · rename_i w' e
    split at h
    · rename_i l' e2
      cases h
      exact ⟨e, e2⟩
    · cases h
  · cases h
theorem Good.ownL (g : Good C F H σ δ) {i : Nat} {w : W} {l : List PyData} (h : Mir.ownL δ i = some (w, l)) : ∃ p xs, σ[i]? = some (some (.ref p)) ∧ H p = some (.lst xs) ∧ DpAll C.K F xs l ∧ ∀ {xs' : List V} {l' : List PyData}, DpAll C.K F xs' l' → Good C F (upd H p (.lst xs')) σ (δ.set i (some (w.put l'))) := by
  obtain ⟨e, hw⟩ := ownL_ok h
  obtain ⟨p, xs, h1, h2, h3, _⟩ := g.getO e hw
  exact ⟨p, xs, h1, h2, h3, fun hd => g.write e hw h1 hd⟩
/-- xs.append(e) -/
def dAppend (i : Nat) (e : Den) : Den := fun δ => match ownL δ i with
  | none => .stuck
  | some _ => (e δ).bind fun x δ1 => match ownL δ1 i with
    | none => .stuck
    | some (w, l) => if l.length < line then .ok .none (δ1.set i (some (w.put (l ++ [x])))) else .stuck
theorem ce_append {o e : Expr} {i : Nat} {d : Den} {apos cpos : Pos} (ho : PE X o (tVar i)) (he : CE C Wx X e d) (hbase : attributeBase o "append" X.env (eval o X.env) = eval o X.env := by rfl) (hfew : ((backTo cpos (starEach [e] X.env)).all (fun x => !x.1) && (backToKw cpos (keywordEach [] X.env)).all (fun x => x.1.isSome)
      && decide ([e].length + ([] : List Keyword).length + (if ([] : List Keyword).isEmpty then 0 else 1) < 30)) = true := by rfl) (hline : (apos.endLine == cpos.line) = true := by rfl) (hs : starEach [e] X.env = (false, eval e X.env) :: starEach [] X.env := by rfl) (hplain : (backTo cpos (starEach [] X.env)).any (·.1) = false := by rfl) :
    CE C Wx X (.Call (.Attribute o "append" apos) [e] [] cpos) (dAppend i d) :=
  pe_imp (pe_bm PySem.F.plainAttrs_list PySem.F.slot_list_append PySem.F.type_list_append mt_append ho (pa_cons he pa_nil hs) hbase hfew hline hs hplain) fun σ H Q ⟨F, δ, g, q⟩ => by
    unfold dAppend at q
    split at q
    · exact q.elim
    · rename_i wl hw
      obtain ⟨w, l⟩ := wl
      obtain ⟨p, xs, h1, h2, h3, _⟩ := g.ownL hw
      refine ⟨_, h1, .inl ⟨rfl, xs, Evl.sq_of h2⟩, F, δ, g, Post.imp (fun x δ1 F1 H1 _ g1 q1 v hv => ?_) (Post.bind q)⟩
      split at q1
      · exact q1.elim
      · rename_i w1 l1 hw1
        split at q1
        · rename_i hz
          obtain ⟨p1, xs1, k1, k2, k3, k4⟩ := g1.ownL hw1
          rw [h1] at k1
          cases k1
          exact ⟨p, xs1, v, rfl, rfl, k2, by rw [DpAll.len k3]; exact line_lt hz, q1 F1 _ (Ex.refl F1) (k4 (DpAll.app k3 (.cons hv .nil))) _ .non⟩
        · exact q1.elim
/-- xs.extend(e) -/
def seqE : PyData → Option (List PyData)
  | .list l => some l
  | .tuple l => some l
  | _ => none
def dExtend (i : Nat) (e : DenA) : Den := fun δ => match ownL δ i with
  | none => .stuck
  | some _ => (e δ).bind fun a δ1 => match a.peek δ1 with
    | none => .stuck
    | some x => match seqE x, ownL δ1 i with
      | some m, some (w, l) => if l.length + m.length ≤ line then .ok .none (δ1.set i (some (w.put (l ++ m)))) else .stuck
      | _, _ => .stuck
theorem dpt_sqE {v : V} {x : PyData} {m : List PyData} (h : DpT C.K F H v x) (e : Ex F H) (hm : seqE x = some m) : ∃ p xs, v = .ref p ∧ (SqL C.K H p xs ∨ SqT C.K H p xs) ∧ DpAll C.K F xs m := by
  cases x with
  | list l => cases hm; obtain ⟨p, xs, rfl, h1, h2⟩ := dpt_list h e; exact ⟨p, xs, rfl, .inl h1, h2⟩
  | tuple l => cases hm; obtain ⟨p, xs, rfl, h1, h2⟩ := dpt_tup h e; exact ⟨p, xs, rfl, .inr h1, h2⟩
  | _ => cases hm
theorem ce_extend {o e : Expr} {i : Nat} {d : DenA} {apos cpos : Pos} (hK : X.K = C.K) (ho : PE X o (tVar i)) (he : CEA C Wx X e d) (hbase : attributeBase o "extend" X.env (eval o X.env) = eval o X.env := by rfl) (hfew : ((backTo cpos (starEach [e] X.env)).all (fun x => !x.1) && (backToKw cpos (keywordEach [] X.env)).all (fun x => x.1.isSome)
      && decide ([e].length + ([] : List Keyword).length + (if ([] : List Keyword).isEmpty then 0 else 1) < 30)) = true := by rfl) (hline : (apos.endLine == cpos.line) = true := by rfl) (hs : starEach [e] X.env = (false, eval e X.env) :: starEach [] X.env := by rfl) (hplain : (backTo cpos (starEach [] X.env)).any (·.1) = false := by rfl) :
    CE C Wx X (.Call (.Attribute o "extend" apos) [e] [] cpos) (dExtend i d) :=
  pe_imp (pe_bm PySem.F.plainAttrs_list PySem.F.slot_list_extend PySem.F.type_list_extend mt_extA ho (pa_cons he pa_nil hs) hbase hfew hline hs hplain) fun σ H Q ⟨F, δ, g, q⟩ => by
    unfold dExtend at q
    split at q
    · exact q.elim
    · rename_i wl hw
      obtain ⟨w, l⟩ := wl
      obtain ⟨p, xs, h1, h2, h3, _⟩ := g.ownL hw
      refine ⟨_, h1, .inl ⟨rfl, xs, Evl.sq_of h2⟩, F, δ, g, Post.imp (fun a δ1 F1 H1 _ g1 q1 v hv => ?_) (Post.bind q)⟩
      split at q1
      · exact q1.elim
      · rename_i x hx
        split at q1
        · rename_i m w1 l1 hm hw1
          split at q1
          · rename_i hz
            obtain ⟨p1, xs1, k1, k2, k3, k4⟩ := g1.ownL hw1
            rw [h1] at k1
            cases k1
            obtain ⟨b, zs, rfl, k5, k6⟩ := dpt_sqE (peek_ok g1 hv hx) g1.fh hm
            exact ⟨p, b, xs1, zs, rfl, rfl, k2, by rw [hK]; exact k5, by rw [DpAll.len k3, DpAll.len k6]; exact line_ok hz, q1 F1 _ (Ex.refl F1) (k4 (DpAll.app k3 k6)) _ .non⟩
          · exact q1.elim
        · exact q1.elim
/-- xs[j] = e -/
def sStore (i : Nat) (ix : DenA) (e : Den) : DenS := fun δ => (e δ).to fun x δ1 => match ownL δ1 i with
  | none => .stuck
  | some _ => (ix δ1).to fun a δ2 => match a.peek δ2, ownL δ2 i with
    | some (.int k), some (w, l) => match ixN l.length k with
      | some j => .nx (δ2.set i (some (w.put (l.set j x))))
      | none => .stuck
    | _, _ => .stuck
theorem cs_store {o ie e : Expr} {i : Nat} {ix : DenA} {d : Den} {tpos pos : Pos} (ho : PE X o (tVar i)) (hi : CEA C Wx X ie ix) (he : CE C Wx X e d)
    (ha : ∀ v, assign (.Subscript o ie tpos) X.env v = (do
      let w1 ← holding [v] (eval o X.env)
      let w2 ← holding [v, w1] (eval ie X.env)
      standAt tpos
      holding [v, w1, w2] (setItem w1 w2 v)
      release [v, w1, w2] []) := by intro _; rfl)
    (hs : swapsWithSole [.Subscript o ie tpos] e pos.line X.env = pure false := by rfl) (hw : swappedStores [.Subscript o ie tpos] e X.env = pure none := by rfl)
    (h1 : (assignEach [.Subscript o ie tpos] X.env).map (·.2) = [assign (.Subscript o ie tpos) X.env] := by rfl) : CS C Wx X (.Assign [.Subscript o ie tpos] e pos) (sStore i ix d) :=
  ps_imp (ps_asg he (pg_sub ho hi set_list ha) hs hw h1) fun D σ H ⟨F, δ, g, q⟩ => ⟨F, δ, g, Post.imp (fun x δ1 F1 H1 _ g1 q1 v hv => by
    split at q1
    · exact q1.elim
    · rename_i wl hw
      obtain ⟨w, l⟩ := wl
      obtain ⟨p, xs, h1, h2, h3, _⟩ := g1.ownL hw
      refine ⟨_, h1, F1, δ1, g1, Post.imp (fun a δ2 F2 H2 e2 g2 q2 u hu => ?_) (Post.to q1)⟩
      split at q2
      · rename_i k w2 l2 hk hw2
        split at q2
        · rename_i j hj
          obtain ⟨p1, xs1, k1, k2, k3, k4⟩ := g2.ownL hw2
          rw [h1] at k1
          cases k1
          exact ⟨p, xs1, k, j, rfl, dpt_int (peek_ok g2 hu hk), k2, by rw [DpAll.len k3]; exact hj, q2 σ F2 _ (Ex.refl F2) (k4 (DpAll.set k3 (Dp.ex hv e2) j))⟩
        · exact q2.elim
      · exact q2.elim) (Post.to q)⟩
/-- xs[j] op= e -/
def sAugIx (i : Nat) (ix : DenA) (f : List PyData → Option PyData) (e : DenA) : DenS := fun δ => match ownL δ i with
  | none => .stuck
  | some _ => (ix δ).to fun a δ1 => match a.peek δ1, ownL δ1 i with
    | some (.int k), some (_, l) => match atI l k with
      | some old => (e δ1).to fun b δ2 => (app f [.v old, b] δ2).to fun z δ3 => match ownL δ3 i with
        | some (w, l') => match ixN l'.length k with
          | some j => .nx (δ3.set i (some (w.put (l'.set j z))))
          | none => .stuck
        | none => .stuck
      | none => .stuck
    | _, _ => .stuck
theorem cs_augIx {o ie e : Expr} {i : Nat} {ix de : DenA} {op : Operator} {tip : TIp} {f : List PyData → Option PyData} {tpos pos : Pos} (hK : X.K = C.K) (ho : PE X o (tVar i)) (hi : CEA C Wx X ie ix) (he : CEA C Wx X e de) (hp : PIp X op tip) (hr : RD C (fun vs H Q => ∃ x y, vs = [x, y] ∧ tip x y H Q) f)
    (ha : ∀ ov iv new, augStore ie ov iv new = (do holding [new, ov, iv] (setItem ov iv new); release [new, ov, iv] []; pure .next) := by intros; rfl) : CS C Wx X (.AugAssign (.Subscript o ie tpos) op e pos) (sAugIx i ix f de) :=
  ps_imp (ps_augS ho hi get_lst he hp set_list ha) fun D σ H ⟨F, δ, g, q⟩ => by
    unfold sAugIx at q
    split at q
    · exact q.elim
    · rename_i wl hw
      obtain ⟨w, l⟩ := wl
      obtain ⟨p, xs, h1, h2, h3, _⟩ := g.ownL hw
      refine ⟨_, h1, F, δ, g, Post.imp (fun a δ1 F1 H1 e1 g1 q1 u hu => ?_) (Post.to q)⟩
      split at q1
      · rename_i k w1 l1 hk hw1
        split at q1
        · rename_i old hold
          obtain ⟨p1, xs1, k1, k2, k3, _⟩ := g1.ownL hw1
          rw [h1] at k1
          cases k1
          have eu := dpt_int (peek_ok g1 hu hk)
          subst eu
          obtain ⟨vo, a1, a2⟩ := atI_dp k3 hold
          refine ⟨p, xs1, k, vo, rfl, rfl, Evl.sq_of k2, a1, F1, δ1, g1, Post.imp (fun b δ2 F2 H2 e2 g2 q2 v2 hv2 => ?_) (Post.to q1)⟩
          obtain ⟨x', y', ee, hh⟩ := app_ok (Wx := Wx) hr (Q := fun z H5 => rSetL (.ref p) (.int k) z H5 fun H6 => D.nx σ H6) g2 (.cons (.v (Dp.ex a2 e2)) (.cons hv2 .nil)) (Post.imp (fun z δ3 F3 H3 e3 g3 q3 v3 hv3 => by
            split at q3
            · rename_i w3 l3 hw3
              split at q3
              · rename_i j hj
                obtain ⟨p3, xs3, m1, m2, m3, m4⟩ := g3.ownL hw3
                rw [h1] at m1
                cases m1
                exact ⟨p, xs3, k, j, rfl, rfl, m2, by rw [DpAll.len m3]; exact hj, q3 σ F3 _ (Ex.refl F3) (m4 (DpAll.set m3 hv3 j))⟩
              · exact q3.elim
            · exact q3.elim) (Post.to q2))
          cases ee
          exact hh
        · exact q1.elim
      · exact q1.elim
end
end Mir

namespace Mir
open PySem PySem.Spec PyProof.Rows L2 MirX
open Evl (Ex)
/-! ### in, not in, index: flat items -/
def flatD : PyData → Bool
  | .none => true
  | .bool _ => true
  | .int _ => true
  | .str _ => true
  | _ => false
def eqF : PyData → PyData → Bool
  | .none, .none => true
  | .bool a, .bool b => a == b
  | .bool a, .int b => (if a then 1 else 0) == b
  | .int a, .bool b => a == (if b then 1 else 0)
  | .int a, .int b => a == b
  | .str a, .str b => a == b
  | _, _ => false
def inF (x : PyData) (l : List PyData) : Bool := l.any fun y => eqF y x
section
variable {C : Ct} {Wx : WX} {X : Cx} {F H : Hp} {σ : L2.St} {δ : Env} {K : PySem.W.Frag}
theorem dpt_flat {v : V} {x : PyData} (h : DpT K F H v x) (hx : flatD x = true) : flatV v = true ∧ Dp K F v x := by
  rcases h with h | ⟨_, _, _, _, rfl, _⟩
  · refine ⟨?_, h⟩
    cases h <;> first | rfl | cases hx
  · cases hx
theorem eqF_V {v u : V} {x y : PyData} (h1 : Dp K F v x) (h2 : Dp K F u y) (f1 : flatD x = true) (f2 : flatD y = true) : eqV v u = eqF x y := by
  cases h1 <;> first | (cases f1; done) | (cases h2 <;> first | (cases f2; done) | rfl)
theorem flat_all {vs : List V} {l : List PyData} (h : DpAll K F vs l) (hl : l.all flatD = true) : vs.all flatV = true := by
  revert h
  induction vs generalizing l with
  | nil => intro h; rfl
  | cons v vs ih =>
    intro h
    cases h with
    | cons a b =>
      rw [List.all_cons, Bool.and_eq_true] at hl ⊢
      exact ⟨(dpt_flat (H := F) (.inl a) hl.1).1, ih hl.2 b⟩
theorem inF_V {u : V} {x : PyData} (hx : Dp K F u x) (fx : flatD x = true) {vs : List V} {l : List PyData} (h : DpAll K F vs l) (hl : l.all flatD = true) : inV u vs = inF x l := by
  revert h
  induction vs generalizing l with
  | nil => intro h; cases h; rfl
  | cons v vs ih =>
    intro h
    cases h with
    | cons a b =>
      rw [List.all_cons, Bool.and_eq_true] at hl
      unfold inV inF at ih ⊢
      rw [List.any_cons, List.any_cons, eqF_V a hx hl.1 fx, ih hl.2 b]
def fIn (neg : Bool) : List PyData → Option PyData
  | [x, y] => match seqE y with
    | some l => if flatD x && l.all flatD then some (.bool (if neg then !inF x l else inF x l)) else none
    | none => none
  | _ => none
theorem rd_in (neg : Bool) : RD C (fun vs H Q => ∃ x y, vs = [x, y] ∧ rIn C.K neg x y H Q) (fIn neg) := by
  intro xs z hz F H σ δ vs Q g hd q
  unfold fIn at hz
  split at hz
  · rename_i x y
    split at hz
    · rename_i l hl
      split at hz
      · rename_i hc
        cases hz
        rw [Bool.and_eq_true] at hc
        obtain ⟨v, u, rfl, h1, h2⟩ := dpts2 hd
        obtain ⟨f1, d1⟩ := dpt_flat h1 hc.1
        obtain ⟨p, ys, rfl, h3, h4⟩ := dpt_sqE h2 g.fh hl
        refine ⟨_, _, rfl, p, ys, rfl, h3, f1, flat_all h4 hc.2, ?_⟩
        rw [inF_V d1 hc.1 h4 hc.2]
        exact q _ F H (Ex.refl F) g (.bl _)
      · cases hz
    · cases hz
  · cases hz
/-- the first place of x -/
def ixF (x : PyData) : List PyData → Option Nat
  | [] => none
  | y :: l => if eqF y x then some 0 else (ixF x l).map (· + 1)
def rIxA (K : PySem.W.Frag) (tup : Bool) : V → List V → Hp → VK → Prop := fun x xs H Q => ∃ (a : Addr) (ys : List V) (y : V) (j : Nat) (z : V), x = V.ref a ∧ xs = [y] ∧ (if tup then SqT K H a ys else SqL K H a ys) ∧ flatV y = true ∧ ys.all flatV = true ∧ ys[j]? = some z ∧ eqV z y = true ∧ (∀ (m : Nat) (z' : V), m < j → ys[m]? = some z' → eqV z' y = false) ∧ Q (.int (j : Nat)) H
theorem mt_ixT {X : Cx} : MtR X "tuple.index" (rIxA X.K true) := by
  intro pins s σ H x xs v us
  intro Q I rx rxs h
  rcases h with ⟨a, ys, y, j, z, rfl, rfl, hs, fy, fys, hz, hzj, hno, q⟩
  cases rx
  obtain ⟨uy, rfl, ry⟩ := vals1 rxs
  obtain ⟨its, r, ⟨⟨cls, dd, dt, sl⟩, ho, hc, n, hd⟩, hlen⟩ := I.tuple hs
  simp only at hc hd
  subst hc hd
  have hl := r.length
  have key : ∀ (m : Nat) (hm : m < its.toArray.size) (w : V), ys[m]? = some w → eqU y its.toArray[m] = eqV w y := fun m hm w hw => by
    obtain ⟨u, hu, ru⟩ := r.get hw
    have e : its.toArray[m] = u := by
      obtain ⟨_, e⟩ := List.getElem?_eq_some_iff.mp hu
      simpa using e
    rw [e, eqU_of ru (flat_at fys hw)]
  have hj : j < its.toArray.size := by
    rw [List.size_toArray, ← hl]
    exact (List.getElem?_eq_some_iff.mp hz).1
  refine call_meets PySem.F.slot_tuple_index ⟨_, ho, rfl⟩ PySem.F.entry_tuple_index (PySem.F.args_tuple_index_2 _ _) (TI.tuple_indexAt a its.toArray n dd sl uy (eqU y) j hj ?_ ?_)
    ⟨ho, fun w hw => mem_eqAt ry fy r fys w (by simpa using hw), ⟨.int (j : Nat), H, I.tok _, ⟨_, rfl⟩, q⟩⟩
  · rw [key j hj z hz]; exact hzj
  · intro m hm hmj
    have hw : ys[m]? = some (ys[m]'(by rw [hl]; simpa using hm)) := List.getElem?_eq_getElem _
    rw [key m hm _ hw]
    exact hno m _ hmj hw
theorem mt_ixL {X : Cx} : MtR X "list.index" (rIxA X.K false) := mt_index
theorem ixF_ok {u : V} {x : PyData} (hx : Dp K F u x) (fx : flatD x = true) : ∀ {vs : List V} {l : List PyData} {j : Nat}, DpAll K F vs l → l.all flatD = true → ixF x l = some j → ∃ z, vs[j]? = some z ∧ eqV z u = true ∧ ∀ (m : Nat) (z' : V), m < j → vs[m]? = some z' → eqV z' u = false
  | [], l, j, h, _, e => by cases h; cases e
  | v :: vs, y :: l, j, h, hl, e => by
    cases h with
    | cons a b =>
      rw [List.all_cons, Bool.and_eq_true] at hl
      unfold ixF at e
      split at e
      · rename_i hy
        cases e
        exact ⟨v, rfl, by rw [eqF_V a hx hl.1 fx]; exact hy, fun m _ hm => absurd hm (Nat.not_lt_zero m)⟩
      · rename_i hy
        cases e2 : ixF x l with
        | none => rw [e2] at e; cases e
        | some i =>
          rw [e2] at e
          have e3 : j = i + 1 := (Option.some.inj e).symm
          subst e3
          obtain ⟨z, h1, h2, h3⟩ := ixF_ok hx fx b hl.2 e2
          refine ⟨z, h1, h2, fun m z' hm hz' => ?_⟩
          cases m with
          | zero =>
            simp at hz'
            subst hz'
            rw [eqF_V a hx hl.1 fx]
            simpa using hy
          | succ m => exact h3 m z' (by omega) (by simpa using hz')
/-- x.index(y), x a tuple (a list: tup = false) -/
def fIndex (tup : Bool) : List PyData → Option PyData
  | [.tuple l, x] => if tup && flatD x && l.all flatD then (ixF x l).map fun j => .int j else none
  | [.list l, x] => if !tup && flatD x && l.all flatD then (ixF x l).map fun j => .int j else none
  | _ => none
def dIndex (tup : Bool) (a b : DenA) : Den := fun δ => (a δ).bind fun x δ1 => match x.peek δ1 with
  | some (.tuple _) => if tup then (b δ1).bind fun y δ2 => app (fIndex tup) [x, y] δ2 else .stuck
  | some (.list _) => if tup then .stuck else (b δ1).bind fun y δ2 => app (fIndex tup) [x, y] δ2
  | _ => .stuck
theorem rd_index (tup : Bool) : RD C (fun vs H Q => ∃ x y, vs = [x, y] ∧ rIxA C.K tup x [y] H Q) (fIndex tup) := by
  intro xs w hw F H σ δ vs Q g hd q
  unfold fIndex at hw
  split at hw
  · rename_i l x
    split at hw
    · rename_i hc
      rw [Bool.and_eq_true, Bool.and_eq_true] at hc
      obtain ⟨⟨c0, c1⟩, c2⟩ := hc
      cases e : ixF x l with
      | none => rw [e] at hw; cases hw
      | some j =>
        rw [e] at hw
        cases hw
        obtain ⟨v, u, rfl, h1, h2⟩ := dpts2 hd
        obtain ⟨f1, d1⟩ := dpt_flat h2 c1
        obtain ⟨p, ys, rfl, h3, h4⟩ := dpt_tup h1 g.fh
        obtain ⟨z, k1, k2, k3⟩ := ixF_ok d1 c1 h4 c2 e
        exact ⟨_, _, rfl, p, ys, u, j, z, rfl, rfl, by rw [if_pos c0]; exact h3, f1, flat_all h4 c2, k1, k2, k3, q _ F H (Ex.refl F) g (.int _)⟩
    · cases hw
  · rename_i l x
    split at hw
    · rename_i hc
      rw [Bool.and_eq_true, Bool.and_eq_true] at hc
      obtain ⟨⟨c0, c1⟩, c2⟩ := hc
      cases e : ixF x l with
      | none => rw [e] at hw; cases hw
      | some j =>
        rw [e] at hw
        cases hw
        obtain ⟨v, u, rfl, h1, h2⟩ := dpts2 hd
        obtain ⟨f1, d1⟩ := dpt_flat h2 c1
        obtain ⟨p, ys, rfl, h3, h4⟩ := dpt_list h1 g.fh
        obtain ⟨z, k1, k2, k3⟩ := ixF_ok d1 c1 h4 c2 e
        exact ⟨_, _, rfl, p, ys, u, j, z, rfl, rfl, by cases tup with | true => cases c0 | false => exact h3, f1, flat_all h4 c2, k1, k2, k3, q _ F H (Ex.refl F) g (.int _)⟩
    · cases hw
  · cases hw
/-! ### a, b, .. = a tuple or a list -/
def gEither (K : PySem.W.Frag) (n : Nat) (t : TGs) : TG := fun v σ H Q => ∃ a xs, v = .ref a ∧ (SqT K H a xs ∨ SqL K H a xs) ∧ xs.length = n ∧ t xs σ H Q
theorem pg_either {es : List Expr} {k : Nat} {t : TGs} {n : Nat} {pos : Pos} (hc : X.calm = true) (h : PGs X es t) (hn : (assignEach es X.env).length = n := by rfl) (hst : (assignEach es X.env).findIdx? (·.1) = none := by rfl) : PG X (.Tuple es k pos) (gEither X.K n t) :=
  ⟨fun pins s σ H v u Q I r ⟨a, xs, e, hs, hl, q⟩ => hs.elim (fun hs => (pg_tup hc h hn hst).run pins s σ H v u Q I r ⟨a, xs, e, hs, hl, q⟩) fun hs => (pg_unl hc h hn hst).run pins s σ H v u Q I r ⟨a, xs, e, hs, hl, q⟩⟩
def sUnp (is : List Nat) (d : Den) : DenS := fun δ => (d δ).to fun x δ1 => match seqE x with
  | some xs => match setDs is xs δ1 with
    | some δ2 => .nx δ2
    | none => .stuck
  | none => .stuck
theorem unp_ok {is : List Nat} {d : Den} {n : Nat} (hn : n = is.length) : ∀ D σ H, tS C Wx (sUnp is d) D σ H → tAsg (tE C Wx d) (gEither C.K n (gNames is)) D σ H := fun D σ H ⟨F, δ, g, q⟩ => ⟨F, δ, g, Post.imp (fun x δ1 F1 H1 _ g1 q1 v hv => by
    split at q1
    · rename_i xs hx
      split at q1
      · rename_i δ2 h2
        obtain ⟨p, ys, rfl, k1, k2⟩ := dpt_sqE (.inl hv) g1.fh hx
        exact ⟨p, ys, rfl, k1.symm, by rw [DpAll.len k2, hn]; exact (setDs_len h2).symm, gNames_ok h2 g1 k2 fun σ' g' => q1 σ' F1 H1 (Ex.refl F1) g'⟩
      · exact q1.elim
    · exact q1.elim) (Post.to q)⟩
theorem cs_unp {es : List Expr} {k : Nat} {is : List Nat} {e : Expr} {d : Den} {tpos pos : Pos} (hK : X.K = C.K) (hc : X.calm = true) (hg : PGs X es (gNames is)) (he : CE C Wx X e d) (hn : (assignEach es X.env).length = is.length := by rfl) (hst : (assignEach es X.env).findIdx? (·.1) = none := by rfl)
    (hs : swapsWithSole [.Tuple es k tpos] e pos.line X.env = pure false := by rfl) (hw : swappedStores [.Tuple es k tpos] e X.env = pure none := by rfl) (h1 : (assignEach [.Tuple es k tpos] X.env).map (·.2) = [assign (.Tuple es k tpos) X.env] := by rfl) :
    CS C Wx X (.Assign [.Tuple es k tpos] e pos) (sUnp is d) := ps_imp (ps_asg he (pg_either (n := is.length) hc hg hn hst) hs hw h1) fun D σ H q => by
  rw [hK]
  exact unp_ok rfl D σ H q
end
end Mir

namespace Mir
open PySem PySem.Spec PyProof.Rows L2 MirX
open Evl (Ex)
section
variable {C : Ct} {Wx : WX} {X : Cx} {F H : Hp} {σ : L2.St} {δ : Env}
/-! ### repr -/
def fRepr : List PyData → Option PyData
  | [d] => if d.showable && !d.hasDict && decide (d.depth ≤ 60) && decide (d.shown.length ≤ line) then some (.str d.shown) else none
  | _ => none
theorem rd_repr (hK : X.K = C.K) : RD C (fun xs H Q => ∃ x d, xs = [x] ∧ Dp X.K H x d ∧ d.showable = true ∧ d.hasDict = false ∧ d.depth ≤ 60 ∧ d.shown.length ≤ sizeLine ∧ Q (.str d.shown) H) fRepr := by
  intro xs z hz F H σ δ vs Q g hd q
  unfold fRepr at hz
  split at hz
  · rename_i d
    split at hz
    · rename_i hc
      cases hz
      simp only [Bool.and_eq_true, Bool.not_eq_true', decide_eq_true_eq] at hc
      obtain ⟨v, rfl, h1⟩ := dpts1 hd
      exact ⟨v, d, rfl, by rw [hK]; exact dpt_ex h1 g.fh, hc.1.1.1, hc.1.1.2, hc.1.2, line_ok hc.2, q _ F H (Ex.refl F) g (.str _)⟩
    · cases hz
  · cases hz
/-! ### a call of a name that holds a def -/
def wCallL (i : Nat) (tab : Nat → Option (Nat × (List W → RF))) (as : DenL) : DenW := fun δ => match δ[i]? with
  | some (some (.fn k)) => match tab k with
    | some (n, den) => wCall n den as δ
    | none => .stuck
  | _ => .stuck
structure DefAt (X : Cx) (C : Ct) (k n : Nat) (den : List W → RF) : Prop where
  ex : ∃ (m : Nat) (fd : FuncData) (ps : List Str), FnX X m (C.fn k) fd ps (SpP C.toSg n den) ∧ RoomG m X.A ∧ PySem.W.keepIn X.K (.ref (C.fn k)) = true ∧ Binds X.K fd ps []
theorem cw_callL {i : Nat} {tab : Nat → Option (Nat × (List W → RF))} {x : Str} {p pos : Pos} {e : Expr} {es : List Expr} {as : DenL} (hT : ∀ k n den, tab k = some (n, den) → DefAt X C k n den) (hN : X.N[i]? = some x) (hv : Vis X.env.scope x) (tk : Takes X Wx) (ha : CAL C Wx X (e :: es) as)
    (hdb : (x == ("__debug__" : Str)) = false := by decide) (hcd : (x == ("__classdict__" : Str)) = false := by decide) (he : starEach (e :: es) X.env = (false, eval e X.env) :: starEach es X.env := by rfl) (hpl : (backTo pos (starEach es X.env)).any (·.1) = false := by rfl) :
    CW C Wx X (.Call (.Name x p) (e :: es) [] pos) (wCallL i tab as) := ⟨fun pins s σ H Q I ⟨F, δ, g, q⟩ => by
  unfold wCallL at q
  split at q
  · rename_i k hk
    split at q
    · rename_i n den ht
      obtain ⟨m, fd, ps, Fn, hr, hkp, hb⟩ := (hT k n den ht).ex
      obtain ⟨v, pp, h1, h2, _⟩ := g.get hk
      have ev : v = .ref (C.fn k) := by
        generalize hw : W.fn k = w at h2
        cases h2 <;> first | cases hw | skip
        rfl
      subst ev
      refine (pe_callLG (E := fun σ cls d H => Wx cls d σ H) Fn hr hN hv hkp hb (fun σ pins H s e s' I c => tk e s' (XE.of_call I (fun cls d H' h => h) c)) ha hdb hcd he hpl).run pins s σ H Q I ⟨h1, F, δ, g, ?_⟩
      exact Post.imp (fun avs δ1 F1 H1 _ g1 q1 vs hvs => callP_ok (fun _ _ _ h => h) g1 hvs q1) (Post.bind q)
    · exact q.elim
  · exact q.elim⟩
/-! ### keywords -/
def CKL (C : Ct) (Wx : WX) (X : Cx) (ks : List Keyword) (den : DenL) : Prop := PK X ks (tAL C Wx den)
theorem pk_imp {ks : List Keyword} {t t' : TA} (h : PK X ks t) (k : ∀ σ H Q, t' σ H Q → t σ H Q) : PK X ks t' := ⟨fun pos pins s σ H Q I q => h.run pos pins s σ H Q I (k σ H Q q)⟩
theorem ckl_nil : CKL C Wx X [] aNil := pk_imp pk_nil fun σ H Q ⟨F, δ, g, q⟩ => q F H (Ex.refl F) g [] .nil
theorem ckl_cons {nm : Option Str} {e : Expr} {kpos : Pos} {ks : List Keyword} {a : DenA} {r : DenL} (h : CEA C Wx X e a) (k : CKL C Wx X ks r) : CKL C Wx X (⟨nm, e, kpos⟩ :: ks) (aCons a r) :=
  pk_imp (pk_cons h k) fun σ H Q ⟨F, δ, g, q⟩ => ⟨F, δ, g, Post.imp (fun x δ1 F1 H1 _ g1 q1 v hv => ⟨F1, δ1, g1, Post.imp (by intro xs δ2 F2 H2 e2 g2 q2 vs hvs; exact q2 F2 H2 (Ex.refl F2) g2 _ (.cons (hv.mono e2) hvs)) (Post.bind q1)⟩) (Post.bind q)⟩
/-- the values in the parameters' order -/
def inOrder {α : Type} (ix : List Nat) (m n : Nat) (us ws : List α) : List α := if us.length = m ∧ ws.length = n then ix.filterMap ((us ++ ws)[·]?) else []
theorem vals_at : ∀ {vs : List V} {us : List Value}, Vals vs us → ∀ i : Nat, (vs[i]? = none ∧ us[i]? = none) ∨ ∃ v u, vs[i]? = some v ∧ us[i]? = some u ∧ RelV v u
  | _, _, .nil, i => .inl ⟨by simp, by simp⟩
  | _, _, .cons r t, 0 => .inr ⟨_, _, rfl, rfl, r⟩
  | _, _, .cons r t, i + 1 => by simpa using vals_at t i
theorem vals_pick {vs : List V} {us : List Value} (r : Vals vs us) : ∀ ix : List Nat, Vals (ix.filterMap (vs[·]?)) (ix.filterMap (us[·]?))
  | [] => .nil
  | i :: ix => by
    rcases vals_at r i with ⟨h1, h2⟩ | ⟨v, u, h1, h2, h3⟩
    · rw [List.filterMap_cons_none h1, List.filterMap_cons_none h2]; exact vals_pick r ix
    · rw [List.filterMap_cons_some h1, List.filterMap_cons_some h2]; exact .cons h3 (vals_pick r ix)
theorem kbinds {K : PySem.W.Frag} {fd : FuncData} {ps ks : List Str} (ix : List Nat) (m n : Nat) (h0 : ps ≠ []) (h : ∀ us ws : List Value, us.length = m → ws.length = n → bindArgs fd ⟨us, ks.zip ws⟩ = pure (ps.zip (inOrder ix m n us ws))) : KBinds K fd ps ks (inOrder ix m n) (inOrder ix m n) := by
  refine ⟨fun s us ws _ hl => ?_, fun {vs us zs ws} r rz => ?_⟩
  · by_cases hc : us.length = m ∧ ws.length = n
    · exact .of_eq (h us ws hc.1 hc.2)
    · unfold inOrder at hl
      rw [if_neg hc] at hl
      exact absurd (List.eq_nil_of_length_eq_zero hl.symm) h0
  · unfold inOrder
    rw [r.length, rz.length]
    by_cases hc : us.length = m ∧ ws.length = n
    · rw [if_pos hc, if_pos hc]
      exact vals_pick (r.append rz) ix
    · rw [if_neg hc, if_neg hc]
      exact .nil
theorem repAVs_at : ∀ {vs : List V} {as : List AV}, RepAVs C F σ vs as → ∀ i : Nat, (vs[i]? = none ∧ as[i]? = none) ∨ ∃ v a, vs[i]? = some v ∧ as[i]? = some a ∧ RepAV C F σ v a
  | _, _, .nil, i => .inl ⟨by simp, by simp⟩
  | _, _, .cons r t, 0 => .inr ⟨_, _, rfl, rfl, r⟩
  | _, _, .cons r t, i + 1 => by simpa using repAVs_at t i
theorem repAVs_pick {vs : List V} {as : List AV} (r : RepAVs C F σ vs as) : ∀ ix : List Nat, RepAVs C F σ (ix.filterMap (vs[·]?)) (ix.filterMap (as[·]?))
  | [] => .nil
  | i :: ix => by
    rcases repAVs_at r i with ⟨h1, h2⟩ | ⟨v, u, h1, h2, h3⟩
    · rw [List.filterMap_cons_none h1, List.filterMap_cons_none h2]; exact repAVs_pick r ix
    · rw [List.filterMap_cons_some h1, List.filterMap_cons_some h2]; exact .cons h3 (repAVs_pick r ix)
theorem RepAVs.app {vs us : List V} {as bs : List AV} (r : RepAVs C F σ vs as) (q : RepAVs C F σ us bs) : RepAVs C F σ (vs ++ us) (as ++ bs) := by
  induction r with
  | nil => exact q
  | cons a _ ih => exact .cons a ih
theorem RepAVs.len {vs : List V} {as : List AV} (r : RepAVs C F σ vs as) : vs.length = as.length := by
  induction r with
  | nil => rfl
  | cons _ _ ih => simp only [List.length_cons, ih]
theorem repAVs_order {vs us : List V} {as bs : List AV} {ix : List Nat} {m n : Nat} (r : RepAVs C F σ vs as) (q : RepAVs C F σ us bs) : RepAVs C F σ (inOrder ix m n vs us) (inOrder ix m n as bs) := by
  unfold inOrder
  rw [r.len, q.len]
  by_cases hc : as.length = m ∧ bs.length = n
  · rw [if_pos hc, if_pos hc]
    exact repAVs_pick (r.app q) ix
  · rw [if_neg hc, if_neg hc]
    exact .nil
def wCallK (n : Nat) (den : List W → RF) (ix : List Nat) (m1 m2 : Nat) (as ks : DenL) : DenW := fun δ => (as δ).bind fun avs δ1 => (ks δ1).bind fun bvs δ2 => match wsOf δ2 (inOrder ix m1 m2 avs bvs) with
  | some ws => if ws.length = n then (den ws).to δ2 else .stuck
  | none => .stuck
theorem cw_callK {n : Nat} {den : List W → RF} {k : Nat} {f : Addr} {fd : FuncData} {ps ks : List Str} {x : Str} {p pos : Pos} {e : Expr} {es : List Expr} {kws : List Keyword} {as bs : DenL} {ix : List Nat} {m1 m2 : Nat} (Fn : FnX X k f fd ps (SpP C.toSg n den)) (hr : RoomG k X.A) (hg : Gl X x) (hm : X.mg x = some (.ref f)) (hk : PySem.W.keepIn X.K (.ref f) = true)
    (hb : KBinds X.K fd ps ks (inOrder ix m1 m2) (inOrder ix m1 m2)) (tk : Takes X Wx) (ha : CAL C Wx X (e :: es) as) (hkw : CKL C Wx X kws bs) (hall : (backToKw pos (keywordEach kws X.env)).all (·.1.isSome) = true := by rfl) (hks : (backToKw pos (keywordEach kws X.env)).filterMap (·.1) = ks := by rfl)
    (hdb : (x == ("__debug__" : Str)) = false := by decide) (he : starEach (e :: es) X.env = (false, eval e X.env) :: starEach es X.env := by rfl) (hpl : ((backTo pos (starEach (e :: es) X.env)).any (·.1) || (backToKw pos (keywordEach kws X.env)).any (·.1.isNone)) = false := by rfl) :
    CW C Wx X (.Call (.Name x p) (e :: es) kws pos) (wCallK n den ix m1 m2 as bs) :=
  pe_imp (pe_callKG (E := fun σ cls d H => Wx cls d σ H) Fn hr hg hm hk hb (fun σ pins H s e s' I c => tk e s' (XE.of_call I (fun cls d H' h => h) c)) ha hkw hall hks hdb he hpl) fun σ H Q ⟨F, δ, g, q⟩ =>
    ⟨F, δ, g, Post.imp (by
      intro avs δ1 F1 H1 _ g1 q1 vs hvs
      exact ⟨F1, δ1, g1, Post.imp (by intro bvs δ2 F2 H2 e2 g2 q2 zs hzs; exact callP_ok (fun _ _ _ h => h) g2 (repAVs_order (hvs.mono e2) hzs) q2) (Post.bind q1)⟩) (Post.bind q)⟩
/-- keywords alone -/
theorem pe_callKG0 {k : Nat} {f : Addr} {fd : FuncData} {ps : List Str} {sp : Sp} {E : L2.St → XK} {ks : List Str} {g : List Value → List Value → List Value} {gV : List V → List V → List V} {kws : List Keyword} {tk : TA} {x : Str} {p pos : Pos} (F : FnX X k f fd ps sp) (hr : RoomG k X.A) (hg : Gl X x) (hm : X.mg x = some (.ref f)) (hk : PySem.W.keepIn X.K (.ref f) = true) (hb : KBinds X.K fd ps ks g gV) (hx : ∀ σ, PassesAt (L2.CX X.prog X.w) X σ (E σ))
    (hkw : PK X kws tk) (hall : (backToKw pos (keywordEach kws X.env)).all (·.1.isSome) = true := by rfl) (hks : (backToKw pos (keywordEach kws X.env)).filterMap (·.1) = ks := by rfl)
    (hdb : (x == ("__debug__" : Str)) = false := by decide) (hpl : ((backTo pos (starEach [] X.env)).any (·.1) || (backToKw pos (keywordEach kws X.env)).any (·.1.isNone)) = false := by rfl) :
    PE X (.Call (.Name x p) [] kws pos) (tCallKG sp gV E tNil tk) := ⟨fun pins s σ H Q I h => by
  refine wpAny_Call_Name_kw (ld_glob I hg hm (PySem.W.callWith_KW0 (h₀ := X.base) I.ok.mod.kin hk hall ?_ hpl) hdb)
  refine thn (hkw.run pos pins s σ H _ I h) fun ws s2 ⟨zs, H2, I2, rz, q2⟩ => ⟨I2.kIn, ?_⟩
  rw [hks]
  exact go_fnK (us := []) (vs := []) F hr hb (fun e s' c => hx σ pins H2 s2 e s' I2 c) I2 .nil rz q2⟩
theorem cw_callK0 {n : Nat} {den : List W → RF} {k : Nat} {f : Addr} {fd : FuncData} {ps ks : List Str} {x : Str} {p pos : Pos} {kws : List Keyword} {bs : DenL} {ix : List Nat} {m2 : Nat} (Fn : FnX X k f fd ps (SpP C.toSg n den)) (hr : RoomG k X.A) (hg : Gl X x) (hm : X.mg x = some (.ref f)) (hk : PySem.W.keepIn X.K (.ref f) = true)
    (hb : KBinds X.K fd ps ks (inOrder ix 0 m2) (inOrder ix 0 m2)) (tk : Takes X Wx) (hkw : CKL C Wx X kws bs) (hall : (backToKw pos (keywordEach kws X.env)).all (·.1.isSome) = true := by rfl) (hks : (backToKw pos (keywordEach kws X.env)).filterMap (·.1) = ks := by rfl)
    (hdb : (x == ("__debug__" : Str)) = false := by decide) (hpl : ((backTo pos (starEach [] X.env)).any (·.1) || (backToKw pos (keywordEach kws X.env)).any (·.1.isNone)) = false := by rfl) :
    CW C Wx X (.Call (.Name x p) [] kws pos) (wCallK n den ix 0 m2 aNil bs) :=
  pe_imp (pe_callKG0 (E := fun σ cls d H => Wx cls d σ H) Fn hr hg hm hk hb (fun σ pins H s e s' I c => tk e s' (XE.of_call I (fun cls d H' h => h) c)) hkw hall hks hdb hpl) fun σ H Q ⟨F, δ, g, q⟩ =>
    ⟨F, δ, g, Post.imp (by intro bvs δ2 F2 H2 e2 g2 q2 zs hzs; exact callP_ok (fun _ _ _ h => h) g2 (repAVs_order .nil hzs) q2) (Post.bind (show Post C Wx σ F _ ((bs δ).bind fun bvs δ2 => match wsOf δ2 (inOrder ix 0 m2 [] bvs) with
  | some ws => if ws.length = n then (den ws).to δ2 else .stuck
  | none => .stuck) from q))⟩
end
end Mir

namespace Mir
open PySem PySem.Spec PyProof.Rows L2 MirX
open Evl (Ex)
theorem RoomG.u64 {k : Nat} {A : Around} (r : RoomG k A) : A.units + 64 < cLine := by have := r.room.un; omega
theorem RoomG.u70 {k : Nat} {A : Around} (r : RoomG k A) : A.units + 70 < cLine := by have := r.room.un; omega
section
variable {C : Ct} {Wx : WX} {X : Cx}
theorem cg_tup {es : List Expr} {k : Nat} {is : List Nat} {pos : Pos} (hK : X.K = C.K) (hc : X.calm = true) (h : PGs X es (gNames is)) (hn : (assignEach es X.env).length = is.length := by rfl) (hst : (assignEach es X.env).findIdx? (·.1) = none := by rfl) : CG C X (.Tuple es k pos) (.tup is) :=
  ⟨rfl, pg_imp (pg_tup (n := is.length) hc h hn hst) (by rw [hK]; exact gTup_ok rfl)⟩
/-- the defs that a local name may hold, one of them -/
theorem DefAt.mk1 {m n k : Nat} {fd : FuncData} {ps : List Str} {den : List W → RF} (F : FnX X m (C.fn k) fd ps (SpP C.toSg n den)) (hr : RoomG m X.A) (hk : PySem.W.keepIn X.K (.ref (C.fn k)) = true) (hb : Binds X.K fd ps []) : DefAt X C k n den := ⟨m, fd, ps, F, hr, hk, hb⟩
def tab1 (k0 n0 : Nat) (den0 : List W → RF) (r : Nat → Option (Nat × (List W → RF))) : Nat → Option (Nat × (List W → RF)) := fun k => if k = k0 then some (n0, den0) else r k
def tab0 : Nat → Option (Nat × (List W → RF)) := fun _ => none
theorem hT0 : ∀ k n den, tab0 k = some (n, den) → DefAt X C k n den := fun _ _ _ h => by cases h
theorem hT1 {k0 n0 : Nat} {den0 : List W → RF} {r : Nat → Option (Nat × (List W → RF))} (h0 : DefAt X C k0 n0 den0) (h : ∀ k n den, r k = some (n, den) → DefAt X C k n den) : ∀ k n den, tab1 k0 n0 den0 r k = some (n, den) → DefAt X C k n den := fun k n den e => by
  unfold tab1 at e
  split at e
  · rename_i hk
    cases e
    subst hk
    exact h0
  · exact h k n den e
/-- a block's names, decided -/
def blkB (N : List Str) (sc scope : Scope) (own : List (Str × Nat)) : Bool :=
  decide (scope.kind = .function) && scope.names.all (fun y => decide (scope.names.lookup y.1 = some y.2)) && own.all (fun p => decide (N[p.2]? = some p.1)) &&
  scope.names.all (fun y => !decide (y.2 = .free) || decide (sc.names.lookup y.1 = some .cell) || decide (sc.names.lookup y.1 = some .free)) &&
  scope.names.all fun y => !(decide (y.2 = .local) || decide (y.2 = .cell)) || decide (y.1 ∈ own.map (·.1)) || decide (y.1 ∉ N)
theorem blk_by {N : List Str} {sc scope : Scope} {own : List (Str × Nat)} (h : blkB N sc scope own = true) : BlkOk N sc scope own := by
  unfold blkB at h
  simp only [Bool.and_eq_true, Bool.or_eq_true, Bool.not_eq_true', decide_eq_true_eq, decide_eq_false_iff_not, Bool.or_eq_false_iff, List.all_eq_true] at h
  obtain ⟨⟨⟨⟨h1, h2⟩, h3⟩, h4⟩, h5⟩ := h
  refine ⟨h1, h2, h3, fun y hy e => ?_, fun y hy e => ?_⟩
  · rcases h4 y hy with (z | z) | z
    · exact absurd e z
    · exact .inl z
    · exact .inr z
  · rcases h5 y hy with (⟨z1, z2⟩ | z) | z
    · rcases e with e | e
      · exact absurd e z1
      · exact absurd e z2
    · exact .inl z
    · exact .inr z
end
end Mir

namespace Mir
open PySem PySem.Spec PyProof.Rows L2 MirX
open Evl (Ex)
section
variable {C : Ct} {Wx : WX} {X : Cx} {F F' H H' : Hp} {σ : L2.St} {δ : Env}
/-! ### *e among arguments -/
def aStar (d : Den) (r : DenL) : DenL := fun δ => (d δ).bind fun x δ1 => match seqE x with
  | some l => (r δ1).bind fun ys δ2 => .ok (l.map AV.v ++ ys) δ2
  | none => .stuck
theorem repAVs_v {vs : List V} {l : List PyData} (h : DpAll C.K F vs l) : RepAVs C F σ vs (l.map AV.v) := by
  revert h
  induction vs generalizing l with
  | nil => intro h; cases h; exact .nil
  | cons v vs ih => intro h; cases h with | cons a b => exact .cons (.v a) (ih b)
theorem cal_star {e : Expr} {es : List Expr} {d : Den} {r : DenL} {p : Pos} (hK : X.K = C.K) (h : CE C Wx X e d) (k : CAL C Wx X es r) (hs : starEach (.Starred e p :: es) X.env = (true, eval e X.env) :: starEach es X.env := by rfl) : CAL C Wx X (.Starred e p :: es) (aStar d r) :=
  pa_imp (StX.pa_star h k hs) fun σ H Q ⟨F, δ, g, q⟩ => ⟨F, δ, g, Post.imp (by
    intro x δ1 F1 H1 _ g1 q1 v hv
    split at q1
    · rename_i l hl
      obtain ⟨p, xs, rfl, k1, k2⟩ := dpt_sqE (.inl hv) g1.fh hl
      exact ⟨p, xs, rfl, by rw [hK]; exact k1.symm, F1, δ1, g1, Post.imp (by intro ys δ2 F2 H2 e2 g2 q2 us hus; exact q2 F2 H2 (Ex.refl F2) g2 _ (RepAVs.app (repAVs_v (DpAll.ex k2 e2)) hus)) (Post.bind q1)⟩
    · exact q1.elim) (Post.bind q)⟩
/-! ### a, b = e, f: values that may be lists of their own -/
def bk {α : Type} (l : List α) : List (Option α) := l.reverse.map some
theorem bk_cons {α : Type} (a : α) (l : List α) : bk (a :: l) = bk l ++ [some a] := by unfold bk; simp
def GoodTs (C : Ct) (F H : Hp) (σ : L2.St) (δ : Env) (vs : List V) (ws : List W) : Prop := Good C F H (σ ++ bk vs) (δ ++ bk ws)
abbrev DenWL := Env → R (List W)
def tWL (C : Ct) (Wx : WX) (den : DenWL) : TA := fun σ H Q => ∃ F δ, Good C F H σ δ ∧ Post C Wx σ F (fun ws δ' F' H' => ∀ vs F2 H2, Ex F' F2 → GoodTs C F2 H2 σ δ' vs ws → vs.length = ws.length → Q vs H2) (den δ)
def CWL (C : Ct) (Wx : WX) (X : Cx) (es : List Expr) (den : DenWL) : Prop := PA X es (tWL C Wx den)
def wlNil : DenWL := fun δ => .ok [] δ
def noFn : W → Bool
  | .d _ => true
  | .own _ => true
  | .dct _ => true
  | _ => false
def wlCons (d : DenW) (r : DenWL) : DenWL := fun δ => (d δ).bind fun w δ1 => if noFn w = true then (r δ1).bind fun ws δ2 => .ok (w :: ws) δ2 else .stuck
theorem cwl_nil : CWL C Wx X [] wlNil := pa_imp pa_nil fun σ H Q ⟨F, δ, g, q⟩ => q F H (Ex.refl F) g [] F H (Ex.refl F) (by unfold GoodTs bk; simpa using g) rfl
theorem pa_some {es : List Expr} {t : Hp → TA} (h : ∀ a, PA X es (t a)) : PA X es fun σ H Q => ∃ a, t a σ H Q := ⟨fun pos pins s σ H Q I ⟨a, q⟩ => (h a).run pos pins s σ H Q I q⟩
theorem wH_self (C : Ct) : C.wH C.H0 = C := rfl
theorem cwl_cons {e : Expr} {es : List Expr} {d : DenW} {r : DenWL} (h : CW C Wx X e d) (k : ∀ a, CWL (C.wH a) Wx X es r) (hs : starEach (e :: es) X.env = (false, eval e X.env) :: starEach es X.env := by rfl) : CWL C Wx X (e :: es) (wlCons d r) :=
  pa_imp (pa_cons h (pa_some k) hs) fun σ H Q ⟨F, δ, g, q⟩ => ⟨F, δ, g, Post.imp (by
    intro w δ1 F1 H1 _ g1 q1 v F2 H2 e2 g2
    split at q1
    · rename_i hw
      have hl := GoodT.len g2
      cases w with
      | d x =>
        obtain ⟨u, hu, hd⟩ := Good.getD (i := σ.length) (x := x) g2 (by rw [hl, List.getElem?_append_right (Nat.le_refl _)]; simp)
        have ev : u = v := by
          rw [List.getElem?_append_right (Nat.le_refl _)] at hu
          simpa using hu.symm
        subst ev
        refine ⟨C.H0, F2, δ1, GoodT.forget g2 hl g1.iolt, Post.imp (fun ws δ2 F3 H3 e3 g3 q3 vs F4 H4 e4 g4 hlen => ?_) (Post.bind (Post.mono e2 q1))⟩
        have g5 : GoodTs C F4 H4 σ δ2 (u :: vs) (.d x :: ws) := by
          unfold GoodTs
          rw [bk_cons, bk_cons, ← List.append_assoc, ← List.append_assoc]
          exact Good.tmpD g4 (Dp.ex hd (e3.trans e4))
        exact q3 F3 H3 (Ex.refl F3) g3 (u :: vs) F4 H4 e4 g5 (by rw [List.length_cons, List.length_cons, hlen])
      | own l =>
        have hio := GoodT.io g2 hl rfl
        obtain ⟨p, hp⟩ : ∃ p, v = .ref p := by
          obtain ⟨p, xs, k1, _⟩ := Good.getC (i := σ.length) (w := .own l) (d := false) (l := l) g2 (by rw [hl, List.getElem?_append_right (Nat.le_refl _)]; simp) rfl
          rw [List.getElem?_append_right (Nat.le_refl _)] at k1
          exact ⟨p, by simpa using k1⟩
        subst hp
        obtain ⟨o, hH, hda, g4, n0, nio, nF⟩ := GoodT.holdC (d := false) g2 rfl rfl hl hio
        have nF0 : C.F0 p = none := Evl.fresh_back g2.f0 nF
        have q2 := Post.mono e2 q1
        refine ⟨upd C.H0 p o, F2, δ1, g4, ?_⟩
        cases er : r δ1 with
        | stuck => rw [er] at q2; exact q2.elim
        | exc c x δ2 =>
          rw [er] at q2
          intro F' H' dx v' e3 g5 h1 h2
          exact q2 F' H' dx v' e3 (Good.unholdC hda.mu g5 n0 nio).1 h1 h2
        | ok ws δ2 =>
          rw [er] at q2
          intro F3 H3 e3 g5 vs F4 H4 e4 g6 hlen
          have g7 : GoodTs C F4 H4 σ δ2 (.ref p :: vs) (.own l :: ws) := by
            unfold GoodTs
            rw [bk_cons, bk_cons, ← List.append_assoc, ← List.append_assoc]
            exact GoodT.unholdC (d := false) rfl rfl g6 n0 nio nF0 hda (e3.trans e4)
          exact q2 F3 H3 e3 (Good.unholdC hda.mu g5 n0 nio).1 (.ref p :: vs) F4 H4 e4 g7 (by rw [List.length_cons, List.length_cons, hlen])
      | dct l =>
        have hio := GoodT.io g2 hl rfl
        obtain ⟨p, hp⟩ : ∃ p, v = .ref p := by
          obtain ⟨p, xs, k1, _⟩ := Good.getC (i := σ.length) (w := .dct l) (d := true) (l := l) g2 (by rw [hl, List.getElem?_append_right (Nat.le_refl _)]; simp) rfl
          rw [List.getElem?_append_right (Nat.le_refl _)] at k1
          exact ⟨p, by simpa using k1⟩
        subst hp
        obtain ⟨o, hH, hda, g4, n0, nio, nF⟩ := GoodT.holdC (d := true) g2 rfl rfl hl hio
        have nF0 : C.F0 p = none := Evl.fresh_back g2.f0 nF
        have q2 := Post.mono e2 q1
        refine ⟨upd C.H0 p o, F2, δ1, g4, ?_⟩
        cases er : r δ1 with
        | stuck => rw [er] at q2; exact q2.elim
        | exc c x δ2 =>
          rw [er] at q2
          intro F' H' dx v' e3 g5 h1 h2
          exact q2 F' H' dx v' e3 (Good.unholdC hda.mu g5 n0 nio).1 h1 h2
        | ok ws δ2 =>
          rw [er] at q2
          intro F3 H3 e3 g5 vs F4 H4 e4 g6 hlen
          have g7 : GoodTs C F4 H4 σ δ2 (.ref p :: vs) (.dct l :: ws) := by
            unfold GoodTs
            rw [bk_cons, bk_cons, ← List.append_assoc, ← List.append_assoc]
            exact GoodT.unholdC (d := true) rfl rfl g6 n0 nio nF0 hda (e3.trans e4)
          exact q2 F3 H3 e3 (Good.unholdC hda.mu g5 n0 nio).1 (.ref p :: vs) F4 H4 e4 g7 (by rw [List.length_cons, List.length_cons, hlen])
      | _ => cases hw
    · exact q1.elim) (Post.bind q)⟩
def setWs : List Nat → List W → Env → Option Env
  | [], [], δ => some δ
  | i :: is, w :: ws, δ => if isBor δ i || decide (δ.length ≤ i) then none else setWs is ws (δ.set i (some w))
  | _, _, _ => none
def setVs : List Nat → List V → L2.St → L2.St
  | i :: is, v :: vs, σ => setVs is vs (σ.set i (some v))
  | _, _, σ => σ
theorem setWs_ok : ∀ {is : List Nat} {vs : List V} {ws : List W} {σ : L2.St} {δ δ' : Env}, setWs is ws δ = some δ' → vs.length = ws.length → σ.length = δ.length → (∀ j a, (j, a) ∈ C.io → j < σ.length) → GoodTs C F H σ δ vs ws → Good C F H (setVs is vs σ) δ'
  | [], [], [], σ, δ, δ', h, _, _, _, g => by
    cases h
    unfold GoodTs bk at g
    show Good C F H σ δ
    simpa using g
  | i :: is, v :: vs, w :: ws, σ, δ, δ', h, hl, hs, hio, g => by
    unfold setWs at h
    split at h
    · cases h
    · rename_i hc
      rw [Bool.or_eq_true, not_or, Bool.not_eq_true, decide_eq_true_eq] at hc
      have hi : i < δ.length := by omega
      have hl' : vs.length = ws.length := by simpa using hl
      unfold GoodTs at g
      rw [bk_cons, bk_cons, ← List.append_assoc, ← List.append_assoc] at g
      have g2 : GoodT C F H (σ ++ bk vs) (δ ++ bk ws) v w := g
      have g3 := GoodT.set (i := i) g2 (by simp [bk, hs, hl']) (fun w' hw' z => isBor_no hc.1 w' hw' (by rw [List.getElem?_append_left hi] at z; exact z)) (fun j a z => by rw [List.length_append]; have := hio j a z; omega)
      rw [List.set_append_left _ _ (by rw [hs]; exact hi), List.set_append_left _ _ hi] at g3
      exact setWs_ok (is := is) (vs := vs) (ws := ws) (σ := σ.set i (some v)) (δ := δ.set i (some w)) h hl' (by simpa using hs) (fun j a z => by rw [List.length_set]; exact hio j a z) g3
  | [], _ :: _, _ :: _, _, _, _, h, _, _, _, _ => by cases h
  | [], [], _ :: _, _, _, _, _, h, _, _, _ => by simp at h
  | [], _ :: _, [], _, _, _, _, h, _, _, _ => by simp at h
  | _ :: _, [], [], _, _, _, h, _, _, _, _ => by cases h
  | _ :: _, _ :: _, [], _, _, _, h, _, _, _, _ => by cases h
  | _ :: _, [], _ :: _, _, _, _, _, h, _, _, _ => by simp at h
def sPar (is : List Nat) (d : DenWL) : DenS := fun δ => (d δ).to fun ws δ1 => match setWs is ws δ1 with
  | some δ2 => .nx δ2
  | none => .stuck
theorem setWs_len : ∀ {is : List Nat} {ws : List W} {δ δ' : Env}, setWs is ws δ = some δ' → is.length = ws.length
  | [], [], _, _, _ => rfl
  | i :: is, w :: ws, δ, δ', h => by
    unfold setWs at h
    split at h
    · cases h
    · rw [List.length_cons, List.length_cons, setWs_len h]
  | [], _ :: _, _, _, h => by cases h
  | _ :: _, [], _, _, h => by cases h
theorem par_ok {is : List Nat} {d : DenWL} {D : Ends} (h : tS C Wx (sPar is d) D σ H) : tWL C Wx d σ H fun vs H1 => vs.length = is.length ∧ D.nx (setVs is vs σ) H1 := by
  obtain ⟨F, δ, g, q⟩ := h
  refine ⟨F, δ, g, Post.imp (fun ws δ1 F1 H1 _ g1 q1 vs F2 H2 e2 g2 hl => ?_) (Post.to q)⟩
  split at q1
  · rename_i δ2 hs
    exact ⟨hl.trans (setWs_len hs).symm, q1 _ F2 H2 e2 (setWs_ok hs hl g1.len g1.iolt g2)⟩
  · exact q1.elim
theorem cs_par {i j : Nat} {x y : Str} {a b : Expr} {d : DenWL} {px py pt pos : Pos} {kt k2 pt2} (hc : X.calm = true) (hN : X.N.Nodup) (hi : X.N[i]? = some x) (hj : X.N[j]? = some y) (hij : i ≠ j) (hx : X.env.scope.names.lookup x = some .local) (hy : X.env.scope.names.lookup y = some .local) (ha : CWL C Wx X [a, b] d)
    (hw : swappedStores [.Tuple [.Name x px, .Name y py] kt pt] (.Tuple [a, b] k2 pt2) X.env = pure (some [x, y])) (hs : swapsWithSole [.Tuple [.Name x px, .Name y py] kt pt] (.Tuple [a, b] k2 pt2) pos.line X.env = pure false := by rfl) :
    CS C Wx X (.Assign [.Tuple [.Name x px, .Name y py] kt pt] (.Tuple [a, b] k2 pt2) pos) (sPar [i, j] d) := ps_imp (ps_par hc hN hi hj hij hx hy ha hw hs) fun D σ H q => by
  obtain ⟨F, δ, g, q⟩ := par_ok q
  refine ⟨F, δ, g, Post.imp (fun ws δ1 F1 H1 _ g1 q1 vs F2 H2 e2 g2 hl => ?_) q⟩
  obtain ⟨h1, h2⟩ := q1 vs F2 H2 e2 g2 hl
  match vs, h1, h2 with
  | [v, w], _, h2 => exact ⟨v, w, rfl, h2⟩
theorem cs_par3 {i j l : Nat} {x y z : Str} {a b c : Expr} {d : DenWL} {px py pz pt pos : Pos} {kt k2 pt2} (hc : X.calm = true) (hN : X.N.Nodup) (hi : X.N[i]? = some x) (hj : X.N[j]? = some y) (hl : X.N[l]? = some z) (hij : i ≠ j) (hil : i ≠ l) (hjl : j ≠ l)
    (hx : X.env.scope.names.lookup x = some .local) (hy : X.env.scope.names.lookup y = some .local) (hz : X.env.scope.names.lookup z = some .local) (ha : CWL C Wx X [a, b, c] d)
    (hw : swappedStores [.Tuple [.Name x px, .Name y py, .Name z pz] kt pt] (.Tuple [a, b, c] k2 pt2) X.env = pure (some [x, y, z])) (hs : swapsWithSole [.Tuple [.Name x px, .Name y py, .Name z pz] kt pt] (.Tuple [a, b, c] k2 pt2) pos.line X.env = pure false := by rfl) :
    CS C Wx X (.Assign [.Tuple [.Name x px, .Name y py, .Name z pz] kt pt] (.Tuple [a, b, c] k2 pt2) pos) (sPar [i, j, l] d) := ps_imp (ps_par3 hc hN hi hj hl hij hil hjl hx hy hz ha hw hs) fun D σ H q => by
  obtain ⟨F, δ, g, q⟩ := par_ok q
  refine ⟨F, δ, g, Post.imp (fun ws δ1 F1 H1 _ g1 q1 vs F2 H2 e2 g2 hl => ?_) q⟩
  obtain ⟨h1, h2⟩ := q1 vs F2 H2 e2 g2 hl
  match vs, h1, h2 with
  | [u, v, w], _, h2 => exact ⟨u, v, w, rfl, h2⟩
end
end Mir

namespace Mir
open PySem PySem.Spec PyProof.Rows L2 MirX
open Evl (Ex)
/-! ### a def that makes lambdas: its own telling of them -/
def Sg.withLam (S : Sg) (l : Nat → LamD) : Sg := { S with lam := l }
def CodesIn (C : Ct) : Prop := ∀ a q, C.H0 a = some (LamX.CodeO a q) → C.F0 a ≠ none
section
variable {K : PySem.W.Frag} {F F' H H' : Hp} {S : Sg} {l : Nat → LamD}
/-- all but what is known by a fact alone -/
def Agree (F F' : Hp) : Prop := ∀ a o, F a = some o → (∀ φ, o ≠ .ext φ) → F' a = some o
theorem Agree.sq (e : Agree F F') {a : Addr} {xs : List V} (h : SqL K F a xs) : SqL K F' a xs := by
  obtain (h | ⟨o, h⟩) | h := h
  · exact .inl (.inl (e a _ h fun φ z => by cases z))
  · exact .inl (.inr ⟨o, e a _ h fun φ z => by cases z⟩)
  · exact .inr h
theorem Agree.st (e : Agree F F') {a : Addr} {xs : List V} (h : SqT K F a xs) : SqT K F' a xs := by
  obtain (h | ⟨o, h⟩) | h := h
  · exact .inl (.inl (e a _ h fun φ z => by cases z))
  · exact .inl (.inr ⟨o, e a _ h fun φ z => by cases z⟩)
  · exact .inr h
theorem Agree.dp (e : Agree F F') {v : V} {d : PyData} (h : Dp K F v d) : Dp K F' v d := by
  refine Dp.rec (motive_1 := fun v d _ => Dp K F' v d) (motive_2 := fun vs ds _ => DpAll K F' vs ds) ?_ ?_ ?_ ?_ ?_ ?_ ?_ ?_ h
  · exact .non
  · intro b; exact .bl b
  · intro i; exact .int i
  · intro x; exact .str x
  · intro a xs ds h1 _ h2; exact .lst (e.sq h1) h2
  · intro a xs ds h1 _ h2; exact .tup (e.st h1) h2
  · exact .nil
  · intro v vs d ds _ _ h1 h2; exact .cons h1 h2
theorem Agree.dps (e : Agree F F') {vs : List V} {ys : List PyData} (h : DpAll K F vs ys) : DpAll K F' vs ys := by
  revert h
  induction vs generalizing ys with
  | nil => intro h; cases h; exact .nil
  | cons v vs ih => intro h; cases h with | cons a b => exact .cons (e.dp a) (ih b)
open Classical in
/-- the heap's codes among what is frozen -/
noncomputable def withCodes (F H : Hp) : Hp := fun a => match F a with
  | some o => some o
  | none => if ∃ q, H a = some (LamX.CodeO a q) then H a else none
open Classical in
/-- .. and taken out again -/
noncomputable def noCodes (F H F' : Hp) : Hp := fun a => if F a = none ∧ H a ≠ none then none else F' a
theorem withCodes_some {a : Addr} {o : HO} (h : F a = some o) : withCodes F H a = some o := by unfold withCodes; rw [h]
theorem withCodes_none {a : Addr} (h : F a = none) (hn : ∀ q, H a ≠ some (LamX.CodeO a q)) : withCodes F H a = none := by
  unfold withCodes
  rw [h]
  exact if_neg fun ⟨q, e⟩ => hn q e
theorem withCodes_code {a : Addr} {q : Str} (h : F a = none) (e : H a = some (LamX.CodeO a q)) : withCodes F H a = some (LamX.CodeO a q) := by
  unfold withCodes
  rw [h]
  exact (if_pos ⟨q, e⟩).trans e
theorem codeO_ext (a : Addr) (q : Str) : ∃ φ, LamX.CodeO a q = .ext φ := ⟨_, rfl⟩
theorem withCodes_up (e : Ex F H) : Ex F (withCodes F H) ∧ Ex (withCodes F H) H := by
  refine ⟨fun a o h => withCodes_some h, fun a o h => ?_⟩
  cases z : F a with
  | some o' => rw [withCodes_some z] at h; cases h; exact e _ _ z
  | none =>
    by_cases c : ∃ q, H a = some (LamX.CodeO a q)
    · obtain ⟨q, hq⟩ := c
      rw [withCodes_code z hq] at h; cases h; exact hq
    · rw [withCodes_none z fun q hq => c ⟨q, hq⟩] at h; cases h
theorem withCodes_new {a : Addr} (h : withCodes F H a = none) : F a = none ∧ ∀ q, H a ≠ some (LamX.CodeO a q) := by
  cases z : F a with
  | some o => rw [withCodes_some z] at h; cases h
  | none => exact ⟨rfl, fun q hq => by rw [withCodes_code z hq] at h; cases h⟩
theorem noCodes_agree (e : Ex (withCodes F H) F') (fr : ∀ a, F' a ≠ none → withCodes F H a = none → H a = none) : Agree F' (noCodes F H F') := fun a o h hx => by
  unfold noCodes
  rw [if_neg]
  · exact h
  · rintro ⟨h1, h2⟩
    by_cases c : ∃ q, H a = some (LamX.CodeO a q)
    · obtain ⟨q, hq⟩ := c
      have := e _ _ (withCodes_code h1 hq)
      rw [h] at this
      cases this
      obtain ⟨φ, hφ⟩ := codeO_ext a q
      exact hx φ hφ
    · exact h2 (fr a (by rw [h]; simp) (withCodes_none h1 fun q hq => c ⟨q, hq⟩))
theorem noCodes_none {a : Addr} (h : F' a = none) : noCodes F H F' a = none := by
  unfold noCodes
  split
  · rfl
  · exact h
theorem noCodes_le : Ex (noCodes F H F') F' := fun a o h => by
  unfold noCodes at h
  split at h
  · cases h
  · exact h
theorem noCodes_up (e : Ex F F') : Ex F (noCodes F H F') := fun a o h => by
  unfold noCodes
  rw [if_neg fun z => by rw [h] at z; cases z.1]
  exact e _ _ h
theorem withCodes_xt (x : Xt F) : Xt (withCodes F H) := fun a o h => by
  cases z : F a with
  | some o' => rw [withCodes_some z] at h; cases h; exact x a _ z
  | none =>
    by_cases c : ∃ q, H a = some (LamX.CodeO a q)
    · obtain ⟨q, hq⟩ := c
      rw [withCodes_code z hq] at h; cases h; exact trivial
    · rw [withCodes_none z fun q hq => c ⟨q, hq⟩] at h; cases h
theorem noCodes_newF (n : New (withCodes F H) F' H) : New F (noCodes F H F') H := ⟨fun a h1 h2 => by
  unfold noCodes at h1
  split at h1
  · exact absurd rfl h1
  · rename_i c
    cases z : H a with
    | none => rfl
    | some o => exact absurd ⟨h2, by rw [z]; simp⟩ c, fun x a o h => n.2 (withCodes_xt x) a o (noCodes_le a o h)⟩
theorem RepP.relam {v : V} {w : W} (h : RepP S F H v w) : RepP (S.withLam l) F H v w := by
  obtain ⟨h1, h2⟩ := h
  refine ⟨?_, h2⟩
  cases w with
  | d x => cases h1; exact .d ‹_›
  | fn k =>
    generalize hw : W.fn k = w at h1
    cases h1 <;> first | cases hw | skip
    exact .fn (C := S.withLam l)
  | _ => cases h2
theorem Agree.dks {K : PySem.W.Frag} {F F' : Hp} (a : Agree F F') {vs : List (Key × V)} {ys : List PyData} (h : DKs K F vs ys) : DKs K F' vs ys := by
  induction h with
  | nil => exact .nil
  | cons x _ ih => exact .cons (a.dp x) ih
theorem Agree.cell {K : PySem.W.Frag} {F F' : Hp} (a : Agree F F') {d : Bool} {o : HO} {l : List PyData} (h : Cell K F d o l) : Cell K F' d o l := by
  cases d with
  | false => obtain ⟨x, h1, h2⟩ := h; exact ⟨x, h1, a.dps h2⟩
  | true => obtain ⟨x, h1, h2⟩ := h; exact ⟨x, h1, a.dks h2⟩
/-- a body's reading gives the promise of a def that makes lambdas -/
theorem body_pureL {N : List Str} {n : Nat} {body : DenS} {vs : List V} {H : Hp} {Q : VK} {E : XK} (l : Nat → LamD) (h : SpP S n (runF N.length none body) vs H Q E) :
    ∃ C : Ct, C.toSg = S.withLam l ∧ C.io = [] ∧ CodesIn C ∧ tS C (wishOf E) body { nx := fun _ H' => Q .non H', rt := Q } (start N vs) H := by
  obtain ⟨hn, F, ws, _, ex, tb0, tf0, hl, ha, q⟩ := h
  obtain ⟨u1, u2⟩ := withCodes_up ex
  have key : ∀ {F' H' : Hp}, Ex (withCodes F H) F' → New (withCodes F H) F' H → Agree F' (noCodes F H F') := fun {F' H'} e1 nw => noCodes_agree e1 fun a h1 h2 => nw.1 a h1 h2
  have h2 : SpPP (fun F1 => ∀ a q, H a = some (LamX.CodeO a q) → F1 a ≠ none) (S.withLam l) n (runF N.length none body) vs H Q E := by
    refine ⟨hn, withCodes F H, ws, fun a q e => ?_, u2, tb0, ⟨fun p hp => ?_, withCodes_xt tf0.2⟩, hl, fun j v w e1 e2 => ?_, ?_⟩
    · cases z : F a with
      | some o => rw [withCodes_some z]; simp
      | none => rw [withCodes_code z e]; simp
    · obtain ⟨ps, h1, _⟩ := tb0 p hp
      exact withCodes_none (tf0.1 p hp) fun q e => by
        rw [h1] at e
        have := Option.some.inj e
        unfold LamX.CodeO at this
        cases this
    · obtain ⟨k1, k2⟩ := (ha j v w e1 e2).relam (l := l)
      exact ⟨k1.mono u1 (fun q hq => by cases hq), k2⟩
    · unfold runF at q ⊢
      have done : ∀ (r : Mir.S), (match r.toRF none with
          | .ok w _ => ∀ v F' H' ps, Ex F F' → Ex F' H' → New F F' H → KT S H H' → RepW S F' H' v w ps → ps.Nodup → (∀ q ∈ ps, F' q = none ∧ H q = none) → Q v H'
          | .exc c x _ => ∀ F' H' dx v, Ex F F' → Ex F' H' → New F F' H → KT S H H' → F' dx = some (.xd [(S.fld c, v)]) → Dp S.K F' v x → E (.ref (S.cls c)) (some dx) H'
          | .stuck => False) → (match r.toRF none with
          | .ok w _ => ∀ v F' H' ps, Ex (withCodes F H) F' → Ex F' H' → New (withCodes F H) F' H → KT (S.withLam l) H H' → RepW (S.withLam l) F' H' v w ps → ps.Nodup → (∀ q ∈ ps, F' q = none ∧ H q = none) → Q v H'
          | .exc c x _ => ∀ F' H' dx v, Ex (withCodes F H) F' → Ex F' H' → New (withCodes F H) F' H → KT (S.withLam l) H H' → F' dx = some (.xd [((S.withLam l).fld c, v)]) → Dp (S.withLam l).K F' v x → E (.ref ((S.withLam l).cls c)) (some dx) H'
          | .stuck => False) := fun r q => by
        have okd : ∀ {w : W}, (∀ v F' H' ps, Ex F F' → Ex F' H' → New F F' H → KT S H H' → RepW S F' H' v w ps → ps.Nodup → (∀ q ∈ ps, F' q = none ∧ H q = none) → Q v H') → (∀ {F' H' v ps}, Agree F' (noCodes F H F') → RepW (S.withLam l) F' H' v w ps → RepW S (noCodes F H F') H' v w ps) →
            ∀ v F' H' ps, Ex (withCodes F H) F' → Ex F' H' → New (withCodes F H) F' H → KT (S.withLam l) H H' → RepW (S.withLam l) F' H' v w ps → ps.Nodup → (∀ q ∈ ps, F' q = none ∧ H q = none) → Q v H' := fun {w} q k v F' H' ps e1 e2 nw kt rw nd fp =>
          q v (noCodes F H F') H' ps (noCodes_up (u1.trans e1)) (noCodes_le.trans e2) (noCodes_newF nw) kt (k (key (H' := H') e1 nw) rw) nd fun q hq => ⟨noCodes_none (fp q hq).1, (fp q hq).2⟩
        have kd : ∀ {x : PyData} {F' H' : Hp} {v : V} {ps : List Addr}, Agree F' (noCodes F H F') → RepW (S.withLam l) F' H' v (.d x) ps → RepW S (noCodes F H F') H' v (.d x) ps := fun {x F' H' v ps} a r => by
          cases r with
          | d h => exact .d (a.dp h)
        have ko : ∀ {x : List PyData} {F' H' : Hp} {v : V} {ps : List Addr}, Agree F' (noCodes F H F') → RepW (S.withLam l) F' H' v (.own x) ps → RepW S (noCodes F H F') H' v (.own x) ps := fun {x F' H' v ps} a r => by
          cases r with
          | own h1 h2 => exact .own h1 (a.dps h2)
        have kc : ∀ {x : List PyData} {F' H' : Hp} {v : V} {ps : List Addr}, Agree F' (noCodes F H F') → RepW (S.withLam l) F' H' v (.dct x) ps → RepW S (noCodes F H F') H' v (.dct x) ps := fun {x F' H' v ps} a r => by
          cases r with
          | dct h1 h2 => exact .dct h1 (a.dks h2)
        cases r with
        | nx δ => exact okd (w := .d .none) q kd
        | ret w δ =>
          cases w with
          | d x => exact okd (w := .d x) q kd
          | own x => exact okd (w := .own x) q ko
          | dct x => exact okd (w := .dct x) q kc
          | _ => exact q.elim
        | exc c x δ =>
          intro F' H' dx v e1 e2 nw kt h1 h2
          exact q (noCodes F H F') H' dx v (noCodes_up (u1.trans e1)) (noCodes_le.trans e2) (noCodes_newF nw) kt (key (H' := H') e1 nw dx _ h1 fun φ z => by cases z) ((key (H' := H') e1 nw).dp h2)
        | brk δ => exact q.elim
        | cont δ => exact q.elim
        | stuck => exact q.elim
      exact done _ q
  obtain ⟨C, c1, c2, c3, c4, c5⟩ := body_pureP h2
  exact ⟨C, c1, c2, fun a q e => c4 a q (by rw [← c3]; exact e), c5⟩
/-- .. with a borrowed list -/
theorem body_borLK {d : Bool} {N : List Str} {n k : Nat} {body : DenS} {vs : List V} {H : Hp} {Q : VK} {E : XK} (l : Nat → LamD) (h : SpBB (fun _ => True) S n k d (runF N.length (some k) body) vs H Q E) :
    ∃ C : Ct, C.toSg = S.withLam l ∧ CodesIn C ∧ tS C (wishOf E) body { nx := fun _ H' => Q .non H', rt := Q } (start N vs) H := by
  obtain ⟨hn, F, ws, p, xs, m, _, ex, tb0, tf0, hl, hv, hw, hp, hF, hd, ha, q⟩ := h
  obtain ⟨u1, u2⟩ := withCodes_up ex
  have key : ∀ {F' H' : Hp}, Ex (withCodes F H) F' → New (withCodes F H) F' H → Agree F' (noCodes F H F') := fun {F' H'} e1 nw => noCodes_agree e1 fun a h1 h2 => nw.1 a h1 h2
  have h2 : SpBB (fun F1 => ∀ a q, H a = some (LamX.CodeO a q) → F1 a ≠ none) (S.withLam l) n k d (runF N.length (some k) body) vs H Q E := by
    refine ⟨hn, withCodes F H, ws, p, xs, m, fun a q e => ?_, u2, tb0, ⟨fun t ht => ?_, withCodes_xt tf0.2⟩, hl, hv, hw, hp, ?_, hd.ex u1, fun j v w hj e1 e2 => ?_, ?_⟩
    · cases z : F a with
      | some o => rw [withCodes_some z]; simp
      | none => rw [withCodes_code z e]; simp
    · obtain ⟨ps, h1, _⟩ := tb0 t ht
      exact withCodes_none (tf0.1 t ht) fun q e => by
        rw [h1] at e
        have := Option.some.inj e
        unfold LamX.CodeO at this
        cases this
    · exact withCodes_none hF fun q e => by
        rw [hp] at e
        have e3 := Option.some.inj e
        unfold LamX.CodeO at e3
        have hm := hd.mu
        rw [e3] at hm
        exact hm.elim
    · obtain ⟨k1, k2⟩ := (ha j v w hj e1 e2).relam (l := l)
      exact ⟨k1.mono u1 (fun q hq => by cases hq), k2⟩
    · unfold runF at q ⊢
      have kd : ∀ {x : PyData} {F' H' : Hp} {v : V} {ps : List Addr}, Agree F' (noCodes F H F') → RepW (S.withLam l) F' H' v (.d x) ps → RepW S (noCodes F H F') H' v (.d x) ps := fun {x F' H' v ps} a r => by
        cases r with
        | d h => exact .d (a.dp h)
      have ko : ∀ {x : List PyData} {F' H' : Hp} {v : V} {ps : List Addr}, Agree F' (noCodes F H F') → RepW (S.withLam l) F' H' v (.own x) ps → RepW S (noCodes F H F') H' v (.own x) ps := fun {x F' H' v ps} a r => by
        cases r with
        | own h1 h2 => exact .own h1 (a.dps h2)
      have kc : ∀ {x : List PyData} {F' H' : Hp} {v : V} {ps : List Addr}, Agree F' (noCodes F H F') → RepW (S.withLam l) F' H' v (.dct x) ps → RepW S (noCodes F H F') H' v (.dct x) ps := fun {x F' H' v ps} a r => by
        cases r with
        | dct h1 h2 => exact .dct h1 (a.dks h2)
      generalize body (envOf N.length ws) = r at q
      have okd : ∀ {w : W} {m' : List PyData}, (∀ v F' H' xs' ps, Ex F F' → Ex F' H' → New F F' H → KTB S p H H' → H' p = some xs' → Cell S.K F' d xs' m' → F' p = none → RepW S F' H' v w ps → ps.Nodup → (∀ q ∈ ps, F' q = none ∧ H q = none) → Q v H') → (∀ {F' H' v ps}, Agree F' (noCodes F H F') → RepW (S.withLam l) F' H' v w ps → RepW S (noCodes F H F') H' v w ps) →
          ∀ v F' H' xs' ps, Ex (withCodes F H) F' → Ex F' H' → New (withCodes F H) F' H → KTB (S.withLam l) p H H' → H' p = some xs' → Cell (S.withLam l).K F' d xs' m' → F' p = none → RepW (S.withLam l) F' H' v w ps → ps.Nodup → (∀ q ∈ ps, F' q = none ∧ H q = none) → Q v H' := fun {w m'} q kk v F' H' xs' ps e1 e2 nw kt hp' hd' hF' rw nd fp =>
        q v (noCodes F H F') H' xs' ps (noCodes_up (u1.trans e1)) (noCodes_le.trans e2) (noCodes_newF nw) kt hp' ((key (H' := H') e1 nw).cell hd') (noCodes_none hF') (kk (key (H' := H') e1 nw) rw) nd fun q hq => ⟨noCodes_none (fp q hq).1, (fp q hq).2⟩
      cases r with
      | nx δ =>
        simp only [Mir.S.toRF, ioOf] at q ⊢
        cases z : ioAt k δ with
        | none => rw [z] at q; exact q.elim
        | some m' => rw [z] at q; exact okd (w := .d .none) q kd
      | ret w δ =>
        simp only [Mir.S.toRF, ioOf] at q ⊢
        cases z : ioAt k δ with
        | none => rw [z] at q; exact q.elim
        | some m' =>
          rw [z] at q
          cases w with
          | d x => exact okd (w := .d x) q kd
          | own x => exact okd (w := .own x) q ko
          | dct x => exact okd (w := .dct x) q kc
          | _ => exact q.elim
      | exc c x δ =>
        simp only [Mir.S.toRF, ioOf] at q ⊢
        cases z : ioAt k δ with
        | none => rw [z] at q; exact q.elim
        | some m' =>
          rw [z] at q
          intro F' H' xs' dx v e1 e2 nw kt hp' hd' hF' h1 h2
          exact q (noCodes F H F') H' xs' dx v (noCodes_up (u1.trans e1)) (noCodes_le.trans e2) (noCodes_newF nw) kt hp' ((key (H' := H') e1 nw).cell hd') (noCodes_none hF') (key (H' := H') e1 nw dx _ h1 fun φ z => by cases z) ((key (H' := H') e1 nw).dp h2)
      | brk δ => exact q.elim
      | cont δ => exact q.elim
      | stuck => exact q.elim
  obtain ⟨C, c1, c3, c4, c5⟩ := body_borP h2
  exact ⟨C, c1, fun a q e => c4 a q (by rw [← c3]; exact e), c5⟩
theorem body_borL {N : List Str} {n k : Nat} {body : DenS} {vs : List V} {H : Hp} {Q : VK} {E : XK} (l : Nat → LamD) (h : SpB S n k (runF N.length (some k) body) vs H Q E) :
    ∃ C : Ct, C.toSg = S.withLam l ∧ CodesIn C ∧ tS C (wishOf E) body { nx := fun _ H' => Q .non H', rt := Q } (start N vs) H := body_borLK l h
end
end Mir

namespace Mir
open PySem PySem.Spec PyProof.Rows L2 MirX
open Evl (Ex)
theorem lamO_ok {P : Program} {w : World} {H : Hp} {h : Heap} {d : LamD} {pm ctv : Value} {c' a : Addr} (e : h.get? a = some (PySem.W.kla_obj "<lambda>" d.q d.params d.body d.scope d.clo pm c' ctv)) : ObjOk P w H h a (lamO d pm c' ctv a) := ⟨e, ⟨_, e⟩, fun h1 h2 x st => st _ x⟩
theorem codeO_inj {a : Addr} {q : Str} (ps : Array Value) : LamX.CodeO a q ≠ .tbl ps := LamX.codeO_ne ps
section
variable {C : Ct} {Wx : WX} {X : Cx} {F F' H H' : Hp} {σ : L2.St} {δ : Env}
theorem codeO_lst {a : Addr} {q : Str} {xs : List V} : HO.lst xs ≠ LamX.CodeO a q := fun z => by
  unfold LamX.CodeO at z
  cases z
/-- a table grows by a new code -/
theorem Good.table {P c' : Addr} {q : Str} {ps qs : Array Value} (g : Good C F H σ δ) (hP : H P = some (.tbl ps)) (hF : F P = none) (hc : H c' = none) (tb : LamX.Tabs C.T (upd (upd H P (.tbl qs)) c' (LamX.CodeO c' q))) :
    Good C (upd F c' (LamX.CodeO c' q)) (upd (upd H P (.tbl qs)) c' (LamX.CodeO c' q)) σ δ := by
  obtain ⟨nF, nF0, nH0⟩ := g.new0 hc
  have nPc : P ≠ c' := ne_of_none hP hc
  obtain ⟨sl, r, nd, fr⟩ := g.sl
  have there : ∀ a o, H a = some o → a ≠ P → upd (upd H P (.tbl qs)) c' (LamX.CodeO c' q) a = some o := fun a o e n => by
    rw [upd_ne (ne_of_none e hc), upd_ne n]; exact e
  have lists : ∀ p ∈ sl.flatten, p ≠ c' ∧ p ≠ P := fun p hp => by
    obtain ⟨xs, e, hm⟩ := r.there p hp
    exact ⟨ne_of_none e hc, fun z => by rw [z, hP] at e; cases e; exact hm.elim⟩
  refine ⟨g.f0.trans (Ex.new nF), fun a u e => ?_, tb, ⟨fun t ht => ?_, g.tf.2.upd trivial⟩, fun a h1 h2 => ?_, fun a u e => ?_, g.io, sl, r.mono (Ex.new nF) fun p hp => ?_, nd, fun p hp => ⟨?_, (fr p hp).2⟩⟩
  · by_cases ha : a = c'
    · subst ha; rw [upd_same] at e ⊢; exact e
    · rw [upd_ne ha] at e
      exact there a u (g.fh a u e) fun z => by rw [z, hF] at e; cases e
  · obtain ⟨ps', h1, _⟩ := g.tb t ht
    rw [upd_ne (ne_of_none h1 hc)]
    exact g.tf.1 t ht
  · by_cases ha : a = c'
    · subst ha; exact nH0
    · rw [upd_ne ha] at h1; exact g.fr a h1 h2
  · obtain ⟨o', h1, h2⟩ := g.kp a u e
    by_cases ha : a = P
    · subst ha
      rw [hP] at h1
      cases h1
      exact ⟨.tbl qs, by rw [upd_ne nPc, upd_same], fun z => (h2 z).trans (.inr ⟨_, _, rfl, rfl⟩)⟩
    · exact ⟨o', there a o' h1 ha, h2⟩
  · rw [upd_ne (lists p hp).1, upd_ne (lists p hp).2]
  · rw [upd_ne (lists p hp).1]; exact (fr p hp).1
/-- a code that stands in the heap is frozen, or is so by now -/
theorem Good.code {c' : Addr} {q : Str} (g : Good C F H σ δ) (hcd : CodesIn C) (hc : H c' = some (LamX.CodeO c' q)) : ∃ F', Ex F F' ∧ F' c' = some (LamX.CodeO c' q) ∧ Good C F' H σ δ := by
  cases z : F c' with
  | some o =>
    have := g.fh _ _ z
    rw [hc] at this
    cases this
    exact ⟨F, Ex.refl F, z, g⟩
  | none =>
    have nF0 : C.F0 c' = none := Evl.fresh_back g.f0 z
    have nio : c' ∉ C.ioA := fun hm => by
      obtain ⟨⟨j, a⟩, hm2, rfl⟩ := List.mem_map.mp hm
      obtain ⟨h3, h4, l, h5, h6⟩ := g.io j a hm2
      have h6 := W.isK_B h6
      have hc1 : ∃ d1 l1, l.cell = some (d1, l1) := by
        cases l <;> first | exact ⟨_, _, rfl⟩ | cases h6
      obtain ⟨d1, l1, hc1⟩ := hc1
      obtain ⟨p, xs, k1, k2, k3, _⟩ := g.getC h5 hc1
      rw [h3] at k1
      cases k1
      rw [hc] at k2
      have e3 := Option.some.inj k2
      unfold LamX.CodeO at e3
      have hm := k3.mu
      rw [← e3] at hm
      exact hm.elim
    have nH0 : C.H0 c' = none := by
      cases e : C.H0 c' with
      | none => rfl
      | some o =>
        obtain ⟨o', h1, h2⟩ := g.kp c' o e
        rw [hc] at h1
        cases h1
        rcases h2 nio with h | ⟨ps, qs, _, h⟩
        · rw [← h] at e
          exact absurd nF0 (hcd c' q e)
        · exact absurd h (codeO_inj qs)
    obtain ⟨sl, r, nd, fr⟩ := g.sl
    have nl : ∀ p ∈ sl.flatten, p ≠ c' := fun p hp y => by
      obtain ⟨xs, e, hm⟩ := r.there p hp
      rw [y, hc] at e
      have e3 := Option.some.inj e
      unfold LamX.CodeO at e3
      rw [← e3] at hm
      exact hm.elim
    refine ⟨upd F c' (LamX.CodeO c' q), Ex.new z, upd_same, g.f0.trans (Ex.new z), fun a u e => ?_, g.tb, ⟨fun t ht => ?_, g.tf.2.upd trivial⟩, fun a h1 h2 => ?_, g.kp, g.io, sl, r.mono (Ex.new z) fun _ _ => rfl, nd, fun p hp => ⟨?_, (fr p hp).2⟩⟩
    · by_cases ha : a = c'
      · subst ha; rw [upd_same] at e; cases e; exact hc
      · rw [upd_ne ha] at e; exact g.fh a u e
    · obtain ⟨ps', h1, _⟩ := g.tb t ht
      have : t.1 ≠ c' := fun y => by rw [y, hc] at h1; exact codeO_inj ps' (Option.some.inj h1)
      rw [upd_ne this]
      exact g.tf.1 t ht
    · by_cases ha : a = c'
      · subst ha; exact nH0
      · rw [upd_ne ha] at h1; exact g.fr a h1 h2
    · rw [upd_ne (nl p hp)]; exact (fr p hp).1
def wLam (k : Nat) : DenW := fun δ => .ok (.lam k) δ
theorem Good.tmpLam {a : Addr} {k : Nat} (g : Good C F H σ δ) (h : LamAt (C.lam k) F a) : GoodT C F H σ δ (.ref a) (.lam k) :=
  g.snoc (.lam h) .nil (fun q hq => by cases hq) fun _ _ _ _ _ _ _ q _ hq => by cases hq
/-- lambda: body -/
theorem cw_lam {k : Nat} {c P : Addr} {params : Arguments} {body : Expr} {scope : Scope} {pos : Pos} (TB : LamX.TabB X.base X.mg c P) (hcode : X.env.code = .ref c) (hcd : CodesIn C) (hk : C.lam k = ⟨X.env.qual ++ "<lambda>", params, body, scope, cloFrom X.env.cells scope.names []⟩)
    (hm : (P, X.env.qual ++ "<lambda>") ∈ C.T) (hu : ∀ p ∈ C.T, p.1 = P → p.2 = X.env.qual ++ "<lambda>") (L : LamX.LamS X.env.scope scope) (hdef : defaultsOf params X.env = ([], [])) : CW C Wx X (.Lambda params body scope pos) (wLam k) := ⟨fun pins s σ H Q I ⟨F, δ, g, q⟩ => by
  obtain ⟨ps, hP, ht, ha⟩ := g.tb _ hm
  have hq := q F H (Ex.refl F) g
  apply PySem.W.kla_eval hdef
  have bP := TB.bm.keeps I.bk
  have hP' : s.heap.get? P = some { cls := Value.none, data := Data.fields ps } := I.hok P _ hP
  have hfr := L.has I.ok
  -- the function object is laid and known
  have last : ∀ {H1 : Hp} {F1 : Hp} {h' : Heap} {t : Nat} {c' : Addr} {pm ctv : Value} {tk : Tok}, Inv X pins σ H1 { s with heap := h', toks := t } → Good C F1 H1 σ δ → Ex F F1 → F1 c' = some (LamX.CodeO c' (X.env.qual ++ "<lambda>")) →
      EP X pins σ Q (.ref h'.objs.size) { s with heap := h'.push (PySem.W.kla_obj "<lambda>" (X.env.qual ++ "<lambda>") params body scope (cloFrom X.env.cells scope.names []) pm c' ctv), toks := t } := fun {H1 F1 h' t c' pm ctv tk} J g1 e1 hc => by
    have hf : H1 h'.objs.size = none := J.hok.fresh (Nat.le_refl _)
    have ho : (h'.push (PySem.W.kla_obj "<lambda>" (X.env.qual ++ "<lambda>") params body scope (cloFrom X.env.cells scope.names []) pm c' ctv)).get? h'.objs.size = some (PySem.W.kla_obj "<lambda>" (C.lam k).q (C.lam k).params (C.lam k).body (C.lam k).scope (C.lam k).clo pm c' ctv) := by
      rw [hk]; exact Heap.get?_push_size _ rfl
    have J2 := J.laid (h' := h'.push (PySem.W.kla_obj "<lambda>" (X.env.qual ++ "<lambda>") params body scope (cloFrom X.env.cells scope.names []) pm c' ctv)) (t' := t) (o := lamO (C.lam k) pm c' ctv h'.objs.size) (fun b u e => Heap.get?_push_of_some _ e) (Nat.le_refl _) (lamO_ok ho)
    have g2 := g1.grow (o := lamO (C.lam k) pm c' ctv h'.objs.size) hf trivial
    have e2 := Ex.new (o := lamO (C.lam k) pm c' ctv h'.objs.size) (g1.new0 hf).1
    have hc2 : (upd F1 h'.objs.size (lamO (C.lam k) pm c' ctv h'.objs.size)) c' = some (LamX.CodeO c' (C.lam k).q) := by
      rw [show (C.lam k).q = X.env.qual ++ "<lambda>" by rw [hk]]
      exact e2 _ _ hc
    exact ⟨.ref h'.objs.size, _, J2, rfl, hq _ _ _ (e1.trans e2) (g2.tmpLam ⟨pm, c', ctv, upd_same, hc2⟩)⟩
  cases hc : codeAmong pos (Array.toList ps) with
  | none =>
    refine PySem.W.kla_makeFunction (mg := X.mg) (c := c) (P := P) (ps := ps) (closure_ok hfr) I.ok.glob (I.mod.glob.keeps I.bk) hcode (TB.code.keeps I.bk) hP' ht hc TB.gP bP fun c' ctv h' tk hx hge hlt hrec htb => ?_
    rcases hrec with ⟨c2, oc, vs, t, e2, hoc, hd, hv⟩
    cases e2
    have nC := I.hok.fresh hge
    have J := LamX.inv_table (t' := tk) (q := X.env.qual ++ "<lambda>") (more := #[rawInt pos.line, rawInt pos.col, .ref c']) (h' := h') I hP (fun b o hb e => hx b o hb e) htb hge ⟨oc, vs, t, hoc, hd, hv⟩
    have eL : (ps ++ #[rawInt pos.line, rawInt pos.col, .ref c']).toList =
      ps.toList ++ [rawInt pos.line, rawInt pos.col, .ref c'] := by simp
    have keep : ∀ b o, H b = some o → b ≠ P → (upd (upd H P (.tbl (ps ++ #[rawInt pos.line, rawInt pos.col, .ref c']))) c' (LamX.CodeO c' (X.env.qual ++ "<lambda>"))) b = some o := fun b o e n => by
      rw [upd_ne (ne_of_none e nC), upd_ne n]; exact e
    have codeKeep : ∀ b q, H b = some (LamX.CodeO b q) → (upd (upd H P (.tbl (ps ++ #[rawInt pos.line, rawInt pos.col, .ref c']))) c' (LamX.CodeO c' (X.env.qual ++ "<lambda>"))) b = some (LamX.CodeO b q) := fun b q e =>
      keep b _ e fun z => by rw [z, hP] at e; exact codeO_inj ps (Option.some.inj e).symm
    have tb : LamX.Tabs C.T (upd (upd H P (.tbl (ps ++ #[rawInt pos.line, rawInt pos.col, .ref c']))) c' (LamX.CodeO c' (X.env.qual ++ "<lambda>"))) := fun p hp => by
      by_cases hb : p.1 = P
      · rw [hu p hp hb, hb]
        refine ⟨_, by rw [upd_ne (ne_of_none hP nC), upd_same], ?_, fun p' cv hcv => ?_⟩
        · rw [eL]
          exact PySem.TriplesOk_snoc _ _ _ _ ht
        rw [eL] at hcv
        rcases LamX.among_app _ ht hcv with z | z
        · rcases ha p' cv z with ⟨c0, e1, e2⟩
          exact ⟨c0, e1, codeKeep _ _ e2⟩
        · exact ⟨c', z, upd_same⟩
      · obtain ⟨qs, a1, a2, a3⟩ := g.tb p hp
        refine ⟨qs, keep _ _ a1 hb, a2, fun p' cv hcv => ?_⟩
        rcases a3 p' cv hcv with ⟨c0, e1, e2⟩
        exact ⟨c0, e1, codeKeep _ _ e2⟩
    have g1 := g.table hP (g.tf.1 _ hm) nC tb
    exact last (tk := 0) J g1 (Ex.new (g.new0 nC).1) upd_same
  | some cv =>
    rcases ha pos cv hc with ⟨c', e, hco⟩
    subst e
    refine PySem.W.kla_makeFunctionHit (mg := X.mg) (c := c) (P := P) (ps := ps) (closure_ok hfr) I.ok.glob (I.mod.glob.keeps I.bk) hcode (TB.code.keeps I.bk) hP' ht hc bP fun ctv h' tk hx hsz => ?_
    obtain ⟨F1, e1, hc1, g1⟩ := g.code hcd hco
    exact last (tk := 0) (I.kept (h' := h') (t' := tk) hx) g1 e1 hc1⟩
end
end Mir

namespace Mir
open PySem PySem.Spec PyProof.Rows L2 MirX
open Evl (Ex)
/-! ### a lambda called in a def that got it -/
/-- the slots that hold data or defs -/
def dOnly (δ : Env) : Env := δ.map fun o => match o with
  | some w => if w.plain = true then some w else none
  | none => none
def lamRF (den : DenW) (δ : Env) : RF := match den (dOnly δ) with
  | .ok (.d x) _ => .ok (.d x) []
  | .ok (.own l) _ => .ok (.own l) []
  | .exc c x _ => .exc c x []
  | _ => .stuck
def wAsk (i : Nat) (r : Nat → RF) : DenW := fun δ' => match δ'[i]? with
  | some (some (.lam k)) => (r k).to δ'
  | _ => .stuck
section
variable {C : Ct} {X : Cx} {F F1 F' H H1 H' : Hp} {σ : L2.St} {δ : Env}
theorem repS_dOnly {S : Sg} : ∀ {σ : L2.St} {δ : Env} {ps : List (List Addr)}, RepS S F H σ δ ps → Ex F F1 → RepS S F1 H1 σ (dOnly δ) (List.replicate δ.length [])
  | _, _, _, .nil, _ => .nil
  | _, _, _, .skip r, e => .skip (repS_dOnly r e)
  | _, _, _, .cons (w := w) h r, e => by
    have ih := repS_dOnly r e
    show RepS S F1 H1 _ ((if w.plain = true then some w else none) :: dOnly _) ([] :: List.replicate _ [])
    cases w with
    | d x =>
      show RepS S F1 H1 _ (some (W.d x) :: _) _
      cases h with | d h => exact .cons (.d (Dp.ex h e)) ih
    | fn k =>
      show RepS S F1 H1 _ (some (W.fn k) :: _) _
      generalize hw : W.fn k = w' at h
      cases h <;> first | cases hw | skip
      exact .cons .fn ih
    | _ => rw [if_neg (by simp [W.plain])]; exact .skip ih
theorem good_dOnly (g : Good C F H σ δ) (e : Ex F F1) (e1 : Ex F1 H1) (tb : LamX.Tabs C.T H1) (tf : TabF C.T F1) : Good ⟨C.toSg, H1, F1, [], false⟩ F1 H1 σ (dOnly δ) := by
  obtain ⟨ps, r, _⟩ := g.sl
  exact ⟨Ex.refl F1, e1, tb, tf, fun a h1 h2 => absurd h2 h1, fun a o h => ⟨o, h, fun _ => .inl rfl⟩, fun i a h => (by cases h), _, repS_dOnly r e, (by rw [flat_nil]; exact .nil), fun p hp => (by rw [flat_nil] at hp; cases hp)⟩
/-- what a callee with entry heaps F1, HZ has done, told to another state over them -/
theorem GoodT.over {Ch : Ct} {σZ : L2.St} {δ' δ2 : Env} {HZ F2 H2 : Hp} {v : V} {w : W} (gZ : Good Ch F1 HZ σZ δ') (hS : Ch.toSg = C.toSg) (g : GoodT ⟨C.toSg, HZ, F1, [], false⟩ F2 H2 σ δ2 v w) : GoodT Ch F2 H2 σZ δ' v w := by
  obtain ⟨ps, r, nd, fr⟩ := Good.sl g
  obtain ⟨qs, p, rfl, a, b⟩ := r.unsnoc
  refine gZ.aftT (p := p) g.f0 g.fh (⟨fun a h1 h2 => g.fr a h1 h2, fun _ => g.tf.2⟩) ⟨fun a o h => ?_, by rw [hS]; exact g.tb⟩ (by rw [hS]; exact b) b.there.1 fun q hq => ?_
  · obtain ⟨o', h1, h2⟩ := g.kp a o h
    exact ⟨o', h1, h2 (by simp [Ct.ioA])⟩
  · obtain ⟨z1, z2⟩ := fr q (by rw [List.flatten_append, List.mem_append]; exact .inr (by simpa using hq))
    exact ⟨z1, z2.resolve_right (by simp [Ct.ioA])⟩
theorem Good.over {Ch : Ct} {σZ : L2.St} {δ' δ2 : Env} {HZ F2 H2 : Hp} (gZ : Good Ch F1 HZ σZ δ') (hS : Ch.toSg = C.toSg) (g : Good ⟨C.toSg, HZ, F1, [], false⟩ F2 H2 σ δ2) : Good Ch F2 H2 σZ δ' := by
  refine gZ.aft g.f0 g.fh (⟨fun a h1 h2 => g.fr a h1 h2, fun _ => g.tf.2⟩) ⟨fun a o h => ?_, by rw [hS]; exact g.tb⟩
  obtain ⟨o', h1, h2⟩ := g.kp a o h
  exact ⟨o', h1, h2 (by simp [Ct.ioA])⟩
/-- what is known of a lambda of the maker's text -/
structure LamK (X : Cx) (S : Sg) (kk k : Nat) (den : DenW) : Prop where
  ex : ∃ (params : Arguments) (body : Expr) (scope : Scope), S.lam k = ⟨X.env.qual ++ "<lambda>", params, body, scope, cloFrom X.env.cells scope.names []⟩ ∧ LamX.LamS X.env.scope scope ∧
    (∀ (q : Str) (cl : List (Str × Addr)) (pm cv ctv : Value), bindArgs (PySem.W.kla_fn "<lambda>" q params body scope cl pm cv ctv) ⟨[], []⟩ = pure []) ∧
    ∀ (A : Around) (outer : List PySem.Env) (s : Shared) (H : Hp) (E : XK) (f c' : Addr) (C' : Ct), C'.toSg = S → C'.io = [] → RoomG kk (A.deeper (LamX.lamEnv X scope s.heap.objs.size f c')) → CW C' (wishOf E) (LamX.lamCx X A outer s H E scope f c') body den
/-- x(), in a def that the maker called -/
theorem cw_ask {CXg : CXT} {Eg : XK} {Ng : List Str} {qg : Str} {sg : Scope} {g : Addr} {cdg : Value} {kk i : Nat} {a : Str} {pn : List (Addr × Obj)} {xe : Value → Shared → Prop} {Wt : WX} {p1 p2 : Pos} {pins : List (Addr × Obj)} {s : Shared} {dens : Nat → DenW} {Ch : Ct}
    (I : Inv X pins σ H s) (gM : Good C F H σ δ) (hS : Ch.toSg = C.toSg) (hF0 : Ch.F0 = F) (hL : ∀ k, lamRF (dens k) δ ≠ .stuck → LamK X C.toSg kk k (dens k))
    (tk : Takes ((cxOf CXg X.prog X.w X.K X.mg X.base Ng qg sg g cdg X.A X.stack s H Eg).tr pn xe) Wt) (hr : RoomG (kk + 1) (X.A.deeper (envOfC qg sg s.heap.objs.size g cdg))) (hN : Ng[i]? = some a) (hv : Vis sg a) (hd : (a == ("__debug__" : Str)) = false := by decide) (hcd : (a == ("__classdict__" : Str)) = false := by decide) :
    CW Ch Wt ((cxOf CXg X.prog X.w X.K X.mg X.base Ng qg sg g cdg X.A X.stack s H Eg).tr pn xe) (.Call (.Name a p1) [] [] p2) (wAsk i fun k => lamRF (dens k) δ) := ⟨fun pinsZ sZ σZ HZ Q IZ ⟨F1, δ', gZ, q⟩ => by
  unfold wAsk at q
  split at q
  case h_2 => exact q.elim
  rename_i k hk
  have q : Post Ch Wt σZ F1 (PW' Ch σZ Q) ((lamRF (dens k) δ).to δ') := q
  have hns : lamRF (dens k) δ ≠ .stuck := fun z => by rw [z] at q; exact q.elim
  obtain ⟨params, body, scope, hlam, L, hbind, hbody⟩ := (hL k hns).ex
  obtain ⟨v, pp, hs, hrep, _⟩ := gZ.get hk
  have hlam2 : Ch.lam k = ⟨X.env.qual ++ "<lambda>", params, body, scope, cloFrom X.env.cells scope.names []⟩ := by
    rw [hS]; exact hlam
  cases hrep with
  | @lam f _ hat =>
  obtain ⟨pm, c', ctv, hf, hc⟩ := hat
  rw [hlam2] at hf hc
  refine wpAny_Call_Name_kw (thn ((pe_var (pos := p1) (i := i) hN hv hd hcd).run pinsZ sZ σZ HZ (fun z G1 => z = .ref f ∧ G1 = HZ) IZ ⟨.ref f, hs, rfl, rfl⟩) fun u s1 ⟨v, H1, I1, r1, q1⟩ => ?_)
  obtain ⟨ev, eH⟩ := q1
  subst ev
  rw [eH] at I1
  have eu : u = Value.ref f := r1
  subst eu
  have of1 : s1.heap.get? f = some (PySem.W.kla_obj "<lambda>" (X.env.qual ++ "<lambda>") params body scope (cloFrom X.env.cells scope.names []) pm c' ctv) := (I1.hok f _ (gZ.fh _ _ hf)).1
  apply PySem.W.callWith_F0 ⟨_, _, _, _, of1⟩
  have un := I1.base
  obtain ⟨⟨oc, vs, t, hoc, hdc, hvc⟩, _, _⟩ := I1.hok c' _ (gZ.fh _ _ hc)
  let E : XK := fun cls d H' => Wt cls d σZ H'
  have eF : Ex F F1 := hF0 ▸ gZ.f0
  have tfZ : TabF C.T F1 := by have := gZ.tf; rw [hS] at this; exact this
  have tbZ : LamX.Tabs C.T HZ := by have := gZ.tb; rw [hS] at this; exact this
  have rc : codeAny (model X.prog X.w) (X.A.deeper (envOfC qg sg s.heap.objs.size g cdg)) (.call (.ref f) ⟨[], []⟩)
      (CR (L2.CX X.prog X.w) (envOfC qg sg s.heap.objs.size g cdg :: X.stack) X.prog X.w HZ s1 Q E) s1 := by
    refine PySem.W.kla_callFunE hr.room.depth of1 rfl L.co L.gen rfl ⟨c', oc, vs, t, rfl, hoc, hdc, hvc⟩ ?_
    rw [hbind]
    refine wpAny_pure (wpAny_newFunctionEnv (fun y hy => (L.own y hy).2) (fun y hy => absurd hy (by simp))
      (fun h₁ hns hsb => ⟨I1.nolimit.fresh _ hsb, ?_⟩) L.kind)
    show codeAny _ _ (.expr body (LamX.lamEnv X scope s1.heap.objs.size f c')) _ _
    have kp : ∀ b o, s1.heap.get? b = some o → h₁.get? b = some o := fun b o e =>
      hsb.extBut b o (Nat.ne_of_lt (Heap.lt_size e)) (Heap.get?_push_of_some _ e)
    have J : Inv (LamX.lamCx X (X.A.deeper (envOfC qg sg s.heap.objs.size g cdg)) (envOfC qg sg s.heap.objs.size g cdg :: X.stack) s1 HZ E scope f c') [] σ HZ { s1 with heap := h₁, toks := s1.toks + ([] : List (Str × Value)).length } :=
      LamX.lam_start2 I L I1.env0 hr.room.hd un hns kp
    have hq2 : tW ⟨C.toSg, HZ, F1, [], false⟩ (wishOf E) (dens k) σ HZ Q := by
      refine ⟨F1, dOnly δ, good_dOnly gM eF gZ.fh tbZ tfZ, ?_⟩
      unfold lamRF at q
      cases er : dens k (dOnly δ) with
      | stuck => rw [er] at q; exact q.elim
      | exc c x δ2 =>
        rw [er] at q
        intro F2 H2 dx v e2 g2 h1 h2
        exact (show E _ _ _ from by
          have := q F2 H2 dx v e2 (gZ.over hS g2) (by rw [hS]; exact h1) (by rw [hS]; exact h2)
          rw [hS] at this
          exact this)
      | ok w δ2 =>
        rw [er] at q
        intro F2 H2 e2 g2 v F3 H3 e3 g3
        cases w with
        | d x => exact q F1 HZ (Ex.refl F1) gZ v F3 H3 (e2.trans e3) (GoodT.over gZ hS g3)
        | own l => exact q F1 HZ (Ex.refl F1) gZ v F3 H3 (e2.trans e3) (GoodT.over gZ hS g3)
        | _ => exact q.elim
    refine PySem.W.kla_codeExpr (wpAny_mono ((hbody _ _ s1 HZ E f c' ⟨C.toSg, HZ, F1, [], false⟩ rfl rfl (hr.deeper _)).run [] _ _ HZ Q J hq2) (fun v s' hq => ?_) fun e s' hq => hq)
    rcases hq with ⟨w', H', J', rv, q⟩
    refine ⟨w', H', J'.os, J'.bare, J'.base, J'.hok, ?_, q⟩
    exact rv
  apply wpAny_call
  refine codeAny_mono rc fun r s' hq => ?_
  match r, hq with
  | .error e, hq => exact tk e s' (XE.of_call I1 (fun cls d H' h => h) hq)
  | .ok (.ret u), hq => exact I1.after hq
  | .ok .next, hq => exact hq.elim
  | .ok .brk, hq => exact hq.elim
  | .ok .cont, hq => exact hq.elim⟩
end
end Mir

namespace Mir
open PySem PySem.Spec PyProof.Rows L2 MirX
open Evl (Ex)
section
variable {C : Ct} {Wx : WX} {X : Cx} {F H : Hp} {σ : L2.St} {δ : Env}
/-- a name that holds a lambda -/
def wSlot (i : Nat) : DenW := fun δ => match δ[i]? with
  | some (some (.lam k)) => .ok (.lam k) δ
  | _ => .stuck
theorem cw_slot {e : Expr} {i : Nat} (h : PE X e (tVar i)) : CW C Wx X e (wSlot i) := pe_imp h fun σ H Q ⟨F, δ, g, q⟩ => by
  unfold wSlot at q
  split at q
  · rename_i k hk
    obtain ⟨v, p, h1, h2, _⟩ := g.get hk
    cases h2 with
    | lam h => exact ⟨_, h1, q F H (Ex.refl F) g _ F H (Ex.refl F) (g.tmpLam h)⟩
  · exact q.elim
/-- what a callee's promise asks, from the caller's wish -/
theorem sp_post {den : List W → RF} {ws : List W} {Q : VK} {E : XK} (hE : ∀ cls d H', Wx cls d σ H' → E cls d H') (g : Good C F H σ δ) (q : Post C Wx σ F (PW' C σ Q) ((den ws).to δ)) :
    match den ws with
    | .ok w _ => ∀ v F' H' ps, Ex F F' → Ex F' H' → New F F' H → KT C.toSg H H' → RepW C.toSg F' H' v w ps → ps.Nodup → (∀ q ∈ ps, F' q = none ∧ H q = none) → Q v H'
    | .exc c x _ => ∀ F' H' dx v, Ex F F' → Ex F' H' → New F F' H → KT C.toSg H H' → F' dx = some (.xd [(C.fld c, v)]) → Dp C.K F' v x → E (.ref (C.cls c)) (some dx) H'
    | .stuck => False := by
  cases e : den ws with
  | ok w l =>
    rw [e] at q
    intro v F' H' ps e1 e2 nw e3 rw' nd fp
    exact q F H (Ex.refl F) g v F' H' e1 (g.aftT e1 e2 nw e3 rw' nd fp)
  | exc c x l =>
    rw [e] at q
    intro F' H' dx v e1 e2 nw e3 h1 h2
    exact hE _ _ _ (q F' H' dx v e1 (g.aft e1 e2 nw e3) h1 h2)
  | stuck => rw [e] at q; exact q.elim
/-- f(a lambda): the callee's body is read anew, a() in it as the lambda's reading -/
def wHeard (d : DenW) (body : (Nat → RF) → DenS) (n : Nat) (dens : Nat → DenW) : DenW := fun δ => (d δ).bind fun w δ1 => match w with
  | .lam k => (runF n none (body fun k => lamRF (dens k) δ1) [.lam k]).to δ1
  | _ => .stuck
/-- the callee's body, under the rule of a() -/
def Hears (P : Program) (w : World) (K : PySem.W.Frag) (mg : Str → Option Value) (S : Sg) (kk : Nat) (x : Str) (st : Stmt) (N : List Str) (a : Str) (body : (Nat → RF) → DenS) : Prop :=
  ∀ (base : Heap) (g : Addr) (cdv : Value) (A : Around) (outer : List PySem.Env) (s : Shared) (H : Hp) (E : XK) (Ch : Ct) (r : Nat → RF), Ch.toSg = S → Ch.io = [] → RoomG kk (A.deeper (envOfC x (defScope st) s.heap.objs.size g cdv)) →
    (∀ (Wt : WX) (pn : List (Addr × Obj)) (xe : Value → Shared → Prop) (p1 p2 : Pos), Takes ((cxOf (L2.CX P w) P w K mg base N x (defScope st) g cdv A outer s H E).tr pn xe) Wt → CW Ch Wt ((cxOf (L2.CX P w) P w K mg base N x (defScope st) g cdv A outer s H E).tr pn xe) (.Call (.Name a p1) [] [] p2) (wAsk 0 r)) →
    CSs Ch (wishOf E) (cxOf (L2.CX P w) P w K mg base N x (defScope st) g cdv A outer s H E) (defBody st) (body r)
theorem cw_heard {x a : Str} {st : Stmt} {g : Addr} {fd : FuncData} {N : List Str} {kk : Nat} {body : (Nat → RF) → DenS} {dens : Nat → DenW} {e : Expr} {d : DenW} {p pos : Pos} (Fg : Fun X.K x x st g fd) (hRd : Hears X.prog X.w X.K X.mg C.toSg (kk + 1) x st N a body) (sc : FnScope N [a] (defScope st)) (hb : Binds X.K fd [a] []) (hr : RoomG (kk + 2) X.A)
    (hg : Gl X x) (hm : X.mg x = some (.ref g)) (hL : ∀ k, LamK X C.toSg kk k (dens k) ∨ ∀ δ, lamRF (dens k) δ = .stuck) (tk : Takes X Wx) (he : CW C Wx X e d) (hN : N[0]? = some a) (hv : Vis (defScope st) a) (hd : (a == ("__debug__" : Str)) = false := by decide) (hcd : (a == ("__classdict__" : Str)) = false := by decide)
    (hdb : (x == ("__debug__" : Str)) = false := by decide) (hs : starEach [e] X.env = (false, eval e X.env) :: starEach [] X.env := by rfl) (hpl : (backTo pos (starEach [] X.env)).any (·.1) = false := by rfl) :
    CW C Wx X (.Call (.Name x p) [e] [] pos) (wHeard d body N.length dens) := ⟨fun pins s σ H Q I ⟨F, δ, g0, q⟩ => by
  refine wpAny_Call_Name_kw (ld_glob I hg hm (PySem.W.callWith_K (h₀ := X.base) I.ok.mod.kin Fg.kp ?_ hs hpl) hdb)
  have hA : tCons (tW C Wx d) tNil σ H (fun vs H1 => ∃ f k F1 δ1, vs = [.ref f] ∧ Good C F1 H1 σ δ1 ∧ LamAt (C.lam k) F1 f ∧ Post C Wx σ F1 (PW' C σ Q) ((runF N.length none (body fun k => lamRF (dens k) δ1) [.lam k]).to δ1)) := by
    refine ⟨F, δ, g0, Post.imp (fun w δ1 F1 H1 _ g1 q1 v F2 H2 e2 g2 => ?_) (Post.bind q)⟩
    cases w with
    | lam k =>
      have gg := GoodT.forget g2 g2.len g1.iolt
      obtain ⟨ps, r, _⟩ := Good.sl g2
      obtain ⟨qs, p, rfl, _, b⟩ := r.unsnoc
      cases b with
      | @lam f _ hat => exact ⟨f, k, F2, δ1, rfl, gg, hat, Post.mono e2 q1⟩
    | _ => exact q1.elim
  refine thn ((pa_cons he pa_nil hs).run pos pins s σ H _ I hA) fun us s1 ⟨vs, H1, I1, r, f, k, F1, δ1, ev, g1, hat, q1⟩ => ⟨I1.kIn, ?_⟩
  subst ev
  rcases vals1 r with ⟨u, rfl, ru⟩
  obtain ⟨oc, od, kV, doc, pm, an, cdv, ct, osl, rfl, lk, hcode⟩ := Fg.ex
  let E : XK := fun cls d H' => Wx cls d σ H'
  have rc : codeAny (model X.prog X.w) X.A (.call (.ref g) ⟨[u], []⟩) (CR (L2.CX X.prog X.w) X.stack X.prog X.w H1 s1 Q E) s1 := by
    refine LamX.run_ofS (N := N) (ps := [a]) (us := [u]) (vs := [.ref f]) lk hcode sc (hr.mono (Nat.le_refl _)).room I1.env0 (hb s1 [u] I1.kIn rfl) r rfl fun hr' => ?_
    have hsp : SpW (fun F' => F' = F1) C.toSg 1 (runF N.length none (body fun k => lamRF (dens k) δ1)) [.ref f] H1 Q E :=
      ⟨rfl, F1, [.lam k], rfl, g1.fh, g1.tb, g1.tf, rfl, fun j v w e1 e2 => by
        cases j with
        | zero => simp at e1 e2; subst e1 e2; exact .lam hat
        | succ j => simp at e1, sp_post (fun _ _ _ h => h) g1 q1⟩
    obtain ⟨Ch, c1, c2, c3, c4, ht⟩ := body_pureW hsp
    refine ⟨_, hRd X.base g cdv X.A X.stack s1 H1 E Ch (fun k => lamRF (dens k) δ1) c1 c2 (hr.deeper _) fun Wt pn xe p1 p2 tk' => ?_, ht⟩
    exact cw_ask I1 g1 c1 c4 (fun k hk => (hL k).resolve_right fun z => hk (z δ1)) tk' (hr.deeper _) hN hv hd hcd
  apply wpAny_call
  refine codeAny_mono rc fun r s' hq => ?_
  match r, hq with
  | .error e, hq => exact tk e s' (XE.of_call I1 (fun cls d H' h => h) hq)
  | .ok (.ret u), hq => exact I1.after hq
  | .ok .next, hq => exact hq.elim
  | .ok .brk, hq => exact hq.elim
  | .ok .cont, hq => exact hq.elim⟩
end
end Mir

namespace Mir
open PySem PySem.Spec PyProof.Rows L2 MirX
open Evl (Ex)
section
variable {C : Ct} {Wx : WX} {X : Cx} {F F' H H' : Hp} {σ : L2.St} {δ : Env}
/-- a slot's footprint is its own -/
theorem Good.foot0 (g : Good C F H σ δ) {i : Nat} {w : W} {v : V} {pp : List Addr} (e : δ[i]? = some (some w)) (hv : σ[i]? = some (some v)) (hr : RepW C.toSg F H v w pp) (hb : w.isB = false) :
    ∀ q ∈ pp, F q = none ∧ C.H0 q = none ∧ q ∉ C.ioA ∧ ∀ (j : Nat) w' v' p', j ≠ i → δ[j]? = some (some w') → σ[j]? = some (some v') → RepW C.toSg F H v' w' p' → q ∉ p' := fun q hq => by
  obtain ⟨ps, r, nd, fr⟩ := g.sl
  obtain ⟨v1, p1, h1, hp, h2⟩ := r.get i _ e
  rw [hv] at h1
  cases h1
  have ep : pp = p1 := RepW.same hr h2
  subst ep
  have pin : q ∈ ps.flatten := List.mem_flatten.mpr ⟨_, List.mem_of_getElem? hp, hq⟩
  have apart : ∀ (j : Nat) w' v' p', j ≠ i → δ[j]? = some (some w') → σ[j]? = some (some v') → RepW C.toSg F H v' w' p' → q ∉ p' := fun j w' v' p' hj k1 k2 k3 hm => by
    obtain ⟨v2, p2, m1, m2, m3⟩ := r.get j _ k1
    rw [k2] at m1
    cases m1
    rw [RepW.same k3 m3] at hm
    exact hj (flat_apart nd m2 hp hm hq)
  have nio : q ∉ C.ioA := fun z => by
    obtain ⟨⟨j, a⟩, hm, rfl⟩ := List.mem_map.mp z
    obtain ⟨h3, h4, l, h5, h9⟩ := g.io j a hm
    obtain ⟨v', q', h6, hq', h7⟩ := r.get j _ h5
    rw [h3] at h6
    cases h6
    have hj : j ≠ i := fun y => by
      subst y
      rw [e] at h5
      cases h5
      rw [W.isK_B h9] at hb
      cases hb
    refine apart j _ _ _ hj h5 h3 h7 ?_
    have h9 := W.isK_B h9
    have hc1 : ∃ d1 l1, l.cell = some (d1, l1) := by
      cases l <;> first | exact ⟨_, _, rfl⟩ | cases h9
    obtain ⟨d1, l1, hc1⟩ := hc1
    obtain ⟨p2, o2, e1, ep, _⟩ := h7.cell hc1
    cases e1
    rw [ep]
    simp
  exact ⟨(fr q pin).1, (fr q pin).2.resolve_right nio, nio, apart⟩
/-- what no slot owns is frozen -/
theorem Good.freezeO {p : Addr} {o : HO} (g : Good C F H σ δ) (hH : H p = some o) (hF : F p = none) (h0 : C.H0 p = none) (ht : ∀ ps, o ≠ .tbl ps) (ho : exO o) (hp : ∀ (i : Nat) w v pp, δ[i]? = some (some w) → σ[i]? = some (some v) → RepW C.toSg F H v w pp → p ∉ pp) : Good C (upd F p o) H σ δ := by
  obtain ⟨sl, r, nd, fr⟩ := g.sl
  have nl : ∀ q ∈ sl.flatten, q ≠ p := fun q hq y => by
    subst y
    have key : ∀ {σ : L2.St} {δ : Env} {ps : List (List Addr)}, RepS C.toSg F H σ δ ps → q ∈ ps.flatten → ∃ (i : Nat) (w : W) (v : V) (p : List Addr), δ[i]? = some (some w) ∧ σ[i]? = some (some v) ∧ RepW C.toSg F H v w p ∧ q ∈ p := by
      intro σ δ ps r
      induction r with
      | nil => intro ha; simp at ha
      | skip _ ih =>
        intro ha
        obtain ⟨i, w', v', p', h1, h2, h3, h4⟩ := ih (by simpa using ha)
        exact ⟨i + 1, w', v', p', by simpa using h1, by simpa using h2, h3, h4⟩
      | cons h1 _ ih =>
        intro ha
        rw [List.flatten_cons, List.mem_append] at ha
        rcases ha with ha | ha
        · exact ⟨0, _, _, _, rfl, rfl, h1, ha⟩
        · obtain ⟨i, w', v', p', h1, h2, h3, h4⟩ := ih ha
          exact ⟨i + 1, w', v', p', by simpa using h1, by simpa using h2, h3, h4⟩
    obtain ⟨i, w', v', p', h1, h2, h3, h4⟩ := key r hq
    exact hp i w' v' p' h1 h2 h3 h4
  refine ⟨g.f0.trans (Ex.new hF), fun a u e => ?_, g.tb, ⟨fun t hm => ?_, g.tf.2.upd ho⟩, fun a h1 h2 => ?_, g.kp, g.io, sl, r.mono (Ex.new hF) fun _ _ => rfl, nd, fun q hq => ⟨?_, (fr q hq).2⟩⟩
  · by_cases ha : a = p
    · subst ha; rw [upd_same] at e; cases e; exact hH
    · rw [upd_ne ha] at e; exact g.fh a u e
  · obtain ⟨ps', h1, _⟩ := g.tb t hm
    have : t.1 ≠ p := fun y => by rw [y, hH] at h1; exact ht ps' (Option.some.inj h1)
    rw [upd_ne this]
    exact g.tf.1 t hm
  · by_cases ha : a = p
    · subst ha; exact h0
    · rw [upd_ne ha] at h1; exact g.fr a h1 h2
  · rw [upd_ne (nl q hq)]; exact (fr q hq).1
theorem lams_inv {S : Sg} {v : V} {l : List Nat} {p : List Addr} (h : RepW S F H v (.lams l) p) : ∃ (a : Addr) (as : List Addr), v = .ref a ∧ p = [a] ∧ H a = some (.lst (as.map V.ref)) ∧ as.length = l.length ∧ ∀ (i : Nat) (a : Addr) (k : Nat), as[i]? = some a → l[i]? = some k → LamAt (S.lam k) F a := by
  cases h with
  | lams h1 h2 h3 => exact ⟨_, _, rfl, rfl, h1, h2, h3⟩
/-! ### lists of lambdas -/
/-- [lambda: ..] -/
def wLams1 (d : DenW) : DenW := fun δ => (d δ).bind fun w δ1 => match w with
  | .lam k => .ok (.lams [k]) δ1
  | _ => .stuck
theorem cw_lams1 {e : Expr} {d : DenW} {pos : Pos} (h : CW C Wx X e d) (hs : starEach [e] X.env = (false, eval e X.env) :: starEach [] X.env := by rfl) : CW C Wx X (.List [e] pos) (wLams1 d) := pe_imp (pe_lst (pa_cons h pa_nil hs)) fun σ H Q ⟨F, δ, g, q⟩ =>
  ⟨F, δ, g, Post.imp (fun w δ1 F1 H1 _ g1 q1 v F2 H2 e2 g2 => by
    cases w with
    | lam k =>
      have gg := GoodT.forget g2 g2.len g1.iolt
      obtain ⟨ps, r, _⟩ := Good.sl g2
      obtain ⟨qs, p, rfl, _, b⟩ := r.unsnoc
      cases b with
      | @lam f _ hat =>
        refine ⟨by show 1 ≤ sizeLine; decide, fun p hp => q1 F2 H2 e2 gg _ F2 _ (Ex.refl F2) ?_⟩
        have g3 : Good C F2 (upd H2 p (.lst [.ref f])) σ δ1 := gg.heap (Ex.new hp)
        obtain ⟨n1, n2, n3⟩ := gg.new0 hp
        refine g3.snoc (p := [p]) (.lams (as := [f]) upd_same rfl fun i a k' h1 h2 => ?_) (by simp) (fun q hq => by rw [List.mem_singleton.mp hq]; exact ⟨n1, n3⟩) fun i w' v' p' h1 h2 h3 q hq hq' => ?_
        · cases i with
          | zero => simp at h1 h2; subst h1 h2; exact hat
          | succ i => simp at h1
        · rw [List.mem_singleton.mp hq'] at hq
          obtain ⟨v2, p2, m1, m2, m3⟩ := gg.get h1
          rw [h2] at m1
          cases m1
          rw [RepW.same h3 m2] at hq
          obtain ⟨xs, hx, _⟩ := m2.there.2 _ hq
          rw [hp] at hx; cases hx
    | _ => exact q1.elim) (Post.bind q)⟩
/-- the list of lambdas in slot i is written -/
theorem Good.writeL (g : Good C F H σ δ) {i : Nat} {l l' : List Nat} {p : Addr} {as' : List Addr} (e : δ[i]? = some (some (.lams l))) (hp : σ[i]? = some (some (.ref p))) (hl : as'.length = l'.length) (ha : ∀ (j : Nat) (a : Addr) (k : Nat), as'[j]? = some a → l'[j]? = some k → LamAt (C.lam k) F a) :
    Good C F (upd H p (.lst (as'.map V.ref))) σ (δ.set i (some (.lams l'))) := by
  obtain ⟨ps, r, nd, fr⟩ := g.sl
  obtain ⟨v, q, h1, hq, h2⟩ := r.get i _ e
  rw [hp] at h1
  cases h1
  obtain ⟨a, as, ea, rfl, hH, _, _⟩ := lams_inv h2
  cases ea
  have pin : p ∈ ps.flatten := List.mem_flatten.mpr ⟨_, List.mem_of_getElem? hq, by simp⟩
  have pF := (fr p pin).1
  have hw : RepW C.toSg F (upd H p (.lst (as'.map V.ref))) (.ref p) (.lams l') [p] := .lams upd_same hl ha
  refine ⟨g.f0, fun a u z => ?_, tabs_write g.tb hH trivial, g.tf, g.fr, fun a u z => ?_, fun j a hj => ?_, ps.set i [p], r.write i hq nd hp hw, set_nodup nd (by simp) fun a ha => .inr ⟨_, hq, ha⟩, fun q hq' => ?_⟩
  · rw [upd_ne (ne_of_none z pF)]; exact g.fh a u z
  · by_cases ha : a = p
    · subst ha
      refine ⟨_, upd_same, fun hn => ?_⟩
      rcases (fr _ pin).2 with z' | z'
      · rw [z] at z'; cases z'
      · exact absurd z' hn
    · obtain ⟨o', h1, h2⟩ := g.kp a u z
      exact ⟨o', by rw [upd_ne ha]; exact h1, h2⟩
  · obtain ⟨h1, h2, l1, h3, h4⟩ := g.io j a hj
    have hji : i ≠ j := fun z => by subst z; rw [e] at h3; cases h3; cases h4
    exact ⟨h1, h2, l1, by rw [List.getElem?_set_ne hji]; exact h3, h4⟩
  · rcases set_flat q hq' with z | z
    · rw [List.mem_singleton.mp z]; exact fr p pin
    · exact fr q z
def lamsAt (δ : Env) (i : Nat) : Option (List Nat) := match δ[i]? with
  | some (some (.lams l)) => some l
  | _ => none
theorem lamsAt_ok {i : Nat} {l : List Nat} (h : lamsAt δ i = some l) : δ[i]? = some (some (.lams l)) := by
  unfold lamsAt at h
  split at h
  · cases h; assumption
  · cases h
/-- xs.append(lambda: ..) -/
def dAppendL (i : Nat) (d : DenW) : Den := fun δ => match lamsAt δ i with
  | none => .stuck
  | some _ => (d δ).bind fun w δ1 => match w, lamsAt δ1 i with
    | .lam k, some l => if l.length < line then .ok .none (δ1.set i (some (.lams (l ++ [k])))) else .stuck
    | _, _ => .stuck
theorem ce_appendL {o e : Expr} {i : Nat} {d : DenW} {apos cpos : Pos} (ho : PE X o (tVar i)) (he : CW C Wx X e d) (hbase : attributeBase o "append" X.env (eval o X.env) = eval o X.env := by rfl) (hfew : ((backTo cpos (starEach [e] X.env)).all (fun x => !x.1) && (backToKw cpos (keywordEach [] X.env)).all (fun x => x.1.isSome)
      && decide ([e].length + ([] : List Keyword).length + (if ([] : List Keyword).isEmpty then 0 else 1) < 30)) = true := by rfl) (hline : (apos.endLine == cpos.line) = true := by rfl) (hs : starEach [e] X.env = (false, eval e X.env) :: starEach [] X.env := by rfl) (hplain : (backTo cpos (starEach [] X.env)).any (·.1) = false := by rfl) :
    CE C Wx X (.Call (.Attribute o "append" apos) [e] [] cpos) (dAppendL i d) :=
  pe_imp (pe_bm PySem.F.plainAttrs_list PySem.F.slot_list_append PySem.F.type_list_append mt_append ho (pa_cons he pa_nil hs) hbase hfew hline hs hplain) fun σ H Q ⟨F, δ, g, q⟩ => by
    unfold dAppendL at q
    split at q
    · exact q.elim
    · rename_i l0 h0
      obtain ⟨v0, p0, h1, h2, _⟩ := g.get (lamsAt_ok h0)
      obtain ⟨p, as, rfl, rfl, hH, _, _⟩ := lams_inv h2
      refine ⟨_, h1, .inl ⟨rfl, _, Evl.sq_of hH⟩, F, δ, g, Post.imp (fun w δ1 F1 H1 _ g1 q1 v F2 H2 e2 g2 => ?_) (Post.bind q)⟩
      split at q1
      · rename_i k l1 hl1
        split at q1
        · rename_i hz
          have gg := GoodT.forget g2 g2.len g1.iolt
          obtain ⟨ps, r, _⟩ := Good.sl g2
          obtain ⟨qs, pp, rfl, _, b⟩ := r.unsnoc
          cases b with
          | @lam f _ hat =>
            obtain ⟨v1, p1, k1, k2, _⟩ := gg.get (lamsAt_ok hl1)
            obtain ⟨p', as', ev, rfl, hH1, hn1, hat1⟩ := lams_inv k2
            subst ev
            rw [h1] at k1
            cases k1
            have hw := gg.writeL (as' := as' ++ [f]) (l' := l1 ++ [k]) (lamsAt_ok hl1) h1 (by simp [hn1]) fun j a k' m1 m2 => by
              rcases Nat.lt_or_ge j as'.length with hj | hj
              · rw [List.getElem?_append_left hj] at m1
                rw [List.getElem?_append_left (by omega)] at m2
                exact hat1 j a k' m1 m2
              · rw [List.getElem?_append_right hj] at m1
                rw [List.getElem?_append_right (by omega)] at m2
                have hj0 : j - as'.length = 0 := by
                  have := get_lt m1
                  simp at this
                  omega
                rw [hj0] at m1
                rw [← hn1, hj0] at m2
                simp at m1 m2
                subst m1 m2
                exact hat
            rw [List.map_append] at hw
            exact ⟨p, _, .ref f, rfl, rfl, hH1, by rw [List.length_map, hn1]; exact line_lt hz, q1 F2 _ e2 hw _ .non⟩
        · exact q1.elim
      · exact q1.elim
/-- for x in xs, xs a list of lambdas (it is read no more behind the loop) -/
def forLD (t : Nat) (body : DenS) : List Nat → DenS
  | [], δ => .nx δ
  | k :: r, δ => if isBor δ t = true then .stuck else (body (δ.set t (some (.lam k)))).loop (forLD t body r)
def sForL (t i : Nat) (body : DenS) : DenS := fun δ => match lamsAt δ i with
  | some l => forLD t body l (δ.set i none)
  | none => .stuck
theorem cs_forL {e : Expr} {i t : Nat} {x : Str} {b : List Stmt} {body : DenS} {pos tpos : Pos} (hK : X.K = C.K) (hp : PassesOwn (model X.prog X.w) X.A X.env X.xe) (hc : X.calm = true) (he : PE X e (tVar i)) (hg : PG X (.Name x tpos) (gName t)) (hb : CSs C Wx X b body) (hs : ∀ v, foldedSetIterable e X.env v = pure v := by intros; rfl) :
    CS C Wx X (.For (.Name x tpos) e b [] pos) (sForL t i body) := ps_imp (ps_for hp hc (pi_sq he) hg hb hs) fun D σ H ⟨F, δ, g, q⟩ => by
  unfold sForL at q
  cases hl : lamsAt δ i with
  | none => rw [hl] at q; exact q.elim
  | some l =>
    rw [hl] at q
    have ei := lamsAt_ok hl
    obtain ⟨v0, p0, h1, h2, _⟩ := g.get ei
    obtain ⟨p, as, rfl, rfl, hH, hn, hat⟩ := lams_inv h2
    obtain ⟨k1, k2, k3, k4⟩ := g.foot0 ei h1 h2 rfl p (by simp)
    have g1 := g.drop (i := i) (fun l hl z => by rw [ei] at z; cases z; cases hl)
    have ex : Ex F (upd F p (.lst (as.map V.ref))) := Ex.new k1
    have g2 := g1.freezeO hH k1 k2 (fun ps z => by cases z) trivial fun j w v pp m1 m2 m3 => by
      by_cases hj : j = i
      · subst hj
        rw [List.getElem?_set_self (get_lt ei)] at m1
        cases m1
      · rw [List.getElem?_set_ne (Ne.symm hj)] at m1
        exact k4 j w v pp hj m1 m2 m3
    have hq : SqL C.K (upd F p (.lst (as.map V.ref))) p (as.map V.ref) := Evl.sq_of upd_same
    refine ⟨_, h1, p, _, rfl, .inl ⟨by rw [hK]; exact Evl.ex_l g2.fh hq, ?_⟩⟩
    refine ⟨fun j m σ H => m = l.length - j ∧ j ≤ l.length ∧ ∃ F2 δ2, Ex (upd F p (.lst (as.map V.ref))) F2 ∧ Good C F2 H σ δ2 ∧ PostS C Wx D F2 (forLD t body (l.drop j) δ2), ⟨_, rfl, Nat.zero_le _, _, _, Ex.refl _, g2, PostS.mono ex q⟩, ?_⟩
    rintro j m σ H ⟨rfl, hj, F2, δ2, e2, g3, q2⟩
    have w := walk_list (K := C.K) (a := p) (xs := as.map V.ref)
    have hs2 := Evl.ex_l (e2.trans g3.fh) hq
    have hln : (as.map V.ref).length = l.length := by rw [List.length_map]; exact hn
    rw [hK]
    by_cases hlt : j < l.length
    · refine .inr ⟨w.goes j H (by omega) hs2, fun σ' H' => j + 1 ≤ l.length ∧ ∃ F3 δ3, Ex (upd F p (.lst (as.map V.ref))) F3 ∧ Good C F3 H' σ' δ3 ∧ PostS C Wx D F3 (forLD t body (l.drop (j + 1)) δ3), fun σ' H' ⟨k1, k2⟩ => ⟨_, by omega, rfl, k1, k2⟩, fun x H' y => ?_⟩
      obtain ⟨rfl, hx⟩ := w.yields j H x H' (by omega) hs2 y
      rw [List.getElem?_map] at hx
      cases ea : as[j]? with
      | none => rw [ea] at hx; cases hx
      | some a =>
        rw [ea] at hx
        cases hx
        have ed : l.drop j = l[j] :: l.drop (j + 1) := List.drop_eq_getElem_cons hlt
        rw [ed] at q2
        unfold forLD at q2
        split at q2
        · exact q2.elim
        · rename_i hbor
          have hl2 : LamAt (C.lam l[j]) F2 a := (hat j a _ ea (List.getElem?_eq_getElem hlt)).mono (ex.trans e2)
          have g4 : Good C F2 H' (σ.set t (some (.ref a))) (δ2.set t (some (.lam l[j]))) := GoodT.set (g3.tmpLam hl2) g3.len (isBor_no (by simpa using hbor)) g3.iolt
          exact ⟨F2, _, g4, loop_ok q2 fun δ4 σ4 F4 H4 e4 g5 q4 => ⟨hlt, F4, δ4, e2.trans e4, g5, q4⟩⟩
    · have ej : j = l.length := by omega
      subst ej
      refine .inl ⟨by rw [← hln]; exact w.stops H hs2, ?_⟩
      rw [List.drop_length] at q2
      exact q2 σ F2 H (Ex.refl F2) g3
end
end Mir

namespace Mir
open PySem PySem.Spec PyProof.Rows L2 MirX
/-! ### places in a text -/
def noE : Expr := .Constant .none 0 ⟨0, 0, 0, 0⟩
def sAt (l : List Stmt) (i : Nat) : Stmt := l.getD i (.Pass ⟨0, 0, 0, 0⟩)
def sTest : Stmt → Expr
  | .If c _ _ _ => c
  | .While c _ _ _ => c
  | _ => noE
def sBody : Stmt → List Stmt
  | .If _ b _ _ => b
  | .While _ b _ _ => b
  | .For _ _ b _ _ => b
  | _ => []
def sElse : Stmt → List Stmt
  | .If _ _ b _ => b
  | _ => []
def sVal : Stmt → Expr
  | .Return (some e) _ => e
  | .Assign _ e _ => e
  | .AugAssign _ _ e _ => e
  | .Expr e _ => e
  | _ => noE
def eArg (i : Nat) : Expr → Expr
  | .Call _ as _ _ => as.getD i noE
  | _ => noE
def eLeft : Expr → Expr
  | .Compare a _ _ _ => a
  | .BinOp a _ _ _ => a
  | _ => noE
def eCmp (i : Nat) : Expr → Expr
  | .Compare _ _ cs _ => cs.getD i noE
  | _ => noE
def eVal (i : Nat) : Expr → Expr
  | .BoolOp _ vs _ => vs.getD i noE
  | _ => noE
def eElt (i : Nat) : Expr → Expr
  | .List es _ => es.getD i noE
  | .Tuple es _ _ => es.getD i noE
  | _ => noE
def eOpd : Expr → Expr
  | .UnaryOp _ a _ => a
  | _ => noE
def lamP : Expr → Arguments → Arguments
  | .Lambda p _ _ _, _ => p
  | _, d => d
def lamB : Expr → Expr
  | .Lambda _ b _ _ => b
  | _ => noE
def lamS : Expr → Scope → Scope
  | .Lambda _ _ s _, _ => s
  | _, d => d
/-- the k-th lambda, made in the frame env -/
def lamOf (env : PySem.Env) (e : Expr) (sc : Scope) (p : Arguments) : LamD := ⟨env.qual ++ "<lambda>", lamP e p, lamB e, lamS e sc, cloFrom env.cells (lamS e sc).names []⟩
section
variable {P : Program} {w : World} {K : PySem.W.Frag} {mg : Str → Option Value} {base : Heap} {S : Sg}
theorem Hears.mono {k k' : Nat} {x a : Str} {st : Stmt} {N : List Str} {body : (Nat → RF) → DenS} (h : Hears P w K mg S k x st N a body) (hk : k ≤ k') : Hears P w K mg S k' x st N a body :=
  fun base g cdv A outer s H E Ch r h1 h2 hr hask => h base g cdv A outer s H E Ch r h1 h2 (hr.mono hk) hask
/-- .. where the def's code is asked for -/
theorem okGL {x qual : Str} {st : Stmt} {f : Addr} {fd : FuncData} {N ps : List Str} {k : Nat} {sp : Sp} (F : Fun K x qual st f fd) (Sc : FnScope N ps (defScope st)) (len : ∀ vs H Q E, sp vs H Q E → vs.length = ps.length)
    (hbody : ∀ (cdv : Value) (A : Around) (outer : List PySem.Env) (s : Shared) (H : Hp) (vs : List V) (Q : VK) (E : XK), fd.code = cdv → RoomG k (A.deeper (envOfC qual (defScope st) s.heap.objs.size f cdv)) → sp vs H Q E →
      ∃ t, PSs (cxOf (L2.CX P w) P w K mg base N qual (defScope st) f cdv A outer s H E) (defBody st) t ∧ t { nx := fun _ H' => Q .non H', rt := Q } (start N vs) H) : FnG P w K mg base (k + 1) f fd ps sp := by
  obtain ⟨o1, o2, o3, o4, o5, o6, cdv, o8, o9, rfl, lk, hcd⟩ := F.ex
  exact ⟨len, fun A outer s H args us vs Q E hr e0 hb r hsp => LamX.run_ofS lk hcd Sc hr.room e0 hb r (len _ _ _ _ hsp) fun _ => hbody cdv A outer s H vs Q E rfl (hr.deeper _) hsp⟩
end
end Mir

namespace Mir
open PySem PySem.Spec PyProof.Rows L2 MirX
open Evl (Ex)
section
variable {C : Ct} {Wx : WX} {X : Cx}
/-- xs.index(x) of a list -/
theorem ce_indexL {o e : Expr} {da db : DenA} {apos cpos : Pos} (hK : X.K = C.K) (ho : CEA C Wx X o da) (he : CEA C Wx X e db) (hbase : attributeBase o "index" X.env (eval o X.env) = eval o X.env := by rfl) (hfew : ((backTo cpos (starEach [e] X.env)).all (fun x => !x.1) && (backToKw cpos (keywordEach [] X.env)).all (fun x => x.1.isSome)
      && decide ([e].length + ([] : List Keyword).length + (if ([] : List Keyword).isEmpty then 0 else 1) < 30)) = true := by rfl) (hline : (apos.endLine == cpos.line) = true := by rfl) (hs : starEach [e] X.env = (false, eval e X.env) :: starEach [] X.env := by rfl) (hplain : (backTo cpos (starEach [] X.env)).any (·.1) = false := by rfl) :
    CE C Wx X (.Call (.Attribute o "index" apos) [e] [] cpos) (dIndex false da db) :=
  pe_imp (pe_bm PySem.F.plainAttrs_list PySem.F.slot_list_index PySem.F.type_list_index mt_ixL ho (pa_cons he pa_nil hs) hbase hfew hline hs hplain) fun σ H Q ⟨F, δ, g, q⟩ =>
    ⟨F, δ, g, Post.imp (fun x δ1 F1 H1 _ g1 q1 v hv => by
      split at q1
      · exact q1.elim
      · rename_i l hl
        obtain ⟨p, xs, rfl, h1, _⟩ := dpt_list (peek_ok g1 hv hl) g1.fh
        refine ⟨.inl ⟨rfl, xs, by rw [hK]; exact h1⟩, F1, δ1, g1, Post.imp (fun y δ2 F2 H2 e2 g2 q2 u hu => ?_) (Post.bind q1)⟩
        rw [hK]
        obtain ⟨x', y', e, h⟩ := app_ok (rd_index false) g2 (.cons (hv.mono e2) (.cons hu .nil)) q2
        cases e
        exact h
      · exact q1.elim) (Post.bind q)⟩
/-- a tuple among what is frozen: its object bears no dict -/
theorem dpt_isTX {F H : Hp} {σ : L2.St} {δ : Env} {v : V} {l : List PyData} (hk : KX C.K) (g : Good C F H σ δ) (h : DpT C.K F H v (.tuple l)) : isTX C.K v H := by
  rcases h with h | ⟨_, _, _, _, e, _⟩
  · cases h with
    | @tup p xs _ h1 h2 =>
      obtain (h1 | ⟨o, h1⟩) | ⟨o, its, n, k1, k2, _⟩ := h1
      · exact (g.tf.2 p _ h1).elim
      · exact ⟨p, rfl, .inl ⟨o, xs, g.fh _ _ h1, g.tf.2 p _ h1⟩⟩
      · exact ⟨p, rfl, .inr ⟨o, k1, k2, hk p o k1 k2⟩⟩
  · cases e
/-- x.index(y) of a tuple -/
theorem ce_indexT {o e : Expr} {da db : DenA} {apos cpos : Pos} (hK : X.K = C.K) (hk : KX C.K) (ho : CEA C Wx X o da) (he : CEA C Wx X e db) (hbase : attributeBase o "index" X.env (eval o X.env) = eval o X.env := by rfl) (hfew : ((backTo cpos (starEach [e] X.env)).all (fun x => !x.1) && (backToKw cpos (keywordEach [] X.env)).all (fun x => x.1.isSome)
      && decide ([e].length + ([] : List Keyword).length + (if ([] : List Keyword).isEmpty then 0 else 1) < 30)) = true := by rfl) (hline : (apos.endLine == cpos.line) = true := by rfl) (hs : starEach [e] X.env = (false, eval e X.env) :: starEach [] X.env := by rfl) (hplain : (backTo cpos (starEach [] X.env)).any (·.1) = false := by rfl) :
    CE C Wx X (.Call (.Attribute o "index" apos) [e] [] cpos) (dIndex true da db) :=
  pe_imp (pe_mX PySem.F.slot_tuple_index PySem.F.type_tuple_index mt_ixT ho (pa_cons he pa_nil hs) hbase hfew hline hs hplain) fun σ H Q ⟨F, δ, g, q⟩ =>
    ⟨F, δ, g, Post.imp (fun x δ1 F1 H1 _ g1 q1 v hv => by
      split at q1
      · rename_i l hl
        rw [if_pos rfl] at q1
        refine ⟨by rw [hK]; exact dpt_isTX hk g1 (peek_ok g1 hv hl), F1, δ1, g1, Post.imp (fun y δ2 F2 H2 e2 g2 q2 u hu => ?_) (Post.bind q1)⟩
        rw [hK]
        obtain ⟨x', y', e, h⟩ := app_ok (rd_index true) g2 (.cons (hv.mono e2) (.cons hu .nil)) q2
        cases e
        exact h
      · rw [if_pos rfl] at q1
        exact q1.elim
      · exact q1.elim) (Post.bind q)⟩
theorem fin_ix {e : Expr} {t : TA} {cp : Pos} {pins : List (Addr × Obj)} {s : Shared} {σ : L2.St} {H : Hp} {x : V} {v : Value} {Q : VK} {id : String} {r : V → List V → Hp → VK → Prop} (ha : PA X [e] t) (J : Inv X pins σ H s) (rx : RelV x v) (hm : MtR X id r) (q : t σ H fun xs H2 => r x xs H2 Q)
    (hs : starEach [e] X.env = (false, eval e X.env) :: starEach [] X.env) (hp : (backTo cp (starEach [] X.env)).any (·.1) = false) : wpAny (model X.prog X.w) X.A (callWith cp (.builtin id) [v] (backTo cp (starEach [e] X.env)) []) (EP X pins σ Q) X.xe s := by
  have run := ha.run cp pins s σ H _ J q
  rw [hs] at run ⊢
  exact Calls.callWith_builtin (by show (false || (backTo cp (starEach [] X.env)).any (·.1)) = false; rw [hp] <;> rfl) (Calls.evalArgs_plain (thn run fun us s2 ⟨vs, H2, J2, r2, q2⟩ => hm pins s2 σ H2 x vs v us Q J2 rx r2 q2))
/-- the receiver of index is a list or a tuple -/
def tIxA (K : PySem.W.Frag) (to : TE) (t : TA) : TE := fun σ H Q => to σ H fun x H1 => (isTX K x H1 ∧ t σ H1 fun xs H2 => rIxA K true x xs H2 Q) ∨ (tyV K "list" x H1 ∧ t σ H1 fun xs H2 => rIxA K false x xs H2 Q)
theorem pe_ixA {o e : Expr} {to : TE} {t : TA} {ap cp : Pos} (ho : PE X o to) (ha : PA X [e] t)
    (hb : attributeBase o "index" X.env (eval o X.env) = eval o X.env := by rfl) (hf : ((backTo cp (starEach [e] X.env)).all (fun x => !x.1) && (backToKw cp (keywordEach [] X.env)).all (fun x => x.1.isSome) && decide ([e].length + ([] : List Keyword).length + (if ([] : List Keyword).isEmpty then 0 else 1) < 30)) = true := by rfl)
    (hl : (ap.endLine == cp.line) = true := by rfl) (hs : starEach [e] X.env = (false, eval e X.env) :: starEach [] X.env := by rfl) (hp : (backTo cp (starEach [] X.env)).any (·.1) = false := by rfl) : PE X (.Call (.Attribute o "index" ap) [e] [] cp) (tIxA X.K to t) := ⟨fun pins s σ H Q I q =>
  wpAny_Call_method_late hb hf hl rfl (thn (ho.run pins s σ H _ I q) fun v s1 ⟨x, H1, J, rx, q1⟩ => by
    rcases q1 with ⟨tx, q2⟩ | ⟨tx, q2⟩
    · have ⟨a1, a2⟩ := isTX_is J rx tx
      exact ⟨"tuple", "tuple.index", PySem.F.plainAttrs_tuple, PySem.F.slot_tuple_index, PySem.F.type_tuple_index, a1, a2, fin_ix ha J rx mt_ixT q2 hs hp⟩
    · have ⟨a1, a2⟩ := tyV_is J rx tx
      exact ⟨"list", "list.index", PySem.F.plainAttrs_list, PySem.F.slot_list_index, PySem.F.type_list_index, a1, a2, fin_ix ha J rx mt_ixL q2 hs hp⟩)⟩
/-- x.index(y), x a list or a tuple -/
def dIndexA (a b : DenA) : Den := fun δ => (a δ).bind fun x δ1 => match x.peek δ1 with
  | some (.tuple _) => (b δ1).bind fun y δ2 => app (fIndex true) [x, y] δ2
  | some (.list _) => (b δ1).bind fun y δ2 => app (fIndex false) [x, y] δ2
  | _ => .stuck
theorem ce_indexA {o e : Expr} {da db : DenA} {apos cpos : Pos} (hK : X.K = C.K) (hk : KX C.K) (ho : CEA C Wx X o da) (he : CEA C Wx X e db) (hbase : attributeBase o "index" X.env (eval o X.env) = eval o X.env := by rfl) (hfew : ((backTo cpos (starEach [e] X.env)).all (fun x => !x.1) && (backToKw cpos (keywordEach [] X.env)).all (fun x => x.1.isSome)
      && decide ([e].length + ([] : List Keyword).length + (if ([] : List Keyword).isEmpty then 0 else 1) < 30)) = true := by rfl) (hline : (apos.endLine == cpos.line) = true := by rfl) (hs : starEach [e] X.env = (false, eval e X.env) :: starEach [] X.env := by rfl) (hplain : (backTo cpos (starEach [] X.env)).any (·.1) = false := by rfl) :
    CE C Wx X (.Call (.Attribute o "index" apos) [e] [] cpos) (dIndexA da db) :=
  pe_imp (pe_ixA ho (pa_cons he pa_nil hs) hbase hfew hline hs hplain) fun σ H Q ⟨F, δ, g, q⟩ =>
    ⟨F, δ, g, Post.imp (fun x δ1 F1 H1 _ g1 q1 v hv => by
      split at q1
      · rename_i l hl
        refine .inl ⟨by rw [hK]; exact dpt_isTX hk g1 (peek_ok g1 hv hl), F1, δ1, g1, Post.imp (fun y δ2 F2 H2 e2 g2 q2 u hu => ?_) (Post.bind q1)⟩
        rw [hK]
        obtain ⟨x', y', e, h⟩ := app_ok (rd_index true) g2 (.cons (hv.mono e2) (.cons hu .nil)) q2
        cases e
        exact h
      · rename_i l hl
        obtain ⟨p, xs, rfl, h1, _⟩ := dpt_list (peek_ok g1 hv hl) g1.fh
        refine .inr ⟨.inl ⟨rfl, xs, by rw [hK]; exact h1⟩, F1, δ1, g1, Post.imp (fun y δ2 F2 H2 e2 g2 q2 u hu => ?_) (Post.bind q1)⟩
        rw [hK]
        obtain ⟨x', y', e, h⟩ := app_ok (rd_index false) g2 (.cons (hv.mono e2) (.cons hu .nil)) q2
        cases e
        exact h
      · exact q1.elim) (Post.bind q)⟩
/-- a slot's own list becomes data, ahead of a lambda that sees it -/
def frzD (i : Nat) (δ : Env) : Env := match δ[i]? with
  | some (some (.own l)) => δ.set i (some (.d (.list l)))
  | _ => δ
def wFrz (i : Nat) (d : DenW) : DenW := fun δ => d (frzD i δ)
theorem cw_frz {e : Expr} {d : DenW} (i : Nat) (h : CW C Wx X e d) : CW C Wx X e (wFrz i d) := pe_imp h fun σ H Q ⟨F, δ, g, q⟩ => by
  unfold wFrz frzD at q
  split at q
  · rename_i l e
    obtain ⟨p, F', h1, h2, h3, h4⟩ := g.freeze e
    exact ⟨F', _, h4, Post.mono h2 q⟩
  · exact ⟨F, δ, g, q⟩
end
end Mir

/-! dicts whose keys are ints: kept as a row of pairs -/
namespace Mir
open PySem PySem.Spec PyProof.Rows L2 MirX
open Evl (Ex)
def entE (k : Int) (x : PyData) : PyData := .tuple [.int k, x]
def isE (k : Int) : PyData → Bool
  | .tuple [.int j, _] => decide (j = k)
  | _ => false
def valE : PyData → PyData
  | .tuple [_, x] => x
  | _ => .none
def getM : List PyData → Int → Option PyData
  | [], _ => none
  | e :: l, k => if isE k e = true then some (valE e) else getM l k
def putM (l : List PyData) (k : Int) (x : PyData) : List PyData := if (l.any (isE k)) = true then l.map (fun e => if isE k e = true then entE k x else e) else l ++ [entE k x]
def dropM (l : List PyData) (k : Int) : List PyData := l.filter fun e => !isE k e
section
variable {K : PySem.W.Frag} {F : Hp}
theorem DKs.get {kvs : List (Key × V)} {l : List PyData} (h : DKs K F kvs l) (k : Int) : (∀ x, getM l k = some x → ∃ v, valV kvs (Sum.inl k : Key) = some v ∧ Dp K F v x) ∧ (getM l k = none → valV kvs (Sum.inl k : Key) = none) := by
  induction h with
  | nil => exact ⟨fun x e => (nomatch e), fun _ => rfl⟩
  | @cons i v x kvs l hd _ ih =>
    unfold getM
    by_cases c : i = k
    · subst c
      have e1 : isE i (.tuple [.int i, x]) = true := by simp [isE]
      rw [if_pos e1, valV_pos (by rfl)]
      exact ⟨fun y e => (by cases e; exact ⟨v, rfl, hd⟩), fun e => (nomatch e)⟩
    · have e1 : ¬ isE k (.tuple [.int i, x]) = true := by simp [isE, c]
      rw [if_neg e1, valV_neg (by intro z; cases z; exact c rfl)]
      exact ih
theorem DKs.anyE {kvs : List (Key × V)} {l : List PyData} (h : DKs K F kvs l) (k : Int) : (kvs.any fun kv => decide (kv.1 = (Sum.inl k : Key))) = l.any (isE k) := by
  induction h with
  | nil => rfl
  | @cons i v x kvs l hd _ ih =>
    rw [List.any_cons, List.any_cons, ih]
    congr 1
    by_cases c : i = k
    · subst c; simp [isE]
    · have : ¬ (Sum.inl i : Key) = Sum.inl k := fun z => c (Sum.inl.inj z)
      simp [isE, c, this]
theorem DKs.app {kvs : List (Key × V)} {l : List PyData} (h : DKs K F kvs l) {k : Int} {v : V} {x : PyData} (hd : Dp K F v x) : DKs K F (kvs ++ [(.inl k, v)]) (l ++ [entE k x]) := by
  induction h with
  | nil => exact .cons hd .nil
  | cons a _ ih => exact .cons a ih
theorem DKs.repl {kvs : List (Key × V)} {l : List PyData} (h : DKs K F kvs l) {k : Int} {v : V} {x : PyData} (hd : Dp K F v x) : DKs K F (kvs.map fun kv => if kv.1 = (Sum.inl k : Key) then (kv.1, v) else kv) (l.map fun e => if isE k e = true then entE k x else e) := by
  induction h with
  | nil => exact .nil
  | @cons i w y kvs l a _ ih =>
    rw [List.map_cons]; rw [List.map_cons]
    by_cases c : i = k
    · subst c
      have e1 : isE i (.tuple [.int i, y]) = true := by simp [isE]
      rw [if_pos (by rfl), if_pos e1]
      exact .cons hd ih
    · have e1 : ¬ isE k (.tuple [.int i, y]) = true := by simp [isE, c]
      rw [if_neg (fun z => c (Sum.inl.inj z)), if_neg e1]
      exact .cons a ih
theorem DKs.put {kvs : List (Key × V)} {l : List PyData} (h : DKs K F kvs l) {k : Int} {v : V} {x : PyData} (hd : Dp K F v x) : DKs K F (putK kvs (.inl k) v) (putM l k x) := by
  unfold putK putM
  rw [h.anyE k]
  split
  · exact h.repl hd
  · exact h.app hd
theorem DKs.drop {kvs : List (Key × V)} {l : List PyData} (h : DKs K F kvs l) (k : Int) : DKs K F (dropK kvs (.inl k)) (dropM l k) := by
  unfold dropK dropM
  induction h with
  | nil => exact .nil
  | @cons i w y kvs l a _ ih =>
    rw [List.filter_cons]; rw [List.filter_cons]
    by_cases c : i = k
    · subst c
      simp only [isE, decide_true, ne_eq, not_true_eq_false, decide_false, Bool.not_true, Bool.false_eq_true, if_false]
      exact ih
    · have e1 : isE k (.tuple [.int i, y]) = false := by simp [isE, c]
      rw [if_pos (by simp [c]), if_pos (by rw [e1]; rfl)]
      exact .cons a ih
theorem DKs.keys {kvs : List (Key × V)} {l : List PyData} (h : DKs K F kvs l) : ∃ ks : List Int, kvs.map (·.1) = ks.map Sum.inl ∧ ks.length = l.length ∧ ∀ (i : Nat) (k : Int), ks[i]? = some k → ∃ x, l[i]? = some (entE k x) := by
  induction h with
  | nil => exact ⟨[], rfl, rfl, fun i k e => by simp at e⟩
  | @cons i w y kvs l a _ ih =>
    obtain ⟨ks, h1, h2, h3⟩ := ih
    refine ⟨i :: ks, by rw [List.map_cons, List.map_cons, h1], by rw [List.length_cons, List.length_cons, h2], fun j k e => ?_⟩
    cases j with
    | zero => simp at e; subst e; exact ⟨y, rfl⟩
    | succ j => simpa using h3 j k (by simpa using e)
end
/-- the dict in slot i -/
def dAt (δ : Env) (i : Nat) : Option (List PyData) := match δ[i]? with
  | some (some (.dct l)) => some l
  | some (some (.bod l)) => some l
  | _ => none
section
variable {C : Ct} {Wx : WX} {X : Cx} {F H : Hp} {σ : L2.St} {δ : Env}
theorem dAt_w {i : Nat} {l : List PyData} (e : dAt δ i = some l) : ∃ w, δ[i]? = some (some w) ∧ w.cell = some (true, l) := by
  unfold dAt at e
  split at e
  · rename_i l' h; cases e; exact ⟨_, h, rfl⟩
  · rename_i l' h; cases e; exact ⟨_, h, rfl⟩
  · cases e
theorem Good.getM (g : Good C F H σ δ) {i : Nat} {l : List PyData} (e : dAt δ i = some l) : ∃ p kvs, σ[i]? = some (some (.ref p)) ∧ H p = some (.dK kvs) ∧ DKs C.K F kvs l := by
  obtain ⟨w, h1, h2⟩ := dAt_w e
  obtain ⟨p, o, k1, k2, ⟨kvs, rfl, k3⟩, _⟩ := g.getC h1 h2
  exact ⟨p, kvs, k1, k2, k3⟩
theorem dp_int {K : PySem.W.Frag} {v : V} {k : Int} (h : Dp K F v (.int k)) : v = .int k := by cases h; rfl
/-- {} -/
def wDict0 : DenW := fun δ => .ok (.dct []) δ
theorem cw_dict0 {pos : Pos} : CW C Wx X (.Dict [] [] pos) wDict0 := pe_imp pe_dnewK fun σ H Q ⟨F, δ, g, q⟩ p hp =>
  q F H (Ex.refl F) g _ F _ (Ex.refl F) (g.newC (w := .dct []) (d := true) hp rfl rfl ⟨[], rfl, .nil⟩)
/-- d[e] -/
def dDget (i : Nat) (dk : Den) : Den := fun δ => match dAt δ i with
  | none => .stuck
  | some _ => (dk δ).bind fun y δ1 => match y, dAt δ1 i with
    | .int k, some l => match getM l k with
      | some x => .ok x δ1
      | none => .stuck
    | _, _ => .stuck
theorem ce_dget {o e : Expr} {i : Nat} {dk : Den} {pos : Pos} (hu : X.A.units + 1 < cLine) (ho : PE X o (tVar i)) (he : CE C Wx X e dk) (hs : NoSl e) : CE C Wx X (.Subscript o e pos) (dDget i dk) :=
  pe_imp (pe_dget hu ho he hs) fun σ H Q ⟨F, δ, g, q⟩ => by
    unfold dDget at q
    split at q
    · exact q.elim
    · rename_i l0 e0
      obtain ⟨p, kvs, h1, _⟩ := g.getM e0
      refine ⟨_, h1, F, δ, g, Post.imp (fun y δ1 F1 H1 _ g1 q1 v hv => ?_) (Post.bind q)⟩
      split at q1
      · rename_i k l e1
        cases dp_int hv
        obtain ⟨p1, kvs1, k1, k2, k3⟩ := g1.getM e1
        rw [h1] at k1
        cases k1
        split at q1
        · rename_i x ex
          obtain ⟨v, m1, m2⟩ := (k3.get k).1 x ex
          exact ⟨p, v, rfl, by rw [← m1]; exact DGet.k (k := .inl k) k2, q1 F1 H1 (Ex.refl F1) g1 v m2⟩
        · exact q1.elim
      · exact q1.elim
/-- e in d, e not in d -/
def dDin (neg : Bool) (i : Nat) (dk : Den) : Den := fun δ => (dk δ).bind fun y δ1 => match y, dAt δ1 i with
  | .int k, some l => .ok (.bool (if neg then !(getM l k).isSome else (getM l k).isSome)) δ1
  | _, _ => .stuck
theorem getM_some {K : PySem.W.Frag} {kvs : List (Key × V)} {l : List PyData} (h : DKs K F kvs l) (k : Int) : (valV kvs (Sum.inl k : Key)).isSome = (getM l k).isSome := by
  cases e : Mir.getM l k with
  | none => rw [(h.get k).2 e]; rfl
  | some x =>
    obtain ⟨v, h1, _⟩ := (h.get k).1 x e
    rw [h1]; rfl
theorem pc_imp {op : CmpOp} {a b : Expr} {t t' : TE} (h : PC X op a b t) (k : ∀ σ H Q, t' σ H Q → t σ H Q) : PC X op a b t' := ⟨fun pins s σ H Q I q => h.run pins s σ H Q I (k σ H Q q)⟩
theorem din_ok {i : Nat} {dk : Den} {neg : Bool} : ∀ σ H Q, tE C Wx (dDin neg i dk) σ H Q → tE C Wx dk σ H fun y H1 => tVar i σ H1 fun x H2 => ∃ a o, x = .ref a ∧ DGet H2 a y o ∧ Q (.bl (if neg then !o.isSome else o.isSome)) H2 := fun σ H Q ⟨F, δ, g, q⟩ => by
  refine ⟨F, δ, g, Post.imp (fun y δ1 F1 H1 _ g1 q1 v hv => ?_) (Post.bind q)⟩
  split at q1
  · rename_i k l e1
    cases dp_int hv
    obtain ⟨p1, kvs1, k1, k2, k3⟩ := g1.getM e1
    refine ⟨_, k1, p1, _, rfl, DGet.k (k := .inl k) k2, ?_⟩
    rw [getM_some k3 k]
    exact q1 F1 H1 (Ex.refl F1) g1 _ (.bl _)
  · exact q1.elim
theorem pc_din' {o e : Expr} {i : Nat} {dk : Den} (hu : X.A.units + 1 < cLine) (he : CE C Wx X e dk) (ho : PE X o (tVar i)) : PC X .In e o (tE C Wx (dDin false i dk)) := pc_imp (pc_din hu he ho) fun σ H Q q => din_ok σ H Q q
theorem pc_dnotin' {o e : Expr} {i : Nat} {dk : Den} (hu : X.A.units + 1 < cLine) (he : CE C Wx X e dk) (ho : PE X o (tVar i)) : PC X .NotIn e o (tE C Wx (dDin true i dk)) := pc_imp (pc_dnotin hu he ho) fun σ H Q q => din_ok σ H Q q
theorem ce_din {o e : Expr} {i : Nat} {dk : Den} {pos : Pos} (hu : X.A.units + 1 < cLine) (he : CE C Wx X e dk) (ho : PE X o (tVar i)) (h1 : behindInMarks .In o = false := by first | exact nobehind _ (by decide) (by decide) | rfl) : CE C Wx X (.Compare e [.In] [o] pos) (dDin false i dk) := pe_cmp (pc_din' hu he ho) h1
theorem ce_dnotin {o e : Expr} {i : Nat} {dk : Den} {pos : Pos} (hu : X.A.units + 1 < cLine) (he : CE C Wx X e dk) (ho : PE X o (tVar i)) (h1 : behindInMarks .NotIn o = false := by first | exact nobehind _ (by decide) (by decide) | rfl) : CE C Wx X (.Compare e [.NotIn] [o] pos) (dDin true i dk) := pe_cmp (pc_dnotin' hu he ho) h1
theorem ct_din {o e : Expr} {i : Nat} {dk : Den} {pos : Pos} (hu : X.A.units + 1 < cLine) (he : CE C Wx X e dk) (ho : PE X o (tVar i)) (h1 : behindInMarks .In o = false := by first | exact nobehind _ (by decide) (by decide) | rfl) : CT C Wx X (.Compare e [.In] [o] pos) (bE (dDin false i dk)) := pt_imp (pt_cmp (pc_din' hu he ho) h1) bE_ok
theorem ct_dnotin {o e : Expr} {i : Nat} {dk : Den} {pos : Pos} (hu : X.A.units + 1 < cLine) (he : CE C Wx X e dk) (ho : PE X o (tVar i)) (h1 : behindInMarks .NotIn o = false := by first | exact nobehind _ (by decide) (by decide) | rfl) : CT C Wx X (.Compare e [.NotIn] [o] pos) (bE (dDin true i dk)) := pt_imp (pt_cmp (pc_dnotin' hu he ho) h1) bE_ok
/-- d[e] = v -/
def sDput (i : Nat) (dk dv : Den) : DenS := fun δ => (dv δ).to fun x δ1 => match dAt δ1 i with
  | none => .stuck
  | some _ => (dk δ1).to fun y δ2 => match y, dAt δ2 i, δ2[i]? with
    | .int k, some l, some (some w) => if l.length < line then .nx (δ2.set i (some (w.put (putM l k x)))) else .stuck
    | _, _, _ => .stuck
theorem cs_dput {o e v : Expr} {i : Nat} {dk dv : Den} {pos pos' : Pos} (hu : X.A.units + 1 < cLine) (ho : PE X o (tVar i)) (he : CE C Wx X e dk) (hv : CE C Wx X v dv) (hs : swapsWith v (some (.Subscript o e pos')) pos.line X.env = pure false := by rfl) :
    CS C Wx X (.Assign [.Subscript o e pos'] v pos) (sDput i dk dv) := ps_imp (ps_dput hu ho he hv hs) fun D σ H ⟨F, δ, g, q⟩ =>
  ⟨F, δ, g, Post.imp (fun x δ1 F1 H1 _ g1 q1 vv hvv => by
    split at q1
    · exact q1.elim
    · rename_i l0 e0
      obtain ⟨p, kvs, h1, _⟩ := g1.getM e0
      refine ⟨_, h1, F1, δ1, g1, Post.imp (fun y δ2 F2 H2 e2 g2 q2 u hu' => ?_) (Post.to q1)⟩
      split at q2
      · rename_i k l w e3 e4
        split at q2
        · rename_i hlt
          cases dp_int hu'
          obtain ⟨w', m1, m2⟩ := dAt_w e3
          rw [e4] at m1
          cases m1
          obtain ⟨p1, kvs1, k1, k2, k3⟩ := g2.getM e3
          rw [h1] at k1
          cases k1
          have hz : kvs1.length < sizeLine := by rw [k3.len]; exact line_lt hlt
          refine ⟨p, _, rfl, DPut.k (k := .inl k) k2 hz, q2 σ F2 _ (Ex.refl F2) (g2.writeC e4 m2 h1 ⟨_, rfl, k3.put (Dp.ex hvv e2)⟩)⟩
        · exact q2.elim
      · exact q2.elim) (Post.to q)⟩
/-- del d[e] -/
def sDdel (i : Nat) (dk : Den) : DenS := fun δ => match dAt δ i with
  | none => .stuck
  | some _ => (dk δ).to fun y δ2 => match y, dAt δ2 i, δ2[i]? with
    | .int k, some l, some (some w) => if (getM l k).isSome = true then .nx (δ2.set i (some (w.put (dropM l k)))) else .stuck
    | _, _, _ => .stuck
theorem cs_ddel {o e : Expr} {i : Nat} {dk : Den} {pos pos' : Pos} (ho : PE X o (tVar i)) (he : CE C Wx X e dk) :
    CS C Wx X (.Delete [.Subscript o e pos'] pos) (sDdel i dk) := ps_imp (ps_ddel ho he) fun D σ H ⟨F, δ, g, q⟩ => by
  unfold sDdel at q
  split at q
  · exact q.elim
  · rename_i l0 e0
    obtain ⟨p, kvs, h1, _⟩ := g.getM e0
    refine ⟨_, h1, F, δ, g, Post.imp (fun y δ2 F2 H2 e2 g2 q2 u hu' => ?_) (Post.to q)⟩
    split at q2
    · rename_i k l w e3 e4
      split at q2
      · rename_i hin
        cases dp_int hu'
        obtain ⟨w', m1, m2⟩ := dAt_w e3
        rw [e4] at m1
        cases m1
        obtain ⟨p1, kvs1, k1, k2, k3⟩ := g2.getM e3
        rw [h1] at k1
        cases k1
        exact ⟨p, kvs1, .inl k, rfl, k2, rfl, by rw [getM_some k3 k]; exact hin, q2 σ F2 _ (Ex.refl F2) (g2.writeC e4 m2 h1 ⟨_, rfl, k3.drop k⟩)⟩
      · exact q2.elim
    · exact q2.elim
/-- len(d) -/
def dDlen (i : Nat) : Den := fun δ => match dAt δ i with
  | some l => .ok (.int l.length) δ
  | none => .stuck
theorem ce_dlen {o : Expr} {i : Nat} {p pos : Pos} (hg : Gl X "len") (hm : X.mg "len" = none) (hv : bootBuiltins "len" = some (.builtin "len")) (ho : PE X o (tVar i)) (hs : starEach [o] X.env = (false, eval o X.env) :: starEach [] X.env := by rfl) (hpl : (backTo pos (starEach [] X.env)).any (·.1) = false := by rfl) :
    CE C Wx X (.Call (.Name "len" p) [o] [] pos) (dDlen i) := pe_imp (pe_callB call_lenD hg hm hv (pa_cons ho pa_nil hs) (by decide) (by decide) hs hpl) fun σ H Q ⟨F, δ, g, q⟩ => by
  unfold dDlen at q
  split at q
  · rename_i l e
    obtain ⟨p, kvs, k1, k2, k3⟩ := g.getM e
    refine ⟨_, k1, p, kvs, rfl, k2, ?_⟩
    rw [k3.len]
    exact q F H (Ex.refl F) g _ (.int _)
  · exact q.elim
end
end Mir

/-! range with a step, range as a value; any, all, sum, max, min, sorted -/
namespace Mir
open PySem PySem.Spec PyProof.Rows L2 MirX
open Evl (Ex)
def rgN (i j c : Int) : Nat := (Builtin.Range.rangeSize i j c).toNat
def rgOk (i j c : Int) : Bool := big i && big j && decide (c ≠ 0) && decide (c.natAbs < 1073741824)
theorem rgOk_ok {i j c : Int} (h : rgOk i j c = true) : RgC i j c (rgN i j c) := by
  unfold rgOk at h
  simp only [decide_eq_true_eq, Bool.and_eq_true] at h
  rcases h with ⟨⟨⟨h1, h2⟩, h3⟩, h4⟩
  obtain ⟨a1, a2⟩ := big_ok h1
  obtain ⟨b1, b2⟩ := big_ok h2
  have e : Builtin.Range.rangeSize i j c = (rgN i j c : Int) := rangeSize_toNat i j c
  have le := rangeSize_toNat_le i j c
  have le' : (rgN i j c : Int) ≤ (j - i).toNat + (i - j).toNat := by unfold rgN; omega
  refine ⟨h3, h4, ?_, e⟩
  unfold Builtin.Range.small
  rw [e]
  generalize rgN i j c = n at le'
  unfold Builtin.Range.rangeFitsLong
  simp only [Bool.and_eq_true, Bool.or_eq_true, decide_eq_true_eq, beq_iff_eq]
  refine ⟨⟨⟨⟨⟨?_, ?_⟩, ?_, ?_⟩, ?_, ?_⟩, ?_, ?_⟩, ?_⟩ <;> try omega
  right
  split <;> simp only [Bool.and_eq_true, decide_eq_true_eq] <;> omega
def stepD (lo c : Int) (n : Nat) : List PyData := (List.range n).map fun i => .int (lo + (i : Nat) * c)
theorem stepD_len (lo c : Int) (n : Nat) : (stepD lo c n).length = n := by simp [stepD]
theorem stepD_get (lo c : Int) {n i : Nat} (h : i < n) : (stepD lo c n)[i]? = some (.int (lo + (i : Nat) * c)) := by
  simp [stepD, h]
section
variable {C : Ct} {Wx : WX} {X : Cx} {F H : Hp} {σ : L2.St} {δ : Env} {tg : Expr}
def iRange3 (a b c : Den) : DenI := fun δ => (a δ).bind fun x δ1 => (b δ1).bind fun y δ2 => (c δ2).bind fun z δ3 => match x, y, z with
  | .int i, .int j, .int k => if rgOk i j k = true then .ok (stepD i k (rgN i j k)) δ3 else .stuck
  | _, _, _ => .stuck
theorem walk_rngC {u : Bool} {F : Hp} {lo c : Int} {n : Nat} : WalkD u C (Itc lo c n) F (stepD lo c n) := fun C2 hC2 F1 H1 σ δ e g => by
  rw [stepD_len]
  refine ⟨fun i hi => hi, Nat.le_refl _, fun i x H' hi hy => ?_⟩
  obtain ⟨rfl, rfl⟩ := hy
  exact ⟨F1, Ex.refl F1, g, _, stepD_get lo c hi, .inl (.int _)⟩
theorem ci_range3 {e e2 e3 : Expr} {d d2 d3 : Den} {p pos : Pos} (hg : Gl X "range") (hm : X.mg "range" = none) (h : CE C Wx X e d) (h' : CE C Wx X e2 d2) (h'' : CE C Wx X e3 d3) (hs : starEach [e, e2, e3] X.env = (false, eval e X.env) :: starEach [e2, e3] X.env := by rfl) (hs2 : starEach [e2, e3] X.env = (false, eval e2 X.env) :: starEach [e3] X.env := by rfl) (hs3 : starEach [e3] X.env = (false, eval e3 X.env) :: starEach [] X.env := by rfl) (hpl : (backTo pos (starEach [e2, e3] X.env)).any (·.1) = false := by rfl) : CI C Wx X tg (.Call (.Name "range" p) [e, e2, e3] [] pos) (iRange3 d d2 d3) :=
  pi_imp (pi_range3 hg hm (pa_cons h (pa_cons h' (pa_cons h'' pa_nil hs3) hs2) hs) hs hpl) fun σ H Q ⟨F, δ, g, q⟩ =>
  ⟨F, δ, g, Post.imp (fun x δ1 F1 H1 _ g1 q1 v hv => ⟨F1, δ1, g1, Post.imp (fun y δ2 F2 H2 e2 g2 q2 u hu => ⟨F2, δ2, g2, Post.imp (fun z δ3 F3 H3 e3 g3 q3 t ht => by
    split at q3
    · rename_i i j k
      split at q3
      · rename_i hj
        cases hv
        cases hu
        cases ht
        exact ⟨i, j, k, _, rfl, rgOk_ok hj, q3 F3 H3 (Ex.refl F3) g3 _ walk_rngC⟩
      · exact q3.elim
    · exact q3.elim) (Post.bind q2)⟩) (Post.bind q1)⟩) (Post.bind q)⟩
/-! ### a range as a value -/
def rngO (a b c : Int) (p : Addr) : HO := .ext fun h => ∃ t u v, IsRange h p a b c t u v
theorem rng_new {pins : List (Addr × Obj)} {s : Shared} {a b c : Int} {t u v : Tok} {tk : Nat} (I : Inv X pins σ H s) : Inv X pins σ (upd H s.heap.objs.size (rngO a b c s.heap.objs.size)) { s with heap := s.heap.push { cls := .type "range", data := .fields #[.int a t, .int b u, .int c v] }, toks := tk } :=
  I.laid (t' := tk) (o := rngO a b c s.heap.objs.size) (fun _ _ e => Heap.get?_push_of_some _ e) (Nat.le_refl _) ⟨⟨t, u, v, IsRange.new _ _ _ _ _ _ _⟩, ⟨_, Heap.get?_push_size _ rfl⟩, fun h1 h2 ⟨t, u, v, e⟩ k => ⟨t, u, v, k _ e⟩⟩
def rNew : List V → Option (Int × Int × Int)
  | [.int j] => some (0, j, 1)
  | [.int i, .int j] => some (i, j, 1)
  | [.int i, .int j, .int k] => some (i, j, k)
  | _ => none
theorem cr_rng : CallR X (.type "range") (fun vs H Q => ∃ i j c, rNew vs = some (i, j, c) ∧ c ≠ 0 ∧ c.natAbs < 1073741824 ∧ ∀ p, H p = none → Q (.ref p) (upd H p (rngO i j c p))) := by
  intro pins s σ H vs us Q I
  intro r h
  obtain ⟨i, j, c, e, c0, c1, q⟩ := h
  unfold rNew at e
  split at e
  · cases e
    obtain ⟨u1, rfl, r1⟩ := vals1 r
    obtain ⟨t, rfl⟩ := r1
    refine call_range_1 ?_
    exact ⟨.ref _, _, rng_new I, rfl, q _ (I.hok.fresh (Nat.le_refl _))⟩
  · cases e
    rcases vals2 r with ⟨u1, u2, rfl, r1, r2⟩
    obtain ⟨t, rfl⟩ := r1
    obtain ⟨u, rfl⟩ := r2
    refine call_range_2 ?_
    exact ⟨.ref _, _, rng_new I, rfl, q _ (I.hok.fresh (Nat.le_refl _))⟩
  · cases e
    cases r with
    | cons r1 rr =>
      cases rr with
      | cons r2 rr =>
        cases rr with
        | cons r3 rr =>
          cases rr
          obtain ⟨t, rfl⟩ := r1
          obtain ⟨u, rfl⟩ := r2
          obtain ⟨v, rfl⟩ := r3
          refine call_range_3 (c0) ?_ (.inl (PyProof.noPylong_small (c1)))
          exact ⟨.ref _, _, rng_new I, rfl, q _ (I.hok.fresh (Nat.le_refl _))⟩
  · cases e
theorem vals_items {f : Nat → Int} : ∀ {acc : Array Value} {n : Nat}, ItemsOf (fun i v => ∃ t, v = .int (f i) t) acc n → Vals ((List.range n).map fun i => V.int (f i)) acc.toList := by
  intro acc n h
  have key : ∀ (l : List Value) (m k : Nat), l.length = k → (∀ (j : Nat) (v : Value), l[j]? = some v → ∃ t, v = .int (f (m + j)) t) → Vals ((List.range' m k).map fun i => V.int (f i)) l := by
    intro l
    induction l with
    | nil => intro m k hk _; cases k with
      | zero => exact .nil
      | succ k => simp at hk
    | cons v l ih =>
      intro m k hk hv
      cases k with
      | zero => simp at hk
      | succ k =>
        rw [List.range'_succ, List.map_cons]
        refine .cons ?_ (ih (m + 1) k (by simpa using hk) fun j w e => ?_)
        · obtain ⟨t, rfl⟩ := hv 0 v rfl
          exact ⟨t, rfl⟩
        · have := hv (j + 1) w (by simpa using e)
          rwa [show m + (j + 1) = m + 1 + j by omega] at this
  rw [List.range_eq_range']
  exact key _ 0 n (by rw [Array.length_toList]; exact h.1) fun j v e => by
    rw [Nat.zero_add]
    exact h.2 j v (by rw [← Array.getElem?_toList]; exact e)
theorem cr_listRng (hc : X.calm = true) : CallR X (.type "list") (fun vs H Q => ∃ p i j c n, vs = [.ref p] ∧ H p = some (rngO i j c p) ∧ RgC i j c n ∧ n ≤ line ∧ ∀ l, H l = none → Q (.ref l) (upd H l (.lst ((List.range n).map fun (t : Nat) => V.int (i + t * c))))) := by
  intro pins s σ H vs us Q I
  intro r h
  obtain ⟨p, i, j, c, n, rfl, hp, ⟨c0, c1, c2, c3⟩, hn, q⟩ := h
  rw [Vals.ref1 r]
  obtain ⟨⟨t, u, v, hr⟩, _, _⟩ := I.hok p _ hp
  refine call_list_range (I.ok.hd hc) hr c2 c3 (by have : line = 100000 := rfl; omega) fun h' tk acc' c' hk he hit => ?_
  have hv := vals_items hit
  refine ⟨.ref _, upd H s.heap.objs.size _, I.laid (t' := tk) hk (Nat.le_refl _) (show ObjOk X.prog X.w _ h' _ (.lst _) from ⟨?_, acc'.toList, c', hv, by simpa using he⟩), rfl, q _ (I.hok.fresh (Nat.le_refl _))⟩
  rw [List.length_map]; rw [List.length_range]
  exact line_ok hn
end
end Mir

namespace Mir
open PySem PySem.Spec PyProof.Rows L2 MirX
open Evl (Ex)
theorem q_containsC (r : Addr) (a b c i : Int) (t u v k : Tok) :
    Meets (Builtin.«range.__contains__» ⟨[.ref r, .int i k], []⟩) (fun _ R s => s.heap.get? r = some { cls := .type "range", dict := none, data := .fields #[.int a t, .int b u, .int c v], slots := #[] } ∧ R (.ok (.ret (.bool (Builtin.Range.rangePlace? a b c i).isSome))) s) :=
  .of_wp fun prog w A R s h => (by obtain ⟨hp, g, d, tk, os⟩ := s; obtain ⟨hl, h⟩ := h; wp_walk; exact ⟨_, rfl, h⟩)
def inRng (i j c x : Int) : Bool := (Builtin.Range.rangePlace? i j c x).isSome
theorem inRng_pos {i j c x : Int} (hc : 0 < c) : inRng i j c x = decide (i ≤ x ∧ x < j ∧ (x - i) % c = 0) := by
  unfold inRng Builtin.Range.rangePlace?
  by_cases h1 : i ≤ x <;> by_cases h2 : x < j <;> by_cases h3 : (x - i) % c = 0 <;> simp [h1, h2, h3, hc]
section
variable {C : Ct} {Wx : WX} {X : Cx} {F H : Hp} {σ : L2.St} {δ : Env} {tg : Expr}
theorem op_in_rngC : OpR X (compareOp .In) (fun x y H Q => ∃ k a i j c, x = V.int k ∧ y = V.ref a ∧ H a = some (rngO i j c a) ∧ Q (.bl (inRng i j c k)) H) := by
  intro pins s σ H x y v u Q
  intro I rx ry h
  obtain ⟨k, a, i, j, c, rfl, rfl, ha, q⟩ := h
  obtain ⟨tk, rfl⟩ := rx
  rcases ry with rfl : u = Value.ref a
  obtain ⟨⟨t1, t2, t3, ho⟩, _, _⟩ := I.hok a _ ha
  show wpAny _ _ (do return Value.bool (← contains (Value.ref a) (Value.int k tk))) _ _ s
  refine wpAny_bind (wpAny_contains_slot (T := "range") ⟨_, ho, rfl⟩ F.slot_range_contains (call_meets F.slot_range_contains ⟨_, ho, rfl⟩ F.entry_range_contains (F.args_range_contains_2 _ _) (q_containsC a i j c k t1 t2 t3 tk)
    ⟨ho, wpAny_truthy_bool (wpAny_pure ⟨.bl _, H, I, rfl, q⟩)⟩))
theorem op_nin_rngC : OpR X (compareOp .NotIn) (fun x y H Q => ∃ k a i j c, x = V.int k ∧ y = V.ref a ∧ H a = some (rngO i j c a) ∧ Q (.bl (!inRng i j c k)) H) := by
  intro pins s σ H x y v u Q
  intro I rx ry h
  obtain ⟨k, a, i, j, c, rfl, rfl, ha, q⟩ := h
  obtain ⟨tk, rfl⟩ := rx
  rcases ry with rfl : u = Value.ref a
  obtain ⟨⟨t1, t2, t3, ho⟩, _, _⟩ := I.hok a _ ha
  show wpAny _ _ (do return Value.bool (!(← contains (Value.ref a) (Value.int k tk)))) _ _ s
  refine wpAny_bind (wpAny_contains_slot (T := "range") ⟨_, ho, rfl⟩ F.slot_range_contains (call_meets F.slot_range_contains ⟨_, ho, rfl⟩ F.entry_range_contains (F.args_range_contains_2 _ _) (q_containsC a i j c k t1 t2 t3 tk)
    ⟨ho, wpAny_truthy_bool (wpAny_pure ⟨.bl _, H, I, rfl, q⟩)⟩))
def rngArgs : List PyData → Option (Int × Int × Int)
  | [.int j] => some (0, j, 1)
  | [.int i, .int j] => some (i, j, 1)
  | [.int i, .int j, .int k] => some (i, j, k)
  | _ => none
theorem rngArgs_ok {xs : List PyData} {r : Int × Int × Int} {vs : List V} (h : rngArgs xs = some r) (d : DpTs C.K F H vs xs) : rNew vs = some r := by
  unfold rngArgs at h
  split at h
  · cases h
    obtain ⟨v, rfl, h1⟩ := dpts1 d
    rw [dpt_int h1]; rfl
  · cases h
    obtain ⟨v, u, rfl, h1, h2⟩ := dpts2 d
    rw [dpt_int h1, dpt_int h2]; rfl
  · cases h
    match vs, d with
    | [v, u, t], ⟨h1, h2, h3, _⟩ => rw [dpt_int h1, dpt_int h2, dpt_int h3]; rfl
  · cases h
def rngOf (xs : List AV) (δ : Env) : Option (Int × Int × Int) := (peekAll δ xs).bind rngArgs
/-- list(range(..)) -/
def wListRng (as : DenL) : DenW := fun δ => (as δ).bind fun xs δ1 => match rngOf xs δ1 with
  | some (i, j, c) => if rgOk i j c = true ∧ rgN i j c ≤ line then .ok (.own (stepD i c (rgN i j c))) δ1 else .stuck
  | none => .stuck
theorem stepD_dp {K : PySem.W.Frag} {i c : Int} {n : Nat} : DpAll K F ((List.range n).map fun (t : Nat) => V.int (i + t * c)) (stepD i c n) := by
  unfold stepD
  generalize List.range n = l
  induction l with
  | nil => exact .nil
  | cons a l ih => exact .cons (.int _) ih
theorem rngOf_ok {xs : List AV} {r : Int × Int × Int} {vs : List V} (g : Good C F H σ δ) (h : rngOf xs δ = some r) (d : RepAVs C F σ vs xs) : rNew vs = some r := by
  unfold rngOf at h
  cases e : peekAll δ xs with
  | none => rw [e] at h; (cases h)
  | some ys =>
    rw [e] at h
    exact rngArgs_ok h (peekAll_ok g d e)
theorem cw_listRng {e : Expr} {es : List Expr} {d : DenL} {p p2 pos pos2 : Pos} (hc : X.calm = true) (hgl : Gl X "list") (hml : X.mg "list" = none) (hvl : bootBuiltins "list" = some (.type "list")) (hg : Gl X "range") (hm : X.mg "range" = none) (hv : bootBuiltins "range" = some (.type "range"))
    (ha : CAL C Wx X (e :: es) d) (he : starEach (e :: es) X.env = (false, eval e X.env) :: starEach es X.env := by rfl) (hpl : (backTo pos2 (starEach es X.env)).any (·.1) = false := by rfl)
    (he2 : starEach [.Call (.Name "range" p2) (e :: es) [] pos2] X.env = (false, eval (.Call (.Name "range" p2) (e :: es) [] pos2) X.env) :: starEach [] X.env := by rfl) (hpl2 : (backTo pos (starEach [] X.env)).any (·.1) = false := by rfl) :
    CW C Wx X (.Call (.Name "list" p) [.Call (.Name "range" p2) (e :: es) [] pos2] [] pos) (wListRng d) :=
  pe_imp (pe_callTy (cr_listRng hc) hgl hml hvl (pa_cons (pe_callTy cr_rng hg hm hv ha (by decide) (by decide) he hpl) pa_nil he2) (by decide) (by decide) he2 hpl2) fun σ H Q ⟨F, δ, g, q⟩ =>
    ⟨F, δ, g, Post.imp (fun xs δ1 F1 H1 _ g1 q1 vs hvs => by
      split at q1
      · rename_i i j c hr
        split at q1
        · rename_i hok
          obtain ⟨h1, h2⟩ := hok
          have rc := rgOk_ok h1
          refine ⟨i, j, c, rngOf_ok g1 hr hvs, rc.1, rc.2.1, fun p hp => ⟨p, i, j, c, _, rfl, upd_same, rc, h2, fun l hl => ?_⟩⟩
          have g2 := g1.grow (o := rngO i j c p) hp trivial
          exact q1 F1 H1 (Ex.refl F1) g1 _ _ _ (Ex.new (g1.new0 hp).1) (g2.newOwn hl stepD_dp)
        · exact q1.elim
      · exact q1.elim) (Post.bind q)⟩
/-- e in range(..), e not in range(..) -/
def dInRng (neg : Bool) (a : Den) (as : DenL) : Den := fun δ => (a δ).bind fun x δ1 => (as δ1).bind fun xs δ2 => match x, rngOf xs δ2 with
  | .int k, some (i, j, c) => if c ≠ 0 ∧ c.natAbs < 1073741824 then .ok (.bool (if neg then !inRng i j c k else inRng i j c k)) δ2 else .stuck
  | _, _ => .stuck
theorem inRng_ok {neg : Bool} {a : Den} {d : DenL} : ∀ σ H Q, tE C Wx (dInRng neg a d) σ H Q → tE C Wx a σ H fun v H1 => tAL C Wx d σ H1 fun vs H2 => ∃ i j c, rNew vs = some (i, j, c) ∧ c ≠ 0 ∧ c.natAbs < 1073741824 ∧ ∀ p, H2 p = none → ∃ k, v = V.int k ∧ Q (.bl (if neg then !inRng i j c k else inRng i j c k)) (upd H2 p (rngO i j c p)) := fun σ H Q ⟨F, δ, g, q⟩ =>
  ⟨F, δ, g, Post.imp (fun x δ1 F1 H1 _ g1 q1 v hv => ⟨F1, δ1, g1, Post.imp (fun xs δ2 F2 H2 _ g2 q2 vs hvs => by
    split at q2
    · rename_i k i j c hr
      split at q2
      · rename_i hc
        cases dp_int hv
        refine ⟨i, j, c, rngOf_ok g2 hr hvs, hc.1, hc.2, fun p hp => ⟨k, rfl, ?_⟩⟩
        have g3 := g2.grow (o := rngO i j c p) hp trivial
        exact q2 _ _ (Ex.new (g2.new0 hp).1) g3 _ (.bl _)
      · exact q2.elim
    · exact q2.elim) (Post.bind q1)⟩) (Post.bind q)⟩
theorem ce_inRng {x e : Expr} {es : List Expr} {a : Den} {d : DenL} {p2 pos pos2 : Pos} (hg : Gl X "range") (hm : X.mg "range" = none) (hv : bootBuiltins "range" = some (.type "range")) (hx : CE C Wx X x a)
    (ha : CAL C Wx X (e :: es) d) (he : starEach (e :: es) X.env = (false, eval e X.env) :: starEach es X.env := by rfl) (hpl : (backTo pos2 (starEach es X.env)).any (·.1) = false := by rfl)
    (h1 : behindInMarks .In (.Call (.Name "range" p2) (e :: es) [] pos2) = false := by first | exact nobehind _ (by decide) (by decide) | rfl) : CE C Wx X (.Compare x [.In] [.Call (.Name "range" p2) (e :: es) [] pos2] pos) (dInRng false a d) :=
  pe_imp (pe_cmpR op_in_rngC hx (pe_callTy cr_rng hg hm hv ha (by decide) (by decide) he hpl) h1) fun σ H Q q => by
    obtain ⟨F, δ, g, q⟩ := inRng_ok σ H Q q
    exact ⟨F, δ, g, Post.imp (fun x δ1 F1 H1 _ g1 q1 v hv => by
      obtain ⟨F2, δ2, g2, q2⟩ := q1 v hv
      exact ⟨F2, δ2, g2, Post.imp (fun xs δ3 F3 H3 _ g3 q3 vs hvs => by
        obtain ⟨i, j, c, e1, e2, e3, q4⟩ := q3 vs hvs
        exact ⟨i, j, c, e1, e2, e3, fun p hp => by
          obtain ⟨k, rfl, q5⟩ := q4 p hp
          exact ⟨k, p, i, j, c, rfl, rfl, upd_same, q5⟩⟩) q2⟩) q⟩
theorem ce_ninRng {x e : Expr} {es : List Expr} {a : Den} {d : DenL} {p2 pos pos2 : Pos} (hg : Gl X "range") (hm : X.mg "range" = none) (hv : bootBuiltins "range" = some (.type "range")) (hx : CE C Wx X x a)
    (ha : CAL C Wx X (e :: es) d) (he : starEach (e :: es) X.env = (false, eval e X.env) :: starEach es X.env := by rfl) (hpl : (backTo pos2 (starEach es X.env)).any (·.1) = false := by rfl)
    (h1 : behindInMarks .NotIn (.Call (.Name "range" p2) (e :: es) [] pos2) = false := by first | exact nobehind _ (by decide) (by decide) | rfl) : CE C Wx X (.Compare x [.NotIn] [.Call (.Name "range" p2) (e :: es) [] pos2] pos) (dInRng true a d) :=
  pe_imp (pe_cmpR op_nin_rngC hx (pe_callTy cr_rng hg hm hv ha (by decide) (by decide) he hpl) h1) fun σ H Q q => by
    obtain ⟨F, δ, g, q⟩ := inRng_ok σ H Q q
    exact ⟨F, δ, g, Post.imp (fun x δ1 F1 H1 _ g1 q1 v hv => by
      obtain ⟨F2, δ2, g2, q2⟩ := q1 v hv
      exact ⟨F2, δ2, g2, Post.imp (fun xs δ3 F3 H3 _ g3 q3 vs hvs => by
        obtain ⟨i, j, c, e1, e2, e3, q4⟩ := q3 vs hvs
        exact ⟨i, j, c, e1, e2, e3, fun p hp => by
          obtain ⟨k, rfl, q5⟩ := q4 p hp
          exact ⟨k, p, i, j, c, rfl, rfl, upd_same, q5⟩⟩) q2⟩) q⟩
theorem ct_inRng {x e : Expr} {es : List Expr} {a : Den} {d : DenL} {p2 pos pos2 : Pos} (hg : Gl X "range") (hm : X.mg "range" = none) (hv : bootBuiltins "range" = some (.type "range")) (hx : CE C Wx X x a)
    (ha : CAL C Wx X (e :: es) d) (he : starEach (e :: es) X.env = (false, eval e X.env) :: starEach es X.env := by rfl) (hpl : (backTo pos2 (starEach es X.env)).any (·.1) = false := by rfl)
    (h1 : behindInMarks .In (.Call (.Name "range" p2) (e :: es) [] pos2) = false := by first | exact nobehind _ (by decide) (by decide) | rfl) : CT C Wx X (.Compare x [.In] [.Call (.Name "range" p2) (e :: es) [] pos2] pos) (bE (dInRng false a d)) :=
  pt_imp (pt_cmpR op_in_rngC hx (pe_callTy cr_rng hg hm hv ha (by decide) (by decide) he hpl) h1) fun σ H Q q => by
    obtain ⟨F, δ, g, q⟩ := inRng_ok σ H _ (bE_ok σ H Q q)
    exact ⟨F, δ, g, Post.imp (fun x δ1 F1 H1 _ g1 q1 v hv => by
      obtain ⟨F2, δ2, g2, q2⟩ := q1 v hv
      exact ⟨F2, δ2, g2, Post.imp (fun xs δ3 F3 H3 _ g3 q3 vs hvs => by
        obtain ⟨i, j, c, e1, e2, e3, q4⟩ := q3 vs hvs
        exact ⟨i, j, c, e1, e2, e3, fun p hp => by
          obtain ⟨k, rfl, q5⟩ := q4 p hp
          exact ⟨k, p, i, j, c, rfl, rfl, upd_same, q5⟩⟩) q2⟩) q⟩
theorem ct_ninRng {x e : Expr} {es : List Expr} {a : Den} {d : DenL} {p2 pos pos2 : Pos} (hg : Gl X "range") (hm : X.mg "range" = none) (hv : bootBuiltins "range" = some (.type "range")) (hx : CE C Wx X x a)
    (ha : CAL C Wx X (e :: es) d) (he : starEach (e :: es) X.env = (false, eval e X.env) :: starEach es X.env := by rfl) (hpl : (backTo pos2 (starEach es X.env)).any (·.1) = false := by rfl)
    (h1 : behindInMarks .NotIn (.Call (.Name "range" p2) (e :: es) [] pos2) = false := by first | exact nobehind _ (by decide) (by decide) | rfl) : CT C Wx X (.Compare x [.NotIn] [.Call (.Name "range" p2) (e :: es) [] pos2] pos) (bE (dInRng true a d)) :=
  pt_imp (pt_cmpR op_nin_rngC hx (pe_callTy cr_rng hg hm hv ha (by decide) (by decide) he hpl) h1) fun σ H Q q => by
    obtain ⟨F, δ, g, q⟩ := inRng_ok σ H _ (bE_ok σ H Q q)
    exact ⟨F, δ, g, Post.imp (fun x δ1 F1 H1 _ g1 q1 v hv => by
      obtain ⟨F2, δ2, g2, q2⟩ := q1 v hv
      exact ⟨F2, δ2, g2, Post.imp (fun xs δ3 F3 H3 _ g3 q3 vs hvs => by
        obtain ⟨i, j, c, e1, e2, e3, q4⟩ := q3 vs hvs
        exact ⟨i, j, c, e1, e2, e3, fun p hp => by
          obtain ⟨k, rfl, q5⟩ := q4 p hp
          exact ⟨k, p, i, j, c, rfl, rfl, upd_same, q5⟩⟩) q2⟩) q⟩
end
end Mir

/-! any, all, sum, max, min, sorted of a list or a tuple -/
namespace Mir
open PySem PySem.Spec PyProof.Rows L2 MirX
open Evl (Ex)
/-! ### rows of ints in their order -/
def lexL : List Int → List Int → Bool
  | [], [] => false
  | [], _ :: _ => true
  | _ :: _, [] => false
  | x :: xs, y :: ys => if x = y then lexL xs ys else decide (x < y)
theorem lexL_irr : ∀ x : List Int, lexL x x = false
  | [] => rfl
  | a :: x => by simp [lexL, lexL_irr x]
theorem lexL_asym : ∀ x y : List Int, lexL x y = true → lexL y x = false
  | [], [], h => by cases h
  | [], _ :: _, _ => rfl
  | _ :: _, [], h => by cases h
  | a :: x, b :: y, h => by
    unfold lexL at h ⊢
    by_cases c : a = b
    · subst c
      rw [if_pos rfl] at h ⊢
      exact lexL_asym x y h
    · rw [if_neg c] at h
      rw [if_neg (Ne.symm c)]
      have h' := of_decide_eq_true h
      refine decide_eq_false (by omega)
theorem lexL_tr : ∀ x y z : List Int, lexL y x = false → lexL z y = false → lexL z x = false
  | [], [], [], _, _ => rfl
  | [], [], _ :: _, _, h => by cases h; rfl
  | [], _ :: _, [], _, h => by cases h
  | .nil, _ :: _, _ :: _, _, _ => rfl
  | _ :: _, [], [], h, _ => by cases h
  | _ :: _, [], _ :: _, h, _ => by cases h
  | _ :: _, _ :: _, [], _, h => by cases h
  | a :: x, b :: y, c :: z, h1, h2 => by
    unfold lexL at h1 h2 ⊢
    by_cases e1 : b = a
    · subst e1
      rw [if_pos rfl] at h1
      by_cases e2 : c = b
      · subst e2
        rw [if_pos rfl] at h2 ⊢
        exact lexL_tr x y z h1 h2
      · rw [if_neg e2] at h2 ⊢
        exact h2
    · rw [if_neg e1] at h1
      have k1 := of_decide_eq_false h1
      by_cases e2 : c = b
      · subst e2
        rw [if_neg e1]
        exact h1
      · rw [if_neg e2] at h2
        have k2 := of_decide_eq_false h2
        have e3 : ¬ c = a := by omega
        rw [if_neg e3]
        refine decide_eq_false (by omega)
theorem lexL_swo : SrtO.Swo lexL := ⟨lexL_asym, lexL_tr⟩
/-- put in behind all that is not above it -/
def insB {α : Type} (lt : α → α → Bool) (x : α) : List α → List α
  | [] => [x]
  | y :: l => if lt x y = true then x :: y :: l else y :: insB lt x l
def sortB {α : Type} (lt : α → α → Bool) (l : List α) : List α := l.foldl (fun acc x => insB lt x acc) []
section
variable {α : Type}
variable {lt : α → α → Bool}
theorem insB_split (x : α) : ∀ l : List α, SrtO.Srtd lt l → ∃ M N : List α, l = M ++ N ∧ insB lt x l = M ++ x :: N ∧ (∀ y ∈ M, lt x y = false) ∧ (∀ y, N.head? = some y → lt x y = true)
  | [], _ => ⟨[], [], rfl, rfl, fun _ h => (nomatch h), fun _ h => (nomatch h)⟩
  | y :: l, h => by
    unfold insB
    by_cases c : lt x y = true
    · rw [if_pos c]
      exact ⟨[], y :: l, rfl, rfl, fun _ h => (nomatch h), fun z hz => (by cases hz; exact c)⟩
    · rw [if_neg c]
      obtain ⟨M, N, e1, e2, h1, h2⟩ := insB_split x l (List.pairwise_cons.mp h).2
      refine ⟨y :: M, N, by rw [e1]; rfl, by rw [e2]; rfl, fun z hz => ?_, h2⟩
      obtain rfl | hz := List.mem_cons.mp hz
      · simpa using c
      · exact h1 z hz
theorem sortB_ok (O : SrtO.Swo lt) (l : List α) : SrtO.Srtd lt (sortB lt l) ∧ SrtO.Stb lt (sortB lt l) l := by
  have key : ∀ (l acc done : List α), SrtO.Srtd lt acc → SrtO.Stb lt acc done → SrtO.Srtd lt (l.foldl (fun acc x => insB lt x acc) acc) ∧ SrtO.Stb lt (l.foldl (fun acc x => insB lt x acc) acc) (done ++ l) := by
    intro l
    induction l with
    | nil => intro acc done h1 h2; rw [List.append_nil]; exact ⟨h1, h2⟩
    | cons x l ih =>
      intro acc done h1 h2
      rw [List.foldl_cons]
      obtain ⟨M, N, e1, e2, k1, k2⟩ := insB_split x acc h1
      have kN : ∀ y ∈ N, lt x y = true := by
        rw [e1] at h1
        have hN := (SrtO.srtd_app.mp h1).2.1
        cases N with
        | nil => intro y hy; cases hy
        | cons n N => exact O.lt_all hN (k2 n rfl)
      have s1 : SrtO.Srtd lt (insB lt x acc) := by
        rw [e2]
        exact SrtO.ins_srtd O (by rw [← e1]; exact h1) k1 kN
      have s2 : SrtO.Stb lt (insB lt x acc) (done ++ [x]) := by
        rw [e2]
        exact SrtO.ins_stb O kN (by rw [← e1]; exact h2)
      have := ih (insB lt x acc) (done ++ [x]) s1 s2
      rwa [List.append_assoc] at this
  have := key l [] [] List.Pairwise.nil (SrtO.Stb.refl _)
  rwa [List.nil_append] at this
theorem sortB_uniq (O : SrtO.Swo lt) {l m : List α} (h1 : SrtO.Srtd lt m) (h2 : SrtO.Stb lt m l) : m = sortB lt l := by
  obtain ⟨k1, k2⟩ := sortB_ok O l
  exact SrtO.stb_uniq O h1 k1 (h2.trans ⟨k2.perm.symm, fun x => (k2.cls x).symm⟩)
end
abbrev ltI (x y : Int) : Bool := decide (x < y)
theorem ltI_swo : SrtO.Swo ltI := ⟨fun x y h => by have := of_decide_eq_true h; exact decide_eq_false (by omega), fun x y z h1 h2 => by have := of_decide_eq_false h1; have := of_decide_eq_false h2; exact decide_eq_false (by omega)⟩
theorem perm_stbI {l m : List Int} (p : l.Perm m) : SrtO.Stb ltI l m := ⟨p, fun x => by
  have e : ∀ k : List Int, k.filter (SrtO.eqv ltI x) = List.replicate (k.count x) x := by
    intro k
    have : k.filter (SrtO.eqv ltI x) = k.filter (· == x) := by
      apply List.filter_congr
      intro y _
      unfold SrtO.eqv ltI
      by_cases c : y = x
      · subst c; simp
      · have : x < y ∨ y < x := by omega
        rcases this with h | h <;> simp [h, c]
    rw [this, List.filter_beq]
  rw [e, e, p.count_eq]⟩
/-! ### rows of ints compared as Python's tuples -/
section
variable {prog : Program}
variable {w : World}
variable {A : Around}
variable {s : Shared}
theorem katL {fin : Bool} {R : Bool} : ∀ {ns ms : List Int} {vs us : List Value} (i : Nat), IntsAre vs ns → IntsAre us ms → fin = decide (ns.length < ms.length) → R = lexL ns ms →
    PySem.W.KatLex prog w A true fin (fun r s' => s' = s ∧ r = R) (vs.zip us) i s
  | [], [], _, _, i, .nil, .nil, hf, hR => by
    refine PySem.W.kat_nil ⟨rfl, ?_⟩
    rw [hf, hR]; rfl
  | [], m :: ms, _, _, i, .nil, .cons _ _ _, hf, hR => by
    refine PySem.W.kat_nil ⟨rfl, ?_⟩
    rw [hf, hR]
    simp [lexL]
  | n :: ns, [], _, _, i, .cons _ _ _, .nil, hf, hR => by
    refine PySem.W.kat_nil ⟨rfl, ?_⟩
    rw [hf, hR]
    simp [lexL]
  | n :: ns, m :: ms, _, _, i, .cons _ t hv, .cons _ u hu, hf, hR => by
    refine PySem.W.kat_cons (SeqAt.EqAt.int_int n t m u prog w _ _ ?_)
    refine (PySem.W.kat_go (fun e1 => ?_) (fun e1 => ?_))
    · have ex : n = m := by simpa using e1
      refine PySem.W.kat_yes (katL (i + 1) hv hu (by rw [hf]; simp) ?_)
      rw [hR, lexL, if_pos ex]
    · have ex : ¬ n = m := by simpa using e1
      have e3 : lexL (n :: ns) (m :: ms) = decide (n < m) := by rw [lexL, if_neg ex]
      refine PySem.W.kat_no (TS.oneLt_ints _ ?_)
      exact ⟨rfl, by rw [hR, e3]⟩
theorem tup_cmp {vs : List Value} {k : Value → List Int} (hp : ∀ v ∈ vs, TS.TupInts s.heap v (k v)) : SrtO.Cmp prog w A s (tuples' true) (fun p => p.1 ∈ vs) (SrtO.lt2 fun v u => lexL (k v) (k u)) := by
  intro p q hm hm'
  obtain ⟨a, xs, e, ⟨o, ho, hc, n, hd⟩, i1⟩ := hp _ hm
  obtain ⟨a', ys, e', ⟨o', ho', hc', n', hd'⟩, i2⟩ := hp _ hm'
  show wpAny (model prog w) A (keyLt' (tuples' true) p.1 q.1) (fun r s' => s' = s ∧ r = lexL (k p.1) (k q.1)) (fun _ _ => False) s
  rw [e, e']
  refine (PySem.W.kat_lt ho hd ho' hd' ?_)
  rw [← e, ← e']
  refine katL 0 i1 i2 ?_ rfl
  have l1 := i1.length
  have l2 := i2.length
  simp only [Array.length_toList] at l1 l2
  rw [l1, l2]
theorem tup_firsts {h : Heap} {k : Value → List Int} : ∀ {vs : List Value}, (∀ v ∈ vs, TS.TupInts h v (k v) ∧ k v ≠ []) → ∃ fs : List Value, PySem.W.KatTups h vs fs ∧ fs.length = vs.length ∧ ∀ f ∈ fs, ∃ x t, f = Value.int x t
  | [], _ => ⟨[], .nil, rfl, fun _ hm => (by simp at hm)⟩
  | v :: vs, hp => by
    obtain ⟨fs, h1, h2, h3⟩ := tup_firsts (vs := vs) fun v' hm => hp v' (List.mem_cons_of_mem _ hm)
    obtain ⟨⟨a, xs, e, ⟨o, ho, hc, n, hd⟩, hi⟩, hne⟩ := hp v (List.mem_cons_self ..)
    cases hx : xs.toList with
    | nil =>
      rw [hx] at hi
      generalize k v = kv at hi hne
      cases hi
      exact absurd rfl hne
    | cons f r =>
      rw [hx] at hi
      generalize k v = kv at hi hne
      cases hi with
      | cons x t hr =>
        subst e
        refine ⟨.int x t :: fs, PySem.W.KatTups.cons ho hc hd (by rw [← Array.getElem?_toList, hx]; rfl) h1, by rw [List.length_cons, List.length_cons, h2], fun f hm => ?_⟩
        obtain rfl | hm := List.mem_cons.mp hm
        · exact ⟨x, t, rfl⟩
        · exact h3 f hm
theorem tups_sortableL {a : Addr} {vs : List Value} {k : Value → List Int} (h0 : 0 < vs.length) (hp : ∀ v ∈ vs, TS.TupInts s.heap v (k v) ∧ k v ≠ []) (ha : ∀ o, s.heap.get? a = some o → o.cls ≠ .type "tuple") : SrtO.SortableO prog w A s a vs fun v u => lexL (k v) (k u) := by
  intro h' keep
  have hp' : ∀ v ∈ vs, TS.TupInts h' v (k v) ∧ k v ≠ [] := fun v hm => ⟨(hp v hm).1.keeps fun b o e c => keep b o (fun z => by subst z; exact ha o e c) e, (hp v hm).2⟩
  obtain ⟨fs, h1, h2, h3⟩ := tup_firsts hp'
  refine ⟨tuples' true, fun Q E hq => ?_, tup_cmp fun v hv => (hp' v hv).1⟩
  refine (PySem.W.kat_kind (T := .type "int") h1 (by omega) (fun f hm => ?_) (by rfl) ?_)
  · rcases h3 f hm with ⟨x, t, rfl⟩
    exact PySem.W.Looks.now
  · have e : (Value.type "int" != Value.type "tuple") = true := (by first | decide +kernel | rfl | decide)
    rw [e]
    exact hq
end
/-- sorted(xs), xs a list of tuples of ints -/
def rSortL (K : PySem.W.Frag) : List V → Hp → VK → Prop := fun vs H Q => ∃ (a : Addr) (xs : List V) (l : List (List Int)), vs = [V.ref a] ∧ SqL K H a xs ∧ xs.length = l.length ∧ (∀ (i : Nat) x n, xs[i]? = some x → l[i]? = some n → TupI K H x n ∧ n ≠ []) ∧
  ∀ (ys : List V) (p : Addr), ys.length = l.length → (∀ (i : Nat) y n, ys[i]? = some y → (sortB lexL l)[i]? = some n → (y, n) ∈ xs.zip l) → H p = none → Q (.ref p) (upd H p (.lst ys))
section
variable {X : Cx}
theorem zip_map_get {α β : Type} : ∀ {xs : List α} {l : List β} {x : α}, xs.length = l.length → x ∈ xs → ∃ n, (x, n) ∈ xs.zip l
  | x :: xs, n :: l, z, h, hm => by
    obtain rfl | hm := List.mem_cons.mp hm
    · exact ⟨n, by simp⟩
    · obtain ⟨m, hm⟩ := zip_map_get (l := l) (by simpa using h) hm
      exact ⟨m, by simp [hm]⟩
  | x :: xs, [], z, h, hm => by simp at h
  | [], _, z, h, hm => by cases hm
theorem zip_get {α β : Type} : ∀ {xs : List α} {l : List β} {x : α} {n : β}, (x, n) ∈ xs.zip l → ∃ i : Nat, xs[i]? = some x ∧ l[i]? = some n
  | x :: xs, m :: l, z, n, hm => by
    rw [List.zip_cons_cons] at hm
    obtain e | hm := List.mem_cons.mp hm
    · cases e; exact ⟨0, rfl, rfl⟩
    · obtain ⟨i, h1, h2⟩ := zip_get hm
      exact ⟨i + 1, by simpa using h1, by simpa using h2⟩
  | [], _, z, n, hm => by cases hm
  | _ :: _, [], z, n, hm => by cases hm
theorem cr_sortedL : CallR X (.builtin "sorted") (rSortL X.K) := by
  intro pins s σ H vs us Q I
  intro r h
  obtain ⟨a, xs, l, rfl, hs, hlen, hx, q⟩ := h
  rcases I.list hs with ⟨its, rv, hl, hz⟩
  rw [Vals.ref1 r]
  have hmem : ∀ x ∈ xs, ∃ n, (x, n) ∈ xs.zip l := fun x m => zip_map_get hlen m
  have ⟨e1, e2⟩ := bkV_refs rv fun x m => by
    obtain ⟨n, hn⟩ := hmem x m
    obtain ⟨i, h1, h2⟩ := zip_get hn
    obtain ⟨⟨t, e, _⟩, _⟩ := hx i x n h1 h2
    exact ⟨t, e⟩
  have raw : ∀ (i : Nat) v n, its[i]? = some v → l[i]? = some n → TS.TupInts s.heap v n ∧ n ≠ [] := fun i v n h1 h2 => by
    have h3 : xs[i]? = some (bkV v) := by rw [e1, List.getElem?_map, h1]; rfl
    obtain ⟨⟨t, e, ht⟩, hne⟩ := hx i _ n h3 h2
    obtain ⟨its2, rv2, hT, _⟩ := I.tuple ht
    have ev := bkV_ref e
    subst ev
    exact ⟨⟨t, its2.toArray, rfl, hT, by simpa using rv2.ints⟩, hne⟩
  have il : its.length = l.length := rv.length.symm.trans hlen
  have hk : its.map (TS.intsOf s.heap) = l := by
    apply List.ext_getElem?
    intro i
    rw [List.getElem?_map]
    cases hi : its[i]? with
    | none =>
      have : its.length ≤ i := List.getElem?_eq_none_iff.mp hi
      rw [(List.getElem?_eq_none (by omega))]
      rfl
    | some v =>
      have hlt := get_lt hi
      obtain ⟨n, hn⟩ : ∃ n, l[i]? = some n := ⟨l[i]'(by omega), List.getElem?_eq_getElem (by omega)⟩
      rw [hn]
      show some (TS.intsOf s.heap v) = some n
      rw [(raw i v n hi hn).1.ints]
  have all : ∀ v ∈ its, TS.TupInts s.heap v (TS.intsOf s.heap v) ∧ TS.intsOf s.heap v ≠ [] := fun v hv => by
    obtain ⟨i, hi⟩ := List.mem_iff_getElem?.mp hv
    have hlt := get_lt hi
    obtain ⟨n, hn⟩ : ∃ n, l[i]? = some n := ⟨l[i]'(by omega), List.getElem?_eq_getElem (by omega)⟩
    obtain ⟨t1, t2⟩ := raw i v n hi hn
    rw [t1.ints]
    exact ⟨t1, t2⟩
  have swo : SrtO.Swo fun v u => lexL (TS.intsOf s.heap v) (TS.intsOf s.heap u) := ⟨fun x y => lexL_asym _ _, fun x y z => lexL_tr _ _ _⟩
  refine SrtO.sorted_ord swo hl.isList (by rw [← rv.length]; exact hz) (fun h2 h₁ a' ha kk => ?_) fun out hs hb => ?_
  · refine tups_sortableL (s := { s with heap := h₁ }) (by omega) (fun v hm => ⟨(all v hm).1.keeps fun b o e _ => (kk b o e).2, (all v hm).2⟩) fun o e => ?_
    have e' : some o = some (seqObj "list" its.toArray 0) := e.symm.trans ha
    cases e'
    intro c
    refine absurd (Value.type.inj c) (by decide)
  · have h3 : ∀ u ∈ out, ∃ a, u = Value.ref a := fun u hu => e2 u (hb.perm.mem_iff.mp hu)
    have es : out.map (TS.intsOf s.heap) = sortB lexL l := by
      have m1 := SrtO.srtd_map (f := TS.intsOf s.heap) (lt := lexL) hs
      have m2 := SrtO.Stb.map lexL_swo (TS.intsOf s.heap) hb
      rw [hk] at m2
      exact sortB_uniq lexL_swo m1 m2
    obtain ⟨n, hn⟩ := sortedAll_at s.heap its out.toArray
    have ol : out.length = l.length := hb.perm.length_eq.trans il
    refine ⟨.ref _, upd H (s.heap.objs.size + 1) (.lst (out.map bkV)), I.laid (t' := s.toks) (fun _ _ e => sortedAll_old e) (Nat.le_succ _) ⟨?_, out, n, bkV_vals h3, by simpa using hn⟩, rfl, q _ _ (by rw [List.length_map]; exact ol) (fun i y m h1 h2 => ?_) (I.hok.fresh (Nat.le_succ _))⟩
    · rw [List.length_map, ol, ← hlen]; exact hz
    · rw [List.getElem?_map] at h1
      cases hi : out[i]? with
      | none => rw [hi] at h1; cases h1
      | some v =>
        rw [hi] at h1
        cases h1
        have hv : v ∈ its := hb.perm.mem_iff.mp (List.mem_of_getElem? hi)
        rw [← es, List.getElem?_map, hi] at h2
        cases h2
        obtain ⟨j, hj⟩ := List.mem_iff_getElem?.mp hv
        have hlt := get_lt hj
        obtain ⟨n', hn'⟩ : ∃ n, l[j]? = some n := ⟨l[j]'(by omega), List.getElem?_eq_getElem (by omega)⟩
        have h5 : xs[j]? = some (bkV v) := by rw [e1, List.getElem?_map, hj]; rfl
        rw [(raw j v n' hj hn').1.ints]
        exact List.mem_iff_getElem?.mpr ⟨j, by rw [List.getElem?_zip_eq_some]; exact ⟨h5, hn'⟩⟩
end
end Mir

namespace Mir
open PySem PySem.Spec PyProof.Rows L2 MirX
open Evl (Ex)
def intsD : List PyData → Option (List Int)
  | [] => some []
  | .int i :: l => (intsD l).map (i :: ·)
  | _ => none
def boolsD : List PyData → Option (List Bool)
  | [] => some []
  | .bool b :: l => (boolsD l).map (b :: ·)
  | _ => none
def rowD : PyData → Option (List Int)
  | .tuple l => match intsD l with
    | some (i :: r) => some (i :: r)
    | _ => none
  | _ => none
def rowsD : List PyData → Option (List (List Int))
  | [] => some []
  | x :: l => match rowD x, rowsD l with
    | some r, some rs => some (r :: rs)
    | _, _ => none
def rowT (n : List Int) : PyData := .tuple (n.map .int)
section
variable {K : PySem.W.Frag} {F H : Hp}
theorem intsD_eq : ∀ {l : List PyData} {ns : List Int}, intsD l = some ns → l = ns.map .int
  | [], _, h => by cases h; rfl
  | .int i :: l, ns, h => by
    unfold intsD at h
    cases e : intsD l with
    | none => rw [e] at h; (cases h)
    | some m => rw [e] at h; cases h; rw [intsD_eq e]; rfl
  | .none :: _, _, h => by cases h
  | .bool _ :: _, _, h => by cases h
  | .str _ :: _, _, h => by cases h
  | .list _ :: _, _, h => by cases h
  | .tuple _ :: _, _, h => by cases h
  | .dict _ :: _, _, h => by cases h
theorem boolsD_eq : ∀ {l : List PyData} {ns : List Bool}, boolsD l = some ns → l = ns.map .bool
  | [], _, h => by cases h; rfl
  | .bool i :: l, ns, h => by
    unfold boolsD at h
    cases e : boolsD l with
    | none => rw [e] at h; (cases h)
    | some m => rw [e] at h; cases h; rw [boolsD_eq e]; rfl
  | .none :: _, _, h => by cases h
  | .int _ :: _, _, h => by cases h
  | .str _ :: _, _, h => by cases h
  | .list _ :: _, _, h => by cases h
  | .tuple _ :: _, _, h => by cases h
  | .dict _ :: _, _, h => by cases h
theorem rowsD_eq : ∀ {l : List PyData} {rs : List (List Int)}, rowsD l = some rs → l = rs.map rowT ∧ ∀ r ∈ rs, r ≠ []
  | [], _, h => by cases h; exact ⟨rfl, fun _ h => by cases h⟩
  | x :: l, rs, h => by
    unfold rowsD at h
    split at h
    · rename_i r rs' h1 h2
      cases h
      obtain ⟨e, hn⟩ := rowsD_eq h2
      have hx : x = rowT r ∧ r ≠ [] := by
        unfold rowD at h1
        split at h1
        · split at h1
          · rename_i e1
            cases h1
            exact ⟨by rw [intsD_eq e1]; rfl, by simp⟩
          · cases h1
        · cases h1
      refine ⟨by rw [e, hx.1]; rfl, fun q hq => ?_⟩
      obtain rfl | hq := List.mem_cons.mp hq
      · exact hx.2
      · exact hn q hq
    · cases h
theorem dpAll_ints : ∀ {xs : List V} {ns : List Int}, DpAll K F xs (ns.map .int) → xs = ns.map V.int
  | [], [], _ => rfl
  | x :: xs, n :: ns, h => by
    cases h with
    | cons a b => rw [dp_int a, dpAll_ints b]; rfl
  | [], _ :: _, h => by cases h
  | _ :: _, [], h => by cases h
theorem dpAll_bools : ∀ {xs : List V} {ns : List Bool}, DpAll K F xs (ns.map .bool) → xs = ns.map V.bl
  | [], [], _ => rfl
  | x :: xs, n :: ns, h => by
    cases h with
    | cons a b =>
      have e : x = V.bl n := by cases a; rfl
      rw [e, dpAll_bools b]; rfl
  | [], _ :: _, h => by cases h
  | _ :: _, [], h => by cases h
theorem ints_dpAll : ∀ {ns : List Int}, DpAll K F (ns.map V.int) (ns.map .int)
  | [] => .nil
  | _ :: _ => .cons (.int _) ints_dpAll
theorem dp_row {v : V} {n : List Int} (h : Dp K F v (rowT n)) (e : Ex F H) : TupI K H v n := by
  unfold rowT at h
  generalize hx : PyData.tuple (n.map .int) = x at h
  cases h with
  | @tup a xs ds h1 h2 =>
    cases hx
    rw [dpAll_ints h2] at h1
    exact ⟨_, rfl, Evl.ex_t e h1⟩
  | _ => cases hx
end
section
variable {C : Ct} {Wx : WX} {X : Cx} {F H : Hp} {σ : L2.St} {δ : Env} {tg : Expr}
/-- a builtin that may give a list of its own -/
theorem cw_callBi {id : String} {x : Str} {e : Expr} {es : List Expr} {r : List V → Hp → VK → Prop} {f : List PyData → Option W} {d : DenL} {p pos : Pos} (hc : CallR X (.builtin id) r) (hr : RDW C r f) (hg : Gl X x) (hm : X.mg x = none) (hv : bootBuiltins x = some (.builtin id))
    (ha : CAL C Wx X (e :: es) d) (hn : x ≠ "__name__" := by decide) (hdb : (x == ("__debug__" : Str)) = false := by decide) (he : starEach (e :: es) X.env = (false, eval e X.env) :: starEach es X.env := by rfl) (hpl : (backTo pos (starEach es X.env)).any (·.1) = false := by rfl) :
    CW C Wx X (.Call (.Name x p) (e :: es) [] pos) (wApp f d) := pe_imp (pe_callB hc hg hm hv ha hn hdb he hpl) fun σ H Q ⟨F, δ, g, q⟩ =>
  ⟨F, δ, g, Post.imp (by intro xs δ1 F1 H1 _ g1 q1 vs hvs; exact appW_ok hr g1 hvs q1) (Post.bind (k := fun xs δ1 => appW f xs δ1) q)⟩
def fAny : List PyData → Option PyData
  | [.list l] => (boolsD l).map fun bs => .bool (bs.any id)
  | _ => none
def fAll : List PyData → Option PyData
  | [.list l] => (boolsD l).map fun bs => .bool (bs.all id)
  | _ => none
theorem rd_any : RD C (rAny C.K) fAny := by
  intro xs z hz F H σ δ vs Q g hd q
  unfold fAny at hz
  split at hz
  · rename_i l
    cases e : boolsD l with
    | none => rw [e] at hz; cases hz
    | some bs =>
      rw [e] at hz
      cases hz
      obtain ⟨v, rfl, h1⟩ := dpts1 hd
      obtain ⟨p, ys, rfl, h2, h3⟩ := dpt_list h1 g.fh
      rw [boolsD_eq e] at h3
      rw [dpAll_bools h3] at h2
      exact ⟨p, bs, rfl, h2, q _ F H (Ex.refl F) g (.bl _)⟩
  · cases hz
theorem rd_all : RD C (rAll C.K) fAll := by
  intro xs z hz F H σ δ vs Q g hd q
  unfold fAll at hz
  split at hz
  · rename_i l
    cases e : boolsD l with
    | none => rw [e] at hz; cases hz
    | some bs =>
      rw [e] at hz
      cases hz
      obtain ⟨v, rfl, h1⟩ := dpts1 hd
      obtain ⟨p, ys, rfl, h2, h3⟩ := dpt_list h1 g.fh
      rw [boolsD_eq e] at h3
      rw [dpAll_bools h3] at h2
      exact ⟨p, bs, rfl, h2, q _ F H (Ex.refl F) g (.bl _)⟩
  · cases hz
/-- sum of a list or a tuple of ints -/
def rSumT (K : PySem.W.Frag) : List V → Hp → VK → Prop := fun vs H Q => ∃ (a : Addr) (ns : List Int), vs = [V.ref a] ∧ SqT K H a (ns.map V.int) ∧ Q (.int ns.sum) H
theorem cr_sumT (hc : X.calm = true) : CallR X (.builtin "sum") (rSumT X.K) := by
  intro pins s σ H vs us Q I
  intro r h
  rcases h with ⟨a, ns, rfl, hs, q⟩
  obtain ⟨its, rv, hl, _⟩ := I.tuple hs
  rw [Vals.ref1 r]
  have hi := rv.ints
  rcases hi.allInts.items with ⟨xs, e⟩
  have hn : numsOf (intItems xs).toList = ns := (by rw [← e]; exact hi.numsOf)
  rw [nums_intItems] at hn
  rw [e] at hl
  refine PySem.W.ktm_sumG (I.ok.hd hc) hl fun h' tk t' hk => ?_
  have e2 : preSum (numAt xs) xs.size = ns.sum := by rw [preSum_eq, List.take_of_length_le (by simp), hn]
  rw [e2]
  exact ⟨.int _, H, I.kept hk, ⟨_, rfl⟩, q⟩
def rSumA (K : PySem.W.Frag) : List V → Hp → VK → Prop := fun vs H Q => rSum K vs H Q ∨ rSumT K vs H Q
theorem cr_sumA (hc : X.calm = true) : CallR X (.builtin "sum") (rSumA X.K) := (cr_sum hc).or (cr_sumT hc)
def fSum : List PyData → Option PyData
  | [.list l] => (intsD l).map fun ns => .int ns.sum
  | [.tuple l] => (intsD l).map fun ns => .int ns.sum
  | _ => none
theorem rd_sum : RD C (rSumA C.K) fSum := by
  intro xs z hz F H σ δ vs Q g hd q
  unfold fSum at hz
  split at hz
  · rename_i l
    cases e : intsD l with
    | none => rw [e] at hz; cases hz
    | some ns =>
      rw [e] at hz
      cases hz
      obtain ⟨v, rfl, h1⟩ := dpts1 hd
      obtain ⟨p, ys, rfl, h2, h3⟩ := dpt_list h1 g.fh
      rw [intsD_eq e] at h3
      rw [dpAll_ints h3] at h2
      exact .inl ⟨p, ns, rfl, h2, q _ F H (Ex.refl F) g (.int _)⟩
  · rename_i l
    cases e : intsD l with
    | none => rw [e] at hz; cases hz
    | some ns =>
      rw [e] at hz
      cases hz
      obtain ⟨v, rfl, h1⟩ := dpts1 hd
      obtain ⟨p, ys, rfl, h2, h3⟩ := dpt_tup h1 g.fh
      rw [intsD_eq e] at h3
      rw [dpAll_ints h3] at h2
      exact .inr ⟨p, ns, rfl, h2, q _ F H (Ex.refl F) g (.int _)⟩
  · cases hz
def maxI : List Int → Int
  | [] => 0
  | [x] => x
  | x :: l => max x (maxI l)
def minI : List Int → Int
  | [] => 0
  | [x] => x
  | x :: l => min x (minI l)
theorem maxI_ok : ∀ {l : List Int}, l ≠ [] → maxI l ∈ l ∧ ∀ y ∈ l, y ≤ maxI l
  | [x], _ => ⟨by simp [maxI], fun y hy => by simp at hy; subst hy; simp [maxI]⟩
  | x :: z :: l, _ => by
    obtain ⟨h1, h2⟩ := maxI_ok (l := z :: l) (by simp)
    have e : maxI (x :: z :: l) = max x (maxI (z :: l)) := rfl
    rw [e]
    refine ⟨?_, fun y hy => ?_⟩
    · by_cases c : maxI (z :: l) ≤ x
      · rw [Int.max_eq_left c]; exact List.mem_cons_self
      · rw [Int.max_eq_right (by omega)]; exact List.mem_cons_of_mem _ h1
    · obtain rfl | hy := List.mem_cons.mp hy
      · exact Int.le_max_left _ _
      · have := h2 y hy
        have := Int.le_max_right x (maxI (z :: l))
        omega
theorem minI_ok : ∀ {l : List Int}, l ≠ [] → minI l ∈ l ∧ ∀ y ∈ l, minI l ≤ y
  | [x], _ => ⟨by simp [minI], fun y hy => by simp at hy; subst hy; simp [minI]⟩
  | x :: z :: l, _ => by
    obtain ⟨h1, h2⟩ := minI_ok (l := z :: l) (by simp)
    have e : minI (x :: z :: l) = min x (minI (z :: l)) := rfl
    rw [e]
    refine ⟨?_, fun y hy => ?_⟩
    · by_cases c : x ≤ minI (z :: l)
      · rw [Int.min_eq_left c]; exact List.mem_cons_self
      · rw [Int.min_eq_right (by omega)]; exact List.mem_cons_of_mem _ h1
    · obtain rfl | hy := List.mem_cons.mp hy
      · exact Int.min_le_left _ _
      · have := h2 y hy
        have := Int.min_le_right x (minI (z :: l))
        omega
def fMaxL : List PyData → Option PyData
  | [.list l] => match intsD l with
    | some (i :: r) => some (.int (maxI (i :: r)))
    | _ => none
  | _ => none
def fMinL : List PyData → Option PyData
  | [.list l] => match intsD l with
    | some (i :: r) => some (.int (minI (i :: r)))
    | _ => none
  | _ => none
theorem rd_maxL : RD C (rMax C.K) fMaxL := by
  intro xs z hz F H σ δ vs Q g hd q
  unfold fMaxL at hz
  split at hz
  · rename_i l
    split at hz
    · rename_i i r e
      cases hz
      obtain ⟨v, rfl, h1⟩ := dpts1 hd
      obtain ⟨p, ys, rfl, h2, h3⟩ := dpt_list h1 g.fh
      rw [intsD_eq e] at h3
      rw [dpAll_ints h3] at h2
      obtain ⟨k1, k2⟩ := maxI_ok (l := i :: r) (by simp)
      refine ⟨p, _, rfl, h2, by simp, fun m m1 m2 => ?_⟩
      have : m = maxI (i :: r) := by have := k2 m m1; have := m2 _ k1; omega
      rw [this]
      exact q _ F H (Ex.refl F) g (.int _)
    · cases hz
  · cases hz
theorem rd_minL : RD C (rMin C.K) fMinL := by
  intro xs z hz F H σ δ vs Q g hd q
  unfold fMinL at hz
  split at hz
  · rename_i l
    split at hz
    · rename_i i r e
      cases hz
      obtain ⟨v, rfl, h1⟩ := dpts1 hd
      obtain ⟨p, ys, rfl, h2, h3⟩ := dpt_list h1 g.fh
      rw [intsD_eq e] at h3
      rw [dpAll_ints h3] at h2
      obtain ⟨k1, k2⟩ := minI_ok (l := i :: r) (by simp)
      refine ⟨p, _, rfl, h2, by simp, fun m m1 m2 => ?_⟩
      have : m = minI (i :: r) := by have := k2 m m1; have := m2 _ k1; omega
      rw [this]
      exact q _ F H (Ex.refl F) g (.int _)
    · cases hz
  · cases hz
/-! ### sorted -/
/-- sorted of a list or a tuple of ints, or of tuples of ints -/
def fSorted : List PyData → Option W
  | [.list l] => match intsD l with
    | some ns => some (.own ((sortB ltI ns).map .int))
    | none => match rowsD l with
      | some rs => some (.own ((sortB lexL rs).map rowT))
      | none => none
  | _ => none
def rSortA (K : PySem.W.Frag) : List V → Hp → VK → Prop := fun vs H Q => rSortedI K vs H Q ∨ rSortL K vs H Q
theorem cr_sortA : CallR X (.builtin "sorted") (rSortA X.K) := cr_sortedI.or cr_sortedL
theorem rd_sorted : RDW C (rSortA C.K) fSorted := by
  intro xs w hw F H σ δ vs Q g hd q
  unfold fSorted at hw
  split at hw
  · rename_i l
    obtain ⟨v, rfl, h1⟩ := dpts1 hd
    obtain ⟨p, ys, rfl, h2, h3⟩ := dpt_list h1 g.fh
    split at hw
    · rename_i ns e
      cases hw
      rw [intsD_eq e] at h3
      rw [dpAll_ints h3] at h2
      refine .inl ⟨p, ns, rfl, h2, fun ns' l' hp hs hl => ?_⟩
      have hs' : SrtO.Srtd ltI ns' := hs.imp fun {x y} h => decide_eq_false (by omega)
      have e2 := sortB_uniq ltI_swo hs' (perm_stbI hp)
      refine q _ F _ (Ex.refl F) ?_
      rw [← e2]
      exact g.newOwn hl ints_dpAll
    · split at hw
      · rename_i rs e
        cases hw
        obtain ⟨e1, hne⟩ := rowsD_eq e
        rw [e1] at h3
        have hl3 := DpAll.len h3
        rw [List.length_map] at hl3
        refine .inr ⟨p, ys, rs, rfl, h2, hl3, fun i x n hx hn => ?_, fun zs l' hzl hz hl => ?_⟩
        · obtain ⟨v, k1, k2⟩ := DpAll.get h3 i (rowT n) (by rw [List.getElem?_map, hn]; rfl)
          rw [hx] at k1
          cases k1
          exact ⟨dp_row k2 g.fh, hne n (List.mem_of_getElem? hn)⟩
        · have hsl : (sortB lexL rs).length = rs.length := (sortB_ok lexL_swo rs).2.perm.length_eq
          refine q _ F _ (Ex.refl F) (g.newOwn hl (DpAll.of_get (by rw [List.length_map, hsl]; exact hzl) fun i v x k1 k2 => ?_))
          rw [List.getElem?_map] at k2
          cases hi : (sortB lexL rs)[i]? with
          | none => rw [hi] at k2; cases k2
          | some n =>
            rw [hi] at k2
            cases k2
            obtain ⟨j, m1, m2⟩ := zip_get (hz i v n k1 hi)
            obtain ⟨v', k3, k4⟩ := DpAll.get h3 j (rowT n) (by rw [List.getElem?_map, m2]; rfl)
            rw [m1] at k3
            cases k3
            exact k4
      · cases hw
  · cases hw
/-! ### list.pop -/
def dPop (i : Nat) : Den := fun δ => match ownL δ i with
  | none => .stuck
  | some (w, l) => match l[l.length - 1]? with
    | some x => .ok x (δ.set i (some (w.put l.dropLast)))
    | none => .stuck
theorem dpAll_dropLast {K : PySem.W.Frag} {F : Hp} {xs : List V} {l : List PyData} (h : DpAll K F xs l) : DpAll K F xs.dropLast l.dropLast := by
  have hl := DpAll.len h
  refine DpAll.of_get (by simp [hl]) fun i v x e1 e2 => ?_
  rw [List.getElem?_dropLast] at e1 e2
  split at e1
  · rename_i h1
    rw [if_pos (by omega)] at e2
    obtain ⟨v', k1, k2⟩ := DpAll.get h i x e2
    rw [e1] at k1
    cases k1
    exact k2
  · cases e1
theorem dpAll_erase {K : PySem.W.Frag} {F : Hp} {xs : List V} {l : List PyData} (h : DpAll K F xs l) (k : Nat) : DpAll K F (xs.eraseIdx k) (l.eraseIdx k) := by
  have hl := DpAll.len h
  refine DpAll.of_get (by rw [List.length_eraseIdx, List.length_eraseIdx, hl]) fun i v x e1 e2 => ?_
  rw [List.getElem?_eraseIdx] at e1 e2
  split at e1
  · rename_i h1
    rw [if_pos h1] at e2
    obtain ⟨v', k1, k2⟩ := DpAll.get h i x e2
    rw [e1] at k1
    cases k1
    exact k2
  · rename_i h1
    rw [if_neg h1] at e2
    obtain ⟨v', k1, k2⟩ := DpAll.get h _ x e2
    rw [e1] at k1
    cases k1
    exact k2
theorem ce_pop {o : Expr} {i : Nat} {apos cpos : Pos} (ho : PE X o (tVar i)) (hbase : attributeBase o "pop" X.env (eval o X.env) = eval o X.env := by rfl) (hline : (apos.endLine == cpos.line) = true := by rfl) :
    CE C Wx X (.Call (.Attribute o "pop" apos) [] [] cpos) (dPop i) :=
  pe_imp (pe_bm0 PySem.F.plainAttrs_list PySem.F.slot_list_pop PySem.F.type_list_pop mt_pop ho hbase hline) fun σ H Q ⟨F, δ, g, q⟩ => by
    unfold dPop at q
    split at q
    · exact q.elim
    · rename_i w l hw
      obtain ⟨p, xs, h1, h2, h3, h4⟩ := g.ownL hw
      split at q
      · rename_i x hx
        obtain ⟨v, k1, k2⟩ := DpAll.get h3 _ x hx
        refine ⟨_, h1, .inl ⟨rfl, xs, Evl.sq_of h2⟩, p, xs, v, rfl, rfl, h2, by rw [DpAll.len h3]; exact k1, ?_⟩
        exact q F _ (Ex.refl F) (h4 (dpAll_dropLast h3)) v k2
      · exact q.elim
def dPopAt (i : Nat) (e : Den) : Den := fun δ => match ownL δ i with
  | none => .stuck
  | some _ => (e δ).bind fun y δ1 => match ownL δ1 i with
    | none => .stuck
    | some (w, l) => match y with
      | .int k => if 0 ≤ k ∧ k < l.length ∧ l.length ≤ line then match l[k.toNat]? with
        | some x => .ok x (δ1.set i (some (w.put (l.eraseIdx k.toNat))))
        | none => .stuck
        else .stuck
      | _ => .stuck
theorem seqIndex_nat {k : Int} {n : Nat} (h0 : 0 ≤ k) (h : k < n) : seqIndex? k n = some k.toNat := by
  have e : ¬ k < 0 := by omega
  simp only [seqIndex?, e, if_false]
  rw [if_pos (by simp [h0, h])]
theorem ce_popAt {o e : Expr} {i : Nat} {d : Den} {apos cpos : Pos} (ho : PE X o (tVar i)) (he : CE C Wx X e d) (hbase : attributeBase o "pop" X.env (eval o X.env) = eval o X.env := by rfl) (hfew : ((backTo cpos (starEach [e] X.env)).all (fun x => !x.1) && (backToKw cpos (keywordEach [] X.env)).all (fun x => x.1.isSome)
      && decide ([e].length + ([] : List Keyword).length + (if ([] : List Keyword).isEmpty then 0 else 1) < 30)) = true := by rfl) (hline : (apos.endLine == cpos.line) = true := by rfl) (hs : starEach [e] X.env = (false, eval e X.env) :: starEach [] X.env := by rfl) (hplain : (backTo cpos (starEach [] X.env)).any (·.1) = false := by rfl) :
    CE C Wx X (.Call (.Attribute o "pop" apos) [e] [] cpos) (dPopAt i d) :=
  pe_imp (pe_bm PySem.F.plainAttrs_list PySem.F.slot_list_pop PySem.F.type_list_pop mt_popAt ho (pa_cons he pa_nil hs) hbase hfew hline hs hplain) fun σ H Q ⟨F, δ, g, q⟩ => by
    unfold dPopAt at q
    split at q
    · exact q.elim
    · rename_i wl hw
      obtain ⟨w, l⟩ := wl
      obtain ⟨p, xs, h1, h2, h3, _⟩ := g.ownL hw
      refine ⟨_, h1, .inl ⟨rfl, xs, Evl.sq_of h2⟩, F, δ, g, Post.imp (fun y δ1 F1 H1 _ g1 q1 v hv => ?_) (Post.bind q)⟩
      split at q1
      · exact q1.elim
      · rename_i w1 l1 hw1
        obtain ⟨p1, xs1, k1, k2, k3, k4⟩ := g1.ownL hw1
        rw [h1] at k1
        cases k1
        split at q1
        · rename_i k
          split at q1
          · rename_i hk
            split at q1
            · rename_i x hx
              cases dp_int hv
              obtain ⟨u, m1, m2⟩ := DpAll.get k3 _ x hx
              have hln := DpAll.len k3
              have hlz : line = 100000 := rfl
              refine ⟨p, xs1, k, k.toNat, u, rfl, rfl, k2, by omega, by omega, seqIndex_nat hk.1 (by rw [hln]; exact hk.2.1), m1, ?_⟩
              exact q1 F1 _ (Ex.refl F1) (k4 (dpAll_erase k3 _)) u m2
            · exact q1.elim
          · exact q1.elim
        · exact q1.elim
end
end Mir

namespace Mir
open PySem PySem.Spec PyProof.Rows L2 MirX
theorem RoomG.u1 {k : Nat} {A : Around} (r : RoomG k A) : A.units + 1 < cLine := by
  have := r.u64
  omega
end Mir

/-! a list of its own lent to a def that reads it alone and tells something flat -/
namespace Mir
open PySem PySem.Spec PyProof.Rows L2 MirX
open Evl (Ex)
def AV.toU (δ : Env) : AV → Option W
  | .v x => some (.d x)
  | .fn k => some (.fn k)
  | .sl i => match δ[i]? with
    | some (some (.d x)) => some (.d x)
    | some (some (.fn k)) => some (.fn k)
    | some (some (.own l)) => some (.d (.list l))
    | some (some (.bor l)) => some (.d (.list l))
    | _ => none
def wsOfU (δ : Env) : List AV → Option (List W)
  | [] => some []
  | a :: as => match a.toU δ, wsOfU δ as with
    | some w, some ws => some (w :: ws)
    | _, _ => none
section
variable {C : Ct} {Wx : WX} {X : Cx}
theorem RepP.ex {S : Sg} {F F' H : Hp} {v : V} {w : W} (h : RepP S F H v w) (e : Ex F F') : RepP S F' H v w := ⟨h.1.mono e fun q hq => (by cases hq), h.2⟩
theorem lend_one {F F1 H : Hp} {σ : L2.St} {δ : Env} {v : V} {a : AV} {w : W} (g : Good C F H σ δ) (e1 : Ex F F1) (e2 : Ex F1 H) (t1 : TabF C.T F1) (r : RepAV C F σ v a) (h : a.toU δ = some w) :
    ∃ F2, Ex F1 F2 ∧ Ex F2 H ∧ TabF C.T F2 ∧ (∀ q, F2 q ≠ none → F1 q = none → ∃ xs, H q = some (.lst xs)) ∧ RepP C.toSg F2 H v w := by
  have plain : ∀ {w : W}, a.toW δ = some w → ∃ F2, Ex F1 F2 ∧ Ex F2 H ∧ TabF C.T F2 ∧ (∀ q, F2 q ≠ none → F1 q = none → ∃ xs, H q = some (.lst xs)) ∧ RepP C.toSg F2 H v w := fun hw =>
    ⟨F1, Ex.refl F1, e2, t1, fun q h1 h2 => absurd h2 h1, (toW_ok g r hw).ex e1⟩
  cases r with
  | v hd => exact plain h
  | fn => exact plain h
  | @sl v i hs =>
    have lend : ∀ {w0 : W} {l : List PyData}, δ[i]? = some (some w0) → w0.items = some l → w = .d (.list l) → ∃ F2, Ex F1 F2 ∧ Ex F2 H ∧ TabF C.T F2 ∧ (∀ q, F2 q ≠ none → F1 q = none → ∃ xs, H q = some (.lst xs)) ∧ RepP C.toSg F2 H v w := fun {w0 l} e hi hw => by
      obtain ⟨p, xs, k1, k2, k3, k4⟩ := g.getO e hi
      rw [hs] at k1
      cases k1
      subst hw
      cases z : F1 p with
      | some o =>
        have := e2 p o z
        rw [k2] at this
        cases this
        exact ⟨F1, Ex.refl F1, e2, t1, fun q h1 h2 => absurd h2 h1, .d (.lst (Evl.sq_of z) (DpAll.ex k3 e1)), rfl⟩
      | none =>
        refine ⟨upd F1 p (.lst xs), Ex.new z, fun b u hb => ?_, tabF_lst t1 g.tb k2 trivial, fun q h1 h2 => ?_, .d (.lst (Evl.sq_of upd_same) (DpAll.ex k3 (e1.trans (Ex.new z)))), rfl⟩
        · by_cases c : b = p
          · subst c; rw [upd_same] at hb; cases hb; exact k2
          · rw [upd_ne c] at hb; exact e2 b u hb
        · by_cases c : q = p
          · subst c; exact ⟨xs, k2⟩
          · rw [upd_ne c] at h1; exact absurd h2 h1
    simp only [AV.toU] at h
    split at h
    · rename_i x e
      exact plain (by simp only [AV.toW, e]; exact h)
    · rename_i k e
      exact plain (by simp only [AV.toW, e]; exact h)
    · rename_i l e
      exact lend e rfl (Option.some.inj h).symm
    · rename_i l e
      exact lend e rfl (Option.some.inj h).symm
    · cases h
theorem lend_ok {F H : Hp} {σ : L2.St} {δ : Env} (g : Good C F H σ δ) : ∀ {as : List AV} {vs : List V} {ws : List W} (F1 : Hp), Ex F F1 → Ex F1 H → TabF C.T F1 → RepAVs C F σ vs as → wsOfU δ as = some ws →
    ∃ F2, Ex F1 F2 ∧ Ex F2 H ∧ TabF C.T F2 ∧ (∀ q, F2 q ≠ none → F1 q = none → ∃ xs, H q = some (.lst xs)) ∧ vs.length = ws.length ∧ ∀ (j : Nat) v w, vs[j]? = some v → ws[j]? = some w → RepP C.toSg F2 H v w
  | [], vs, ws, F1, e1, e2, t1, r, h => by
    cases r
    cases h
    exact ⟨F1, Ex.refl F1, e2, t1, fun q h1 h2 => absurd h2 h1, rfl, fun j v w e => by simp at e⟩
  | a :: as, _, ws, F1, e1, e2, t1, .cons r1 r2, h => by
    unfold wsOfU at h
    split at h
    · rename_i w ws' h1 h2
      cases h
      obtain ⟨F2, k1, k2, k3, k4, k5⟩ := lend_one g e1 e2 t1 r1 h1
      obtain ⟨F3, l1, l2, l3, l4, l5, l6⟩ := lend_ok g F2 (e1.trans k1) k2 k3 r2 h2
      refine ⟨F3, k1.trans l1, l2, l3, fun q h1 h2 => ?_, by rw [List.length_cons, List.length_cons, l5], fun j v' w' e1 e2 => ?_⟩
      · cases z : F2 q with
        | none => exact l4 q h1 z
        | some o => exact k4 q (by rw [z]; simp) h2
      · cases j with
        | zero => simp at e1 e2; subst e1 e2; exact k5.ex l1
        | succ j => exact l6 j v' w' (by simpa using e1) (by simpa using e2)
    · cases h
theorem dp_flat {K : PySem.W.Frag} {F F' : Hp} {v : V} {x : PyData} (h : Dp K F v x) (hf : flatD x = true) : Dp K F' v x := by
  cases h with
  | non => exact .non
  | bl b => exact .bl b
  | int i => exact .int i
  | str s => exact .str s
  | lst _ _ => cases hf
  | tup _ _ => cases hf
/-- behind the call: without what was lent -/
def unl (F F1 F' : Hp) : Hp := fun b => match F b, F1 b with
  | some o, _ => some o
  | none, some _ => none
  | none, none => F' b
theorem unl_some {F F1 F' : Hp} {b : Addr} {o : HO} (h : F b = some o) : unl F F1 F' b = some o := by unfold unl; rw [h]
theorem unl_lent {F F1 F' : Hp} {b : Addr} {o : HO} (h : F b = none) (h1 : F1 b = some o) : unl F F1 F' b = none := by unfold unl; rw [h, h1]
theorem unl_new {F F1 F' : Hp} {b : Addr} (h : F b = none) (h1 : F1 b = none) : unl F F1 F' b = F' b := by unfold unl; rw [h, h1]
def RF.toU (δ : Env) : RF → R W
  | .ok (.d x) _ => if flatD x = true then .ok (.d x) δ else .stuck
  | .exc c x _ => if flatD x = true then .exc c x δ else .stuck
  | _ => .stuck
def wCallU (n : Nat) (den : List W → RF) (as : DenL) : DenW := fun δ => (as δ).bind fun avs δ1 => match wsOfU δ1 avs with
  | some ws => if ws.length = n then (den ws).toU δ1 else .stuck
  | none => .stuck
theorem callU_ok {n : Nat} {den : List W → RF} {F H : Hp} {σ : L2.St} {δ : Env} {avs : List AV} {vs : List V} {Q : VK} {E : XK} (hE : ∀ cls d H', Wx cls d σ H' → E cls d H') (g : Good C F H σ δ) (r : RepAVs C F σ vs avs)
    (q : Post C Wx σ F (fun w δ' F' H' => ∀ v F2 H2, Ex F' F2 → GoodT C F2 H2 σ δ' v w → Q v H2) (match wsOfU δ avs with
  | some ws => if ws.length = n then (den ws).toU δ else .stuck
  | none => .stuck)) : SpP C.toSg n den vs H Q E := by
  split at q
  · rename_i ws hws
    obtain ⟨F1, a1, a2, a3, a4, hl, hr⟩ := lend_ok g F (Ex.refl F) g.fh g.tf r hws
    by_cases hn : ws.length = n
    case neg => rw [if_neg hn] at q; exact q.elim
    rw [if_pos hn] at q
    refine ⟨hl.trans hn, F1, ws, trivial, a2, g.tb, a3, hl, hr, ?_⟩
    -- what is frozen behind the call, without what was lent
    have back : ∀ {F' H' : Hp}, Ex F1 F' → Ex F' H' → New F1 F' H → KT C.toSg H H' → ∃ F3, Ex F F3 ∧ Good C F3 H' σ δ ∧ ∀ b fs, F' b = some (.xd fs) → F3 b = some (.xd fs) := fun {F' H'} e1 e2 nw kt => by
      have cs : ∀ b o, unl F F1 F' b = some o → F b = some o ∨ (F b = none ∧ F1 b = none ∧ F' b = some o) := fun b o hb => by
        cases z : F b with
        | some o' => rw [unl_some z] at hb; exact .inl (hb ▸ rfl)
        | none =>
          cases z1 : F1 b with
          | some o' => rw [unl_lent z z1] at hb; cases hb
          | none => rw [unl_new z z1] at hb; exact .inr ⟨rfl, rfl, hb⟩
      have x3 : Ex F (unl F F1 F') := fun b o hb => unl_some hb
      refine ⟨unl F F1 F', x3, ?_, fun b fs hb => ?_⟩
      · refine g.aft x3 (fun b o hb => ?_) ⟨fun b h1 h2 => ?_, fun xt b o hb => ?_⟩ kt
        · rcases cs b o hb with h | ⟨_, _, h⟩
          · exact e2 b _ (e1 b _ (a1 b _ h))
          · exact e2 b o h
        · cases z : unl F F1 F' b with
          | none => exact absurd z h1
          | some o =>
            rcases cs b o z with h | ⟨_, k1, k2⟩
            · rw [h2] at h; cases h
            · exact nw.1 b (by rw [k2]; simp) k1
        · rcases cs b o hb with h | ⟨_, _, h⟩
          · exact xt b _ h
          · exact nw.2 a3.2 b o h
      · cases z : F b with
        | some o =>
          have := e1 b _ (a1 b _ z)
          rw [hb] at this
          rw [unl_some z, ← this]
        | none =>
          cases z1 : F1 b with
          | some o =>
            obtain ⟨xs, hx⟩ := a4 b (by rw [z1]; simp) z
            have h1 := a2 b o z1
            rw [hx] at h1
            cases h1
            have := e1 b _ z1
            rw [hb] at this
            cases this
          | none => rw [unl_new z z1]; exact hb
    cases e : den ws with
    | ok w l =>
      rw [e] at q
      cases w with
      | d x =>
        simp only [RF.toU] at q
        split at q
        · rename_i hf
          intro v F' H' ps e1 e2 nw e3 rw' nd fp
          obtain ⟨F3, b1, b2, _⟩ := back e1 e2 nw e3
          cases rw' with
          | d hd => exact q F3 H' b1 b2 v F3 H' (Ex.refl F3) (b2.tmpD (dp_flat hd hf))
        · exact q.elim
      | _ => exact q.elim
    | exc c x l =>
      rw [e] at q
      simp only [RF.toU] at q
      split at q
      · rename_i hf
        intro F' H' dx v e1 e2 nw e3 h1 h2
        obtain ⟨F3, b1, b2, b3⟩ := back e1 e2 nw e3
        exact hE _ _ _ (q F3 H' dx v b1 b2 (b3 _ _ h1) (dp_flat h2 hf))
      · exact q.elim
    | stuck => rw [e] at q; exact q.elim
  · exact q.elim
/-- f(a, ..), lists of its own being lent -/
theorem cw_callU {n : Nat} {den : List W → RF} {k : Nat} {f : Addr} {fd : FuncData} {ps : List Str} {x : Str} {p pos : Pos} {e : Expr} {es : List Expr} {as : DenL} (Fn : FnX X k f fd ps (SpP C.toSg n den)) (hr : RoomG k X.A) (hg : Gl X x) (hm : X.mg x = some (.ref f)) (hk : PySem.W.keepIn X.K (.ref f) = true) (hb : Binds X.K fd ps [])
    (tk : Takes X Wx) (ha : CAL C Wx X (e :: es) as) (hdb : (x == ("__debug__" : Str)) = false := by decide) (he : starEach (e :: es) X.env = (false, eval e X.env) :: starEach es X.env := by rfl) (hpl : (backTo pos (starEach es X.env)).any (·.1) = false := by rfl) :
    CW C Wx X (.Call (.Name x p) (e :: es) [] pos) (wCallU n den as) :=
  pe_imp (pe_callG (E := fun σ cls d H => Wx cls d σ H) Fn hr hg hm hk hb .nil (fun σ pins H s e s' I c => tk e s' (XE.of_call I (fun cls d H' h => h) c)) ha hdb he hpl) fun σ H Q ⟨F, δ, g, q⟩ =>
    ⟨F, δ, g, Post.imp (fun avs δ1 F1 H1 _ g1 q1 vs hvs => by
      show SpP C.toSg n den (vs ++ []) H1 Q _
      rw [List.append_nil]
      exact callU_ok (fun _ _ _ h => h) g1 hvs q1) (Post.bind q)⟩
end
end Mir

/-! try with clauses that have no name; isinstance of a caught error and a class of the builtins -/
namespace Mir
open PySem PySem.Spec PyProof.Rows L2 MirX
open Evl (Ex)
/-- a clause with no name: its class, its suite -/
structure ClN where
  c : Value
  ts : Addr → Value → Option Addr → TS
def wClsN (K : PySem.W.Frag) (Wout : WX) (D : Ends) : List ClN → WX
  | [] => Wout
  | k :: r => fun cls d τ G => ∃ b, PySem.W.exmOne K cls k.c = some b ∧ (b = true → ∀ a, G a = none → k.ts a cls d D τ G) ∧ (b = false → wClsN K Wout D r cls d τ G)
inductive ClsOkN (X : Cx) : List ExceptHandler → List ClN → Prop
  | nil : ClsOkN X [] []
  | cons {x : Str} {k : ClN} {b₀ : Stmt} {more : List Stmt} {p1 p2 : Pos} {hs : List ExceptHandler} {r : List ClN} (hc : Names X x k.c)
      (su : ∀ (a : Addr) (oe : Obj) (cls : Value) (d : Option Addr) (pn : List (Addr × Obj)), Zc cls d oe → (∃ vs, oe.data = .fields vs) → PSs (X.suite a ((a, oe) :: pn)) (b₀ :: more) (k.ts a cls d)) (h : ClsOkN X hs r) :
      ClsOkN X (.ExceptHandler (some (.Name x p1)) none (b₀ :: more) p2 :: hs) (k :: r)
section
variable {X : Cx} {body : List Stmt} {h0 : ExceptHandler} {hs : List ExceptHandler} {cl : List ClN} {tpos : Pos} {tb : WX → TS} {Wout : WX}
theorem ps_try_clsN (hst : X.stack = X.env :: X.outer) (hfm : X.env.frame = some X.env.locals) (tk : Takes X Wout) (hb : ∀ (W : WX) (pn : List (Addr × Obj)) (xe : Value → Shared → Prop), Takes (X.tr pn xe) W → PassesOwn (model X.prog X.w) X.A X.env xe → PSs (X.tr pn xe) body (tb W))
    (hh : ClsOkN X (h0 :: hs) cl) : PS X (.Try body (h0 :: hs) [] [] tpos) (fun D τ G => tb (wClsN X.K Wout D cl) D τ G) := by
  constructor
  intro pins st τ G D I hw
  have okX := I.ok
  have frm : X.A.frames = some (X.env :: X.outer) := okX.frames.trans (by rw [hst])
  apply wpAny_Try_except
  obtain ⟨xe, hxe⟩ : ∃ xe : Value → Shared → Prop, xe = fun e s₁ => wpAny (model X.prog X.w) X.A (noteFrame e X.env) (fun _ s₂ => wpAny (model X.prog X.w) X.A (setFlight e none)
    (fun _ s₃ => wpAny (model X.prog X.w) X.A (handleBy e X.env (h0 :: hs)) (SP X pins D) X.xe s₃) X.xe s₂) X.xe s₁ := ⟨_, rfl⟩
  have pass : PassesOwn (model X.prog X.w) X.A X.env xe := hxe ▸ PassesOwn.looking
  have ctch : Takes (X.tr (X.pn ++ pins) xe) (wClsN X.K Wout D cl) := by
    subst hxe
    rintro u s2 ⟨a, B, sB, pins2, τ2, G2, cls, d, rfl, JB, inB, upB, skyB, freeA, osB, agB, wish⟩
    have J : Inv X pins τ2 G2 sB := JB.ofTry okX
    have sky2 : Sky B (X.env :: X.outer) a (Zc cls d) X.env.locals s2.heap := hst ▸ skyB
    show wpAny (model X.prog X.w) X.A (noteFrame (Value.ref a) X.env) _ _ _
    apply Sky.land Zc.steady frm hfm sky2
    intro g3 fly3 up3
    have JL : ∀ {g : Heap}, HandSPX.FlyingZ B (X.env :: X.outer) a (Zc cls d) g → s2.heap.UpToSlots g → Inv X pins τ2 G2 { s2 with heap := g } := fun fl up => J.landed inB fl.1 (upB.trans up) osB agB
    have J3 := JL fly3 up3
    obtain ⟨o3, f3, got3, z3, dat3⟩ := fly3.there
    have nofrm : ∀ b ∈ frs (X.env :: X.outer), a ≠ b := fun b hb e => by
      subst e
      obtain ⟨_, oo, he, hnf⟩ := fly3.2.2.1.mem hb
      rw [got3] at he
      cases he
      exact hnf _ dat3
    have notLoc : a ≠ X.env.locals := nofrm _ (List.mem_filterMap.mpr ⟨X.env, List.mem_cons_self, hfm⟩)
    have notFs : a ∉ X.fs := fun hm => by
      obtain ⟨en, hen, q⟩ := List.mem_filterMap.mp hm
      exact nofrm a (List.mem_filterMap.mpr ⟨en, List.mem_cons_of_mem _ hen, q⟩) rfl
    have S3 := J3.suite got3 dat3 freeA notLoc notFs
    have walk : ∀ {hs' : List ExceptHandler} {cl' : List ClN}, ClsOkN X hs' cl' → wClsN X.K Wout D cl' cls d τ2 G2 → wpAny (model X.prog X.w) X.A (handleBy (.ref a) X.env hs') (SP X pins D) X.xe { s2 with heap := g3 } := by
      intro hs' cl' ok
      induction ok with
      | nil =>
        intro wish
        apply wpAny_handleBy_nil
        obtain ⟨_, _, _, oe, fv, T, _, _, got, _, dat, at1, _⟩ := id fly3
        unfold PySem.passOn
        apply wpAny_bind
        refine wpAny_field got dat at1 ?_
        rw [if_neg (show ¬ ((Value.ref T == Value.none) = true) by simp)]
        have fin : wpAny (model X.prog X.w) X.A (setFlight (.ref a) X.env.frame) (fun _ s4 => wpAny (model X.prog X.w) X.A (throw (.ref a) : Sem Flow) (SP X pins D) X.xe s4) X.xe { s2 with heap := g3 } := by
          rw [hfm]
          apply HandSPX.setFlight_upZ fly3
          intro g4 held4 up4
          apply wpAny_throw
          exact tk _ _ ⟨a, B, sB, pins, τ2, G2, cls, d, rfl, J, inB, (upB.trans up3).trans up4, .inr (.inr (hst ▸ held4)), freeA, osB, agB, wish⟩
        first
          | (refine wpAny_bind (wpAny_pure ?_); exact wpAny_bind fin)
          | exact wpAny_bind fin
      | @cons x k b₀ more p1 p2 hs2 r hc su _ ih =>
        rintro ⟨b, isB, yes, no⟩
        refine wpAny_handleBy_cons (codeAny_handlers_test ?_) (fun q => by cases q)
        have lookT : PySem.W.Looks (model X.prog X.w) g3 (typeOf (.ref a)) cls := fun A' Q' E' s' kk q => wpAny_typeOf_ref (kk _ _ got3) (z3.1.symm ▸ q)
        have lookM := PySem.W.exm_one (M := model X.prog X.w) J3.kIn lookT isB
        have named : ∀ {Q : Value → Shared → Prop} {E : Value → Shared → Prop}, Q k.c { s2 with heap := g3 } → wpAny (model X.prog X.w) (X.A.mark (some (.ref a))) (eval (.Name x p1) X.env) Q E { s2 with heap := g3 } := fun {Q E} q => by
          rcases hc with ⟨hg, hd, hm | ⟨hm, hv, hn⟩⟩
          · exact ld_glob (X := X.suite a ((a, o3) :: (X.pn ++ pins))) S3 hg hm q hd
          · exact ld_blt (X := X.suite a ((a, o3) :: (X.pn ++ pins))) S3 hg hm hv q hn hd
        refine named (lookM.here ?_)
        cases b with
        | false =>
          show wpAny _ X.A (handleBy (.ref a) X.env hs2) _ _ _
          exact ih (no rfl)
        | true =>
          apply codeAny_handlers_suite
          apply HandSPX.lands_againZ fly3
          intro g4 fly4 up4
          have J4 := JL fly4 (up3.trans up4)
          obtain ⟨o4, f4, got4, z4, dat4⟩ := fly4.there
          have S4 := J4.suite got4 dat4 freeA notLoc notFs
          have sui := (su a o4 cls d (X.pn ++ pins) z4 ⟨_, dat4⟩).run [] _ _ G2 D S4 (yes rfl a freeA)
          refine wpAny_mono sui (fun fl s6 hsp => ?_) (fun _ _ z => z.elim)
          cases fl with
          | next => obtain ⟨τ6, G6, S6, q6⟩ := hsp; exact ⟨_, _, S6.unsuite okX, q6⟩
          | brk => obtain ⟨τ6, G6, S6, q6⟩ := hsp; exact ⟨_, _, S6.unsuite okX, q6⟩
          | cont => obtain ⟨τ6, G6, S6, q6⟩ := hsp; exact ⟨_, _, S6.unsuite okX, q6⟩
          | ret u => obtain ⟨v6, τ6, G6, S6, r6, q6⟩ := hsp; exact ⟨_, _, _, S6.unsuite okX, r6, q6⟩
    exact walk hh wish
  refine wpAny_mono ((hb _ (X.pn ++ pins) xe ctch pass).run [] st τ G D (I.toTry _) hw) (fun fl s1 hsp => ?_) (fun e s1 he => by subst hxe; exact he)
  · cases fl with
    | next => obtain ⟨τ1, G1, J1, q⟩ := hsp; exact wpAny_execs_nil ⟨τ1, G1, J1.ofTry okX, q⟩
    | brk => obtain ⟨τ1, G1, J1, q⟩ := hsp; exact ⟨τ1, G1, J1.ofTry okX, q⟩
    | cont => obtain ⟨τ1, G1, J1, q⟩ := hsp; exact ⟨τ1, G1, J1.ofTry okX, q⟩
    | ret u => obtain ⟨v, τ1, G1, J1, r, q⟩ := hsp; exact ⟨v, τ1, G1, J1.ofTry okX, r, q⟩
end
/-! ### over data -/
structure ClND where
  k : Nat
  su : DenS
def endN : S → S
  | .nx δ => if noExc δ = true then .nx δ else .stuck
  | .brk δ => if noExc δ = true then .brk δ else .stuck
  | .cont δ => if noExc δ = true then .cont δ else .stuck
  | .ret (.d x) δ => if noExc δ = true then .ret (.d x) δ else .stuck
  | _ => .stuck
def handleN (sub : Nat → Nat → Option Bool) (c : Nat) (x : PyData) (δ : Env) : List ClND → S
  | [] => .exc c x δ
  | k :: r => match sub c k.k with
    | some true => if noExc δ = true then endN (k.su δ) else .stuck
    | some false => handleN sub c x δ r
    | none => .stuck
def sTryN (sub : Nat → Nat → Option Bool) (body : DenS) (cl : List ClND) : DenS := fun δ => match body δ with
  | .exc c x δ' => handleN sub c x δ' cl
  | r => r
def rdClN (C : Ct) (k : ClND) (cv : Value) : ClN := ⟨cv, fun a cls d D σ H => ((∃ dd, d = some dd) ∧ ∃ c, cls = .ref (C.cls c)) ∧ tS (C.at a (d.getD 0) cls) (fun _ _ _ _ => False) k.su D σ H⟩
inductive RdClsN (C : Ct) (sub : Nat → Nat → Option Bool) : List ClND → List ClN → Prop
  | nil : RdClsN C sub [] []
  | cons {k : ClND} {cv : Value} {r : List ClND} {rs : List ClN} (h : ∀ c b, sub c k.k = some b → PySem.W.exmOne C.K (.ref (C.cls c)) cv = some b) (t : RdClsN C sub r rs) : RdClsN C sub (k :: r) (rdClN C k cv :: rs)
section
variable {C : Ct} {Wx : WX} {X : Cx}
theorem endN_ok {D : Ends} {F F2 : Hp} {r : S} {a e : Addr} {c : Value} (h : PostS C Wx D F (endN r)) (e2 : Ex F F2) : PostS (C.at a e c) (fun _ _ _ _ => False) D F2 r := by
  have h := PostS.mono e2 h
  cases r with
  | nx δ =>
    simp only [endN] at h
    split at h
    · rename_i hc
      exact fun σ F' H' e g => h _ F' H' e (g.back hc)
    · exact h.elim
  | brk δ =>
    simp only [endN] at h
    split at h
    · rename_i hc
      exact fun σ F' H' e g => h _ F' H' e (g.back hc)
    · exact h.elim
  | cont δ =>
    simp only [endN] at h
    split at h
    · rename_i hc
      exact fun σ F' H' e g => h _ F' H' e (g.back hc)
    · exact h.elim
  | ret w δ =>
    cases w with
    | d x =>
      simp only [endN] at h
      split at h
      · rename_i hc
        intro σ v F' H' e g hl hio
        have g0 := GoodT.forget g hl hio
        obtain ⟨u, hu, hd⟩ := Good.getD (i := σ.length) (x := x) g (by rw [hl, List.getElem?_append_right (Nat.le_refl _)]; simp)
        have ev : u = v := by
          rw [List.getElem?_append_right (Nat.le_refl _)] at hu
          simpa using hu.symm
        subst ev
        exact h _ _ F' H' e ((g0.back hc).tmpD hd) hl hio
      · exact h.elim
    | _ => exact h.elim
  | exc c x δ => exact h.elim
  | stuck => exact h.elim
theorem handleN_ok {sub : Nat → Nat → Option Bool} {cl : List ClND} {rs : List ClN} (hr : RdClsN C sub cl rs) {D : Ends} {F : Hp} {c : Nat} {x : PyData} {δ : Env} (h : PostS C Wx D F (handleN sub c x δ cl)) (σ : L2.St) :
    ∀ F' H' dx v, Ex F F' → Good C F' H' σ δ → F' dx = some (.xd [(C.fld c, v)]) → Dp C.K F' v x → wClsN C.K Wx D rs (.ref (C.cls c)) (some dx) σ H' := by
  induction hr with
  | nil => exact h σ
  | @cons k cv r rs hk _ ih =>
    intro F' H' dx v e g hx hd
    unfold handleN at h
    cases es : sub c k.k with
    | none => rw [es] at h; exact h.elim
    | some b =>
      rw [es] at h
      refine ⟨b, hk c b es, fun hb a ha => ?_, fun hb => ?_⟩
      · subst hb
        have h2 : PostS C Wx D F (if noExc δ = true then endN (k.su δ) else .stuck) := h
        split at h2
        · rename_i hc
          exact ⟨⟨⟨dx, rfl⟩, c, rfl⟩, F', _, g.at hc, endN_ok h2 e⟩
        · exact h2.elim
      · subst hb
        exact ih h F' H' dx v e g hx hd
theorem cs_tryN {sub : Nat → Nat → Option Bool} {body : List Stmt} {h0 : ExceptHandler} {hs : List ExceptHandler} {db : DenS} {cl : List ClND} {rs : List ClN} {tpos : Pos} (hK : X.K = C.K) (hst : X.stack = X.env :: X.outer) (hfm : X.env.frame = some X.env.locals) (tk : Takes X Wx)
    (hb : ∀ (W : WX) (pn : List (Addr × Obj)) (xe : Value → Shared → Prop), Takes (X.tr pn xe) W → PassesOwn (model X.prog X.w) X.A X.env xe → CSs C W (X.tr pn xe) body db)
    (hr : RdClsN C sub cl rs) (hh : ClsOkN X (h0 :: hs) rs) : CS C Wx X (.Try body (h0 :: hs) [] [] tpos) (sTryN sub db cl) :=
  ps_imp (ps_try_clsN (tb := fun W => tS C W db) hst hfm tk hb hh) fun D σ H ⟨F, δ, g, q⟩ => by
    refine ⟨F, δ, g, ?_⟩
    unfold sTryN at q
    rw [hK]
    cases e : db δ with
    | nx δ' => rw [e] at q; exact q
    | ret w δ' => rw [e] at q; exact q
    | brk δ' => rw [e] at q; exact q
    | cont δ' => rw [e] at q; exact q
    | stuck => rw [e] at q; exact q.elim
    | exc c x δ' =>
      rw [e] at q
      exact fun σ' => handleN_ok hr q σ'
/-! isinstance(error, a class of the builtins) -/
def dIsB (i : Nat) (isb : Nat → Option Bool) : Den := fun δ => match δ[i]? with
  | some (some (.exc c _)) => match isb c with
    | some b => .ok (.bool b) δ
    | none => .stuck
  | _ => .stuck
theorem ce_isB {a : Addr} {oe : Obj} {cls : Value} {d : Option Addr} {pn : List (Addr × Obj)} {e : Expr} {i : Nat} {n : Str} {nm : String} {isb : Nat → Option Bool} {p p2 pos : Pos} {Wq : WX} (hd : ∃ dd, d = some dd) (hc : ∃ c, cls = .ref (C.cls c)) (T : ∀ c, cls = .ref (C.cls c) → ExcC X.K (C.cls c))
    (hisi : ∀ c b, isb c = some b → PySem.W.kitOne X.K (.ref (C.cls c)) (.type nm) = some b) (hz : Zc cls d oe) (hv : ∃ vs, oe.data = .fields vs) (hg : Gl X "isinstance") (hm : X.mg "isinstance" = none) (hg2 : Gl X n) (hm2 : X.mg n = none) (hbt : bootBuiltins n = some (.type nm)) (hnn : n ≠ "__name__") (hdb : (n == ("__debug__" : Str)) = false)
    (he : PE (X.suite a ((a, oe) :: pn)) e (tVar i)) (hs : starEach [e, .Name n p2] X.env = [(false, eval e X.env), (false, eval (.Name n p2) X.env)] := by rfl) (hs2 : starEach [.Name n p2] X.env = [(false, eval (.Name n p2) X.env)] := by rfl) (hpl : (backTo pos (starEach [.Name n p2] X.env)).any (·.1) = false := by rfl) :
    CE (C.at a (d.getD 0) cls) Wq (X.suite a ((a, oe) :: pn)) (.Call (.Name "isinstance" p) [e, .Name n p2] [] pos) (dIsB i isb) := by
  obtain ⟨c0, rfl⟩ := hc
  refine pe_imp (pe_callB (X := X.suite a ((a, oe) :: pn)) (call_isErr (T c0 rfl) hz hv hd) hg hm (by decide +kernel) (pa_cons he (pa_cons (pe_bltn (v := .ty nm) hg2 hm2 hbt rfl hnn hdb) pa_nil hs2) hs) (by decide) (by decide) hs hpl) fun σ H Q ⟨F, δ, g, q⟩ => ?_
  unfold dIsB at q
  split at q
  · rename_i c x ex
    split at q
    · rename_i b hb
      obtain ⟨v, p, h1, h2, _⟩ := g.get ex
      obtain ⟨u, rfl, he, hF, hdp⟩ := exc_inv h2
      obtain ⟨dd, rfl⟩ := hd
      have ee : (.ref (C.cls c0) : Value) = .ref (C.cls c) := he
      have hb2 := hisi c b hb
      rw [← ee] at hb2
      exact ⟨_, h1, .ty nm, .type nm, b, dd, _, rfl, fun u hu => hu, rfl, g.fh _ _ hF, hb2, q F H (Ex.refl F) g _ (.bl b)⟩
    · exact q.elim
  · exact q.elim
end
end Mir

/-! reversed(range(e)) -/
namespace Mir
open PySem PySem.Spec PyProof.Rows L2 MirX
open Evl (Ex)
section
variable {C : Ct} {Wx : WX} {X : Cx} {tg : Expr}
def iRevR1 (d : Den) : DenI := fun δ => (d δ).bind fun x δ1 => match x with
  | .int n => if big n = true then .ok (stepD (0 + (((n - 0).toNat : Nat) : Int) - 1) (-1) (n - 0).toNat) δ1 else .stuck
  | _ => .stuck
theorem ci_revR1 {e : Expr} {d : Den} {p p2 pos pos2 : Pos} (hg : Gl X "reversed") (hm : X.mg "reversed" = none) (hg2 : Gl X "range") (hm2 : X.mg "range" = none) (h : CE C Wx X e d)
    (hs : starEach [.Call (.Name "range" p2) [e] [] pos2] X.env = (false, eval (.Call (.Name "range" p2) [e] [] pos2) X.env) :: starEach [] X.env := by rfl) (hs2 : starEach [e] X.env = (false, eval e X.env) :: starEach [] X.env := by rfl) :
    CI C Wx X tg (.Call (.Name "reversed" p) [.Call (.Name "range" p2) [e] [] pos2] [] pos) (iRevR1 d) :=
  pi_imp (pi_revR hg hm (prg_1 hg2 hm2 h hs2) hs) fun σ H Q ⟨F, δ, g, q⟩ =>
  ⟨F, δ, g, Post.imp (fun x δ1 F1 H1 _ g1 q1 v hv => by
    split at q1
    · rename_i n
      split at q1
      · rename_i hb
        cases dp_int hv
        obtain ⟨b1, b2⟩ := big_ok hb
        exact ⟨n, rfl, by decide, by decide, by omega, by omega, q1 F1 H1 (Ex.refl F1) g1 _ walk_rngC⟩
      · exact q1.elim
    · exact q1.elim) (Post.bind q)⟩
end
end Mir

/-! list comprehensions of two clauses -/
namespace Mir
open PySem PySem.Spec PyProof.Rows L2 MirX
open Evl (Ex)
def lcI (tg : Tgt) (tt : DenB) (te : Den) : List PyData → List PyData → Env → R (List PyData)
  | [], acc, δ => .ok acc δ
  | x :: xs, acc, δ => match bindT tg x δ with
    | none => .stuck
    | some δ1 => (tt δ1).calm.bind fun b δ2 => if b = true then (te δ2).calm.bind fun y δ3 => if acc.length < line then (if noBor δ3 tg.slots = true then lcI tg tt te xs (acc ++ [y]) (wipeD δ3 tg.slots) else .stuck) else .stuck
      else if noBor δ2 tg.slots = true then lcI tg tt te xs acc (wipeD δ2 tg.slots) else .stuck
def lc2 (vs : List Nat) (tg : Tgt) (tt : DenB) (tg1 : Tgt) (it1 : DenI) (tt1 : DenB) (te : Den) : List PyData → List PyData → DenW
  | [], acc, δ => .ok (.own acc) δ
  | x :: xs, acc, δ => match bindT tg x δ with
    | none => .stuck
    | some δ1 => (tt δ1).calm.bind fun b δ2 => if b = true then (it1 δ2).calm.bind fun ys δ3 => if noBor δ3 tg1.slots = true then
          (lcI tg1 tt1 te ys acc (wipeD δ3 tg1.slots)).bind fun acc' δ4 => if noBor δ4 vs = true then lc2 vs tg tt tg1 it1 tt1 te xs acc' (wipeD δ4 vs) else .stuck
        else .stuck
      else if noBor δ2 vs = true then lc2 vs tg tt tg1 it1 tt1 te xs acc (wipeD δ2 vs) else .stuck
def wLc2 (vs : List Nat) (tg : Tgt) (it : DenI) (tt : DenB) (tg1 : Tgt) (it1 : DenI) (tt1 : DenB) (te : Den) : DenW := fun δ => (it δ).bind fun xs δ1 => if noBor δ1 vs = true then lc2 vs tg tt tg1 it1 tt1 te xs [] (wipeD δ1 vs) else .stuck
theorem rbind_assoc {α β γ : Type} (r : R α) (f : α → Env → R β) (g : β → Env → R γ) : (r.bind f).bind g = r.bind fun a δ => (f a δ).bind g := by cases r <;> rfl
theorem wipe_sub {a b : L2.St} {us vs : List Nat} (h : ∀ i ∈ us, i ∈ vs) (e : L2.wipe a us = L2.wipe b us) : L2.wipe a vs = L2.wipe b vs := by
  have hl : a.length = b.length := by
    have := congrArg List.length e
    rwa [wipe_length, wipe_length] at this
  apply List.ext_getElem?
  intro k
  have ek := congrArg (fun l : L2.St => l[k]?) e
  simp only [wipe_get] at ek ⊢
  by_cases hk : k ∈ vs
  · simp only [if_pos hk, hl]
  · have hk2 : k ∉ us := fun z => hk (h k z)
    simp only [if_neg hk, if_neg hk2] at ek ⊢
    exact ek
theorem wipe_over {a : L2.St} {us vs : List Nat} (h : ∀ i ∈ us, i ∈ vs) : L2.wipe (L2.wipe a us) vs = L2.wipe a vs := wipe_sub h (wipe_wipe a us)
section
variable {C : Ct} {Wx : WX} {X : Cx}
theorem tLc2_ok {tg tg1 : Tgt} {u u1 : Bool} {vs : List Nat} (hu : u = tg.many) (hu1 : u1 = tg1.many) (htg : ∀ i ∈ tg.slots, i ∈ vs) (htg1 : ∀ i ∈ tg1.slots, i ∈ vs) {it it1 : DenI} {tt tt1 : DenB} {te : Den} {σ : L2.St} {H : Hp} {Q : VK} (h : tW C Wx (wLc2 vs tg it tt tg1 it1 tt1 te) σ H Q) :
    tLc2 (tIt C Wx u it) (gT C.K tg) (fun σ H Q => ∃ h, tTB (C.wH h) WF tt σ H Q) (fun σ H R => ∃ h, tIt (C.wH h) WF u1 it1 σ H R) (gT C.K tg1) (fun σ H Q => ∃ h, tTB (C.wH h) WF tt1 σ H Q) (fun σ H Q => ∃ h, tE (C.wH h) WF te σ H Q) vs tg1.slots σ H Q := by
  subst hu hu1
  obtain ⟨F, δ, g, q⟩ := h
  refine ⟨F, δ, g, Post.imp (fun ds δ1 F1 H1 e1 g1 q1 J hJ D hD => ?_) (Post.bind q)⟩
  split at q1
  · rename_i hb
    refine ⟨fun i m H => m = ds.length - i ∧ i ≤ ds.length ∧ ∃ F2 δ2 acc, Ex F1 F2 ∧ GoodT C F2 H (L2.wipe σ vs) δ2 (.ref D) (.own acc) ∧ (∀ k w, k ∈ vs → δ2[k]? ≠ some (some w)) ∧
      Post C Wx σ F2 (fun w δ' F' H' => ∀ v F2 H2, Ex F' F2 → GoodT C F2 H2 σ δ' v w → Q v H2) (lc2 vs tg tt tg1 it1 tt1 te (ds.drop i) acc δ2), ⟨_, rfl, Nat.zero_le _, F1, wipeD δ1 vs, [], Ex.refl F1, ?_, wipeD_none δ1 vs, q1⟩, ?_⟩
    · exact (Good.wipes hb g1).newOwn hD .nil
    · rintro i m H ⟨rfl, hi, F2, δ2, acc, e2, g2, hn, q2⟩
      obtain ⟨w1, w2, w3⟩ := hJ C rfl F2 H _ _ e2 g2
      by_cases hlt : i < ds.length
      · refine .inr ⟨w1 i hlt, fun H' => i + 1 ≤ ds.length ∧ ∃ F3 δ3 acc, Ex F1 F3 ∧ GoodT C F3 H' (L2.wipe σ vs) δ3 (.ref D) (.own acc) ∧ (∀ k w, k ∈ vs → δ3[k]? ≠ some (some w)) ∧
          Post C Wx σ F3 (fun w δ' F' H' => ∀ v F2 H2, Ex F' F2 → GoodT C F2 H2 σ δ' v w → Q v H2) (lc2 vs tg tt tg1 it1 tt1 te (ds.drop (i + 1)) acc δ3), fun H' ⟨k1, k2⟩ => ⟨_, by omega, rfl, k1, k2⟩, fun x H' y => ?_⟩
        obtain ⟨F3, e3, g3, d, hd, hx⟩ := w3 i x H' hlt y
        have g3 : GoodT C F3 H' (L2.wipe σ vs) δ2 (.ref D) (.own acc) := g3
        have hl := GoodT.len g3
        have hio := GoodT.io g3 hl rfl
        obtain ⟨xs, hH, hda, g4, n0, nio, nF⟩ := GoodT.hold g3 hl hio
        have ed : ds.drop i = d :: ds.drop (i + 1) := by
          rw [List.drop_eq_getElem_cons (h := hlt)]
          rw [List.getElem?_eq_getElem hlt] at hd
          rw [Option.some.inj hd]
        rw [ed] at q2
        have q3 := Post.mono e3 q2
        unfold lc2 at q3
        cases eb : bindT tg d δ2 with
        | none => rw [eb] at q3; exact q3.elim
        | some δ3 =>
          rw [eb] at q3
          have nF0 : C.F0 D = none := Evl.fresh_back g3.f0 nF
          refine gT_ok (C := C.wH (upd C.H0 D (.lst xs))) g4 hx eb fun σ' g5 ew => ?_
          have ev : L2.wipe σ' vs = L2.wipe σ vs := (wipe_sub htg ew).trans (wipe_wipe σ vs)
          refine ⟨ev, upd C.H0 D (.lst xs), F3, δ3, g5, calm_ok q3 fun b δ4 q4 F4 H4 e4 g6 => ?_⟩
          cases b with
          | false =>
            show (if (false = true) then _ else _)
            rw [if_neg (by simp)] at q4 ⊢
            split at q4
            · rename_i hb4
              have g8 := Good.wipes hb4 g6
              rw [ev] at g8
              exact ⟨hlt, F4, _, acc, (e2.trans e3).trans e4, GoodT.unhold g8 n0 nio nF0 hda e4, wipeD_none _ _, Post.mono e4 q4⟩
            · exact q4.elim
          | true =>
            show (if (true = true) then _ else _)
            rw [if_pos rfl] at q4 ⊢
            refine ⟨_, F4, δ4, g6, calm_ok q4 fun ds1 δ5 q5 F5 H5 e5 g7 J1 hJ1 => ?_⟩
            split at q5
            · rename_i hb5
              have g8 := Good.wipes hb5 g7
              have g9 := GoodT.unhold g8 n0 nio nF0 hda (e4.trans e5)
              refine ⟨fun j k H => k = ds1.length - j ∧ j ≤ ds1.length ∧ ∃ F6 δ6 acc6, Ex F5 F6 ∧ GoodT C F6 H (L2.wipe σ' tg1.slots) δ6 (.ref D) (.own acc6) ∧ (∀ k w, k ∈ tg1.slots → δ6[k]? ≠ some (some w)) ∧
                Post C Wx σ F6 (fun w δ' F' H' => ∀ v F2 H2, Ex F' F2 → GoodT C F2 H2 σ δ' v w → Q v H2) ((lcI tg1 tt1 te (ds1.drop j) acc6 δ6).bind fun acc' δ4 => if noBor δ4 vs = true then lc2 vs tg tt tg1 it1 tt1 te (ds.drop (i + 1)) acc' (wipeD δ4 vs) else .stuck),
                ⟨_, rfl, Nat.zero_le _, F5, _, acc, Ex.refl F5, g9, wipeD_none _ _, Post.mono (e4.trans e5) q5⟩, ?_⟩
              rintro j k H ⟨rfl, hj, F6, δ6, acc6, e6, g10, hn6, q6⟩
              obtain ⟨v1, v2, v3⟩ := hJ1 C rfl F6 H _ _ e6 g10
              by_cases hlt1 : j < ds1.length
              · refine .inr ⟨v1 j hlt1, fun H' => j + 1 ≤ ds1.length ∧ ∃ F6 δ6 acc6, Ex F5 F6 ∧ GoodT C F6 H' (L2.wipe σ' tg1.slots) δ6 (.ref D) (.own acc6) ∧ (∀ k w, k ∈ tg1.slots → δ6[k]? ≠ some (some w)) ∧
                  Post C Wx σ F6 (fun w δ' F' H' => ∀ v F2 H2, Ex F' F2 → GoodT C F2 H2 σ δ' v w → Q v H2) ((lcI tg1 tt1 te (ds1.drop (j + 1)) acc6 δ6).bind fun acc' δ4 => if noBor δ4 vs = true then lc2 vs tg tt tg1 it1 tt1 te (ds.drop (i + 1)) acc' (wipeD δ4 vs) else .stuck),
                  fun H' ⟨k1, k2⟩ => ⟨_, by omega, rfl, k1, k2⟩, fun x H' y => ?_⟩
                obtain ⟨F7, e7, g11, d1, hd1, hx1⟩ := v3 j x H' hlt1 y
                have g11 : GoodT C F7 H' (L2.wipe σ' tg1.slots) δ6 (.ref D) (.own acc6) := g11
                have hl7 := GoodT.len g11
                obtain ⟨xs7, hH7, hda7, g12, n07, nio7, nF7⟩ := GoodT.hold g11 hl7 (GoodT.io g11 hl7 rfl)
                have ed1 : ds1.drop j = d1 :: ds1.drop (j + 1) := by
                  rw [List.drop_eq_getElem_cons (h := hlt1)]
                  rw [List.getElem?_eq_getElem hlt1] at hd1
                  rw [Option.some.inj hd1]
                rw [ed1] at q6
                have q7 := Post.mono e7 q6
                unfold lcI at q7
                cases eb1 : bindT tg1 d1 δ6 with
                | none => rw [eb1] at q7; exact q7.elim
                | some δ8 =>
                  rw [eb1] at q7
                  simp only [rbind_assoc] at q7
                  have nF07 : C.F0 D = none := Evl.fresh_back g11.f0 nF7
                  refine gT_ok (C := C.wH (upd C.H0 D (.lst xs7))) g12 hx1 eb1 fun σ2 g13 ew1 => ?_
                  have ev1 : L2.wipe σ2 tg1.slots = L2.wipe σ' tg1.slots := ew1.trans (wipe_wipe σ' tg1.slots)
                  refine ⟨ev1, upd C.H0 D (.lst xs7), F7, δ8, g13, calm_ok q7 fun b1 δ9 q9 F9 H9 e9 g14 => ?_⟩
                  cases b1 with
                  | false =>
                    show (if (false = true) then _ else _)
                    rw [if_neg (by simp)] at q9 ⊢
                    split at q9
                    · rename_i hb9
                      have g15 := Good.wipes hb9 g14
                      rw [ev1] at g15
                      exact ⟨hlt1, F9, _, acc6, (e6.trans e7).trans e9, GoodT.unhold g15 n07 nio7 nF07 hda7 e9, wipeD_none _ _, Post.mono e9 q9⟩
                    · exact q9.elim
                  | true =>
                    show (if (true = true) then _ else _)
                    rw [if_pos rfl] at q9 ⊢
                    simp only [rbind_assoc] at q9
                    refine ⟨_, F9, δ9, g14, calm_ok q9 fun z δ10 q10 F10 H10 e10 g15 v hv => ?_⟩
                    obtain ⟨_, hH10⟩ := Good.unhold g15 n07 nio7
                    split at q10
                    · rename_i hlen
                      split at q10
                      · rename_i hb10
                        have g16 := Good.wipes hb10 g15
                        rw [ev1] at g16
                        have g17 := GoodT.unhold g16 n07 nio7 nF07 hda7 (e9.trans e10)
                        refine ⟨xs7, hH10, by rw [DpAll.len hda7]; exact line_lt hlen, hlt1, F10, _, acc6 ++ [z], ((e6.trans e7).trans e9).trans e10, ?_, wipeD_none _ _, Post.mono (e9.trans e10) q10⟩
                        exact GoodT.push g17 (GoodT.len g17) hH10 (DpAll.ex hda7 (e9.trans e10)) hv
                      · exact q10.elim
                    · exact q10.elim
              · have e : j = ds1.length := by omega
                subst e
                refine .inl ⟨v2, ?_⟩
                rw [List.drop_length] at q6
                have q7 : Post C Wx σ F6 (fun w δ' F' H' => ∀ v F2 H2, Ex F' F2 → GoodT C F2 H2 σ δ' v w → Q v H2) (if noBor δ6 vs = true then lc2 vs tg tt tg1 it1 tt1 te (ds.drop (i + 1)) acc6 (wipeD δ6 vs) else .stuck) := q6
                split at q7
                · rename_i hb6
                  have hl7 := GoodT.len g10
                  obtain ⟨xs7, hH7, hda7, g12, n07, nio7, nF7⟩ := GoodT.hold g10 hl7 (GoodT.io g10 hl7 rfl)
                  have g13 := Good.wipes hb6 g12
                  rw [wipe_over htg1, ev] at g13
                  exact ⟨hlt, F6, _, acc6, (((e2.trans e3).trans e4).trans e5).trans e6, GoodT.unhold g13 n07 nio7 (Evl.fresh_back g10.f0 nF7) hda7 (Ex.refl F6), wipeD_none _ _, q7⟩
                · exact q7.elim
            · exact q5.elim
      · have e : i = ds.length := by omega
        subst e
        refine .inl ⟨w2, ?_⟩
        rw [List.drop_length] at q2
        have g3 : GoodT C F2 H (L2.wipe σ vs) δ2 (.ref D) (.own acc) := g2
        have hl := GoodT.len g3
        have g4 := GoodT.unwipe g3 hn
        have hl2 : σ.length = δ2.length := by rw [← hl, wipe_length]
        exact q2 F2 H (Ex.refl F2) (GoodT.forget g4 hl2 (GoodT.io g4 hl2 rfl)) _ F2 H (Ex.refl F2) g4
  · exact q1.elim
theorem pi_some {tge e : Expr} {t : Hp → TI} (h : ∀ a, PI X tge e (t a)) : PI X tge e fun σ H R => ∃ a, t a σ H R := ⟨fun pins s σ H R I ⟨a, q⟩ => (h a).run pins s σ H R I q⟩
/-- a comprehension of two clauses -/
theorem cw_lc2 {elt tge iter tge1 iter1 : Expr} {ifs ifs1 : List Expr} {scope : Scope} {own : List (Str × Nat)} {pos : Pos} {vs : List Nat} {tg tg1 : Tgt} {it it1 : DenI} {tt tt1 : DenB} {te : Den} (hc : X.calm = true) (hN : X.N.Nodup) (hi : CI C Wx X tge iter it) (ok : BlkOk X.N X.env.scope scope own)
    (hg : ∀ (s : Shared) (H : Hp) (D : Addr) (cl : List (Str × Addr)) (fp : List Addr), PG (X.blk s H scope (compEnvC scope cl D X.env) fp) tge (gT C.K tg)) (ht : ∀ (s : Shared) (H : Hp) (D : Addr) (cl : List (Str × Addr)) (fp : List Addr) (h : Hp), CTs (C.wH h) WF (X.blk s H scope (compEnvC scope cl D X.env) fp) ifs tt)
    (hi1 : ∀ (s : Shared) (H : Hp) (D : Addr) (cl : List (Str × Addr)) (fp : List Addr) (h : Hp), CI (C.wH h) WF (X.blk s H scope (compEnvC scope cl D X.env) fp) tge1 iter1 it1)
    (hg1 : ∀ (s : Shared) (H : Hp) (D : Addr) (cl : List (Str × Addr)) (fp : List Addr), PG (X.blk s H scope (compEnvC scope cl D X.env) fp) tge1 (gT C.K tg1)) (ht1 : ∀ (s : Shared) (H : Hp) (D : Addr) (cl : List (Str × Addr)) (fp : List Addr) (h : Hp), CTs (C.wH h) WF (X.blk s H scope (compEnvC scope cl D X.env) fp) ifs1 tt1)
    (he : ∀ (s : Shared) (H : Hp) (D : Addr) (cl : List (Str × Addr)) (fp : List Addr) (h : Hp), CE (C.wH h) WF (X.blk s H scope (compEnvC scope cl D X.env) fp) elt te) (hv : own.map (·.2) = vs := by rfl) (htg : ∀ i ∈ tg.slots, i ∈ vs := by decide) (htg1 : ∀ i ∈ tg1.slots, i ∈ vs := by decide)
    (hs : ∀ x, foldedSetIterable iter X.env x = pure x := by intro _; rfl) (hs1 : ∀ env x, foldedSetIterable iter1 env x = pure x := by intro _ _; rfl) (hu : isTup tge = tg.many := by rfl) (hu1 : isTup tge1 = tg1.many := by rfl) :
    CW C Wx X (.ListComp elt [⟨tge, iter, ifs, 0⟩, ⟨tge1, iter1, ifs1, 0⟩] scope pos) (wLc2 vs tg it tt tg1 it1 tt1 te) := by
  subst hv
  exact pe_imp (pe_lc2 (g := gT C.K tg) (g1 := gT C.K tg1) (vs1 := tg1.slots) hc hN hi ok htg1 hg (fun s H D cl fp => pts_some fun h => ht s H D cl fp h) (fun s H D cl fp => pi_some fun h => hi1 s H D cl fp h) hg1 (fun s H D cl fp => pts_some fun h => ht1 s H D cl fp h) (fun s H D cl fp => pe_some fun h => he s H D cl fp h) hs hs1) fun σ H Q q => tLc2_ok hu hu1 htg htg1 q
/-- a name set to a comprehension of two clauses on one line -/
theorem cs_setLc2 {i : Nat} {y : Str} {py spos : Pos} {elt tge iter tge1 iter1 : Expr} {ifs ifs1 : List Expr} {scope : Scope} {own : List (Str × Nat)} {pos : Pos} {vs : List Nat} {tg tg1 : Tgt} {it it1 : DenI} {tt tt1 : DenB} {te : Den} (hc : X.calm = true) (hN : X.N.Nodup) (hy : X.N[i]? = some y) (hyl : X.env.scope.names.lookup y = some .local)
    (hsw : swapsWith (.ListComp elt [⟨tge, iter, ifs, 0⟩, ⟨tge1, iter1, ifs1, 0⟩] scope pos) (some (.Name y py)) spos.line X.env = pure true) (hi : CI C Wx X tge iter it) (ok : BlkOk X.N X.env.scope scope own)
    (hg : ∀ (s : Shared) (H : Hp) (D : Addr) (cl : List (Str × Addr)) (fp : List Addr), PG (X.blk s H scope (compEnvC scope cl D X.env) fp) tge (gT C.K tg)) (ht : ∀ (s : Shared) (H : Hp) (D : Addr) (cl : List (Str × Addr)) (fp : List Addr) (h : Hp), CTs (C.wH h) WF (X.blk s H scope (compEnvC scope cl D X.env) fp) ifs tt)
    (hi1 : ∀ (s : Shared) (H : Hp) (D : Addr) (cl : List (Str × Addr)) (fp : List Addr) (h : Hp), CI (C.wH h) WF (X.blk s H scope (compEnvC scope cl D X.env) fp) tge1 iter1 it1)
    (hg1 : ∀ (s : Shared) (H : Hp) (D : Addr) (cl : List (Str × Addr)) (fp : List Addr), PG (X.blk s H scope (compEnvC scope cl D X.env) fp) tge1 (gT C.K tg1)) (ht1 : ∀ (s : Shared) (H : Hp) (D : Addr) (cl : List (Str × Addr)) (fp : List Addr) (h : Hp), CTs (C.wH h) WF (X.blk s H scope (compEnvC scope cl D X.env) fp) ifs1 tt1)
    (he : ∀ (s : Shared) (H : Hp) (D : Addr) (cl : List (Str × Addr)) (fp : List Addr) (h : Hp), CE (C.wH h) WF (X.blk s H scope (compEnvC scope cl D X.env) fp) elt te) (hv : own.map (·.2) = vs := by rfl) (htg : ∀ i ∈ tg.slots, i ∈ vs := by decide) (htg1 : ∀ i ∈ tg1.slots, i ∈ vs := by decide)
    (hs : ∀ x, foldedSetIterable iter X.env x = pure x := by intro _; rfl) (hs1 : ∀ env x, foldedSetIterable iter1 env x = pure x := by intro _ _; rfl) (hu : isTup tge = tg.many := by rfl) (hu1 : isTup tge1 = tg1.many := by rfl) :
    CS C Wx X (.Assign [.Name y py] (.ListComp elt [⟨tge, iter, ifs, 0⟩, ⟨tge1, iter1, ifs1, 0⟩] scope pos) spos) (sSet i (wLc2 vs tg it tt tg1 it1 tt1 te)) := by
  subst hv
  exact ps_imp (ps_setLc2 (g := gT C.K tg) (g1 := gT C.K tg1) (vs1 := tg1.slots) hc hN hy hyl hsw hi ok htg1 hg (fun s H D cl fp => pts_some fun h => ht s H D cl fp h) (fun s H D cl fp => pi_some fun h => hi1 s H D cl fp h) hg1 (fun s H D cl fp => pts_some fun h => ht1 s H D cl fp h) (fun s H D cl fp => pe_some fun h => he s H D cl fp h) hs hs1) fun D σ H q => tLc2_ok hu hu1 htg htg1 (set_ok D σ H q)
end
end Mir

/-! the truth of any value as a test; a tuple of the module -/
namespace Mir
open PySem PySem.Spec PyProof.Rows L2 MirX
open Evl (Ex)
section
variable {C : Ct} {Wx : WX} {X : Cx} {F H : Hp} {σ : L2.St} {δ : Env}
def truD : PyData → Option Bool
  | .none => some false
  | .bool b => some b
  | .int i => some (i != 0)
  | .str s => if s.length ≤ 1000000 then some (s.length != 0) else none
  | .list l => some (!l.isEmpty)
  | .tuple l => some (!l.isEmpty)
  | _ => none
def truA (δ : Env) : AV → Option Bool
  | .v x => truD x
  | .sl i => match δ[i]? with
    | some (some (.d x)) => truD x
    | some (some (.own l)) => some (!l.isEmpty)
    | some (some (.bor l)) => some (!l.isEmpty)
    | some (some (.dct l)) => some (!l.isEmpty)
    | some (some (.bod l)) => some (!l.isEmpty)
    | _ => none
  | .fn _ => none
theorem isEmpty_all {K : PySem.W.Frag} {vs : List V} {l : List PyData} (h : DpAll K F vs l) : vs.isEmpty = l.isEmpty := by cases h <;> rfl
theorem isEmpty_ks {K : PySem.W.Frag} {kvs : List (Key × V)} {l : List PyData} (h : DKs K F kvs l) : kvs.isEmpty = l.isEmpty := by cases h <;> rfl
theorem truD_ok {x : PyData} {v : V} {b : Bool} (e : Ex F H) (h : Dp C.K F v x) (hb : truD x = some b) : TruV C.K v H b := by
  cases x with
  | none => cases h; cases hb; rfl
  | bool c => cases h; cases hb; rfl
  | int i => cases h; cases hb; rfl
  | str s =>
    cases h
    simp only [truD] at hb
    by_cases hl : s.length ≤ 1000000
    · rw [if_pos hl] at hb
      cases hb
      refine ⟨by rw [sizeLine_eq]; omega, ?_⟩
      by_cases c : s.length = 0
      · rw [c]; rfl
      · have c2 : ¬ (s.length : Int) = 0 := by omega
        show (!(_ == _)) = (!(_ == _))
        rw [beq_eq_false_iff_ne.mpr c, beq_eq_false_iff_ne.mpr c2]
    · rw [if_neg hl] at hb
      cases hb
  | list l =>
    cases hb
    obtain ⟨p, xs, rfl, h2, h3⟩ := dpt_list (.inl h) e
    exact .inl ⟨xs, h2, by rw [isEmpty_all h3]⟩
  | tuple l =>
    cases hb
    obtain ⟨p, xs, rfl, h2, h3⟩ := dpt_tup (.inl h) e
    exact .inr (.inl ⟨xs, h2, by rw [isEmpty_all h3]⟩)
  | dict l => cases hb
theorem truA_ok {a : AV} {v : V} {b : Bool} (g : Good C F H σ δ) (r : RepAV C F σ v a) (hb : truA δ a = some b) : TruV C.K v H b := by
  cases r with
  | v h => exact truD_ok g.fh h hb
  | fn => cases hb
  | sl hs =>
    simp only [truA] at hb
    split at hb
    · rename_i x e
      obtain ⟨v', p, h1, h2, _⟩ := g.get e
      cases hs.symm.trans h1
      cases h2 with
      | d hd => exact truD_ok g.fh hd hb
    · rename_i l e
      obtain ⟨v', p, h1, h2, _⟩ := g.get e
      cases hs.symm.trans h1
      cases hb
      cases h2 with
      | own k1 k2 => exact .inl ⟨_, .inl (.inl k1), by rw [isEmpty_all k2]⟩
    · rename_i l e
      obtain ⟨v', p, h1, h2, _⟩ := g.get e
      cases hs.symm.trans h1
      cases hb
      cases h2 with
      | bor k1 k2 => exact .inl ⟨_, .inl (.inl k1), by rw [isEmpty_all k2]⟩
    · rename_i l e
      obtain ⟨v', p, h1, h2, _⟩ := g.get e
      cases hs.symm.trans h1
      cases hb
      cases h2 with
      | dct k1 k2 => exact .inr (.inr ⟨_, k1, by rw [isEmpty_ks k2]⟩)
    · rename_i l e
      obtain ⟨v', p, h1, h2, _⟩ := g.get e
      cases hs.symm.trans h1
      cases hb
      cases h2 with
      | bod k1 k2 => exact .inr (.inr ⟨_, k1, by rw [isEmpty_ks k2]⟩)
    · cases hb
def bT (d : DenA) : DenB := fun δ => (d δ).bind fun a δ' => match truA δ' a with
  | some b => .ok b δ'
  | none => .stuck
theorem ct_tr {e : Expr} {d : DenA} (hK : X.K = C.K) (h : CEA C Wx X e d) (he : ∀ whole, isTrue e X.env whole = (do let v ← whole; standAt e.pos; holding [v] (truthy v)) := by intro _; rfl) : CT C Wx X e (bT d) :=
  pt_imp (pt_truth h he) fun σ H Q ⟨F, δ, g, q⟩ => ⟨F, δ, g, Post.imp (fun a δ1 F1 H1 _ g1 q1 v hv => by
    split at q1
    · rename_i b hb
      exact ⟨b, hK ▸ truA_ok g1 hv hb, q1 F1 H1 (Ex.refl F1) g1⟩
    · exact q1.elim) (Post.bind q)⟩
/-- in, not in a tuple whose items and what is looked for are data of any depth -/
def rInT (K : PySem.W.Frag) (neg : Bool) : R2 := fun x y H Q => ∃ d ds, L2.Dp K H x d ∧ L2.Dp K H y (.tuple ds) ∧ SeqAt.shaped d = true ∧ SeqAt.shaped (.tuple ds) = true ∧ Q (.bl (if neg then !(ds.any fun z => PyData.eqv z d) else ds.any fun z => PyData.eqv z d)) H
theorem op_inT (hu : X.A.units + 70 < cLine) : OpR X (compareOp .In) (rInT X.K false) := by
  intro pins st σ H x y v u Q I rx ry h
  rcases h with ⟨d, ds, hd, he, sd, se, q⟩
  obtain ⟨as, r1⟩ := L2.Dp.reads I d x v hd rx
  obtain ⟨bs, r2⟩ := L2.Dp.reads I (.tuple ds) y u he ry
  exact SeqAt.in_tuple_reads r2 r1 (SeqAt.canLay_of_shaped se) (SeqAt.canLay_of_shaped sd) (room_in_shaped sd (by omega)) ⟨.bl _, H, I, rfl, q⟩
theorem op_notInT (hu : X.A.units + 70 < cLine) : OpR X (compareOp .NotIn) (rInT X.K true) := by
  intro pins st σ H x y v u Q I rx ry h
  rcases h with ⟨d, ds, hd, he, sd, se, q⟩
  obtain ⟨as, r1⟩ := L2.Dp.reads I d x v hd rx
  obtain ⟨bs, r2⟩ := L2.Dp.reads I (.tuple ds) y u he ry
  exact SeqAt.notIn_tuple_reads r2 r1 (SeqAt.canLay_of_shaped se) (SeqAt.canLay_of_shaped sd) (room_in_shaped sd (by omega)) ⟨.bl _, H, I, rfl, q⟩
def fInT (neg : Bool) : List PyData → Option PyData
  | [x, .tuple ds] => if okEq x (.tuple ds) then some (.bool (if neg then !(ds.any fun z => PyData.eqv z x) else ds.any fun z => PyData.eqv z x)) else none
  | _ => none
theorem rd_inT (neg : Bool) : RD C (fun vs H Q => ∃ x y, vs = [x, y] ∧ rInT C.K neg x y H Q) (fInT neg) := by
  intro xs z hz F H σ δ vs Q gd hd q
  unfold fInT at hz
  split at hz
  · rename_i x ds
    split at hz
    · rename_i hc
      cases hz
      unfold okEq at hc
      rw [Bool.and_eq_true] at hc
      obtain ⟨v, u, rfl, h1, h2⟩ := dpts2 hd
      exact ⟨v, u, rfl, x, ds, dpt_ex h1 gd.fh, dpt_ex h2 gd.fh, hc.1, hc.2, q _ F H (Ex.refl F) gd (.bl _)⟩
    · cases hz
  · cases hz
end
end Mir

namespace Gen
open PySem PySem.Spec PyProof.Rows L2 MirX Mir
def topS (i : Nat) : Stmt := PySem.Challenge.pw_whatmovesbuy_k65_amounts_and_what_counts.main.body.getD i (.Pass ⟨0, 0, 0, 0⟩)
def subD : Nat → Nat → Option Bool
  | 0, 0 => some true
  | 0, 1 => some false
  | 0, 2 => some false
  | 0, 3 => some true
  | 1, 0 => some false
  | 1, 1 => some true
  | 1, 2 => some false
  | 1, 3 => some true
  | 2, 0 => some false
  | 2, 1 => some false
  | 2, 2 => some true
  | 2, 3 => some true
  | _, _ => none
structure Txt (K : PySem.W.Frag) (mg : Str → Option Value) (S : Sg) : Prop where
  hK : S.K = K
  kx : KX K
  f_is_int : ∃ fd, Fun K "is_int" "is_int" (topS 6) (S.fn 0) fd
  m_is_int : mg "is_int" = some (.ref (S.fn 0))
  f_is_number : ∃ fd, Fun K "is_number" "is_number" (topS 7) (S.fn 1) fd
  m_is_number : mg "is_number" = some (.ref (S.fn 1))
  f_is_sequence : ∃ fd, Fun K "is_sequence" "is_sequence" (topS 8) (S.fn 2) fd
  m_is_sequence : mg "is_sequence" = some (.ref (S.fn 2))
  f_need_number : ∃ fd, Fun K "need_number" "need_number" (topS 9) (S.fn 3) fd
  m_need_number : mg "need_number" = some (.ref (S.fn 3))
  f__can_be_size : ∃ fd, Fun K "_can_be_size" "_can_be_size" (topS 14) (S.fn 4) fd
  m__can_be_size : mg "_can_be_size" = some (.ref (S.fn 4))
  f__can_be_page : ∃ fd, Fun K "_can_be_page" "_can_be_page" (topS 15) (S.fn 5) fd
  m__can_be_page : mg "_can_be_page" = some (.ref (S.fn 5))
  f__first_wrong : ∃ fd, Fun K "_first_wrong" "_first_wrong" (topS 16) (S.fn 6) fd
  m__first_wrong : mg "_first_wrong" = some (.ref (S.fn 6))
  f_check_sizes : ∃ fd, Fun K "check_sizes" "check_sizes" (topS 17) (S.fn 7) fd
  m_check_sizes : mg "check_sizes" = some (.ref (S.fn 7))
  f_check_pages : ∃ fd, Fun K "check_pages" "check_pages" (topS 18) (S.fn 8) fd
  m_check_pages : mg "check_pages" = some (.ref (S.fn 8))
  f_sizes_that_count : ∃ fd, Fun K "sizes_that_count" "sizes_that_count" (topS 19) (S.fn 9) fd
  m_sizes_that_count : mg "sizes_that_count" = some (.ref (S.fn 9))
  f_need_counting : ∃ fd, Fun K "need_counting" "need_counting" (topS 20) (S.fn 10) fd
  m_need_counting : mg "need_counting" = some (.ref (S.fn 10))
  f__page_places : ∃ fd, Fun K "_page_places" "_page_places" (topS 22) (S.fn 11) fd
  m__page_places : mg "_page_places" = some (.ref (S.fn 11))
  f_unit_places : ∃ fd, Fun K "unit_places" "unit_places" (topS 23) (S.fn 12) fd
  m_unit_places : mg "unit_places" = some (.ref (S.fn 12))
  f_arena : ∃ fd, Fun K "arena" "arena" (topS 25) (S.fn 13) fd
  m_arena : mg "arena" = some (.ref (S.fn 13))
  f__phases : ∃ fd, Fun K "_phases" "_phases" (topS 26) (S.fn 14) fd
  m__phases : mg "_phases" = some (.ref (S.fn 14))
  f_foe_many : ∃ fd, Fun K "foe_many" "foe_many" (topS 27) (S.fn 15) fd
  m_foe_many : mg "foe_many" = some (.ref (S.fn 15))
  f_need_when : ∃ fd, Fun K "need_when" "need_when" (topS 30) (S.fn 16) fd
  m_need_when : mg "need_when" = some (.ref (S.fn 16))
  f_least_at_taking : ∃ fd, Fun K "least_at_taking" "least_at_taking" (topS 32) (S.fn 17) fd
  m_least_at_taking : mg "least_at_taking" = some (.ref (S.fn 17))
  f_full_amount : ∃ fd, Fun K "full_amount" "full_amount" (topS 34) (S.fn 18) fd
  m_full_amount : mg "full_amount" = some (.ref (S.fn 18))
  f_above : ∃ fd, Fun K "above" "above" (topS 35) (S.fn 19) fd
  m_above : mg "above" = some (.ref (S.fn 19))
  f_verdict : ∃ fd, Fun K "verdict" "verdict" (topS 36) (S.fn 20) fd
  m_verdict : mg "verdict" = some (.ref (S.fn 20))
  f__law_box : ∃ fd, Fun K "_law_box" "_law_box" (topS 38) (S.fn 21) fd
  m__law_box : mg "_law_box" = some (.ref (S.fn 21))
  f__law_take : ∃ fd, Fun K "_law_take" "_law_take" (topS 39) (S.fn 22) fd
  m__law_take : mg "_law_take" = some (.ref (S.fn 22))
  f__law_pick : ∃ fd, Fun K "_law_pick" "_law_pick" (topS 40) (S.fn 23) fd
  m__law_pick : mg "_law_pick" = some (.ref (S.fn 23))
  f__law_sizes : ∃ fd, Fun K "_law_sizes" "_law_sizes" (topS 41) (S.fn 24) fd
  m__law_sizes : mg "_law_sizes" = some (.ref (S.fn 24))
  f__law_pages : ∃ fd, Fun K "_law_pages" "_law_pages" (topS 42) (S.fn 25) fd
  m__law_pages : mg "_law_pages" = some (.ref (S.fn 25))
  f__law_amount : ∃ fd, Fun K "_law_amount" "_law_amount" (topS 43) (S.fn 26) fd
  m__law_amount : mg "_law_amount" = some (.ref (S.fn 26))
  f__law_heard : ∃ fd, Fun K "_law_heard" "_law_heard" (topS 44) (S.fn 27) fd
  m__law_heard : mg "_law_heard" = some (.ref (S.fn 27))
  f_law : ∃ fd, Fun K "law" "law" (topS 45) (S.fn 28) fd
  m_law : mg "law" = some (.ref (S.fn 28))
  n_isinstance : mg "isinstance" = none
  n_len : mg "len" = none
  n_range : mg "range" = none
  n_enumerate : mg "enumerate" = none
  n_zip : mg "zip" = none
  n_reversed : mg "reversed" = none
  n_tuple : mg "tuple" = none
  n_list : mg "list" = none
  n_int : mg "int" = none
  n_abs : mg "abs" = none
  n_min : mg "min" = none
  n_max : mg "max" = none
  n_repr : mg "repr" = none
  n_bool : mg "bool" = none
  n_str : mg "str" = none
  n_sorted : mg "sorted" = none
  n_sum : mg "sum" = none
  n_dict : mg "dict" = none
  n_any : mg "any" = none
  n_all : mg "all" = none
  n_set : mg "set" = none
  c_MOST_SIZES : ∃ t, mg "MOST_SIZES" = some (.int 5 t)
  c_GREATEST_SIZE : ∃ t, mg "GREATEST_SIZE" = some (.int 64 t)
  c_MOST_PAGES : ∃ t, mg "MOST_PAGES" = some (.int 64 t)
  c_WHENS : ∃ t, mg "WHENS" = some (.ref t) ∧ ∀ F, Dp S.K F (.ref t) (.tuple [.str "request", .str "giving", .str "taking"])
  mc_BadSizes : mg "BadSizes" = some (.ref (S.cls 0))
  mc_BadPages : mg "BadPages" = some (.ref (S.cls 1))
  mc_Refused : mg "Refused" = some (.ref (S.cls 2))
  mc_OwnError : mg "OwnError" = some (.ref (S.cls 3))
  excC : ∀ c, ExcC K (S.cls c)
  exm : ∀ c k b, subD c k = some b → PySem.W.exmOne K (.ref (S.cls c)) (.ref (S.cls k)) = some b
  isi : ∀ c k b, subD c k = some b → PySem.W.kitOne K (.ref (S.cls c)) (.ref (S.cls k)) = some b
  fn_BadSizes : S.fld 0 = "at"
  fn_BadPages : S.fld 1 = "at"
  fn_Refused : S.fld 2 = "value"
  fld_BadSizes : FieldOk (S.fld 0)
  e_BadSizes : ∃ q fI, ErrTxt S.K mg "BadSizes" q (S.fld 0) (S.cls 0) fI
  fld_BadPages : FieldOk (S.fld 1)
  e_BadPages : ∃ q fI, ErrTxt S.K mg "BadPages" q (S.fld 1) (S.cls 1) fI
  fld_Refused : FieldOk (S.fld 2)
  e_Refused : ∃ q fI, ErrTxt S.K mg "Refused" q (S.fld 2) (S.cls 2) fI
theorem Txt.relam {K : PySem.W.Frag} {mg : Str → Option Value} {S : Sg} (T : Txt K mg S) (l : Nat → LamD) : Txt K mg (S.withLam l) := ⟨T.hK, T.kx, T.f_is_int, T.m_is_int, T.f_is_number, T.m_is_number, T.f_is_sequence, T.m_is_sequence, T.f_need_number, T.m_need_number, T.f__can_be_size, T.m__can_be_size, T.f__can_be_page, T.m__can_be_page, T.f__first_wrong, T.m__first_wrong, T.f_check_sizes, T.m_check_sizes, T.f_check_pages, T.m_check_pages, T.f_sizes_that_count, T.m_sizes_that_count, T.f_need_counting, T.m_need_counting, T.f__page_places, T.m__page_places, T.f_unit_places, T.m_unit_places, T.f_arena, T.m_arena, T.f__phases, T.m__phases, T.f_foe_many, T.m_foe_many, T.f_need_when, T.m_need_when, T.f_least_at_taking, T.m_least_at_taking, T.f_full_amount, T.m_full_amount, T.f_above, T.m_above, T.f_verdict, T.m_verdict, T.f__law_box, T.m__law_box, T.f__law_take, T.m__law_take, T.f__law_pick, T.m__law_pick, T.f__law_sizes, T.m__law_sizes, T.f__law_pages, T.m__law_pages, T.f__law_amount, T.m__law_amount, T.f__law_heard, T.m__law_heard, T.f_law, T.m_law, T.n_isinstance, T.n_len, T.n_range, T.n_enumerate, T.n_zip, T.n_reversed, T.n_tuple, T.n_list, T.n_int, T.n_abs, T.n_min, T.n_max, T.n_repr, T.n_bool, T.n_str, T.n_sorted, T.n_sum, T.n_dict, T.n_any, T.n_all, T.n_set, T.c_MOST_SIZES, T.c_GREATEST_SIZE, T.c_MOST_PAGES, T.c_WHENS, T.mc_BadSizes, T.mc_BadPages, T.mc_Refused, T.mc_OwnError, T.excC, T.exm, T.isi, T.fn_BadSizes, T.fn_BadPages, T.fn_Refused, T.fld_BadSizes, T.e_BadSizes, T.fld_BadPages, T.e_BadPages, T.fld_Refused, T.e_Refused⟩
structure Tb (K : PySem.W.Frag) (mg : Str → Option Value) (S : Sg) (base : Heap) : Prop where
  t_law : ∃ (fd : FuncData) (c P0 : Addr), Fun K "law" "law" (topS 45) (S.fn 28) fd ∧ fd.code = .ref c ∧ LamX.TabB base mg c P0 ∧ (P0, (envOfC "law" (defScope (topS 45)) 0 0 .none).qual ++ "<lambda>") ∈ S.T ∧ ∀ p ∈ S.T, p.1 = P0 → p.2 = (envOfC "law" (defScope (topS 45)) 0 0 .none).qual ++ "<lambda>"
theorem Tb.relam {K : PySem.W.Frag} {mg : Str → Option Value} {S : Sg} {base : Heap} (T : Tb K mg S base) (l : Nat → LamD) : Tb K mg (S.withLam l) base := ⟨T.t_law⟩
section
variable {P : Program} {w : World} {K : PySem.W.Frag} {mg : Str → Option Value} {base : Heap} {S : Sg}
def body_is_int : DenS := (sRet (wE (dAnd (dOp1 (fIsA [.int]) (aSl 0)) (dNot (dOp1 (fIsA [.bool]) (aSl 0))))))
def den_is_int : List W → RF := runF 1 none body_is_int
theorem sc_is_int : FnScope ["value"] ["value"] (defScope (topS 6)) := ⟨rfl, rfl, rfl, by decide +kernel, rfl, by decide +kernel, by decide +kernel⟩
theorem ok_is_int (T : Txt K mg S) : ∃ fd, Fun K "is_int" "is_int" (topS 6) (S.fn 0) fd ∧ FnG P w K mg base 1 (S.fn 0) fd ["value"] (SpP S 1 den_is_int) := by
  obtain ⟨fd, F⟩ := T.f_is_int
  refine ⟨fd, F, okG F sc_is_int (fun vs H Q E h => h.1) (fun cdv A outer s H vs Q E hr h => ?_)⟩
  obtain ⟨C, rfl, _, ht⟩ := body_pure (N := ["value"]) h
  have hK := T.hK
  subst hK
  refine ⟨_, ?_, ht⟩
  have tk := takes_of (X := cxOf (L2.CX P w) P w C.K mg base ["value"] "is_int" (defScope (topS 6)) (C.fn 0) cdv A outer s H E) (E := E) rfl rfl rfl rfl
  have hp := passes_of (X := cxOf (L2.CX P w) P w C.K mg base ["value"] "is_int" (defScope (topS 6)) (C.fn 0) cdv A outer s H E) rfl
  exact (css_one (cs_ret (cw_e (ce_and (ce_isA1 (t := .int) rfl rfl T.n_isinstance rfl T.n_int (by decide +kernel) (by decide) (by decide) (cea_sl (pv 0))) (ce_one (ce_not (ce_isA1 (t := .bool) rfl rfl T.n_isinstance rfl T.n_bool (by decide +kernel) (by decide) (by decide) (cea_sl (pv 0)))))))))
def body_is_number : DenS := (sRet (wE (dAnd (eW (wCall 1 den_is_int (aCons (aEx (dVar 0)) aNil))) (dOp2 fGe (aSl 0) (aEx (dC (.int 0)))))))
def den_is_number : List W → RF := runF 1 none body_is_number
theorem sc_is_number : FnScope ["value"] ["value"] (defScope (topS 7)) := ⟨rfl, rfl, rfl, by decide +kernel, rfl, by decide +kernel, by decide +kernel⟩
theorem ok_is_number (T : Txt K mg S) : ∃ fd, Fun K "is_number" "is_number" (topS 7) (S.fn 1) fd ∧ FnG P w K mg base 2 (S.fn 1) fd ["value"] (SpP S 1 den_is_number) := by
  obtain ⟨fd, F⟩ := T.f_is_number
  obtain ⟨fd_is_int, f_is_int, g_is_int⟩ := ok_is_int (P := P) (w := w) (base := base) T
  refine ⟨fd, F, okG F sc_is_number (fun vs H Q E h => h.1) (fun cdv A outer s H vs Q E hr h => ?_)⟩
  obtain ⟨C, rfl, _, ht⟩ := body_pure (N := ["value"]) h
  have hK := T.hK
  subst hK
  refine ⟨_, ?_, ht⟩
  have tk := takes_of (X := cxOf (L2.CX P w) P w C.K mg base ["value"] "is_number" (defScope (topS 7)) (C.fn 1) cdv A outer s H E) (E := E) rfl rfl rfl rfl
  have hp := passes_of (X := cxOf (L2.CX P w) P w C.K mg base ["value"] "is_number" (defScope (topS 7)) (C.fn 1) cdv A outer s H E) rfl
  exact (css_one (cs_ret (cw_e (ce_and (ce_w (cw_call g_is_int (hr.mono (by decide)) (by rfl) T.m_is_int f_is_int.kp (f_is_int.binds (ps := ["value"]) fun _ _ _ _ _ _ us hl => match us, hl with | [_], _ => rfl) tk (cal_cons (cea_ex (ce_var (pv 0))) cal_nil))) (ce_one (ce_cmp op_ge rd_ge (cea_sl (pv 0)) (cea_ex ce_int) (nomark _)))))))
def body_is_sequence : DenS := (sRet (wE (dOp1 (fIsA [.list, .tuple]) (aSl 0))))
def den_is_sequence : List W → RF := runF 1 none body_is_sequence
theorem sc_is_sequence : FnScope ["value"] ["value"] (defScope (topS 8)) := ⟨rfl, rfl, rfl, by decide +kernel, rfl, by decide +kernel, by decide +kernel⟩
theorem ok_is_sequence (T : Txt K mg S) : ∃ fd, Fun K "is_sequence" "is_sequence" (topS 8) (S.fn 2) fd ∧ FnG P w K mg base 1 (S.fn 2) fd ["value"] (SpP S 1 den_is_sequence) := by
  obtain ⟨fd, F⟩ := T.f_is_sequence
  refine ⟨fd, F, okG F sc_is_sequence (fun vs H Q E h => h.1) (fun cdv A outer s H vs Q E hr h => ?_)⟩
  obtain ⟨C, rfl, _, ht⟩ := body_pure (N := ["value"]) h
  have hK := T.hK
  subst hK
  refine ⟨_, ?_, ht⟩
  have tk := takes_of (X := cxOf (L2.CX P w) P w C.K mg base ["value"] "is_sequence" (defScope (topS 8)) (C.fn 2) cdv A outer s H E) (E := E) rfl rfl rfl rfl
  have hp := passes_of (X := cxOf (L2.CX P w) P w C.K mg base ["value"] "is_sequence" (defScope (topS 8)) (C.fn 2) cdv A outer s H E) rfl
  exact (css_one (cs_ret (cw_e (ce_isA2 (t := .list) (u := .tuple) rfl rfl T.n_isinstance rfl T.n_list (by decide +kernel) (by decide) (by decide) rfl T.n_tuple (by decide +kernel) (by decide) (by decide) (cea_sl (pv 0))))))
def body_need_number : DenS := (sSeq (sIf (bNot (bE (eW (wCall 1 den_is_number (aCons (aEx (dVar 0)) aNil))))) (sRaise 2 (dVar 0)) sNil) (sRet (wMove 0)))
def den_need_number : List W → RF := runF 1 none body_need_number
theorem sc_need_number : FnScope ["value"] ["value"] (defScope (topS 9)) := ⟨rfl, rfl, rfl, by decide +kernel, rfl, by decide +kernel, by decide +kernel⟩
theorem ok_need_number (T : Txt K mg S) : ∃ fd, Fun K "need_number" "need_number" (topS 9) (S.fn 3) fd ∧ FnG P w K mg base 3 (S.fn 3) fd ["value"] (SpP S 1 den_need_number) := by
  obtain ⟨fd, F⟩ := T.f_need_number
  obtain ⟨fd_is_number, f_is_number, g_is_number⟩ := ok_is_number (P := P) (w := w) (base := base) T
  obtain ⟨q_Refused, i_Refused, e_Refused⟩ := T.e_Refused
  refine ⟨fd, F, okG F sc_need_number (fun vs H Q E h => h.1) (fun cdv A outer s H vs Q E hr h => ?_)⟩
  obtain ⟨C, rfl, _, ht⟩ := body_pure (N := ["value"]) h
  have hK := T.hK
  subst hK
  refine ⟨_, ?_, ht⟩
  have tk := takes_of (X := cxOf (L2.CX P w) P w C.K mg base ["value"] "need_number" (defScope (topS 9)) (C.fn 3) cdv A outer s H E) (E := E) rfl rfl rfl rfl
  have hp := passes_of (X := cxOf (L2.CX P w) P w C.K mg base ["value"] "need_number" (defScope (topS 9)) (C.fn 3) cdv A outer s H E) rfl
  exact (css_cons (cs_if (ct_not (ct_e (ce_w (cw_call g_is_number (hr.mono (by decide)) (by rfl) T.m_is_number f_is_number.kp (f_is_number.binds (ps := ["value"]) fun _ _ _ _ _ _ us hl => match us, hl with | [_], _ => rfl) tk (cal_cons (cea_ex (ce_var (pv 0))) cal_nil))))) (css_one (cs_raise (c := 2) rfl e_Refused T.fld_Refused hr.room tk (ce_var (pv 0)) (by rfl) (by decide))) css_nil) (css_one (cs_ret (cw_move (pv 0)))))
def body__can_be_size : DenS := (sSeq (sIf (bOr (bNot (bE (eW (wCall 1 den_is_number (aCons (aEx (dVar 0)) aNil))))) (bNot (tB (dChain fLe fLe (aEx (dC (.int 1))) (aSl 0) (aEx (dC (.int 64))))))) (sRet (wE (dC (.bool false)))) sNil) (sRet (wE (dOr (dOp2 fIsN (aSl 1) (aEx (dC .none))) (dAnd (dOp2 fGt (aSl 0) (aSl 1)) (dOp2 fEq (aEx (dOp2 fMod (aSl 0) (aSl 1))) (aEx (dC (.int 0)))))))))
def den__can_be_size : List W → RF := runF 2 none body__can_be_size
theorem sc__can_be_size : FnScope ["item", "ahead"] ["item", "ahead"] (defScope (topS 14)) := ⟨rfl, rfl, rfl, by decide +kernel, rfl, by decide +kernel, by decide +kernel⟩
theorem ok__can_be_size (T : Txt K mg S) : ∃ fd, Fun K "_can_be_size" "_can_be_size" (topS 14) (S.fn 4) fd ∧ FnG P w K mg base 3 (S.fn 4) fd ["item", "ahead"] (SpP S 2 den__can_be_size) := by
  obtain ⟨fd, F⟩ := T.f__can_be_size
  obtain ⟨fd_is_number, f_is_number, g_is_number⟩ := ok_is_number (P := P) (w := w) (base := base) T
  obtain ⟨t_GREATEST_SIZE, c_GREATEST_SIZE⟩ := T.c_GREATEST_SIZE
  refine ⟨fd, F, okG F sc__can_be_size (fun vs H Q E h => h.1) (fun cdv A outer s H vs Q E hr h => ?_)⟩
  obtain ⟨C, rfl, _, ht⟩ := body_pure (N := ["item", "ahead"]) h
  have hK := T.hK
  subst hK
  refine ⟨_, ?_, ht⟩
  have tk := takes_of (X := cxOf (L2.CX P w) P w C.K mg base ["item", "ahead"] "_can_be_size" (defScope (topS 14)) (C.fn 4) cdv A outer s H E) (E := E) rfl rfl rfl rfl
  have hp := passes_of (X := cxOf (L2.CX P w) P w C.K mg base ["item", "ahead"] "_can_be_size" (defScope (topS 14)) (C.fn 4) cdv A outer s H E) rfl
  exact (css_cons (cs_if (ct_w (cpw_or (ct_not (ct_e (ce_w (cw_call g_is_number (hr.mono (by decide)) (by rfl) T.m_is_number f_is_number.kp (f_is_number.binds (ps := ["value"]) fun _ _ _ _ _ _ us hl => match us, hl with | [_], _ => rfl) tk (cal_cons (cea_ex (ce_var (pv 0))) cal_nil))))) (cpw_or1 (ct_not (ct_chain op_le op_le rd_le rd_le (cea_ex ce_int) (cea_sl (pv 0)) (cea_ex (ce_c (v := .int 64) (pe_glob (by rfl) c_GREATEST_SIZE ⟨_, rfl⟩) fun _ => .int _))))))) (css_one (cs_ret (cw_e ce_bl))) css_nil) (css_one (cs_ret (cw_e (ce_or (ce_cmp op_isN rd_isN (cea_sl (pv 1)) (cea_ex ce_non) (nomark _)) (ce_one (ce_and (ce_cmp op_gt rd_gt (cea_sl (pv 0)) (cea_sl (pv 1)) (nomark _)) (ce_one (ce_cmp (op_eqD hr.u64) rd_eq (cea_ex (ce_op op_mod rd_mod (cea_sl (pv 0)) (cea_sl (pv 1)))) (cea_ex ce_int) (nomark _))))))))))
def body__can_be_page : DenS := (sRet (wE (dAnd (eW (wCall 1 den_is_number (aCons (aEx (dVar 0)) aNil))) (dOr (dOp2 fIsN (aSl 1) (aEx (dC .none))) (dOp2 fGt (aSl 0) (aSl 1))))))
def den__can_be_page : List W → RF := runF 2 none body__can_be_page
theorem sc__can_be_page : FnScope ["item", "ahead"] ["item", "ahead"] (defScope (topS 15)) := ⟨rfl, rfl, rfl, by decide +kernel, rfl, by decide +kernel, by decide +kernel⟩
theorem ok__can_be_page (T : Txt K mg S) : ∃ fd, Fun K "_can_be_page" "_can_be_page" (topS 15) (S.fn 5) fd ∧ FnG P w K mg base 3 (S.fn 5) fd ["item", "ahead"] (SpP S 2 den__can_be_page) := by
  obtain ⟨fd, F⟩ := T.f__can_be_page
  obtain ⟨fd_is_number, f_is_number, g_is_number⟩ := ok_is_number (P := P) (w := w) (base := base) T
  refine ⟨fd, F, okG F sc__can_be_page (fun vs H Q E h => h.1) (fun cdv A outer s H vs Q E hr h => ?_)⟩
  obtain ⟨C, rfl, _, ht⟩ := body_pure (N := ["item", "ahead"]) h
  have hK := T.hK
  subst hK
  refine ⟨_, ?_, ht⟩
  have tk := takes_of (X := cxOf (L2.CX P w) P w C.K mg base ["item", "ahead"] "_can_be_page" (defScope (topS 15)) (C.fn 5) cdv A outer s H E) (E := E) rfl rfl rfl rfl
  have hp := passes_of (X := cxOf (L2.CX P w) P w C.K mg base ["item", "ahead"] "_can_be_page" (defScope (topS 15)) (C.fn 5) cdv A outer s H E) rfl
  exact (css_one (cs_ret (cw_e (ce_and (ce_w (cw_call g_is_number (hr.mono (by decide)) (by rfl) T.m_is_number f_is_number.kp (f_is_number.binds (ps := ["value"]) fun _ _ _ _ _ _ us hl => match us, hl with | [_], _ => rfl) tk (cal_cons (cea_ex (ce_var (pv 0))) cal_nil))) (ce_one (ce_or (ce_cmp op_isN rd_isN (cea_sl (pv 1)) (cea_ex ce_non) (nomark _)) (ce_one (ce_cmp op_gt rd_gt (cea_sl (pv 0)) (cea_sl (pv 1)) (nomark _)))))))))
def body__first_wrong : DenS := (sSeq (sSet 2 (wE (dC .none))) (sSeq (sFor (.tup [3, 4]) (iEnum (dVar 0)) (sSeq (sIf (bNot (bE (eW (wCallL 1 (tab1 5 2 den__can_be_page (tab1 4 2 den__can_be_size tab0)) (aCons (aEx (dVar 4)) (aCons (aEx (dVar 2)) aNil)))))) (sRet (wMove 3)) sNil) (sSet 2 (wE (dVar 4))))) (sRet (wE (dC .none)))))
def den__first_wrong : List W → RF := runF 5 none body__first_wrong
theorem sc__first_wrong : FnScope ["row", "can_follow", "ahead", "at", "item"] ["row", "can_follow"] (defScope (topS 16)) := ⟨rfl, rfl, rfl, by decide +kernel, rfl, by decide +kernel, by decide +kernel⟩
theorem ok__first_wrong (T : Txt K mg S) : ∃ fd, Fun K "_first_wrong" "_first_wrong" (topS 16) (S.fn 6) fd ∧ FnG P w K mg base 4 (S.fn 6) fd ["row", "can_follow"] (SpP S 2 den__first_wrong) := by
  obtain ⟨fd, F⟩ := T.f__first_wrong
  obtain ⟨fd__can_be_size, f__can_be_size, g__can_be_size⟩ := ok__can_be_size (P := P) (w := w) (base := base) T
  obtain ⟨fd__can_be_page, f__can_be_page, g__can_be_page⟩ := ok__can_be_page (P := P) (w := w) (base := base) T
  refine ⟨fd, F, okG F sc__first_wrong (fun vs H Q E h => h.1) (fun cdv A outer s H vs Q E hr h => ?_)⟩
  obtain ⟨C, rfl, _, ht⟩ := body_pure (N := ["row", "can_follow", "ahead", "at", "item"]) h
  have hK := T.hK
  subst hK
  refine ⟨_, ?_, ht⟩
  have tk := takes_of (X := cxOf (L2.CX P w) P w C.K mg base ["row", "can_follow", "ahead", "at", "item"] "_first_wrong" (defScope (topS 16)) (C.fn 6) cdv A outer s H E) (E := E) rfl rfl rfl rfl
  have hp := passes_of (X := cxOf (L2.CX P w) P w C.K mg base ["row", "can_follow", "ahead", "at", "item"] "_first_wrong" (defScope (topS 16)) (C.fn 6) cdv A outer s H E) rfl
  exact (css_cons (cs_set (i := 2) sc__first_wrong.nd rfl (.inl rfl) (cw_e ce_non)) (css_cons (cs_for hp rfl (ci_enum rfl (by rfl) T.n_enumerate (ce_var (pv 0))) (cg_tup rfl rfl (is := [3, 4]) (pgs_cons (pg_name (i := 3) sc__first_wrong.nd rfl (.inl rfl)) (pgs_cons (pg_name (i := 4) sc__first_wrong.nd rfl (.inl rfl)) pgs_nil))) (css_cons (cs_if (ct_not (ct_e (ce_w (cw_callL (i := 1) (hT1 (.mk1 g__can_be_page (hr.mono (by decide)) f__can_be_page.kp (f__can_be_page.binds (ps := ["item", "ahead"]) fun _ _ _ _ _ _ us hl => match us, hl with | [_, _], _ => rfl)) (hT1 (.mk1 g__can_be_size (hr.mono (by decide)) f__can_be_size.kp (f__can_be_size.binds (ps := ["item", "ahead"]) fun _ _ _ _ _ _ us hl => match us, hl with | [_, _], _ => rfl)) hT0)) rfl (by first | exact Or.inl rfl | exact Or.inr (Or.inl rfl)) tk (cal_cons (cea_ex (ce_var (pv 4))) (cal_cons (cea_ex (ce_var (pv 2))) cal_nil)))))) (css_one (cs_ret (cw_move (pv 3)))) css_nil) (css_one (cs_set (i := 2) sc__first_wrong.nd rfl (.inl rfl) (cw_e (ce_var (pv 4))))))) (css_one (cs_ret (cw_e ce_non)))))
def body_check_sizes : DenS := (sSeq (sIf (bOr (bNot (bE (eW (wCall 1 den_is_sequence (aCons (aEx (dVar 0)) aNil))))) (bNot (tB (dChain fLe fLe (aEx (dC (.int 1))) (aEx (dApp fLen (aCons (aSl 0) aNil))) (aEx (dC (.int 5))))))) (sRaise 0 (dOp1 fNeg (aEx (dC (.int 1))))) sNil) (sSeq (sSet 1 (wCall 2 den__first_wrong (aCons (aEx (dVar 0)) (aCons (aFn 4) aNil)))) (sSeq (sIf (bE (dOp2 fNotN (aSl 1) (aEx (dC .none)))) (sRaise 0 (dVar 1)) sNil) (sRet (wE (dApp fTuple (aCons (aSl 0) aNil)))))))
def den_check_sizes : List W → RF := runF 2 none body_check_sizes
theorem sc_check_sizes : FnScope ["value", "wrong"] ["value"] (defScope (topS 17)) := ⟨rfl, rfl, rfl, by decide +kernel, rfl, by decide +kernel, by decide +kernel⟩
theorem ok_check_sizes (T : Txt K mg S) : ∃ fd, Fun K "check_sizes" "check_sizes" (topS 17) (S.fn 7) fd ∧ FnG P w K mg base 5 (S.fn 7) fd ["value"] (SpP S 1 den_check_sizes) := by
  obtain ⟨fd, F⟩ := T.f_check_sizes
  obtain ⟨fd_is_sequence, f_is_sequence, g_is_sequence⟩ := ok_is_sequence (P := P) (w := w) (base := base) T
  obtain ⟨fd__first_wrong, f__first_wrong, g__first_wrong⟩ := ok__first_wrong (P := P) (w := w) (base := base) T
  obtain ⟨fd__can_be_size, f__can_be_size, g__can_be_size⟩ := ok__can_be_size (P := P) (w := w) (base := base) T
  obtain ⟨t_MOST_SIZES, c_MOST_SIZES⟩ := T.c_MOST_SIZES
  obtain ⟨q_BadSizes, i_BadSizes, e_BadSizes⟩ := T.e_BadSizes
  refine ⟨fd, F, okG F sc_check_sizes (fun vs H Q E h => h.1) (fun cdv A outer s H vs Q E hr h => ?_)⟩
  obtain ⟨C, rfl, _, ht⟩ := body_pure (N := ["value", "wrong"]) h
  have hK := T.hK
  subst hK
  refine ⟨_, ?_, ht⟩
  have tk := takes_of (X := cxOf (L2.CX P w) P w C.K mg base ["value", "wrong"] "check_sizes" (defScope (topS 17)) (C.fn 7) cdv A outer s H E) (E := E) rfl rfl rfl rfl
  have hp := passes_of (X := cxOf (L2.CX P w) P w C.K mg base ["value", "wrong"] "check_sizes" (defScope (topS 17)) (C.fn 7) cdv A outer s H E) rfl
  exact (css_cons (cs_if (ct_w (cpw_or (ct_not (ct_e (ce_w (cw_call g_is_sequence (hr.mono (by decide)) (by rfl) T.m_is_sequence f_is_sequence.kp (f_is_sequence.binds (ps := ["value"]) fun _ _ _ _ _ _ us hl => match us, hl with | [_], _ => rfl) tk (cal_cons (cea_ex (ce_var (pv 0))) cal_nil))))) (cpw_or1 (ct_not (ct_chain op_le op_le rd_le rd_le (cea_ex ce_int) (cea_ex (ce_callB call_len_seq rd_len (by rfl) T.n_len (by decide +kernel) (cal_cons (cea_sl (pv 0)) cal_nil))) (cea_ex (ce_c (v := .int 5) (pe_glob (by rfl) c_MOST_SIZES ⟨_, rfl⟩) fun _ => .int _))))))) (css_one (cs_raise (c := 0) rfl e_BadSizes T.fld_BadSizes hr.room tk (ce_un un_neg rd_neg (cea_ex ce_int)) (by rfl) (by decide))) css_nil) (css_cons (cs_set (i := 1) sc_check_sizes.nd rfl (.inl rfl) (cw_call g__first_wrong (hr.mono (by decide)) (by rfl) T.m__first_wrong f__first_wrong.kp (f__first_wrong.binds (ps := ["row", "can_follow"]) fun _ _ _ _ _ _ us hl => match us, hl with | [_, _], _ => rfl) tk (cal_cons (cea_ex (ce_var (pv 0))) (cal_cons (cea_fn (k := 4) (pe_glob (by rfl) T.m__can_be_size rfl)) cal_nil)))) (css_cons (cs_if (ct_cmp op_notN rd_notN (cea_sl (pv 1)) (cea_ex ce_non) (nomark _)) (css_one (cs_raise (c := 0) rfl e_BadSizes T.fld_BadSizes hr.room tk (ce_var (pv 1)) (by rfl) (by decide))) css_nil) (css_one (cs_ret (cw_e (ce_callTy call_tupX rd_tuple (by rfl) T.n_tuple (by decide +kernel) (cal_cons (cea_sl (pv 0)) cal_nil))))))))
def body_check_pages : DenS := (sSeq (sIf (bOr (bNot (bE (eW (wCall 1 den_is_sequence (aCons (aEx (dVar 0)) aNil))))) (bE (dOp2 fGt (aEx (dApp fLen (aCons (aSl 0) aNil))) (aEx (dC (.int 64)))))) (sRaise 1 (dOp1 fNeg (aEx (dC (.int 1))))) sNil) (sSeq (sSet 1 (wCall 2 den__first_wrong (aCons (aEx (dVar 0)) (aCons (aFn 5) aNil)))) (sSeq (sIf (bE (dOp2 fNotN (aSl 1) (aEx (dC .none)))) (sRaise 1 (dVar 1)) sNil) (sRet (wE (dApp fTuple (aCons (aSl 0) aNil)))))))
def den_check_pages : List W → RF := runF 2 none body_check_pages
theorem sc_check_pages : FnScope ["value", "wrong"] ["value"] (defScope (topS 18)) := ⟨rfl, rfl, rfl, by decide +kernel, rfl, by decide +kernel, by decide +kernel⟩
theorem ok_check_pages (T : Txt K mg S) : ∃ fd, Fun K "check_pages" "check_pages" (topS 18) (S.fn 8) fd ∧ FnG P w K mg base 5 (S.fn 8) fd ["value"] (SpP S 1 den_check_pages) := by
  obtain ⟨fd, F⟩ := T.f_check_pages
  obtain ⟨fd_is_sequence, f_is_sequence, g_is_sequence⟩ := ok_is_sequence (P := P) (w := w) (base := base) T
  obtain ⟨fd__first_wrong, f__first_wrong, g__first_wrong⟩ := ok__first_wrong (P := P) (w := w) (base := base) T
  obtain ⟨fd__can_be_page, f__can_be_page, g__can_be_page⟩ := ok__can_be_page (P := P) (w := w) (base := base) T
  obtain ⟨t_MOST_PAGES, c_MOST_PAGES⟩ := T.c_MOST_PAGES
  obtain ⟨q_BadPages, i_BadPages, e_BadPages⟩ := T.e_BadPages
  refine ⟨fd, F, okG F sc_check_pages (fun vs H Q E h => h.1) (fun cdv A outer s H vs Q E hr h => ?_)⟩
  obtain ⟨C, rfl, _, ht⟩ := body_pure (N := ["value", "wrong"]) h
  have hK := T.hK
  subst hK
  refine ⟨_, ?_, ht⟩
  have tk := takes_of (X := cxOf (L2.CX P w) P w C.K mg base ["value", "wrong"] "check_pages" (defScope (topS 18)) (C.fn 8) cdv A outer s H E) (E := E) rfl rfl rfl rfl
  have hp := passes_of (X := cxOf (L2.CX P w) P w C.K mg base ["value", "wrong"] "check_pages" (defScope (topS 18)) (C.fn 8) cdv A outer s H E) rfl
  exact (css_cons (cs_if (ct_w (cpw_or (ct_not (ct_e (ce_w (cw_call g_is_sequence (hr.mono (by decide)) (by rfl) T.m_is_sequence f_is_sequence.kp (f_is_sequence.binds (ps := ["value"]) fun _ _ _ _ _ _ us hl => match us, hl with | [_], _ => rfl) tk (cal_cons (cea_ex (ce_var (pv 0))) cal_nil))))) (cpw_or1 (ct_cmp op_gt rd_gt (cea_ex (ce_callB call_len_seq rd_len (by rfl) T.n_len (by decide +kernel) (cal_cons (cea_sl (pv 0)) cal_nil))) (cea_ex (ce_c (v := .int 64) (pe_glob (by rfl) c_MOST_PAGES ⟨_, rfl⟩) fun _ => .int _)) (nomark _))))) (css_one (cs_raise (c := 1) rfl e_BadPages T.fld_BadPages hr.room tk (ce_un un_neg rd_neg (cea_ex ce_int)) (by rfl) (by decide))) css_nil) (css_cons (cs_set (i := 1) sc_check_pages.nd rfl (.inl rfl) (cw_call g__first_wrong (hr.mono (by decide)) (by rfl) T.m__first_wrong f__first_wrong.kp (f__first_wrong.binds (ps := ["row", "can_follow"]) fun _ _ _ _ _ _ us hl => match us, hl with | [_, _], _ => rfl) tk (cal_cons (cea_ex (ce_var (pv 0))) (cal_cons (cea_fn (k := 5) (pe_glob (by rfl) T.m__can_be_page rfl)) cal_nil)))) (css_cons (cs_if (ct_cmp op_notN rd_notN (cea_sl (pv 1)) (cea_ex ce_non) (nomark _)) (css_one (cs_raise (c := 1) rfl e_BadPages T.fld_BadPages hr.room tk (ce_var (pv 1)) (by rfl) (by decide))) css_nil) (css_one (cs_ret (cw_e (ce_callTy call_tupX rd_tuple (by rfl) T.n_tuple (by decide +kernel) (cal_cons (cea_sl (pv 0)) cal_nil))))))))
def body_sizes_that_count : DenS := (sSeq (sIf (bAnd (bE (dOp2 fEq (aEx (dApp fLen (aCons (aSl 1) aNil))) (aEx (dC (.int 1))))) (bE (dOp2 fGt (aEx (dApp fLen (aCons (aSl 0) aNil))) (aEx (dC (.int 1)))))) (sRet (wE (dTup (aCons (aEx (eW (wSl (aSl 0) oNone (oSome (aEx (dOp1 fNeg (aEx (dC (.int 1))))))))) (aCons (aEx (dOp2 fDiv (aEx (dOp2 fIx (aSl 0) (aEx (dOp1 fNeg (aEx (dC (.int 1))))))) (aEx (dOp2 fIx (aSl 0) (aEx (dOp1 fNeg (aEx (dC (.int 2))))))))) aNil))))) sNil) (sRet (wE (dTup (aCons (aEx (dVar 0)) (aCons (aEx (dApp fLen (aCons (aSl 1) aNil))) aNil))))))
def den_sizes_that_count : List W → RF := runF 2 none body_sizes_that_count
theorem sc_sizes_that_count : FnScope ["sizes", "pages"] ["sizes", "pages"] (defScope (topS 19)) := ⟨rfl, rfl, rfl, by decide +kernel, rfl, by decide +kernel, by decide +kernel⟩
theorem ok_sizes_that_count (T : Txt K mg S) : ∃ fd, Fun K "sizes_that_count" "sizes_that_count" (topS 19) (S.fn 9) fd ∧ FnG P w K mg base 1 (S.fn 9) fd ["sizes", "pages"] (SpP S 2 den_sizes_that_count) := by
  obtain ⟨fd, F⟩ := T.f_sizes_that_count
  refine ⟨fd, F, okG F sc_sizes_that_count (fun vs H Q E h => h.1) (fun cdv A outer s H vs Q E hr h => ?_)⟩
  obtain ⟨C, rfl, _, ht⟩ := body_pure (N := ["sizes", "pages"]) h
  have hK := T.hK
  subst hK
  refine ⟨_, ?_, ht⟩
  have tk := takes_of (X := cxOf (L2.CX P w) P w C.K mg base ["sizes", "pages"] "sizes_that_count" (defScope (topS 19)) (C.fn 9) cdv A outer s H E) (E := E) rfl rfl rfl rfl
  have hp := passes_of (X := cxOf (L2.CX P w) P w C.K mg base ["sizes", "pages"] "sizes_that_count" (defScope (topS 19)) (C.fn 9) cdv A outer s H E) rfl
  exact (css_cons (cs_if (ct_w (cpw_and (ct_cmp (op_eqD hr.u64) rd_eq (cea_ex (ce_callB call_len_seq rd_len (by rfl) T.n_len (by decide +kernel) (cal_cons (cea_sl (pv 1)) cal_nil))) (cea_ex ce_int) (nomark _)) (cpw_and1 (ct_cmp op_gt rd_gt (cea_ex (ce_callB call_len_seq rd_len (by rfl) T.n_len (by decide +kernel) (cal_cons (cea_sl (pv 0)) cal_nil))) (cea_ex ce_int) (nomark _))))) (css_one (cs_ret (cw_e (ce_tup (cal_cons (cea_ex (ce_w (cw_sl rfl (cea_sl (pv 0)) co_none (co_some (cea_ex (ce_un un_neg rd_neg (cea_ex ce_int))))))) (cal_cons (cea_ex (ce_op op_fdivW rd_div (cea_ex (ce_ix rfl (cea_sl (pv 0)) (cea_ex (ce_un un_neg rd_neg (cea_ex ce_int))))) (cea_ex (ce_ix rfl (cea_sl (pv 0)) (cea_ex (ce_un un_neg rd_neg (cea_ex ce_int))))))) cal_nil)))))) css_nil) (css_one (cs_ret (cw_e (ce_tup (cal_cons (cea_ex (ce_var (pv 0))) (cal_cons (cea_ex (ce_callB call_len_seq rd_len (by rfl) T.n_len (by decide +kernel) (cal_cons (cea_sl (pv 1)) cal_nil))) cal_nil)))))))
def body_need_counting : DenS := (sSeq (sSet 2 (wCall 1 den_check_sizes (aCons (aEx (dVar 0)) aNil))) (sSeq (sSet 3 (wCall 1 den_check_pages (aCons (aEx (dVar 1)) aNil))) (sSeq (sIf (bNot (bT (aSl 3))) (sRaise 2 (dVar 1)) sNil) (sRet (wCall 2 den_sizes_that_count (aCons (aEx (dVar 2)) (aCons (aEx (dVar 3)) aNil)))))))
def den_need_counting : List W → RF := runF 4 none body_need_counting
theorem sc_need_counting : FnScope ["sizes", "pages", "told", "row"] ["sizes", "pages"] (defScope (topS 20)) := ⟨rfl, rfl, rfl, by decide +kernel, rfl, by decide +kernel, by decide +kernel⟩
theorem ok_need_counting (T : Txt K mg S) : ∃ fd, Fun K "need_counting" "need_counting" (topS 20) (S.fn 10) fd ∧ FnG P w K mg base 6 (S.fn 10) fd ["sizes", "pages"] (SpP S 2 den_need_counting) := by
  obtain ⟨fd, F⟩ := T.f_need_counting
  obtain ⟨fd_check_sizes, f_check_sizes, g_check_sizes⟩ := ok_check_sizes (P := P) (w := w) (base := base) T
  obtain ⟨fd_check_pages, f_check_pages, g_check_pages⟩ := ok_check_pages (P := P) (w := w) (base := base) T
  obtain ⟨fd_sizes_that_count, f_sizes_that_count, g_sizes_that_count⟩ := ok_sizes_that_count (P := P) (w := w) (base := base) T
  obtain ⟨q_Refused, i_Refused, e_Refused⟩ := T.e_Refused
  refine ⟨fd, F, okG F sc_need_counting (fun vs H Q E h => h.1) (fun cdv A outer s H vs Q E hr h => ?_)⟩
  obtain ⟨C, rfl, _, ht⟩ := body_pure (N := ["sizes", "pages", "told", "row"]) h
  have hK := T.hK
  subst hK
  refine ⟨_, ?_, ht⟩
  have tk := takes_of (X := cxOf (L2.CX P w) P w C.K mg base ["sizes", "pages", "told", "row"] "need_counting" (defScope (topS 20)) (C.fn 10) cdv A outer s H E) (E := E) rfl rfl rfl rfl
  have hp := passes_of (X := cxOf (L2.CX P w) P w C.K mg base ["sizes", "pages", "told", "row"] "need_counting" (defScope (topS 20)) (C.fn 10) cdv A outer s H E) rfl
  exact (css_cons (cs_set (i := 2) sc_need_counting.nd rfl (.inl rfl) (cw_call g_check_sizes (hr.mono (by decide)) (by rfl) T.m_check_sizes f_check_sizes.kp (f_check_sizes.binds (ps := ["value"]) fun _ _ _ _ _ _ us hl => match us, hl with | [_], _ => rfl) tk (cal_cons (cea_ex (ce_var (pv 0))) cal_nil))) (css_cons (cs_set (i := 3) sc_need_counting.nd rfl (.inl rfl) (cw_call g_check_pages (hr.mono (by decide)) (by rfl) T.m_check_pages f_check_pages.kp (f_check_pages.binds (ps := ["value"]) fun _ _ _ _ _ _ us hl => match us, hl with | [_], _ => rfl) tk (cal_cons (cea_ex (ce_var (pv 1))) cal_nil))) (css_cons (cs_if (ct_not (ct_tr rfl (cea_sl (pv 3)))) (css_one (cs_raise (c := 2) rfl e_Refused T.fld_Refused hr.room tk (ce_var (pv 1)) (by rfl) (by decide))) css_nil) (css_one (cs_ret (cw_call g_sizes_that_count (hr.mono (by decide)) (by rfl) T.m_sizes_that_count f_sizes_that_count.kp (f_sizes_that_count.binds (ps := ["sizes", "pages"]) fun _ _ _ _ _ _ us hl => match us, hl with | [_, _], _ => rfl) tk (cal_cons (cea_ex (ce_var (pv 2))) (cal_cons (cea_ex (ce_var (pv 3))) cal_nil))))))))
def body__page_places : DenS := (sRet (wLc (.nm 2) (iSeq (dVar 1)) tYesD (dOp2 fMulA (aSl 2) (aEx (dOp2 fIx (aSl 0) (aEx (dOp1 fNeg (aEx (dC (.int 1))))))))))
def den__page_places : List W → RF := runF 3 none body__page_places
theorem sc__page_places : FnScope ["sizes", "pages", "page"] ["sizes", "pages"] (defScope (topS 22)) := ⟨rfl, rfl, rfl, by decide +kernel, rfl, by decide +kernel, by decide +kernel⟩
theorem ok__page_places (T : Txt K mg S) : ∃ fd, Fun K "_page_places" "_page_places" (topS 22) (S.fn 11) fd ∧ FnG P w K mg base 1 (S.fn 11) fd ["sizes", "pages"] (SpP S 2 den__page_places) := by
  obtain ⟨fd, F⟩ := T.f__page_places
  refine ⟨fd, F, okG F sc__page_places (fun vs H Q E h => h.1) (fun cdv A outer s H vs Q E hr h => ?_)⟩
  obtain ⟨C, rfl, _, ht⟩ := body_pure (N := ["sizes", "pages", "page"]) h
  have hK := T.hK
  subst hK
  refine ⟨_, ?_, ht⟩
  have tk := takes_of (X := cxOf (L2.CX P w) P w C.K mg base ["sizes", "pages", "page"] "_page_places" (defScope (topS 22)) (C.fn 11) cdv A outer s H E) (E := E) rfl rfl rfl rfl
  have hp := passes_of (X := cxOf (L2.CX P w) P w C.K mg base ["sizes", "pages", "page"] "_page_places" (defScope (topS 22)) (C.fn 11) cdv A outer s H E) rfl
  exact (css_one (cs_ret (cw_lc (own := [("page", 2)]) rfl sc__page_places.nd (ci_seq rfl (ce_var (pv 1))) (show BlkOk ["sizes", "pages", "page"] (defScope (topS 22)) _ _ from blk_by (by decide +kernel)) (fun _ _ _ _ _ => pg_name (i := 2) sc__page_places.nd rfl (.inl rfl)) (fun _ _ _ _ _ _ => cts_nil) (fun _ _ _ _ _ _ => (ce_op op_mulA rd_mulA (cea_sl (pv 2)) (cea_ex (ce_ix rfl (cea_sl (pv 0)) (cea_ex (ce_un un_neg rd_neg (cea_ex ce_int))))))))))
def body_unit_places : DenS := (sSeq (sSet 3 (wList aNil)) (sSeq (sFor (.nm 4) (iSeq (eW (wCall 2 den__page_places (aCons (aEx (dVar 0)) (aCons (aEx (dVar 1)) aNil))))) (sExpr (dExtend 3 (aEx (eW (wListRng (aCons (aSl 4) (aCons (aEx (eW (wOp2 fAddA (aSl 4) (aEx (dOp2 fIx (aSl 0) (aEx (dOp1 fNeg (aEx (dC (.int 1)))))))))) (aCons (aEx (dOp2 fIx (aSl 0) (aSl 2))) aNil))))))))) (sRet (wMove 3))))
def den_unit_places : List W → RF := runF 5 none body_unit_places
theorem sc_unit_places : FnScope ["sizes", "pages", "level", "found", "place"] ["sizes", "pages", "level"] (defScope (topS 23)) := ⟨rfl, rfl, rfl, by decide +kernel, rfl, by decide +kernel, by decide +kernel⟩
theorem ok_unit_places (T : Txt K mg S) : ∃ fd, Fun K "unit_places" "unit_places" (topS 23) (S.fn 12) fd ∧ FnG P w K mg base 2 (S.fn 12) fd ["sizes", "pages", "level"] (SpP S 3 den_unit_places) := by
  obtain ⟨fd, F⟩ := T.f_unit_places
  obtain ⟨fd__page_places, f__page_places, g__page_places⟩ := ok__page_places (P := P) (w := w) (base := base) T
  refine ⟨fd, F, okG F sc_unit_places (fun vs H Q E h => h.1) (fun cdv A outer s H vs Q E hr h => ?_)⟩
  obtain ⟨C, rfl, _, ht⟩ := body_pure (N := ["sizes", "pages", "level", "found", "place"]) h
  have hK := T.hK
  subst hK
  refine ⟨_, ?_, ht⟩
  have tk := takes_of (X := cxOf (L2.CX P w) P w C.K mg base ["sizes", "pages", "level", "found", "place"] "unit_places" (defScope (topS 23)) (C.fn 12) cdv A outer s H E) (E := E) rfl rfl rfl rfl
  have hp := passes_of (X := cxOf (L2.CX P w) P w C.K mg base ["sizes", "pages", "level", "found", "place"] "unit_places" (defScope (topS 23)) (C.fn 12) cdv A outer s H E) rfl
  exact (css_cons (cs_set (i := 3) sc_unit_places.nd rfl (.inl rfl) (cw_list cal_nil)) (css_cons (cs_for hp rfl (ci_seq rfl (ce_w (cw_call g__page_places (hr.mono (by decide)) (by rfl) T.m__page_places f__page_places.kp (f__page_places.binds (ps := ["sizes", "pages"]) fun _ _ _ _ _ _ us hl => match us, hl with | [_, _], _ => rfl) tk (cal_cons (cea_ex (ce_var (pv 0))) (cal_cons (cea_ex (ce_var (pv 1))) cal_nil))))) (cg_name (i := 4) sc_unit_places.nd rfl (.inl rfl)) (css_one (cs_expr (ce_extend rfl (pv 3) (cea_ex (ce_w (cw_listRng rfl (by rfl) T.n_list (by decide +kernel) (by rfl) T.n_range (by decide +kernel) (cal_cons (cea_sl (pv 4)) (cal_cons (cea_ex (ce_w (cw_op op_addA rd_addA (cea_sl (pv 4)) (cea_ex (ce_ix rfl (cea_sl (pv 0)) (cea_ex (ce_un un_neg rd_neg (cea_ex ce_int)))))))) (cal_cons (cea_ex (ce_ix rfl (cea_sl (pv 0)) (cea_sl (pv 2)))) cal_nil)))))))))) (css_one (cs_ret (cw_move (pv 3))))))
def body_arena : DenS := (sSeq (sSet 2 (wCall 1 den_check_sizes (aCons (aEx (dVar 0)) aNil))) (sSeq (sSet 1 (wCall 1 den_check_pages (aCons (aEx (dVar 1)) aNil))) (sSeq (sUnp [3, 4] (eW (wCall 2 den_sizes_that_count (aCons (aEx (dVar 2)) (aCons (aEx (dVar 1)) aNil))))) (sSeq (sIf (bOr (bE (dOp2 fEq (aEx (dApp fLen (aCons (aSl 3) aNil))) (aEx (dC (.int 1))))) (bNot (bT (aSl 1)))) (sRaise 2 (dVar 0)) sNil) (sRet (wE (dTup (aCons (aEx (dOp2 fIx (aSl 3) (aEx (dOp1 fNeg (aEx (dC (.int 2))))))) (aCons (aEx (dOp2 fIx (aSl 3) (aEx (dOp1 fNeg (aEx (dC (.int 1))))))) (aCons (aEx (dApp fTuple (aCons (aEx (eW (wCall 3 den_unit_places (aCons (aEx (dVar 2)) (aCons (aEx (dVar 1)) (aCons (aEx (dOp2 fSub (aEx (dApp fLen (aCons (aSl 3) aNil))) (aEx (dC (.int 1))))) aNil)))))) aNil))) aNil))))))))))
def den_arena : List W → RF := runF 5 none body_arena
theorem sc_arena : FnScope ["sizes", "pages", "told", "counting", "_"] ["sizes", "pages"] (defScope (topS 25)) := ⟨rfl, rfl, rfl, by decide +kernel, rfl, by decide +kernel, by decide +kernel⟩
theorem ok_arena (T : Txt K mg S) : ∃ fd, Fun K "arena" "arena" (topS 25) (S.fn 13) fd ∧ FnG P w K mg base 6 (S.fn 13) fd ["sizes", "pages"] (SpP S 2 den_arena) := by
  obtain ⟨fd, F⟩ := T.f_arena
  obtain ⟨fd_check_sizes, f_check_sizes, g_check_sizes⟩ := ok_check_sizes (P := P) (w := w) (base := base) T
  obtain ⟨fd_check_pages, f_check_pages, g_check_pages⟩ := ok_check_pages (P := P) (w := w) (base := base) T
  obtain ⟨fd_sizes_that_count, f_sizes_that_count, g_sizes_that_count⟩ := ok_sizes_that_count (P := P) (w := w) (base := base) T
  obtain ⟨fd_unit_places, f_unit_places, g_unit_places⟩ := ok_unit_places (P := P) (w := w) (base := base) T
  obtain ⟨q_Refused, i_Refused, e_Refused⟩ := T.e_Refused
  refine ⟨fd, F, okG F sc_arena (fun vs H Q E h => h.1) (fun cdv A outer s H vs Q E hr h => ?_)⟩
  obtain ⟨C, rfl, _, ht⟩ := body_pure (N := ["sizes", "pages", "told", "counting", "_"]) h
  have hK := T.hK
  subst hK
  refine ⟨_, ?_, ht⟩
  have tk := takes_of (X := cxOf (L2.CX P w) P w C.K mg base ["sizes", "pages", "told", "counting", "_"] "arena" (defScope (topS 25)) (C.fn 13) cdv A outer s H E) (E := E) rfl rfl rfl rfl
  have hp := passes_of (X := cxOf (L2.CX P w) P w C.K mg base ["sizes", "pages", "told", "counting", "_"] "arena" (defScope (topS 25)) (C.fn 13) cdv A outer s H E) rfl
  exact (css_cons (cs_set (i := 2) sc_arena.nd rfl (.inl rfl) (cw_call g_check_sizes (hr.mono (by decide)) (by rfl) T.m_check_sizes f_check_sizes.kp (f_check_sizes.binds (ps := ["value"]) fun _ _ _ _ _ _ us hl => match us, hl with | [_], _ => rfl) tk (cal_cons (cea_ex (ce_var (pv 0))) cal_nil))) (css_cons (cs_set (i := 1) sc_arena.nd rfl (.inl rfl) (cw_call g_check_pages (hr.mono (by decide)) (by rfl) T.m_check_pages f_check_pages.kp (f_check_pages.binds (ps := ["value"]) fun _ _ _ _ _ _ us hl => match us, hl with | [_], _ => rfl) tk (cal_cons (cea_ex (ce_var (pv 1))) cal_nil))) (css_cons (cs_unp rfl rfl (pgs_cons (pg_name (i := 3) sc_arena.nd rfl (.inl rfl)) (pgs_cons (pg_name (i := 4) sc_arena.nd rfl (.inl rfl)) pgs_nil)) (ce_w (cw_call g_sizes_that_count (hr.mono (by decide)) (by rfl) T.m_sizes_that_count f_sizes_that_count.kp (f_sizes_that_count.binds (ps := ["sizes", "pages"]) fun _ _ _ _ _ _ us hl => match us, hl with | [_, _], _ => rfl) tk (cal_cons (cea_ex (ce_var (pv 2))) (cal_cons (cea_ex (ce_var (pv 1))) cal_nil))))) (css_cons (cs_if (ct_w (cpw_or (ct_cmp (op_eqD hr.u64) rd_eq (cea_ex (ce_callB call_len_seq rd_len (by rfl) T.n_len (by decide +kernel) (cal_cons (cea_sl (pv 3)) cal_nil))) (cea_ex ce_int) (nomark _)) (cpw_or1 (ct_not (ct_tr rfl (cea_sl (pv 1))))))) (css_one (cs_raise (c := 2) rfl e_Refused T.fld_Refused hr.room tk (ce_var (pv 0)) (by rfl) (by decide))) css_nil) (css_one (cs_ret (cw_e (ce_tup (cal_cons (cea_ex (ce_ix rfl (cea_sl (pv 3)) (cea_ex (ce_un un_neg rd_neg (cea_ex ce_int))))) (cal_cons (cea_ex (ce_ix rfl (cea_sl (pv 3)) (cea_ex (ce_un un_neg rd_neg (cea_ex ce_int))))) (cal_cons (cea_ex (ce_callTy call_tupX rd_tuple (by rfl) T.n_tuple (by decide +kernel) (cal_cons (cea_ex (ce_w (cw_call g_unit_places (hr.mono (by decide)) (by rfl) T.m_unit_places f_unit_places.kp (f_unit_places.binds (ps := ["sizes", "pages", "level"]) fun _ _ _ _ _ _ us hl => match us, hl with | [_, _, _], _ => rfl) tk (cal_cons (cea_ex (ce_var (pv 2))) (cal_cons (cea_ex (ce_var (pv 1))) (cal_cons (cea_ex (ce_op op_sub rd_sub (cea_ex (ce_callB call_len_seq rd_len (by rfl) T.n_len (by decide +kernel) (cal_cons (cea_sl (pv 3)) cal_nil))) (cea_ex ce_int))) cal_nil)))))) cal_nil))) cal_nil)))))))))))
def body__phases : DenS := (sSeq (sSet 3 (wE (dOp2 fDiv (aSl 1) (aSl 0)))) (sRet (wE (dTup (aCons (aEx (dOp2 fMulA (aEx (dApp fLen (aCons (aSl 2) aNil))) (aSl 3))) (aCons (aEx (eW (wOp2 fAddA (aEx (dOp2 fMulA (aEx (dApp fLen (aCons (aSl 2) aNil))) (aSl 3))) (aSl 3)))) aNil))))))
def den__phases : List W → RF := runF 4 none body__phases
theorem sc__phases : FnScope ["small", "great", "places", "many"] ["small", "great", "places"] (defScope (topS 26)) := ⟨rfl, rfl, rfl, by decide +kernel, rfl, by decide +kernel, by decide +kernel⟩
theorem ok__phases (T : Txt K mg S) : ∃ fd, Fun K "_phases" "_phases" (topS 26) (S.fn 14) fd ∧ FnG P w K mg base 1 (S.fn 14) fd ["small", "great", "places"] (SpP S 3 den__phases) := by
  obtain ⟨fd, F⟩ := T.f__phases
  refine ⟨fd, F, okG F sc__phases (fun vs H Q E h => h.1) (fun cdv A outer s H vs Q E hr h => ?_)⟩
  obtain ⟨C, rfl, _, ht⟩ := body_pure (N := ["small", "great", "places", "many"]) h
  have hK := T.hK
  subst hK
  refine ⟨_, ?_, ht⟩
  have tk := takes_of (X := cxOf (L2.CX P w) P w C.K mg base ["small", "great", "places", "many"] "_phases" (defScope (topS 26)) (C.fn 14) cdv A outer s H E) (E := E) rfl rfl rfl rfl
  have hp := passes_of (X := cxOf (L2.CX P w) P w C.K mg base ["small", "great", "places", "many"] "_phases" (defScope (topS 26)) (C.fn 14) cdv A outer s H E) rfl
  exact (css_cons (cs_set (i := 3) sc__phases.nd rfl (.inl rfl) (cw_e (ce_op op_fdivW rd_div (cea_sl (pv 1)) (cea_sl (pv 0))))) (css_one (cs_ret (cw_e (ce_tup (cal_cons (cea_ex (ce_op op_mulA rd_mulA (cea_ex (ce_callB call_len_seq rd_len (by rfl) T.n_len (by decide +kernel) (cal_cons (cea_sl (pv 2)) cal_nil))) (cea_sl (pv 3)))) (cal_cons (cea_ex (ce_w (cw_op op_addA rd_addA (cea_ex (ce_op op_mulA rd_mulA (cea_ex (ce_callB call_len_seq rd_len (by rfl) T.n_len (by decide +kernel) (cal_cons (cea_sl (pv 2)) cal_nil))) (cea_sl (pv 3)))) (cea_sl (pv 3))))) cal_nil)))))))
def body_foe_many : DenS := (sSeq (sUnp [2, 3, 4] (eW (wCall 2 den_arena (aCons (aEx (dVar 0)) (aCons (aEx (dVar 1)) aNil))))) (sRet (wOp2 fAddA (aEx (dOp2 fIx (aEx (eW (wCall 3 den__phases (aCons (aEx (dVar 2)) (aCons (aEx (dVar 3)) (aCons (aEx (dVar 4)) aNil)))))) (aEx (dC (.int 1))))) (aEx (dC (.int 1))))))
def den_foe_many : List W → RF := runF 5 none body_foe_many
theorem sc_foe_many : FnScope ["sizes", "pages", "small", "great", "places"] ["sizes", "pages"] (defScope (topS 27)) := ⟨rfl, rfl, rfl, by decide +kernel, rfl, by decide +kernel, by decide +kernel⟩
theorem ok_foe_many (T : Txt K mg S) : ∃ fd, Fun K "foe_many" "foe_many" (topS 27) (S.fn 15) fd ∧ FnG P w K mg base 7 (S.fn 15) fd ["sizes", "pages"] (SpP S 2 den_foe_many) := by
  obtain ⟨fd, F⟩ := T.f_foe_many
  obtain ⟨fd_arena, f_arena, g_arena⟩ := ok_arena (P := P) (w := w) (base := base) T
  obtain ⟨fd__phases, f__phases, g__phases⟩ := ok__phases (P := P) (w := w) (base := base) T
  refine ⟨fd, F, okG F sc_foe_many (fun vs H Q E h => h.1) (fun cdv A outer s H vs Q E hr h => ?_)⟩
  obtain ⟨C, rfl, _, ht⟩ := body_pure (N := ["sizes", "pages", "small", "great", "places"]) h
  have hK := T.hK
  subst hK
  refine ⟨_, ?_, ht⟩
  have tk := takes_of (X := cxOf (L2.CX P w) P w C.K mg base ["sizes", "pages", "small", "great", "places"] "foe_many" (defScope (topS 27)) (C.fn 15) cdv A outer s H E) (E := E) rfl rfl rfl rfl
  have hp := passes_of (X := cxOf (L2.CX P w) P w C.K mg base ["sizes", "pages", "small", "great", "places"] "foe_many" (defScope (topS 27)) (C.fn 15) cdv A outer s H E) rfl
  exact (css_cons (cs_unp rfl rfl (pgs_cons (pg_name (i := 2) sc_foe_many.nd rfl (.inl rfl)) (pgs_cons (pg_name (i := 3) sc_foe_many.nd rfl (.inl rfl)) (pgs_cons (pg_name (i := 4) sc_foe_many.nd rfl (.inl rfl)) pgs_nil))) (ce_w (cw_call g_arena (hr.mono (by decide)) (by rfl) T.m_arena f_arena.kp (f_arena.binds (ps := ["sizes", "pages"]) fun _ _ _ _ _ _ us hl => match us, hl with | [_, _], _ => rfl) tk (cal_cons (cea_ex (ce_var (pv 0))) (cal_cons (cea_ex (ce_var (pv 1))) cal_nil))))) (css_one (cs_ret (cw_op op_addA rd_addA (cea_ex (ce_ix rfl (cea_ex (ce_w (cw_call g__phases (hr.mono (by decide)) (by rfl) T.m__phases f__phases.kp (f__phases.binds (ps := ["small", "great", "places"]) fun _ _ _ _ _ _ us hl => match us, hl with | [_, _, _], _ => rfl) tk (cal_cons (cea_ex (ce_var (pv 2))) (cal_cons (cea_ex (ce_var (pv 3))) (cal_cons (cea_ex (ce_var (pv 4))) cal_nil)))))) (cea_ex ce_int))) (cea_ex ce_int)))))
def body_need_when : DenS := (sSeq (sIf (bE (dOp2 (fInT true) (aSl 0) (aEx (dC (.tuple [.str "request", .str "giving", .str "taking"]))))) (sRaise 2 (dVar 0)) sNil) (sRet (wMove 0)))
def den_need_when : List W → RF := runF 1 none body_need_when
theorem sc_need_when : FnScope ["value"] ["value"] (defScope (topS 30)) := ⟨rfl, rfl, rfl, by decide +kernel, rfl, by decide +kernel, by decide +kernel⟩
theorem ok_need_when (T : Txt K mg S) : ∃ fd, Fun K "need_when" "need_when" (topS 30) (S.fn 16) fd ∧ FnG P w K mg base 3 (S.fn 16) fd ["value"] (SpP S 1 den_need_when) := by
  obtain ⟨fd, F⟩ := T.f_need_when
  obtain ⟨t_WHENS, c_WHENS⟩ := T.c_WHENS
  obtain ⟨q_Refused, i_Refused, e_Refused⟩ := T.e_Refused
  refine ⟨fd, F, okG F sc_need_when (fun vs H Q E h => h.1) (fun cdv A outer s H vs Q E hr h => ?_)⟩
  obtain ⟨C, rfl, _, ht⟩ := body_pure (N := ["value"]) h
  have hK := T.hK
  subst hK
  refine ⟨_, ?_, ht⟩
  have tk := takes_of (X := cxOf (L2.CX P w) P w C.K mg base ["value"] "need_when" (defScope (topS 30)) (C.fn 16) cdv A outer s H E) (E := E) rfl rfl rfl rfl
  have hp := passes_of (X := cxOf (L2.CX P w) P w C.K mg base ["value"] "need_when" (defScope (topS 30)) (C.fn 16) cdv A outer s H E) rfl
  exact (css_cons (cs_if (ct_cmp (op_notInT hr.u70) (rd_inT true) (cea_sl (pv 0)) (cea_ex (ce_c (v := .ref t_WHENS) (pe_glob (by rfl) c_WHENS.1 rfl) c_WHENS.2)) (by with_unfolding_all rfl)) (css_one (cs_raise (c := 2) rfl e_Refused T.fld_Refused hr.room tk (ce_var (pv 0)) (by rfl) (by decide))) css_nil) (css_one (cs_ret (cw_move (pv 0)))))
def body_least_at_taking : DenS := (sSeq (sSet 2 (wE (dOp2 fDiv (aEx (dOp2 fSub (aEx (eW (wOp2 fAddA (aEx (dOp2 fDiv (aEx (dOp2 fIx (aSl 0) (aEx (dOp1 fNeg (aEx (dC (.int 1))))))) (aEx (dOp2 fIx (aSl 0) (aEx (dC (.int 0))))))) (aSl 1)))) (aEx (dC (.int 1))))) (aSl 1)))) (sRet (wE (dOp2 fSub (aEx (dOp2 fIx (aSl 0) (aEx (dOp1 fNeg (aEx (dC (.int 1))))))) (aEx (dOp2 fMulA (aEx (dOp2 fIx (aSl 0) (aEx (dC (.int 0))))) (aSl 2)))))))
def den_least_at_taking : List W → RF := runF 3 none body_least_at_taking
theorem sc_least_at_taking : FnScope ["sizes", "many", "share"] ["sizes", "many"] (defScope (topS 32)) := ⟨rfl, rfl, rfl, by decide +kernel, rfl, by decide +kernel, by decide +kernel⟩
theorem ok_least_at_taking (T : Txt K mg S) : ∃ fd, Fun K "least_at_taking" "least_at_taking" (topS 32) (S.fn 17) fd ∧ FnG P w K mg base 1 (S.fn 17) fd ["sizes", "many"] (SpP S 2 den_least_at_taking) := by
  obtain ⟨fd, F⟩ := T.f_least_at_taking
  refine ⟨fd, F, okG F sc_least_at_taking (fun vs H Q E h => h.1) (fun cdv A outer s H vs Q E hr h => ?_)⟩
  obtain ⟨C, rfl, _, ht⟩ := body_pure (N := ["sizes", "many", "share"]) h
  have hK := T.hK
  subst hK
  refine ⟨_, ?_, ht⟩
  have tk := takes_of (X := cxOf (L2.CX P w) P w C.K mg base ["sizes", "many", "share"] "least_at_taking" (defScope (topS 32)) (C.fn 17) cdv A outer s H E) (E := E) rfl rfl rfl rfl
  have hp := passes_of (X := cxOf (L2.CX P w) P w C.K mg base ["sizes", "many", "share"] "least_at_taking" (defScope (topS 32)) (C.fn 17) cdv A outer s H E) rfl
  exact (css_cons (cs_set (i := 2) sc_least_at_taking.nd rfl (.inl rfl) (cw_e (ce_op op_fdivW rd_div (cea_ex (ce_op op_sub rd_sub (cea_ex (ce_w (cw_op op_addA rd_addA (cea_ex (ce_op op_fdivW rd_div (cea_ex (ce_ix rfl (cea_sl (pv 0)) (cea_ex (ce_un un_neg rd_neg (cea_ex ce_int))))) (cea_ex (ce_ix rfl (cea_sl (pv 0)) (cea_ex ce_int))))) (cea_sl (pv 1))))) (cea_ex ce_int))) (cea_sl (pv 1))))) (css_one (cs_ret (cw_e (ce_op op_sub rd_sub (cea_ex (ce_ix rfl (cea_sl (pv 0)) (cea_ex (ce_un un_neg rd_neg (cea_ex ce_int))))) (cea_ex (ce_op op_mulA rd_mulA (cea_ex (ce_ix rfl (cea_sl (pv 0)) (cea_ex ce_int))) (cea_sl (pv 2)))))))))
def body_full_amount : DenS := (sSeq (sUnp [3, 4] (eW (wCall 2 den_need_counting (aCons (aEx (dVar 0)) (aCons (aEx (dVar 1)) aNil))))) (sSeq (sExpr (eW (wCall 1 den_need_when (aCons (aEx (dVar 2)) aNil)))) (sSeq (sIf (bE (dOp2 fEq (aEx (dApp fLen (aCons (aSl 3) aNil))) (aEx (dC (.int 1))))) (sRet (wE (dC (.int 0)))) sNil) (sSeq (sIf (bE (dOp2 fEq (aSl 2) (aEx (dC (.str "request"))))) (sRet (wE (dOp2 fIx (aSl 3) (aEx (dOp1 fNeg (aEx (dC (.int 2)))))))) sNil) (sSeq (sIf (bE (dOp2 fEq (aSl 2) (aEx (dC (.str "giving"))))) (sRet (wE (dIf (bE (dOp2 fGe (aSl 4) (aEx (dApp fLen (aCons (aSl 3) aNil))))) (dApp fSum (aCons (aEx (eW (wSl (aSl 3) oNone (oSome (aEx (dOp1 fNeg (aEx (dC (.int 1))))))))) aNil)) (dC .none)))) sNil) (sRet (wE (dIf (bE (dOp2 fEq (aEx (dApp fLen (aCons (aSl 3) aNil))) (aEx (dC (.int 2))))) (eW (wCall 2 den_least_at_taking (aCons (aEx (dVar 3)) (aCons (aEx (dVar 4)) aNil)))) (dC .none)))))))))
def den_full_amount : List W → RF := runF 5 none body_full_amount
theorem sc_full_amount : FnScope ["sizes", "pages", "when", "counting", "many"] ["sizes", "pages", "when"] (defScope (topS 34)) := ⟨rfl, rfl, rfl, by decide +kernel, rfl, by decide +kernel, by decide +kernel⟩
theorem ok_full_amount (T : Txt K mg S) : ∃ fd, Fun K "full_amount" "full_amount" (topS 34) (S.fn 18) fd ∧ FnG P w K mg base 7 (S.fn 18) fd ["sizes", "pages", "when"] (SpP S 3 den_full_amount) := by
  obtain ⟨fd, F⟩ := T.f_full_amount
  obtain ⟨fd_need_counting, f_need_counting, g_need_counting⟩ := ok_need_counting (P := P) (w := w) (base := base) T
  obtain ⟨fd_need_when, f_need_when, g_need_when⟩ := ok_need_when (P := P) (w := w) (base := base) T
  obtain ⟨fd_least_at_taking, f_least_at_taking, g_least_at_taking⟩ := ok_least_at_taking (P := P) (w := w) (base := base) T
  refine ⟨fd, F, okG F sc_full_amount (fun vs H Q E h => h.1) (fun cdv A outer s H vs Q E hr h => ?_)⟩
  obtain ⟨C, rfl, _, ht⟩ := body_pure (N := ["sizes", "pages", "when", "counting", "many"]) h
  have hK := T.hK
  subst hK
  refine ⟨_, ?_, ht⟩
  have tk := takes_of (X := cxOf (L2.CX P w) P w C.K mg base ["sizes", "pages", "when", "counting", "many"] "full_amount" (defScope (topS 34)) (C.fn 18) cdv A outer s H E) (E := E) rfl rfl rfl rfl
  have hp := passes_of (X := cxOf (L2.CX P w) P w C.K mg base ["sizes", "pages", "when", "counting", "many"] "full_amount" (defScope (topS 34)) (C.fn 18) cdv A outer s H E) rfl
  exact (css_cons (cs_unp rfl rfl (pgs_cons (pg_name (i := 3) sc_full_amount.nd rfl (.inl rfl)) (pgs_cons (pg_name (i := 4) sc_full_amount.nd rfl (.inl rfl)) pgs_nil)) (ce_w (cw_call g_need_counting (hr.mono (by decide)) (by rfl) T.m_need_counting f_need_counting.kp (f_need_counting.binds (ps := ["sizes", "pages"]) fun _ _ _ _ _ _ us hl => match us, hl with | [_, _], _ => rfl) tk (cal_cons (cea_ex (ce_var (pv 0))) (cal_cons (cea_ex (ce_var (pv 1))) cal_nil))))) (css_cons (cs_expr (ce_w (cw_call g_need_when (hr.mono (by decide)) (by rfl) T.m_need_when f_need_when.kp (f_need_when.binds (ps := ["value"]) fun _ _ _ _ _ _ us hl => match us, hl with | [_], _ => rfl) tk (cal_cons (cea_ex (ce_var (pv 2))) cal_nil)))) (css_cons (cs_if (ct_cmp (op_eqD hr.u64) rd_eq (cea_ex (ce_callB call_len_seq rd_len (by rfl) T.n_len (by decide +kernel) (cal_cons (cea_sl (pv 3)) cal_nil))) (cea_ex ce_int) (nomark _)) (css_one (cs_ret (cw_e ce_int))) css_nil) (css_cons (cs_if (ct_cmp (op_eqD hr.u64) rd_eq (cea_sl (pv 2)) (cea_ex ce_str) (nomark _)) (css_one (cs_ret (cw_e (ce_ix rfl (cea_sl (pv 3)) (cea_ex (ce_un un_neg rd_neg (cea_ex ce_int))))))) css_nil) (css_cons (cs_if (ct_cmp (op_eqD hr.u64) rd_eq (cea_sl (pv 2)) (cea_ex ce_str) (nomark _)) (css_one (cs_ret (cw_e (ce_ifx (ct_cmp op_ge rd_ge (cea_sl (pv 4)) (cea_ex (ce_callB call_len_seq rd_len (by rfl) T.n_len (by decide +kernel) (cal_cons (cea_sl (pv 3)) cal_nil))) (nomark _)) (ce_callB (cr_sumA rfl) rd_sum (by rfl) T.n_sum (by decide +kernel) (cal_cons (cea_ex (ce_w (cw_sl rfl (cea_sl (pv 3)) co_none (co_some (cea_ex (ce_un un_neg rd_neg (cea_ex ce_int))))))) cal_nil)) ce_non)))) css_nil) (css_one (cs_ret (cw_e (ce_ifx (ct_cmp (op_eqD hr.u64) rd_eq (cea_ex (ce_callB call_len_seq rd_len (by rfl) T.n_len (by decide +kernel) (cal_cons (cea_sl (pv 3)) cal_nil))) (cea_ex ce_int) (nomark _)) (ce_w (cw_call g_least_at_taking (hr.mono (by decide)) (by rfl) T.m_least_at_taking f_least_at_taking.kp (f_least_at_taking.binds (ps := ["sizes", "many"]) fun _ _ _ _ _ _ us hl => match us, hl with | [_, _], _ => rfl) tk (cal_cons (cea_ex (ce_var (pv 3))) (cal_cons (cea_ex (ce_var (pv 4))) cal_nil)))) ce_non)))))))))
def body_above : DenS := (sSeq (sSet 0 (wCall 1 den_check_sizes (aCons (aEx (dVar 0)) aNil))) (sSeq (sExpr (eW (wCall 1 den_need_number (aCons (aEx (dVar 1)) aNil)))) (sRet (wE (dApp fTuple (aCons (aEx (eW (wLc (.nm 2) (iSeq (dVar 0)) (bE (dOp2 fGt (aSl 2) (aSl 1))) (dVar 2)))) aNil))))))
def den_above : List W → RF := runF 3 none body_above
theorem sc_above : FnScope ["sizes", "moves", "size"] ["sizes", "moves"] (defScope (topS 35)) := ⟨rfl, rfl, rfl, by decide +kernel, rfl, by decide +kernel, by decide +kernel⟩
theorem ok_above (T : Txt K mg S) : ∃ fd, Fun K "above" "above" (topS 35) (S.fn 19) fd ∧ FnG P w K mg base 6 (S.fn 19) fd ["sizes", "moves"] (SpP S 2 den_above) := by
  obtain ⟨fd, F⟩ := T.f_above
  obtain ⟨fd_check_sizes, f_check_sizes, g_check_sizes⟩ := ok_check_sizes (P := P) (w := w) (base := base) T
  obtain ⟨fd_need_number, f_need_number, g_need_number⟩ := ok_need_number (P := P) (w := w) (base := base) T
  refine ⟨fd, F, okG F sc_above (fun vs H Q E h => h.1) (fun cdv A outer s H vs Q E hr h => ?_)⟩
  obtain ⟨C, rfl, _, ht⟩ := body_pure (N := ["sizes", "moves", "size"]) h
  have hK := T.hK
  subst hK
  refine ⟨_, ?_, ht⟩
  have tk := takes_of (X := cxOf (L2.CX P w) P w C.K mg base ["sizes", "moves", "size"] "above" (defScope (topS 35)) (C.fn 19) cdv A outer s H E) (E := E) rfl rfl rfl rfl
  have hp := passes_of (X := cxOf (L2.CX P w) P w C.K mg base ["sizes", "moves", "size"] "above" (defScope (topS 35)) (C.fn 19) cdv A outer s H E) rfl
  exact (css_cons (cs_set (i := 0) sc_above.nd rfl (.inl rfl) (cw_call g_check_sizes (hr.mono (by decide)) (by rfl) T.m_check_sizes f_check_sizes.kp (f_check_sizes.binds (ps := ["value"]) fun _ _ _ _ _ _ us hl => match us, hl with | [_], _ => rfl) tk (cal_cons (cea_ex (ce_var (pv 0))) cal_nil))) (css_cons (cs_expr (ce_w (cw_call g_need_number (hr.mono (by decide)) (by rfl) T.m_need_number f_need_number.kp (f_need_number.binds (ps := ["value"]) fun _ _ _ _ _ _ us hl => match us, hl with | [_], _ => rfl) tk (cal_cons (cea_ex (ce_var (pv 1))) cal_nil)))) (css_one (cs_ret (cw_e (ce_callTy call_tupX rd_tuple (by rfl) T.n_tuple (by decide +kernel) (cal_cons (cea_ex (ce_w (cw_lc (own := [("size", 2)]) rfl sc_above.nd (ci_seq rfl (ce_var (pv 0))) (show BlkOk ["sizes", "moves", "size"] (defScope (topS 35)) _ _ from blk_by (by decide +kernel)) (fun _ _ _ _ _ => pg_name (i := 2) sc_above.nd rfl (.inl rfl)) (fun _ _ _ _ _ _ => (cts_one (ct_cmp op_gt rd_gt (cea_sl (pv 2)) (cea_sl (pv 1)) (nomark _)))) (fun _ _ _ _ _ _ => (ce_var (pv 2)))))) cal_nil)))))))
def body_verdict : DenS := (sSeq (sSet 3 (wCall 3 den_full_amount (aCons (aEx (dVar 0)) (aCons (aEx (dVar 1)) (aCons (aEx (dC (.str "request"))) aNil))))) (sSeq (sIf (bE (dOp2 fGe (aEx (eW (wCall 1 den_need_number (aCons (aEx (dVar 2)) aNil)))) (aSl 3))) (sRet (wE (dTup (aCons (aEx (dC (.str "full"))) (aCons (aEx (dVar 3)) aNil))))) sNil) (sRet (wE (dTup (aCons (aEx (dC (.str "beaten"))) (aCons (aEx (dVar 3)) (aCons (aEx (eW (wCall 2 den_foe_many (aCons (aEx (dVar 0)) (aCons (aEx (dVar 1)) aNil))))) aNil))))))))
def den_verdict : List W → RF := runF 4 none body_verdict
theorem sc_verdict : FnScope ["sizes", "pages", "moves", "amount"] ["sizes", "pages", "moves"] (defScope (topS 36)) := ⟨rfl, rfl, rfl, by decide +kernel, rfl, by decide +kernel, by decide +kernel⟩
theorem ok_verdict (T : Txt K mg S) : ∃ fd, Fun K "verdict" "verdict" (topS 36) (S.fn 20) fd ∧ FnG P w K mg base 8 (S.fn 20) fd ["sizes", "pages", "moves"] (SpP S 3 den_verdict) := by
  obtain ⟨fd, F⟩ := T.f_verdict
  obtain ⟨fd_full_amount, f_full_amount, g_full_amount⟩ := ok_full_amount (P := P) (w := w) (base := base) T
  obtain ⟨fd_need_number, f_need_number, g_need_number⟩ := ok_need_number (P := P) (w := w) (base := base) T
  obtain ⟨fd_foe_many, f_foe_many, g_foe_many⟩ := ok_foe_many (P := P) (w := w) (base := base) T
  refine ⟨fd, F, okG F sc_verdict (fun vs H Q E h => h.1) (fun cdv A outer s H vs Q E hr h => ?_)⟩
  obtain ⟨C, rfl, _, ht⟩ := body_pure (N := ["sizes", "pages", "moves", "amount"]) h
  have hK := T.hK
  subst hK
  refine ⟨_, ?_, ht⟩
  have tk := takes_of (X := cxOf (L2.CX P w) P w C.K mg base ["sizes", "pages", "moves", "amount"] "verdict" (defScope (topS 36)) (C.fn 20) cdv A outer s H E) (E := E) rfl rfl rfl rfl
  have hp := passes_of (X := cxOf (L2.CX P w) P w C.K mg base ["sizes", "pages", "moves", "amount"] "verdict" (defScope (topS 36)) (C.fn 20) cdv A outer s H E) rfl
  exact (css_cons (cs_set (i := 3) sc_verdict.nd rfl (.inl rfl) (cw_call g_full_amount (hr.mono (by decide)) (by rfl) T.m_full_amount f_full_amount.kp (f_full_amount.binds (ps := ["sizes", "pages", "when"]) fun _ _ _ _ _ _ us hl => match us, hl with | [_, _, _], _ => rfl) tk (cal_cons (cea_ex (ce_var (pv 0))) (cal_cons (cea_ex (ce_var (pv 1))) (cal_cons (cea_ex ce_str) cal_nil))))) (css_cons (cs_if (ct_cmp op_ge rd_ge (cea_ex (ce_w (cw_call g_need_number (hr.mono (by decide)) (by rfl) T.m_need_number f_need_number.kp (f_need_number.binds (ps := ["value"]) fun _ _ _ _ _ _ us hl => match us, hl with | [_], _ => rfl) tk (cal_cons (cea_ex (ce_var (pv 2))) cal_nil)))) (cea_sl (pv 3)) (nomark _)) (css_one (cs_ret (cw_e (ce_tup (cal_cons (cea_ex ce_str) (cal_cons (cea_ex (ce_var (pv 3))) cal_nil)))))) css_nil) (css_one (cs_ret (cw_e (ce_tup (cal_cons (cea_ex ce_str) (cal_cons (cea_ex (ce_var (pv 3))) (cal_cons (cea_ex (ce_w (cw_call g_foe_many (hr.mono (by decide)) (by rfl) T.m_foe_many f_foe_many.kp (f_foe_many.binds (ps := ["sizes", "pages"]) fun _ _ _ _ _ _ us hl => match us, hl with | [_, _], _ => rfl) tk (cal_cons (cea_ex (ce_var (pv 0))) (cal_cons (cea_ex (ce_var (pv 1))) cal_nil))))) cal_nil)))))))))
def body__law_box : DenS := (sSeq (sSet 2 (wOp2 fAddA (aEx (dOp2 fMulA (aEx (dC (.int 9719))) (aSl 1))) (aEx (dC (.int 6301))))) (sSeq (sIf (bE (dOp2 fLt (aSl 1) (aEx (dApp fLen (aCons (aSl 0) aNil))))) (sSet 2 (wE (dApp fAbs (aCons (aEx (dApp fInt (aCons (aEx (dOp2 fIx (aSl 0) (aSl 1))) aNil))) aNil)))) (sIf (bE (dOp2 fGt (aEx (dApp fLen (aCons (aSl 0) aNil))) (aEx (dC (.int 0))))) (sSet 2 (wOp2 fAddA (aSl 2) (aEx (dOp2 fMulA (aEx (dOp2 fMod (aEx (dApp fInt (aCons (aEx (dApp fAbs (aCons (aEx (dApp fInt (aCons (aEx (dOp2 fIx (aSl 0) (aEx (dOp2 fMod (aEx (dApp fInt (aCons (aSl 1) aNil))) (aEx (dApp fLen (aCons (aSl 0) aNil))))))) aNil))) aNil))) aNil))) (aEx (dC (.int 2147483587))))) (aEx (dC (.int 13087))))))) sNil)) (sSeq (sSet 3 (wE (dIf (bE (dOp2 fGe (aSl 2) (aEx (dOp2 fPow (aEx (dC (.int 10))) (aEx (dC (.int 18))))))) (dVar 2) (dC (.int 0))))) (sRet (wList (aCons (aEx (dVar 3)) (aCons (aEx (eW (wOp2 fAddA (aEx (dOp2 fMod (aEx (dApp fInt (aCons (aEx (eW (wOp2 fAddA (aEx (dOp2 fMulA (aEx (dOp2 fMod (aEx (dApp fInt (aCons (aSl 2) aNil))) (aEx (dC (.int 2147483587))))) (aEx (dC (.int 69069))))) (aEx (dOp2 fMulA (aEx (dC (.int 6301))) (aSl 1)))))) aNil))) (aEx (dC (.int 2147483587))))) (aEx (dC (.int 1)))))) aNil)))))))
def den__law_box : List W → RF := runF 4 none body__law_box
theorem sc__law_box : FnScope ["script", "k", "cell", "great"] ["script", "k"] (defScope (topS 38)) := ⟨rfl, rfl, rfl, by decide +kernel, rfl, by decide +kernel, by decide +kernel⟩
theorem ok__law_box (T : Txt K mg S) : ∃ fd, Fun K "_law_box" "_law_box" (topS 38) (S.fn 21) fd ∧ FnG P w K mg base 1 (S.fn 21) fd ["script", "k"] (SpP S 2 den__law_box) := by
  obtain ⟨fd, F⟩ := T.f__law_box
  refine ⟨fd, F, okG F sc__law_box (fun vs H Q E h => h.1) (fun cdv A outer s H vs Q E hr h => ?_)⟩
  obtain ⟨C, rfl, _, ht⟩ := body_pure (N := ["script", "k", "cell", "great"]) h
  have hK := T.hK
  subst hK
  refine ⟨_, ?_, ht⟩
  have tk := takes_of (X := cxOf (L2.CX P w) P w C.K mg base ["script", "k", "cell", "great"] "_law_box" (defScope (topS 38)) (C.fn 21) cdv A outer s H E) (E := E) rfl rfl rfl rfl
  have hp := passes_of (X := cxOf (L2.CX P w) P w C.K mg base ["script", "k", "cell", "great"] "_law_box" (defScope (topS 38)) (C.fn 21) cdv A outer s H E) rfl
  exact (css_cons (cs_set (i := 2) sc__law_box.nd rfl (.inl rfl) (cw_op op_addA rd_addA (cea_ex (ce_op op_mulA rd_mulA (cea_ex ce_int) (cea_sl (pv 1)))) (cea_ex ce_int))) (css_cons (cs_if (ct_cmp op_lt rd_lt (cea_sl (pv 1)) (cea_ex (ce_callB call_len_seq rd_len (by rfl) T.n_len (by decide +kernel) (cal_cons (cea_sl (pv 0)) cal_nil))) (nomark _)) (css_one (cs_set (i := 2) sc__law_box.nd rfl (.inl rfl) (cw_e (ce_callB call_abs rd_abs (by rfl) T.n_abs (by decide +kernel) (cal_cons (cea_ex (ce_callTy call_int1 rd_int (by rfl) T.n_int (by decide +kernel) (cal_cons (cea_ex (ce_ix rfl (cea_sl (pv 0)) (cea_sl (pv 1)))) cal_nil))) cal_nil))))) (css_one (cs_if (ct_cmp op_gt rd_gt (cea_ex (ce_callB call_len_seq rd_len (by rfl) T.n_len (by decide +kernel) (cal_cons (cea_sl (pv 0)) cal_nil))) (cea_ex ce_int) (nomark _)) (css_one (cs_set (i := 2) sc__law_box.nd rfl (.inl rfl) (cw_op op_addA rd_addA (cea_sl (pv 2)) (cea_ex (ce_op op_mulA rd_mulA (cea_ex (ce_op op_mod rd_mod (cea_ex (ce_callTy call_int1 rd_int (by rfl) T.n_int (by decide +kernel) (cal_cons (cea_ex (ce_callB call_abs rd_abs (by rfl) T.n_abs (by decide +kernel) (cal_cons (cea_ex (ce_callTy call_int1 rd_int (by rfl) T.n_int (by decide +kernel) (cal_cons (cea_ex (ce_ix rfl (cea_sl (pv 0)) (cea_ex (ce_op op_mod rd_mod (cea_ex (ce_callTy call_int1 rd_int (by rfl) T.n_int (by decide +kernel) (cal_cons (cea_sl (pv 1)) cal_nil))) (cea_ex (ce_callB call_len_seq rd_len (by rfl) T.n_len (by decide +kernel) (cal_cons (cea_sl (pv 0)) cal_nil))))))) cal_nil))) cal_nil))) cal_nil))) (cea_ex ce_int))) (cea_ex ce_int)))))) css_nil))) (css_cons (cs_set (i := 3) sc__law_box.nd rfl (.inl rfl) (cw_e (ce_ifx (ct_cmp op_ge rd_ge (cea_sl (pv 2)) (cea_ex (ce_op op_pow rd_pow (cea_ex ce_int) (cea_ex ce_int))) (nomark _)) (ce_var (pv 2)) ce_int))) (css_one (cs_ret (cw_list (cal_cons (cea_ex (ce_var (pv 3))) (cal_cons (cea_ex (ce_w (cw_op op_addA rd_addA (cea_ex (ce_op op_mod rd_mod (cea_ex (ce_callTy call_int1 rd_int (by rfl) T.n_int (by decide +kernel) (cal_cons (cea_ex (ce_w (cw_op op_addA rd_addA (cea_ex (ce_op op_mulA rd_mulA (cea_ex (ce_op op_mod rd_mod (cea_ex (ce_callTy call_int1 rd_int (by rfl) T.n_int (by decide +kernel) (cal_cons (cea_sl (pv 2)) cal_nil))) (cea_ex ce_int))) (cea_ex ce_int))) (cea_ex (ce_op op_mulA rd_mulA (cea_ex ce_int) (cea_sl (pv 1))))))) cal_nil))) (cea_ex ce_int))) (cea_ex ce_int)))) cal_nil))))))))
def body__law_take : DenS := (sSeq (sIf (bE (dOp2 fGt (aEx (dOp2 fIx (aSl 0) (aEx (dC (.int 0))))) (aEx (dC (.int 0))))) (sSeq (sSet 2 (wE (dOp2 fMod (aEx (dApp fInt (aCons (aEx (dOp2 fIx (aSl 0) (aEx (dC (.int 0))))) aNil))) (aSl 1)))) (sSeq (sStore 0 (aEx (dC (.int 0))) (dOp2 fDiv (aEx (dOp2 fIx (aSl 0) (aEx (dC (.int 0))))) (aSl 1))) (sRet (wMove 2)))) sNil) (sSeq (sSet 3 (wE (dOp2 fMod (aEx (dApp fInt (aCons (aEx (eW (wOp2 fAddA (aEx (dOp2 fMulA (aEx (dOp2 fIx (aSl 0) (aEx (dC (.int 1))))) (aEx (dC (.int 40692))))) (aEx (dC (.int 97)))))) aNil))) (aEx (dC (.int 2147483399)))))) (sSeq (sStore 0 (aEx (dC (.int 1))) (eW (wOp2 fAddA (aEx (dOp2 fMod (aEx (dApp fInt (aCons (aEx (eW (wOp2 fAddA (aEx (dOp2 fMulA (aSl 3) (aEx (dC (.int 40014))))) (aEx (dC (.int 11)))))) aNil))) (aEx (dC (.int 2147483587))))) (aEx (dC (.int 1)))))) (sRet (wE (dOp2 fMod (aEx (dApp fInt (aCons (aEx (dOp2 fDiv (aEx (eW (wOp2 fAddA (aEx (dOp2 fMulA (aSl 3) (aEx (dC (.int 2147483629))))) (aEx (dOp2 fIx (aSl 0) (aEx (dC (.int 1)))))))) (aEx (dC (.int 8209))))) aNil))) (aSl 1)))))))
def den__law_take : List W → RF := runF 4 (some 0) body__law_take
theorem sc__law_take : FnScope ["box", "many", "digit", "raw"] ["box", "many"] (defScope (topS 39)) := ⟨rfl, rfl, rfl, by decide +kernel, rfl, by decide +kernel, by decide +kernel⟩
theorem ok__law_take (T : Txt K mg S) : ∃ fd, Fun K "_law_take" "_law_take" (topS 39) (S.fn 22) fd ∧ FnG P w K mg base 1 (S.fn 22) fd ["box", "many"] (SpB S 2 0 den__law_take) := by
  obtain ⟨fd, F⟩ := T.f__law_take
  refine ⟨fd, F, okG F sc__law_take (fun vs H Q E h => h.1) (fun cdv A outer s H vs Q E hr h => ?_)⟩
  obtain ⟨C, rfl, ht⟩ := body_bor (N := ["box", "many", "digit", "raw"]) h
  have hK := T.hK
  subst hK
  refine ⟨_, ?_, ht⟩
  have tk := takes_of (X := cxOf (L2.CX P w) P w C.K mg base ["box", "many", "digit", "raw"] "_law_take" (defScope (topS 39)) (C.fn 22) cdv A outer s H E) (E := E) rfl rfl rfl rfl
  have hp := passes_of (X := cxOf (L2.CX P w) P w C.K mg base ["box", "many", "digit", "raw"] "_law_take" (defScope (topS 39)) (C.fn 22) cdv A outer s H E) rfl
  exact (css_cons (cs_if (ct_cmp op_gt rd_gt (cea_ex (ce_ix rfl (cea_sl (pv 0)) (cea_ex ce_int))) (cea_ex ce_int) (nomark _)) (css_cons (cs_set (i := 2) sc__law_take.nd rfl (.inl rfl) (cw_e (ce_op op_mod rd_mod (cea_ex (ce_callTy call_int1 rd_int (by rfl) T.n_int (by decide +kernel) (cal_cons (cea_ex (ce_ix rfl (cea_sl (pv 0)) (cea_ex ce_int))) cal_nil))) (cea_sl (pv 1))))) (css_cons (cs_store (pv 0) (cea_ex ce_int) (ce_op op_fdivW rd_div (cea_ex (ce_ix rfl (cea_sl (pv 0)) (cea_ex ce_int))) (cea_sl (pv 1)))) (css_one (cs_ret (cw_move (pv 2)))))) css_nil) (css_cons (cs_set (i := 3) sc__law_take.nd rfl (.inl rfl) (cw_e (ce_op op_mod rd_mod (cea_ex (ce_callTy call_int1 rd_int (by rfl) T.n_int (by decide +kernel) (cal_cons (cea_ex (ce_w (cw_op op_addA rd_addA (cea_ex (ce_op op_mulA rd_mulA (cea_ex (ce_ix rfl (cea_sl (pv 0)) (cea_ex ce_int))) (cea_ex ce_int))) (cea_ex ce_int)))) cal_nil))) (cea_ex ce_int)))) (css_cons (cs_store (pv 0) (cea_ex ce_int) (ce_w (cw_op op_addA rd_addA (cea_ex (ce_op op_mod rd_mod (cea_ex (ce_callTy call_int1 rd_int (by rfl) T.n_int (by decide +kernel) (cal_cons (cea_ex (ce_w (cw_op op_addA rd_addA (cea_ex (ce_op op_mulA rd_mulA (cea_sl (pv 3)) (cea_ex ce_int))) (cea_ex ce_int)))) cal_nil))) (cea_ex ce_int))) (cea_ex ce_int)))) (css_one (cs_ret (cw_e (ce_op op_mod rd_mod (cea_ex (ce_callTy call_int1 rd_int (by rfl) T.n_int (by decide +kernel) (cal_cons (cea_ex (ce_op op_fdivW rd_div (cea_ex (ce_w (cw_op op_addA rd_addA (cea_ex (ce_op op_mulA rd_mulA (cea_sl (pv 3)) (cea_ex ce_int))) (cea_ex (ce_ix rfl (cea_sl (pv 0)) (cea_ex ce_int)))))) (cea_ex ce_int))) cal_nil))) (cea_sl (pv 1)))))))))
def body__law_pick : DenS := (sRet (wE (dOp2 fIx (aSl 1) (aEx (eW (wCallB 2 0 den__law_take (aCons (aSl 0) (aCons (aEx (dApp fLen (aCons (aSl 1) aNil))) aNil))))))))
def den__law_pick : List W → RF := runF 2 (some 0) body__law_pick
theorem sc__law_pick : FnScope ["box", "some"] ["box", "some"] (defScope (topS 40)) := ⟨rfl, rfl, rfl, by decide +kernel, rfl, by decide +kernel, by decide +kernel⟩
theorem ok__law_pick (T : Txt K mg S) : ∃ fd, Fun K "_law_pick" "_law_pick" (topS 40) (S.fn 23) fd ∧ FnG P w K mg base 2 (S.fn 23) fd ["box", "some"] (SpB S 2 0 den__law_pick) := by
  obtain ⟨fd, F⟩ := T.f__law_pick
  obtain ⟨fd__law_take, f__law_take, g__law_take⟩ := ok__law_take (P := P) (w := w) (base := base) T
  refine ⟨fd, F, okG F sc__law_pick (fun vs H Q E h => h.1) (fun cdv A outer s H vs Q E hr h => ?_)⟩
  obtain ⟨C, rfl, ht⟩ := body_bor (N := ["box", "some"]) h
  have hK := T.hK
  subst hK
  refine ⟨_, ?_, ht⟩
  have tk := takes_of (X := cxOf (L2.CX P w) P w C.K mg base ["box", "some"] "_law_pick" (defScope (topS 40)) (C.fn 23) cdv A outer s H E) (E := E) rfl rfl rfl rfl
  have hp := passes_of (X := cxOf (L2.CX P w) P w C.K mg base ["box", "some"] "_law_pick" (defScope (topS 40)) (C.fn 23) cdv A outer s H E) rfl
  exact (css_one (cs_ret (cw_e (ce_ix rfl (cea_sl (pv 1)) (cea_ex (ce_w (cw_callB g__law_take (hr.mono (by decide)) (by rfl) T.m__law_take f__law_take.kp (f__law_take.binds (ps := ["box", "many"]) fun _ _ _ _ _ _ us hl => match us, hl with | [_, _], _ => rfl) tk (cal_cons (cea_sl (pv 0)) (cal_cons (cea_ex (ce_callB call_len_seq rd_len (by rfl) T.n_len (by decide +kernel) (cal_cons (cea_sl (pv 1)) cal_nil))) cal_nil)))))))))
def body__law_sizes : DenS := (sSeq (sSet 3 (wOp2 fAddA (aSl 2) (aEx (eW (wCallB 2 0 den__law_take (aCons (aSl 0) (aCons (aEx (dOp2 fSub (aEx (dC (.int 5))) (aSl 2))) aNil))))))) (sSeq (sSet 4 (wList (aCons (aEx (eW (wCallB 2 0 den__law_pick (aCons (aSl 0) (aCons (aEx (eW (wList (aCons (aEx (dC (.int 1))) (aCons (aEx (dC (.int 1))) (aCons (aEx (dC (.int 1))) (aCons (aEx (dC (.int 2))) (aCons (aEx (dC (.int 3))) aNil)))))))) aNil))))) aNil))) (sSeq (sFor (.nm 5) (iRange1 (dOp2 fSub (aSl 3) (aEx (dC (.int 1))))) (sSeq (sSet 6 (wE (dOp2 fMulA (aEx (dOp2 fIx (aSl 4) (aSl 5))) (aEx (eW (wCallB 2 0 den__law_pick (aCons (aSl 0) (aCons (aEx (eW (wList (aCons (aEx (dC (.int 2))) (aCons (aEx (dC (.int 2))) (aCons (aEx (dC (.int 3))) (aCons (aEx (dC (.int 2))) (aCons (aEx (dC (.int 4))) aNil)))))))) aNil)))))))) (sSeq (sIf (bOr (bE (dOp2 fGt (aSl 6) (aEx (dOp2 fMulA (aSl 1) (aEx (dOp2 fIx (aSl 4) (aEx (dC (.int 0))))))))) (bE (dOp2 fGt (aSl 6) (aEx (dC (.int 64)))))) (fun δ => .brk δ) sNil) (sExpr (dAppend 4 (dVar 6)))))) (sSeq (sIf (bE (dOp2 fLt (aEx (dApp fLen (aCons (aSl 4) aNil))) (aSl 2))) (sSet 4 (wSl (aEx (eW (wLc (.nm 7) (iSeq (dTup (aCons (aEx (dC (.int 1))) (aCons (aEx (dC (.int 2))) (aCons (aEx (dC (.int 4))) (aCons (aEx (dC (.int 8))) aNil)))))) tYesD (dOp2 fMulA (aEx (dOp2 fIx (aSl 4) (aEx (dC (.int 0))))) (aSl 7))))) oNone (oSome (aSl 2)))) sNil) (sRet (wE (dApp fTuple (aCons (aSl 4) aNil))))))))
def den__law_sizes : List W → RF := runF 8 (some 0) body__law_sizes
theorem sc__law_sizes : FnScope ["box", "most", "least", "many", "found", "turn", "size", "one"] ["box", "most", "least"] (defScope (topS 41)) := ⟨rfl, rfl, rfl, by decide +kernel, rfl, by decide +kernel, by decide +kernel⟩
theorem ok__law_sizes (T : Txt K mg S) : ∃ fd, Fun K "_law_sizes" "_law_sizes" (topS 41) (S.fn 24) fd ∧ FnG P w K mg base 3 (S.fn 24) fd ["box", "most", "least"] (SpB S 3 0 den__law_sizes) := by
  obtain ⟨fd, F⟩ := T.f__law_sizes
  obtain ⟨fd__law_take, f__law_take, g__law_take⟩ := ok__law_take (P := P) (w := w) (base := base) T
  obtain ⟨fd__law_pick, f__law_pick, g__law_pick⟩ := ok__law_pick (P := P) (w := w) (base := base) T
  refine ⟨fd, F, okG F sc__law_sizes (fun vs H Q E h => h.1) (fun cdv A outer s H vs Q E hr h => ?_)⟩
  obtain ⟨C, rfl, ht⟩ := body_bor (N := ["box", "most", "least", "many", "found", "turn", "size", "one"]) h
  have hK := T.hK
  subst hK
  refine ⟨_, ?_, ht⟩
  have tk := takes_of (X := cxOf (L2.CX P w) P w C.K mg base ["box", "most", "least", "many", "found", "turn", "size", "one"] "_law_sizes" (defScope (topS 41)) (C.fn 24) cdv A outer s H E) (E := E) rfl rfl rfl rfl
  have hp := passes_of (X := cxOf (L2.CX P w) P w C.K mg base ["box", "most", "least", "many", "found", "turn", "size", "one"] "_law_sizes" (defScope (topS 41)) (C.fn 24) cdv A outer s H E) rfl
  exact (css_cons (cs_set (i := 3) sc__law_sizes.nd rfl (.inl rfl) (cw_op op_addA rd_addA (cea_sl (pv 2)) (cea_ex (ce_w (cw_callB g__law_take (hr.mono (by decide)) (by rfl) T.m__law_take f__law_take.kp (f__law_take.binds (ps := ["box", "many"]) fun _ _ _ _ _ _ us hl => match us, hl with | [_, _], _ => rfl) tk (cal_cons (cea_sl (pv 0)) (cal_cons (cea_ex (ce_op op_sub rd_sub (cea_ex ce_int) (cea_sl (pv 2)))) cal_nil))))))) (css_cons (cs_set (i := 4) sc__law_sizes.nd rfl (.inr rfl) (cw_list (cal_cons (cea_ex (ce_w (cw_callB g__law_pick (hr.mono (by decide)) (by rfl) T.m__law_pick f__law_pick.kp (f__law_pick.binds (ps := ["box", "some"]) fun _ _ _ _ _ _ us hl => match us, hl with | [_, _], _ => rfl) tk (cal_cons (cea_sl (pv 0)) (cal_cons (cea_ex (ce_w (cw_list (cal_cons (cea_ex ce_int) (cal_cons (cea_ex ce_int) (cal_cons (cea_ex ce_int) (cal_cons (cea_ex ce_int) (cal_cons (cea_ex ce_int) cal_nil)))))))) cal_nil))))) cal_nil))) (css_cons (cs_for hp rfl (ci_range1 (by rfl) T.n_range (ce_op op_sub rd_sub (cea_sl (pv 3)) (cea_ex ce_int))) (cg_name (i := 5) sc__law_sizes.nd rfl (.inl rfl)) (css_cons (cs_set (i := 6) sc__law_sizes.nd rfl (.inl rfl) (cw_e (ce_op op_mulA rd_mulA (cea_ex (ce_ix rfl (cea_sl (pv 4)) (cea_sl (pv 5)))) (cea_ex (ce_w (cw_callB g__law_pick (hr.mono (by decide)) (by rfl) T.m__law_pick f__law_pick.kp (f__law_pick.binds (ps := ["box", "some"]) fun _ _ _ _ _ _ us hl => match us, hl with | [_, _], _ => rfl) tk (cal_cons (cea_sl (pv 0)) (cal_cons (cea_ex (ce_w (cw_list (cal_cons (cea_ex ce_int) (cal_cons (cea_ex ce_int) (cal_cons (cea_ex ce_int) (cal_cons (cea_ex ce_int) (cal_cons (cea_ex ce_int) cal_nil)))))))) cal_nil)))))))) (css_cons (cs_if (ct_w (cpw_or (ct_cmp op_gt rd_gt (cea_sl (pv 6)) (cea_ex (ce_op op_mulA rd_mulA (cea_sl (pv 1)) (cea_ex (ce_ix rfl (cea_sl (pv 4)) (cea_ex ce_int))))) (nomark _)) (cpw_or1 (ct_cmp op_gt rd_gt (cea_sl (pv 6)) (cea_ex ce_int) (nomark _))))) (css_one cs_break) css_nil) (css_one (cs_expr (ce_append (pv 4) (ce_var (pv 6)))))))) (css_cons (cs_if (ct_cmp op_lt rd_lt (cea_ex (ce_callB call_len_seq rd_len (by rfl) T.n_len (by decide +kernel) (cal_cons (cea_sl (pv 4)) cal_nil))) (cea_sl (pv 2)) (nomark _)) (css_one (cs_set (i := 4) sc__law_sizes.nd rfl (.inr rfl) (cw_sl rfl (cea_ex (ce_w (cw_lc (own := [("one", 7)]) rfl sc__law_sizes.nd (ci_seq rfl (ce_tup (cal_cons (cea_ex ce_int) (cal_cons (cea_ex ce_int) (cal_cons (cea_ex ce_int) (cal_cons (cea_ex ce_int) cal_nil)))))) (show BlkOk ["box", "most", "least", "many", "found", "turn", "size", "one"] (defScope (topS 41)) _ _ from blk_by (by decide +kernel)) (fun _ _ _ _ _ => pg_name (i := 7) sc__law_sizes.nd rfl (.inl rfl)) (fun _ _ _ _ _ _ => cts_nil) (fun _ _ _ _ _ _ => (ce_op op_mulA rd_mulA (cea_ex (ce_ix rfl (cea_sl (pv 4)) (cea_ex ce_int))) (cea_sl (pv 7))))))) co_none (co_some (cea_sl (pv 2)))))) css_nil) (css_one (cs_ret (cw_e (ce_callTy call_tupX rd_tuple (by rfl) T.n_tuple (by decide +kernel) (cal_cons (cea_sl (pv 4)) cal_nil)))))))))
def body__law_pages : DenS := (sSeq (sSet 2 (wList (aCons (aEx (eW (wCallB 2 0 den__law_take (aCons (aSl 0) (aCons (aEx (dC (.int 3))) aNil))))) aNil))) (sSeq (sFor (.nm 3) (iRange1 (dOp2 fSub (aSl 1) (aEx (dC (.int 1))))) (sExpr (dAppend 2 (eW (wOp2 fAddA (aEx (eW (wOp2 fAddA (aEx (dOp2 fIx (aSl 2) (aSl 3))) (aEx (dC (.int 1)))))) (aEx (eW (wCallB 2 0 den__law_take (aCons (aSl 0) (aCons (aEx (dC (.int 2))) aNil)))))))))) (sRet (wE (dApp fTuple (aCons (aSl 2) aNil))))))
def den__law_pages : List W → RF := runF 4 (some 0) body__law_pages
theorem sc__law_pages : FnScope ["box", "many", "found", "turn"] ["box", "many"] (defScope (topS 42)) := ⟨rfl, rfl, rfl, by decide +kernel, rfl, by decide +kernel, by decide +kernel⟩
theorem ok__law_pages (T : Txt K mg S) : ∃ fd, Fun K "_law_pages" "_law_pages" (topS 42) (S.fn 25) fd ∧ FnG P w K mg base 2 (S.fn 25) fd ["box", "many"] (SpB S 2 0 den__law_pages) := by
  obtain ⟨fd, F⟩ := T.f__law_pages
  obtain ⟨fd__law_take, f__law_take, g__law_take⟩ := ok__law_take (P := P) (w := w) (base := base) T
  refine ⟨fd, F, okG F sc__law_pages (fun vs H Q E h => h.1) (fun cdv A outer s H vs Q E hr h => ?_)⟩
  obtain ⟨C, rfl, ht⟩ := body_bor (N := ["box", "many", "found", "turn"]) h
  have hK := T.hK
  subst hK
  refine ⟨_, ?_, ht⟩
  have tk := takes_of (X := cxOf (L2.CX P w) P w C.K mg base ["box", "many", "found", "turn"] "_law_pages" (defScope (topS 42)) (C.fn 25) cdv A outer s H E) (E := E) rfl rfl rfl rfl
  have hp := passes_of (X := cxOf (L2.CX P w) P w C.K mg base ["box", "many", "found", "turn"] "_law_pages" (defScope (topS 42)) (C.fn 25) cdv A outer s H E) rfl
  exact (css_cons (cs_set (i := 2) sc__law_pages.nd rfl (.inl rfl) (cw_list (cal_cons (cea_ex (ce_w (cw_callB g__law_take (hr.mono (by decide)) (by rfl) T.m__law_take f__law_take.kp (f__law_take.binds (ps := ["box", "many"]) fun _ _ _ _ _ _ us hl => match us, hl with | [_, _], _ => rfl) tk (cal_cons (cea_sl (pv 0)) (cal_cons (cea_ex ce_int) cal_nil))))) cal_nil))) (css_cons (cs_for hp rfl (ci_range1 (by rfl) T.n_range (ce_op op_sub rd_sub (cea_sl (pv 1)) (cea_ex ce_int))) (cg_name (i := 3) sc__law_pages.nd rfl (.inl rfl)) (css_one (cs_expr (ce_append (pv 2) (ce_w (cw_op op_addA rd_addA (cea_ex (ce_w (cw_op op_addA rd_addA (cea_ex (ce_ix rfl (cea_sl (pv 2)) (cea_sl (pv 3)))) (cea_ex ce_int)))) (cea_ex (ce_w (cw_callB g__law_take (hr.mono (by decide)) (by rfl) T.m__law_take f__law_take.kp (f__law_take.binds (ps := ["box", "many"]) fun _ _ _ _ _ _ us hl => match us, hl with | [_, _], _ => rfl) tk (cal_cons (cea_sl (pv 0)) (cal_cons (cea_ex ce_int) cal_nil))))))))))) (css_one (cs_ret (cw_e (ce_callTy call_tupX rd_tuple (by rfl) T.n_tuple (by decide +kernel) (cal_cons (cea_sl (pv 2)) cal_nil)))))))
def body__law_amount : DenS := (sSeq (sIf (bE (dOp2 fEq (aEx (dApp fLen (aCons (aSl 0) aNil))) (aEx (dC (.int 1))))) (sRet (wE (dC (.int 0)))) sNil) (sSeq (sIf (bE (dOp2 fEq (aSl 2) (aEx (dC (.str "request"))))) (sRet (wE (dOp2 fIx (aSl 0) (aEx (dOp1 fNeg (aEx (dC (.int 2)))))))) sNil) (sSeq (sIf (bE (dOp2 fEq (aSl 2) (aEx (dC (.str "giving"))))) (sRet (wE (dIf (bE (dOp2 fGe (aSl 1) (aEx (dApp fLen (aCons (aSl 0) aNil))))) (dApp fSum (aCons (aEx (eW (wSl (aSl 0) oNone (oSome (aEx (dOp1 fNeg (aEx (dC (.int 1))))))))) aNil)) (dC .none)))) sNil) (sSeq (sIf (bE (dOp2 fGt (aEx (dApp fLen (aCons (aSl 0) aNil))) (aEx (dC (.int 2))))) (sRet (wE (dC .none))) sNil) (sSeq (sSet 3 (wE (dOp2 fDiv (aEx (dOp2 fIx (aSl 0) (aEx (dC (.int 1))))) (aEx (dOp2 fIx (aSl 0) (aEx (dC (.int 0)))))))) (sRet (wE (dOp2 fMulA (aEx (dOp2 fIx (aSl 0) (aEx (dC (.int 0))))) (aEx (dOp2 fSub (aSl 3) (aEx (dOp2 fDiv (aEx (dOp2 fSub (aEx (eW (wOp2 fAddA (aSl 3) (aSl 1)))) (aEx (dC (.int 1))))) (aSl 1)))))))))))))
def den__law_amount : List W → RF := runF 4 none body__law_amount
theorem sc__law_amount : FnScope ["sizes", "many", "when", "units"] ["sizes", "many", "when"] (defScope (topS 43)) := ⟨rfl, rfl, rfl, by decide +kernel, rfl, by decide +kernel, by decide +kernel⟩
theorem ok__law_amount (T : Txt K mg S) : ∃ fd, Fun K "_law_amount" "_law_amount" (topS 43) (S.fn 26) fd ∧ FnG P w K mg base 1 (S.fn 26) fd ["sizes", "many", "when"] (SpP S 3 den__law_amount) := by
  obtain ⟨fd, F⟩ := T.f__law_amount
  refine ⟨fd, F, okG F sc__law_amount (fun vs H Q E h => h.1) (fun cdv A outer s H vs Q E hr h => ?_)⟩
  obtain ⟨C, rfl, _, ht⟩ := body_pure (N := ["sizes", "many", "when", "units"]) h
  have hK := T.hK
  subst hK
  refine ⟨_, ?_, ht⟩
  have tk := takes_of (X := cxOf (L2.CX P w) P w C.K mg base ["sizes", "many", "when", "units"] "_law_amount" (defScope (topS 43)) (C.fn 26) cdv A outer s H E) (E := E) rfl rfl rfl rfl
  have hp := passes_of (X := cxOf (L2.CX P w) P w C.K mg base ["sizes", "many", "when", "units"] "_law_amount" (defScope (topS 43)) (C.fn 26) cdv A outer s H E) rfl
  exact (css_cons (cs_if (ct_cmp (op_eqD hr.u64) rd_eq (cea_ex (ce_callB call_len_seq rd_len (by rfl) T.n_len (by decide +kernel) (cal_cons (cea_sl (pv 0)) cal_nil))) (cea_ex ce_int) (nomark _)) (css_one (cs_ret (cw_e ce_int))) css_nil) (css_cons (cs_if (ct_cmp (op_eqD hr.u64) rd_eq (cea_sl (pv 2)) (cea_ex ce_str) (nomark _)) (css_one (cs_ret (cw_e (ce_ix rfl (cea_sl (pv 0)) (cea_ex (ce_un un_neg rd_neg (cea_ex ce_int))))))) css_nil) (css_cons (cs_if (ct_cmp (op_eqD hr.u64) rd_eq (cea_sl (pv 2)) (cea_ex ce_str) (nomark _)) (css_one (cs_ret (cw_e (ce_ifx (ct_cmp op_ge rd_ge (cea_sl (pv 1)) (cea_ex (ce_callB call_len_seq rd_len (by rfl) T.n_len (by decide +kernel) (cal_cons (cea_sl (pv 0)) cal_nil))) (nomark _)) (ce_callB (cr_sumA rfl) rd_sum (by rfl) T.n_sum (by decide +kernel) (cal_cons (cea_ex (ce_w (cw_sl rfl (cea_sl (pv 0)) co_none (co_some (cea_ex (ce_un un_neg rd_neg (cea_ex ce_int))))))) cal_nil)) ce_non)))) css_nil) (css_cons (cs_if (ct_cmp op_gt rd_gt (cea_ex (ce_callB call_len_seq rd_len (by rfl) T.n_len (by decide +kernel) (cal_cons (cea_sl (pv 0)) cal_nil))) (cea_ex ce_int) (nomark _)) (css_one (cs_ret (cw_e ce_non))) css_nil) (css_cons (cs_set (i := 3) sc__law_amount.nd rfl (.inl rfl) (cw_e (ce_op op_fdivW rd_div (cea_ex (ce_ix rfl (cea_sl (pv 0)) (cea_ex ce_int))) (cea_ex (ce_ix rfl (cea_sl (pv 0)) (cea_ex ce_int)))))) (css_one (cs_ret (cw_e (ce_op op_mulA rd_mulA (cea_ex (ce_ix rfl (cea_sl (pv 0)) (cea_ex ce_int))) (cea_ex (ce_op op_sub rd_sub (cea_sl (pv 3)) (cea_ex (ce_op op_fdivW rd_div (cea_ex (ce_op op_sub rd_sub (cea_ex (ce_w (cw_op op_addA rd_addA (cea_sl (pv 3)) (cea_sl (pv 1))))) (cea_ex ce_int))) (cea_sl (pv 1)))))))))))))))
def body__law_heard (r : Nat → RF) : DenS := (sSeq (sTry subD (sExpr (eW (wAsk 0 r))) [⟨0, 1, (sRet (wE (dTup (aCons (aEx (dC (.str "sizes"))) (aCons (aEx (dApp fRepr (aCons (aEx (dFld 1 0)) aNil))) aNil)))))⟩, ⟨1, 1, (sRet (wE (dTup (aCons (aEx (dC (.str "pages"))) (aCons (aEx (dApp fRepr (aCons (aEx (dFld 1 1)) aNil))) aNil)))))⟩, ⟨2, 1, (sRet (wE (dTup (aCons (aEx (dC (.str "refused"))) (aCons (aEx (dApp fRepr (aCons (aEx (dFld 1 2)) aNil))) aNil)))))⟩]) (sRet (wE (dC .none))))
theorem sc__law_heard : FnScope ["ask", "fault"] ["ask"] (defScope (topS 44)) := ⟨rfl, rfl, rfl, by decide +kernel, rfl, by decide +kernel, by decide +kernel⟩
theorem rd__law_heard (T : Txt K mg S) : Hears P w K mg S 1 "_law_heard" (topS 44) ["ask", "fault"] "ask" body__law_heard := by
  obtain ⟨q_BadPages, i_BadPages, e_BadPages⟩ := T.e_BadPages
  obtain ⟨q_BadSizes, i_BadSizes, e_BadSizes⟩ := T.e_BadSizes
  obtain ⟨q_Refused, i_Refused, e_Refused⟩ := T.e_Refused
  intro base g cdv A outer s H E Ch r hS hio hr hask
  subst hS
  have hK := T.hK
  subst hK
  have tk := takes_of (X := cxOf (L2.CX P w) P w Ch.K mg base ["ask", "fault"] "_law_heard" (defScope (topS 44)) g cdv A outer s H E) (E := E) rfl rfl rfl rfl
  have hp := passes_of (X := cxOf (L2.CX P w) P w Ch.K mg base ["ask", "fault"] "_law_heard" (defScope (topS 44)) g cdv A outer s H E) rfl
  exact (css_cons (cs_try (sub := subD) rfl rfl rfl sc__law_heard.nd tk (fun W pn xe tk hp => (css_one (cs_expr (ce_w (hask _ _ _ _ _ tk))))) (.cons (cv := .ref (Ch.cls 0)) (fun c b h => T.exm c 0 b h) (.cons (cv := .ref (Ch.cls 1)) (fun c b h => T.exm c 1 b h) (.cons (cv := .ref (Ch.cls 2)) (fun c b h => T.exm c 2 b h) .nil))) (.cons ⟨by rfl, by decide, .inl T.mc_BadSizes⟩ rfl rfl (fun a oe cls d pn hz hv => pss_fact fun ⟨hd, hc⟩ => (css_one (cs_ret (cw_e (ce_tup (cal_cons (cea_ex ce_str) (cal_cons (cea_ex (ce_callB (call_reprD hr.none hr.u70) (rd_repr rfl) (by rfl) T.n_repr (by decide +kernel) (cal_cons (cea_ex (ce_fld hd hc (T.fn_BadSizes).symm (T.fn_BadSizes ▸ T.fld_BadSizes) ⟨e_BadSizes.ga, e_BadSizes.gg, e_BadSizes.exC, e_BadSizes.hdC⟩ (T.fn_BadSizes ▸ e_BadSizes.noN) hz hv (pv 1))) cal_nil))) cal_nil))))))) (.cons ⟨by rfl, by decide, .inl T.mc_BadPages⟩ rfl rfl (fun a oe cls d pn hz hv => pss_fact fun ⟨hd, hc⟩ => (css_one (cs_ret (cw_e (ce_tup (cal_cons (cea_ex ce_str) (cal_cons (cea_ex (ce_callB (call_reprD hr.none hr.u70) (rd_repr rfl) (by rfl) T.n_repr (by decide +kernel) (cal_cons (cea_ex (ce_fld hd hc (T.fn_BadPages).symm (T.fn_BadPages ▸ T.fld_BadPages) ⟨e_BadPages.ga, e_BadPages.gg, e_BadPages.exC, e_BadPages.hdC⟩ (T.fn_BadPages ▸ e_BadPages.noN) hz hv (pv 1))) cal_nil))) cal_nil))))))) (.cons ⟨by rfl, by decide, .inl T.mc_Refused⟩ rfl rfl (fun a oe cls d pn hz hv => pss_fact fun ⟨hd, hc⟩ => (css_one (cs_ret (cw_e (ce_tup (cal_cons (cea_ex ce_str) (cal_cons (cea_ex (ce_callB (call_reprD hr.none hr.u70) (rd_repr rfl) (by rfl) T.n_repr (by decide +kernel) (cal_cons (cea_ex (ce_fld hd hc (T.fn_Refused).symm (T.fn_Refused ▸ T.fld_Refused) ⟨e_Refused.ga, e_Refused.gg, e_Refused.exC, e_Refused.hdC⟩ (T.fn_Refused ▸ e_Refused.noN) hz hv (pv 1))) cal_nil))) cal_nil))))))) .nil)))) (css_one (cs_ret (cw_e ce_non))))
theorem kbinds_verdict_moves_pages_sizes {f : Addr} {fd : FuncData} (F : Fun K "verdict" "verdict" (topS 36) f fd) : KBinds K fd ["sizes", "pages", "moves"] ["moves", "pages", "sizes"] (inOrder [2, 1, 0] 0 3) (inOrder [2, 1, 0] 0 3) := by
  obtain ⟨o1, o2, o3, o4, o5, o6, cdv, o8, o9, rfl, lk, hcd⟩ := F.ex
  exact kbinds [2, 1, 0] 0 3 (by decide) fun us ws h1 h2 => match us, ws, h1, h2 with | [], [_, _, _], _, _ => rfl
theorem kbinds_full_amount_when_pages_sizes {f : Addr} {fd : FuncData} (F : Fun K "full_amount" "full_amount" (topS 34) f fd) : KBinds K fd ["sizes", "pages", "when"] ["when", "pages", "sizes"] (inOrder [2, 1, 0] 0 3) (inOrder [2, 1, 0] 0 3) := by
  obtain ⟨o1, o2, o3, o4, o5, o6, cdv, o8, o9, rfl, lk, hcd⟩ := F.ex
  exact kbinds [2, 1, 0] 0 3 (by decide) fun us ws h1 h2 => match us, ws, h1, h2 with | [], [_, _, _], _, _ => rfl
theorem kbinds_above_moves_sizes {f : Addr} {fd : FuncData} (F : Fun K "above" "above" (topS 35) f fd) : KBinds K fd ["sizes", "moves"] ["moves", "sizes"] (inOrder [1, 0] 0 2) (inOrder [1, 0] 0 2) := by
  obtain ⟨o1, o2, o3, o4, o5, o6, cdv, o8, o9, rfl, lk, hcd⟩ := F.ex
  exact kbinds [1, 0] 0 2 (by decide) fun us ws h1 h2 => match us, ws, h1, h2 with | [], [_, _], _, _ => rfl
def dens_law : Nat → DenW
  | 0 => (wCall 3 den_full_amount (aCons (aEx (dVar 13)) (aCons (aEx (dVar 15)) (aCons (aEx (dVar 18)) aNil))))
  | 1 => (wCall 2 den_above (aCons (aEx (dVar 13)) (aCons (aEx (dVar 17)) aNil)))
  | 2 => (wCall 3 den_full_amount (aCons (aEx (dVar 3)) (aCons (aEx (dVar 15)) (aCons (aEx (dVar 18)) aNil))))
  | 3 => (wCall 3 den_full_amount (aCons (aEx (dVar 3)) (aCons (aEx (eW (wList aNil))) (aCons (aEx (dVar 18)) aNil))))
  | 4 => (wCall 3 den_full_amount (aCons (aEx (dVar 3)) (aCons (aEx (dVar 4)) (aCons (aEx (dVar 18)) aNil))))
  | 5 => (wCall 3 den_verdict (aCons (aEx (dVar 13)) (aCons (aEx (dVar 15)) (aCons (aEx (dVar 17)) aNil))))
  | 6 => (wCall 3 den_verdict (aCons (aEx (dVar 3)) (aCons (aEx (dVar 15)) (aCons (aEx (dVar 17)) aNil))))
  | 7 => (wCall 3 den_verdict (aCons (aEx (dVar 3)) (aCons (aEx (dTup aNil)) (aCons (aEx (dVar 17)) aNil))))
  | 8 => (wCall 3 den_verdict (aCons (aEx (dVar 3)) (aCons (aEx (dVar 4)) (aCons (aEx (dVar 17)) aNil))))
  | 9 => (wCall 2 den_above (aCons (aEx (dVar 3)) (aCons (aEx (dVar 17)) aNil)))
  | _ => fun _ => .stuck
def lamE_law_0 : Expr := (eArg 0 (eLeft (sTest (sAt (sBody (sAt (defBody (topS 45)) 0)) 15))))
def lamE_law_1 : Expr := (eArg 0 (eLeft (sTest (sAt (sBody (sAt (defBody (topS 45)) 0)) 16))))
def lamE_law_2 : Expr := (eArg 0 (eLeft (sTest (sAt (sBody (sAt (defBody (topS 45)) 0)) 17))))
def lamE_law_3 : Expr := (eArg 0 (eLeft (sTest (sAt (sBody (sAt (defBody (topS 45)) 0)) 18))))
def lamE_law_4 : Expr := (eArg 0 (eLeft (sTest (sAt (sBody (sAt (defBody (topS 45)) 0)) 19))))
def lamE_law_5 : Expr := (eArg 0 (eLeft (sTest (sAt (sBody (sAt (defBody (topS 45)) 0)) 20))))
def lamE_law_6 : Expr := (eArg 0 (eLeft (sTest (sAt (sBody (sAt (defBody (topS 45)) 0)) 21))))
def lamE_law_7 : Expr := (eArg 0 (eLeft (sTest (sAt (sBody (sAt (defBody (topS 45)) 0)) 22))))
def lamE_law_8 : Expr := (eArg 0 (eLeft (sTest (sAt (sBody (sAt (defBody (topS 45)) 0)) 23))))
def lamE_law_9 : Expr := (eArg 0 (eLeft (sTest (sAt (sBody (sAt (defBody (topS 45)) 0)) 24))))
def body_law : DenS := (sSeq (sFor (.nm 1) (iRange1 (dApp fMax2 (aCons (aEx (dC (.int 3))) (aCons (aEx (dApp fMin2 (aCons (aEx (dApp fLen (aCons (aSl 0) aNil))) (aCons (aEx (dC (.int 7))) aNil)))) aNil)))) (sSeq (sSet 2 (wCall 2 den__law_box (aCons (aEx (dVar 0)) (aCons (aEx (dVar 1)) aNil)))) (sSeq (sUnp [3, 4] (dTup (aCons (aEx (eW (wCallB 3 0 den__law_sizes (aCons (aSl 2) (aCons (aEx (dC (.int 20))) (aCons (aEx (dC (.int 1))) aNil)))))) (aCons (aEx (eW (wCallB 2 0 den__law_pages (aCons (aSl 2) (aCons (aEx (eW (wOp2 fAddA (aEx (dC (.int 1))) (aEx (eW (wCallB 2 0 den__law_take (aCons (aSl 2) (aCons (aEx (dC (.int 7))) aNil)))))))) aNil))))) aNil)))) (sSeq (sPar [5, 6] (wlCons (wE (dVar 3)) (wlCons (wE (dApp fLen (aCons (aSl 4) aNil))) wlNil))) (sSeq (sIf (bAnd (bE (dOp2 fEq (aSl 6) (aEx (dC (.int 1))))) (bE (dOp2 fGt (aEx (dApp fLen (aCons (aSl 3) aNil))) (aEx (dC (.int 1)))))) (sPar [5, 6] (wlCons (wSl (aSl 3) oNone (oSome (aEx (dOp1 fNeg (aEx (dC (.int 1))))))) (wlCons (wE (dOp2 fDiv (aEx (dOp2 fIx (aSl 3) (aEx (dOp1 fNeg (aEx (dC (.int 1))))))) (aEx (dOp2 fIx (aSl 3) (aEx (dOp1 fNeg (aEx (dC (.int 2))))))))) wlNil))) sNil) (sSeq (sFor (.nm 7) (iSeq (dTup (aCons (aEx (dC (.str "request"))) (aCons (aEx (dC (.str "giving"))) (aCons (aEx (dC (.str "taking"))) aNil))))) (sSeq (sSet 8 (wCall 3 den__law_amount (aCons (aEx (dVar 5)) (aCons (aEx (dVar 6)) (aCons (aEx (dVar 7)) aNil))))) (sIf (bOr (bE (dOp2 fNe (aEx (dApp fRepr (aCons (aEx (eW (wCall 3 den_full_amount (aCons (aEx (dVar 3)) (aCons (aEx (dVar 4)) (aCons (aEx (dVar 7)) aNil)))))) aNil))) (aEx (dApp fRepr (aCons (aSl 8) aNil))))) (bE (dOp2 fNe (aEx (dApp fRepr (aCons (aEx (eW (wCallK 3 den_full_amount [2, 1, 0] 0 3 aNil (aCons (aEx (dVar 7)) (aCons (aEx (eW (wApp fListOf (aCons (aSl 4) aNil)))) (aCons (aEx (eW (wApp fListOf (aCons (aSl 3) aNil)))) aNil)))))) aNil))) (aEx (dApp fRepr (aCons (aSl 8) aNil)))))) (sRet (wE (dC (.bool false)))) sNil))) (sSeq (sSet 9 (wCallB 2 0 den__law_take (aCons (aSl 2) (aCons (aEx (eW (wOp2 fAddA (aEx (dOp2 fIx (aSl 3) (aEx (dOp1 fNeg (aEx (dC (.int 1))))))) (aEx (dC (.int 3)))))) aNil)))) (sSeq (sSet 8 (wE (dApp fTuple (aCons (aEx (eW (wLc (.nm 10) (iSeq (dVar 3)) (bE (dOp2 fGt (aSl 10) (aSl 9))) (dVar 10)))) aNil)))) (sSeq (sIf (bOr (bE (dOp2 fNe (aEx (dApp fRepr (aCons (aEx (eW (wCall 2 den_above (aCons (aEx (dVar 3)) (aCons (aEx (dVar 9)) aNil))))) aNil))) (aEx (dApp fRepr (aCons (aSl 8) aNil))))) (bE (dOp2 fNe (aEx (dApp fRepr (aCons (aEx (eW (wCallK 2 den_above [1, 0] 0 2 aNil (aCons (aEx (dVar 9)) (aCons (aEx (eW (wApp fListOf (aCons (aSl 3) aNil)))) aNil))))) aNil))) (aEx (dApp fRepr (aCons (aSl 8) aNil)))))) (sRet (wE (dC (.bool false)))) sNil) (sSeq (sSet 11 (wCall 3 den__law_amount (aCons (aEx (dVar 5)) (aCons (aEx (dVar 6)) (aCons (aEx (dC (.str "request"))) aNil))))) (sSeq (sSet 8 (wE (dTup (aCons (aEx (dC (.str "full"))) (aCons (aEx (dVar 11)) aNil))))) (sSeq (sIf (bE (dOp2 fLt (aSl 9) (aSl 11))) (sSeq (sSet 12 (wE (dOp2 fDiv (aEx (dOp2 fIx (aSl 5) (aEx (dOp1 fNeg (aEx (dC (.int 1))))))) (aEx (dOp2 fIx (aSl 5) (aEx (dOp1 fNeg (aEx (dC (.int 2)))))))))) (sSet 8 (wE (dTup (aCons (aEx (dC (.str "beaten"))) (aCons (aEx (dVar 11)) (aCons (aEx (eW (wOp2 fAddA (aEx (eW (wOp2 fAddA (aEx (dOp2 fMulA (aSl 6) (aSl 12))) (aSl 12)))) (aEx (dC (.int 1)))))) aNil))))))) sNil) (sSeq (sIf (bOr (bE (dOp2 fNe (aEx (dApp fRepr (aCons (aEx (eW (wCall 3 den_verdict (aCons (aEx (dVar 3)) (aCons (aEx (dVar 4)) (aCons (aEx (dVar 9)) aNil)))))) aNil))) (aEx (dApp fRepr (aCons (aSl 8) aNil))))) (bE (dOp2 fNe (aEx (dApp fRepr (aCons (aEx (eW (wCallK 3 den_verdict [2, 1, 0] 0 3 aNil (aCons (aEx (dVar 9)) (aCons (aEx (eW (wApp fListOf (aCons (aSl 4) aNil)))) (aCons (aEx (eW (wApp fListOf (aCons (aSl 3) aNil)))) aNil)))))) aNil))) (aEx (dApp fRepr (aCons (aSl 8) aNil)))))) (sRet (wE (dC (.bool false)))) sNil) (sSeq (sUnp [13, 14] (eW (wCallB 2 0 den__law_pick (aCons (aSl 2) (aCons (aEx (eW (wList (aCons (aEx (dTup (aCons (aEx (dC .none)) (aCons (aEx (dOp2 fSub (aEx (dC (.int 0))) (aEx (dC (.int 1))))) aNil)))) (aCons (aEx (dTup (aCons (aEx (dTup aNil)) (aCons (aEx (dOp2 fSub (aEx (dC (.int 0))) (aEx (dC (.int 1))))) aNil)))) (aCons (aEx (dTup (aCons (aEx (dTup (aCons (aEx (dC (.int 2))) (aCons (aEx (dC (.int 3))) aNil)))) (aCons (aEx (dC (.int 1))) aNil)))) (aCons (aEx (dTup (aCons (aEx (dTup (aCons (aEx (dC (.int 0))) (aCons (aEx (dC (.int 2))) aNil)))) (aCons (aEx (dC (.int 0))) aNil)))) (aCons (aEx (dTup (aCons (aEx (dTup (aCons (aEx (dC (.int 1))) (aCons (aEx (dC (.int 2))) (aCons (aEx (dC (.int 2))) aNil))))) (aCons (aEx (dC (.int 2))) aNil)))) (aCons (aEx (dTup (aCons (aEx (dTup (aCons (aEx (dC (.bool true))) (aCons (aEx (dC (.int 2))) aNil)))) (aCons (aEx (dC (.int 0))) aNil)))) aNil))))))))) aNil))))) (sSeq (sUnp [15, 16] (eW (wCallB 2 0 den__law_pick (aCons (aSl 2) (aCons (aEx (eW (wList (aCons (aEx (dTup (aCons (aEx (dC .none)) (aCons (aEx (dOp2 fSub (aEx (dC (.int 0))) (aEx (dC (.int 1))))) aNil)))) (aCons (aEx (dTup (aCons (aEx (dTup (aCons (aEx (dC (.int 1))) (aCons (aEx (dC (.int 1))) aNil)))) (aCons (aEx (dC (.int 1))) aNil)))) (aCons (aEx (dTup (aCons (aEx (dTup (aCons (aEx (dOp2 fSub (aEx (dC (.int 0))) (aEx (dC (.int 1))))) aNil))) (aCons (aEx (dC (.int 0))) aNil)))) (aCons (aEx (dTup (aCons (aEx (dTup (aCons (aEx (dC (.int 0))) (aCons (aEx (dC (.int 2))) (aCons (aEx (dC (.bool true))) aNil))))) (aCons (aEx (dC (.int 2))) aNil)))) (aCons (aEx (dTup (aCons (aEx (dC (.str "0"))) (aCons (aEx (dOp2 fSub (aEx (dC (.int 0))) (aEx (dC (.int 1))))) aNil)))) aNil)))))))) aNil))))) (sSeq (sUnp [17, 18] (dTup (aCons (aEx (eW (wCallB 2 0 den__law_pick (aCons (aSl 2) (aCons (aEx (eW (wList (aCons (aEx (dC .none)) (aCons (aEx (dOp2 fSub (aEx (dC (.int 0))) (aEx (dC (.int 1))))) (aCons (aEx (dC (.bool true))) (aCons (aEx (dC (.str "1"))) (aCons (aEx (dTup (aCons (aEx (dC (.int 1))) aNil))) aNil)))))))) aNil))))) (aCons (aEx (eW (wCallB 2 0 den__law_pick (aCons (aSl 2) (aCons (aEx (eW (wList (aCons (aEx (dC .none)) (aCons (aEx (dC (.str ""))) (aCons (aEx (dC (.str "both"))) (aCons (aEx (dC (.int 0))) (aCons (aEx (dTup (aCons (aEx (dC (.str "giving"))) aNil))) aNil)))))))) aNil))))) aNil)))) (sSeq (sIf (bE (dOp2 fNe (aEx (eW (wHeard (wLam 0) body__law_heard 2 dens_law))) (aEx (dTup (aCons (aEx (dC (.str "sizes"))) (aCons (aEx (dApp fRepr (aCons (aSl 14) aNil))) aNil)))))) (sRet (wE (dC (.bool false)))) sNil) (sSeq (sIf (bE (dOp2 fNe (aEx (eW (wHeard (wLam 1) body__law_heard 2 dens_law))) (aEx (dTup (aCons (aEx (dC (.str "sizes"))) (aCons (aEx (dApp fRepr (aCons (aSl 14) aNil))) aNil)))))) (sRet (wE (dC (.bool false)))) sNil) (sSeq (sIf (bE (dOp2 fNe (aEx (eW (wHeard (wLam 2) body__law_heard 2 dens_law))) (aEx (dTup (aCons (aEx (dC (.str "pages"))) (aCons (aEx (dApp fRepr (aCons (aSl 16) aNil))) aNil)))))) (sRet (wE (dC (.bool false)))) sNil) (sSeq (sIf (bE (dOp2 fNe (aEx (eW (wHeard (wLam 3) body__law_heard 2 dens_law))) (aEx (dTup (aCons (aEx (dC (.str "refused"))) (aCons (aEx (dC (.str "[]"))) aNil)))))) (sRet (wE (dC (.bool false)))) sNil) (sSeq (sIf (bE (dOp2 fNe (aEx (eW (wHeard (wLam 4) body__law_heard 2 dens_law))) (aEx (dTup (aCons (aEx (dC (.str "refused"))) (aCons (aEx (dApp fRepr (aCons (aSl 18) aNil))) aNil)))))) (sRet (wE (dC (.bool false)))) sNil) (sSeq (sIf (bE (dOp2 fNe (aEx (eW (wHeard (wLam 5) body__law_heard 2 dens_law))) (aEx (dTup (aCons (aEx (dC (.str "sizes"))) (aCons (aEx (dApp fRepr (aCons (aSl 14) aNil))) aNil)))))) (sRet (wE (dC (.bool false)))) sNil) (sSeq (sIf (bE (dOp2 fNe (aEx (eW (wHeard (wLam 6) body__law_heard 2 dens_law))) (aEx (dTup (aCons (aEx (dC (.str "pages"))) (aCons (aEx (dApp fRepr (aCons (aSl 16) aNil))) aNil)))))) (sRet (wE (dC (.bool false)))) sNil) (sSeq (sIf (bE (dOp2 fNe (aEx (eW (wHeard (wLam 7) body__law_heard 2 dens_law))) (aEx (dTup (aCons (aEx (dC (.str "refused"))) (aCons (aEx (dC (.str "()"))) aNil)))))) (sRet (wE (dC (.bool false)))) sNil) (sSeq (sIf (bE (dOp2 fNe (aEx (eW (wHeard (wLam 8) body__law_heard 2 dens_law))) (aEx (dTup (aCons (aEx (dC (.str "refused"))) (aCons (aEx (dApp fRepr (aCons (aSl 17) aNil))) aNil)))))) (sRet (wE (dC (.bool false)))) sNil) (sIf (bE (dOp2 fNe (aEx (eW (wHeard (wLam 9) body__law_heard 2 dens_law))) (aEx (dTup (aCons (aEx (dC (.str "refused"))) (aCons (aEx (dApp fRepr (aCons (aSl 17) aNil))) aNil)))))) (sRet (wE (dC (.bool false)))) sNil)))))))))))))))))))))))))) (sRet (wE (dC (.bool true)))))
def den_law : List W → RF := runF 19 none body_law
theorem sc_law : FnScope ["script", "k", "box", "sizes", "pages", "told", "many", "when", "due", "moves", "size", "amount", "units", "bad", "at", "none", "place", "odd", "wrong"] ["script"] (defScope (topS 45)) := ⟨rfl, rfl, rfl, by decide +kernel, rfl, by decide +kernel, by decide +kernel⟩
theorem ok_law (T : Txt K mg S) (B : Tb K mg S base) : ∃ fd, Fun K "law" "law" (topS 45) (S.fn 28) fd ∧ FnG P w K mg base 11 (S.fn 28) fd ["script"] (SpP S 1 den_law) := by
  obtain ⟨fd, c, P0, F, hfc, TB, hmT, huT⟩ := B.t_law
  refine ⟨fd, F, okGL F sc_law (fun vs H Q E h => h.1) (fun cdv A outer s H vs Q E hcv hr h => ?_)⟩
  have hcc : cdv = .ref c := hcv.symm.trans hfc
  subst hcc
  obtain ⟨l, hl⟩ : ∃ l : Nat → LamD, l = fun k => match k with | 0 => lamOf (envOfC "law" (defScope (topS 45)) s.heap.objs.size (S.fn 28) (.ref c)) lamE_law_0 default ⟨[], [], none, [], [], none, []⟩ | 1 => lamOf (envOfC "law" (defScope (topS 45)) s.heap.objs.size (S.fn 28) (.ref c)) lamE_law_1 default ⟨[], [], none, [], [], none, []⟩ | 2 => lamOf (envOfC "law" (defScope (topS 45)) s.heap.objs.size (S.fn 28) (.ref c)) lamE_law_2 default ⟨[], [], none, [], [], none, []⟩ | 3 => lamOf (envOfC "law" (defScope (topS 45)) s.heap.objs.size (S.fn 28) (.ref c)) lamE_law_3 default ⟨[], [], none, [], [], none, []⟩ | 4 => lamOf (envOfC "law" (defScope (topS 45)) s.heap.objs.size (S.fn 28) (.ref c)) lamE_law_4 default ⟨[], [], none, [], [], none, []⟩ | 5 => lamOf (envOfC "law" (defScope (topS 45)) s.heap.objs.size (S.fn 28) (.ref c)) lamE_law_5 default ⟨[], [], none, [], [], none, []⟩ | 6 => lamOf (envOfC "law" (defScope (topS 45)) s.heap.objs.size (S.fn 28) (.ref c)) lamE_law_6 default ⟨[], [], none, [], [], none, []⟩ | 7 => lamOf (envOfC "law" (defScope (topS 45)) s.heap.objs.size (S.fn 28) (.ref c)) lamE_law_7 default ⟨[], [], none, [], [], none, []⟩ | 8 => lamOf (envOfC "law" (defScope (topS 45)) s.heap.objs.size (S.fn 28) (.ref c)) lamE_law_8 default ⟨[], [], none, [], [], none, []⟩ | 9 => lamOf (envOfC "law" (defScope (topS 45)) s.heap.objs.size (S.fn 28) (.ref c)) lamE_law_9 default ⟨[], [], none, [], [], none, []⟩ | _ => lamOf (envOfC "law" (defScope (topS 45)) s.heap.objs.size (S.fn 28) (.ref c)) noE default ⟨[], [], none, [], [], none, []⟩ := ⟨_, rfl⟩
  obtain ⟨C, hS, _, hcd, ht⟩ := body_pureL (N := ["script", "k", "box", "sizes", "pages", "told", "many", "when", "due", "moves", "size", "amount", "units", "bad", "at", "none", "place", "odd", "wrong"]) l h
  have hlam : ∀ k, C.lam k = l k := fun k => by rw [hS]; rfl
  have hm : (P0, (envOfC "law" (defScope (topS 45)) s.heap.objs.size (S.fn 28) (.ref c)).qual ++ "<lambda>") ∈ C.T := by rw [hS]; exact hmT
  have hu : ∀ p ∈ C.T, p.1 = P0 → p.2 = (envOfC "law" (defScope (topS 45)) s.heap.objs.size (S.fn 28) (.ref c)).qual ++ "<lambda>" := by rw [hS]; exact huT
  have hfn : C.fn 28 = S.fn 28 := by rw [hS]; rfl
  have T0 := T.relam l
  have B0 := B.relam l
  rw [← hS] at T0 B0
  have T := T0
  have B := B0
  obtain ⟨fd__law_box, f__law_box, g__law_box⟩ := ok__law_box (P := P) (w := w) (base := base) T
  obtain ⟨fd__law_sizes, f__law_sizes, g__law_sizes⟩ := ok__law_sizes (P := P) (w := w) (base := base) T
  obtain ⟨fd__law_pages, f__law_pages, g__law_pages⟩ := ok__law_pages (P := P) (w := w) (base := base) T
  obtain ⟨fd__law_take, f__law_take, g__law_take⟩ := ok__law_take (P := P) (w := w) (base := base) T
  obtain ⟨fd__law_amount, f__law_amount, g__law_amount⟩ := ok__law_amount (P := P) (w := w) (base := base) T
  obtain ⟨fd_full_amount, f_full_amount, g_full_amount⟩ := ok_full_amount (P := P) (w := w) (base := base) T
  obtain ⟨fd_above, f_above, g_above⟩ := ok_above (P := P) (w := w) (base := base) T
  obtain ⟨fd_verdict, f_verdict, g_verdict⟩ := ok_verdict (P := P) (w := w) (base := base) T
  obtain ⟨fd__law_pick, f__law_pick, g__law_pick⟩ := ok__law_pick (P := P) (w := w) (base := base) T
  obtain ⟨fd__law_heard, f__law_heard⟩ := T.f__law_heard
  have hK := T.hK
  subst hK
  refine ⟨_, ?_, ht⟩
  have tk := takes_of (X := cxOf (L2.CX P w) P w C.K mg base ["script", "k", "box", "sizes", "pages", "told", "many", "when", "due", "moves", "size", "amount", "units", "bad", "at", "none", "place", "odd", "wrong"] "law" (defScope (topS 45)) (S.fn 28) (.ref c) A outer s H E) (E := E) rfl rfl rfl rfl
  have hp := passes_of (X := cxOf (L2.CX P w) P w C.K mg base ["script", "k", "box", "sizes", "pages", "told", "many", "when", "due", "moves", "size", "amount", "units", "bad", "at", "none", "place", "odd", "wrong"] "law" (defScope (topS 45)) (S.fn 28) (.ref c) A outer s H E) rfl
  have hL : ∀ k, LamK (cxOf (L2.CX P w) P w C.K mg base ["script", "k", "box", "sizes", "pages", "told", "many", "when", "due", "moves", "size", "amount", "units", "bad", "at", "none", "place", "odd", "wrong"] "law" (defScope (topS 45)) (S.fn 28) (.ref c) A outer s H E) C.toSg 8 k (dens_law k) ∨ ∀ δ, lamRF (dens_law k) δ = .stuck := fun k => match k with
    | 0 => .inl ⟨lamP lamE_law_0 ⟨[], [], none, [], [], none, []⟩, lamB lamE_law_0, lamS lamE_law_0 default, (hlam 0).trans (by rw [hl]; rfl), (show LamX.LamS (defScope (topS 45)) _ from LamX.lamS_by (by decide +kernel)), fun _ _ _ _ _ => rfl, fun A2 outer2 s2 H2 E2 f2 c2 C2 hS2 hio2 hr => by
        obtain ⟨S3, H3, F3, io3⟩ := C2
        have hS3 : S3 = C.toSg := hS2
        subst hS3
        have tk := takes_of (X := LamX.lamCx (cxOf (L2.CX P w) P w C.K mg base ["script", "k", "box", "sizes", "pages", "told", "many", "when", "due", "moves", "size", "amount", "units", "bad", "at", "none", "place", "odd", "wrong"] "law" (defScope (topS 45)) (S.fn 28) (.ref c) A outer s H E) A2 outer2 s2 H2 E2 (lamS lamE_law_0 default) f2 c2) (E := E2) rfl rfl rfl rfl
        exact (cw_call g_full_amount (hr.mono (by decide)) (by rfl) T.m_full_amount f_full_amount.kp (f_full_amount.binds (ps := ["sizes", "pages", "when"]) fun _ _ _ _ _ _ us hl => match us, hl with | [_, _, _], _ => rfl) tk (cal_cons (cea_ex (ce_var (pv 13))) (cal_cons (cea_ex (ce_var (pv 15))) (cal_cons (cea_ex (ce_var (pv 18))) cal_nil))))⟩
    | 1 => .inl ⟨lamP lamE_law_1 ⟨[], [], none, [], [], none, []⟩, lamB lamE_law_1, lamS lamE_law_1 default, (hlam 1).trans (by rw [hl]; rfl), (show LamX.LamS (defScope (topS 45)) _ from LamX.lamS_by (by decide +kernel)), fun _ _ _ _ _ => rfl, fun A2 outer2 s2 H2 E2 f2 c2 C2 hS2 hio2 hr => by
        obtain ⟨S3, H3, F3, io3⟩ := C2
        have hS3 : S3 = C.toSg := hS2
        subst hS3
        have tk := takes_of (X := LamX.lamCx (cxOf (L2.CX P w) P w C.K mg base ["script", "k", "box", "sizes", "pages", "told", "many", "when", "due", "moves", "size", "amount", "units", "bad", "at", "none", "place", "odd", "wrong"] "law" (defScope (topS 45)) (S.fn 28) (.ref c) A outer s H E) A2 outer2 s2 H2 E2 (lamS lamE_law_1 default) f2 c2) (E := E2) rfl rfl rfl rfl
        exact (cw_call g_above (hr.mono (by decide)) (by rfl) T.m_above f_above.kp (f_above.binds (ps := ["sizes", "moves"]) fun _ _ _ _ _ _ us hl => match us, hl with | [_, _], _ => rfl) tk (cal_cons (cea_ex (ce_var (pv 13))) (cal_cons (cea_ex (ce_var (pv 17))) cal_nil)))⟩
    | 2 => .inl ⟨lamP lamE_law_2 ⟨[], [], none, [], [], none, []⟩, lamB lamE_law_2, lamS lamE_law_2 default, (hlam 2).trans (by rw [hl]; rfl), (show LamX.LamS (defScope (topS 45)) _ from LamX.lamS_by (by decide +kernel)), fun _ _ _ _ _ => rfl, fun A2 outer2 s2 H2 E2 f2 c2 C2 hS2 hio2 hr => by
        obtain ⟨S3, H3, F3, io3⟩ := C2
        have hS3 : S3 = C.toSg := hS2
        subst hS3
        have tk := takes_of (X := LamX.lamCx (cxOf (L2.CX P w) P w C.K mg base ["script", "k", "box", "sizes", "pages", "told", "many", "when", "due", "moves", "size", "amount", "units", "bad", "at", "none", "place", "odd", "wrong"] "law" (defScope (topS 45)) (S.fn 28) (.ref c) A outer s H E) A2 outer2 s2 H2 E2 (lamS lamE_law_2 default) f2 c2) (E := E2) rfl rfl rfl rfl
        exact (cw_call g_full_amount (hr.mono (by decide)) (by rfl) T.m_full_amount f_full_amount.kp (f_full_amount.binds (ps := ["sizes", "pages", "when"]) fun _ _ _ _ _ _ us hl => match us, hl with | [_, _, _], _ => rfl) tk (cal_cons (cea_ex (ce_var (pv 3))) (cal_cons (cea_ex (ce_var (pv 15))) (cal_cons (cea_ex (ce_var (pv 18))) cal_nil))))⟩
    | 3 => .inl ⟨lamP lamE_law_3 ⟨[], [], none, [], [], none, []⟩, lamB lamE_law_3, lamS lamE_law_3 default, (hlam 3).trans (by rw [hl]; rfl), (show LamX.LamS (defScope (topS 45)) _ from LamX.lamS_by (by decide +kernel)), fun _ _ _ _ _ => rfl, fun A2 outer2 s2 H2 E2 f2 c2 C2 hS2 hio2 hr => by
        obtain ⟨S3, H3, F3, io3⟩ := C2
        have hS3 : S3 = C.toSg := hS2
        subst hS3
        have tk := takes_of (X := LamX.lamCx (cxOf (L2.CX P w) P w C.K mg base ["script", "k", "box", "sizes", "pages", "told", "many", "when", "due", "moves", "size", "amount", "units", "bad", "at", "none", "place", "odd", "wrong"] "law" (defScope (topS 45)) (S.fn 28) (.ref c) A outer s H E) A2 outer2 s2 H2 E2 (lamS lamE_law_3 default) f2 c2) (E := E2) rfl rfl rfl rfl
        exact (cw_call g_full_amount (hr.mono (by decide)) (by rfl) T.m_full_amount f_full_amount.kp (f_full_amount.binds (ps := ["sizes", "pages", "when"]) fun _ _ _ _ _ _ us hl => match us, hl with | [_, _, _], _ => rfl) tk (cal_cons (cea_ex (ce_var (pv 3))) (cal_cons (cea_ex (ce_w (cw_list cal_nil))) (cal_cons (cea_ex (ce_var (pv 18))) cal_nil))))⟩
    | 4 => .inl ⟨lamP lamE_law_4 ⟨[], [], none, [], [], none, []⟩, lamB lamE_law_4, lamS lamE_law_4 default, (hlam 4).trans (by rw [hl]; rfl), (show LamX.LamS (defScope (topS 45)) _ from LamX.lamS_by (by decide +kernel)), fun _ _ _ _ _ => rfl, fun A2 outer2 s2 H2 E2 f2 c2 C2 hS2 hio2 hr => by
        obtain ⟨S3, H3, F3, io3⟩ := C2
        have hS3 : S3 = C.toSg := hS2
        subst hS3
        have tk := takes_of (X := LamX.lamCx (cxOf (L2.CX P w) P w C.K mg base ["script", "k", "box", "sizes", "pages", "told", "many", "when", "due", "moves", "size", "amount", "units", "bad", "at", "none", "place", "odd", "wrong"] "law" (defScope (topS 45)) (S.fn 28) (.ref c) A outer s H E) A2 outer2 s2 H2 E2 (lamS lamE_law_4 default) f2 c2) (E := E2) rfl rfl rfl rfl
        exact (cw_call g_full_amount (hr.mono (by decide)) (by rfl) T.m_full_amount f_full_amount.kp (f_full_amount.binds (ps := ["sizes", "pages", "when"]) fun _ _ _ _ _ _ us hl => match us, hl with | [_, _, _], _ => rfl) tk (cal_cons (cea_ex (ce_var (pv 3))) (cal_cons (cea_ex (ce_var (pv 4))) (cal_cons (cea_ex (ce_var (pv 18))) cal_nil))))⟩
    | 5 => .inl ⟨lamP lamE_law_5 ⟨[], [], none, [], [], none, []⟩, lamB lamE_law_5, lamS lamE_law_5 default, (hlam 5).trans (by rw [hl]; rfl), (show LamX.LamS (defScope (topS 45)) _ from LamX.lamS_by (by decide +kernel)), fun _ _ _ _ _ => rfl, fun A2 outer2 s2 H2 E2 f2 c2 C2 hS2 hio2 hr => by
        obtain ⟨S3, H3, F3, io3⟩ := C2
        have hS3 : S3 = C.toSg := hS2
        subst hS3
        have tk := takes_of (X := LamX.lamCx (cxOf (L2.CX P w) P w C.K mg base ["script", "k", "box", "sizes", "pages", "told", "many", "when", "due", "moves", "size", "amount", "units", "bad", "at", "none", "place", "odd", "wrong"] "law" (defScope (topS 45)) (S.fn 28) (.ref c) A outer s H E) A2 outer2 s2 H2 E2 (lamS lamE_law_5 default) f2 c2) (E := E2) rfl rfl rfl rfl
        exact (cw_call g_verdict (hr.mono (by decide)) (by rfl) T.m_verdict f_verdict.kp (f_verdict.binds (ps := ["sizes", "pages", "moves"]) fun _ _ _ _ _ _ us hl => match us, hl with | [_, _, _], _ => rfl) tk (cal_cons (cea_ex (ce_var (pv 13))) (cal_cons (cea_ex (ce_var (pv 15))) (cal_cons (cea_ex (ce_var (pv 17))) cal_nil))))⟩
    | 6 => .inl ⟨lamP lamE_law_6 ⟨[], [], none, [], [], none, []⟩, lamB lamE_law_6, lamS lamE_law_6 default, (hlam 6).trans (by rw [hl]; rfl), (show LamX.LamS (defScope (topS 45)) _ from LamX.lamS_by (by decide +kernel)), fun _ _ _ _ _ => rfl, fun A2 outer2 s2 H2 E2 f2 c2 C2 hS2 hio2 hr => by
        obtain ⟨S3, H3, F3, io3⟩ := C2
        have hS3 : S3 = C.toSg := hS2
        subst hS3
        have tk := takes_of (X := LamX.lamCx (cxOf (L2.CX P w) P w C.K mg base ["script", "k", "box", "sizes", "pages", "told", "many", "when", "due", "moves", "size", "amount", "units", "bad", "at", "none", "place", "odd", "wrong"] "law" (defScope (topS 45)) (S.fn 28) (.ref c) A outer s H E) A2 outer2 s2 H2 E2 (lamS lamE_law_6 default) f2 c2) (E := E2) rfl rfl rfl rfl
        exact (cw_call g_verdict (hr.mono (by decide)) (by rfl) T.m_verdict f_verdict.kp (f_verdict.binds (ps := ["sizes", "pages", "moves"]) fun _ _ _ _ _ _ us hl => match us, hl with | [_, _, _], _ => rfl) tk (cal_cons (cea_ex (ce_var (pv 3))) (cal_cons (cea_ex (ce_var (pv 15))) (cal_cons (cea_ex (ce_var (pv 17))) cal_nil))))⟩
    | 7 => .inl ⟨lamP lamE_law_7 ⟨[], [], none, [], [], none, []⟩, lamB lamE_law_7, lamS lamE_law_7 default, (hlam 7).trans (by rw [hl]; rfl), (show LamX.LamS (defScope (topS 45)) _ from LamX.lamS_by (by decide +kernel)), fun _ _ _ _ _ => rfl, fun A2 outer2 s2 H2 E2 f2 c2 C2 hS2 hio2 hr => by
        obtain ⟨S3, H3, F3, io3⟩ := C2
        have hS3 : S3 = C.toSg := hS2
        subst hS3
        have tk := takes_of (X := LamX.lamCx (cxOf (L2.CX P w) P w C.K mg base ["script", "k", "box", "sizes", "pages", "told", "many", "when", "due", "moves", "size", "amount", "units", "bad", "at", "none", "place", "odd", "wrong"] "law" (defScope (topS 45)) (S.fn 28) (.ref c) A outer s H E) A2 outer2 s2 H2 E2 (lamS lamE_law_7 default) f2 c2) (E := E2) rfl rfl rfl rfl
        exact (cw_call g_verdict (hr.mono (by decide)) (by rfl) T.m_verdict f_verdict.kp (f_verdict.binds (ps := ["sizes", "pages", "moves"]) fun _ _ _ _ _ _ us hl => match us, hl with | [_, _, _], _ => rfl) tk (cal_cons (cea_ex (ce_var (pv 3))) (cal_cons (cea_ex (ce_tup cal_nil)) (cal_cons (cea_ex (ce_var (pv 17))) cal_nil))))⟩
    | 8 => .inl ⟨lamP lamE_law_8 ⟨[], [], none, [], [], none, []⟩, lamB lamE_law_8, lamS lamE_law_8 default, (hlam 8).trans (by rw [hl]; rfl), (show LamX.LamS (defScope (topS 45)) _ from LamX.lamS_by (by decide +kernel)), fun _ _ _ _ _ => rfl, fun A2 outer2 s2 H2 E2 f2 c2 C2 hS2 hio2 hr => by
        obtain ⟨S3, H3, F3, io3⟩ := C2
        have hS3 : S3 = C.toSg := hS2
        subst hS3
        have tk := takes_of (X := LamX.lamCx (cxOf (L2.CX P w) P w C.K mg base ["script", "k", "box", "sizes", "pages", "told", "many", "when", "due", "moves", "size", "amount", "units", "bad", "at", "none", "place", "odd", "wrong"] "law" (defScope (topS 45)) (S.fn 28) (.ref c) A outer s H E) A2 outer2 s2 H2 E2 (lamS lamE_law_8 default) f2 c2) (E := E2) rfl rfl rfl rfl
        exact (cw_call g_verdict (hr.mono (by decide)) (by rfl) T.m_verdict f_verdict.kp (f_verdict.binds (ps := ["sizes", "pages", "moves"]) fun _ _ _ _ _ _ us hl => match us, hl with | [_, _, _], _ => rfl) tk (cal_cons (cea_ex (ce_var (pv 3))) (cal_cons (cea_ex (ce_var (pv 4))) (cal_cons (cea_ex (ce_var (pv 17))) cal_nil))))⟩
    | 9 => .inl ⟨lamP lamE_law_9 ⟨[], [], none, [], [], none, []⟩, lamB lamE_law_9, lamS lamE_law_9 default, (hlam 9).trans (by rw [hl]; rfl), (show LamX.LamS (defScope (topS 45)) _ from LamX.lamS_by (by decide +kernel)), fun _ _ _ _ _ => rfl, fun A2 outer2 s2 H2 E2 f2 c2 C2 hS2 hio2 hr => by
        obtain ⟨S3, H3, F3, io3⟩ := C2
        have hS3 : S3 = C.toSg := hS2
        subst hS3
        have tk := takes_of (X := LamX.lamCx (cxOf (L2.CX P w) P w C.K mg base ["script", "k", "box", "sizes", "pages", "told", "many", "when", "due", "moves", "size", "amount", "units", "bad", "at", "none", "place", "odd", "wrong"] "law" (defScope (topS 45)) (S.fn 28) (.ref c) A outer s H E) A2 outer2 s2 H2 E2 (lamS lamE_law_9 default) f2 c2) (E := E2) rfl rfl rfl rfl
        exact (cw_call g_above (hr.mono (by decide)) (by rfl) T.m_above f_above.kp (f_above.binds (ps := ["sizes", "moves"]) fun _ _ _ _ _ _ us hl => match us, hl with | [_, _], _ => rfl) tk (cal_cons (cea_ex (ce_var (pv 3))) (cal_cons (cea_ex (ce_var (pv 17))) cal_nil)))⟩
    | _ + 10 => .inr fun _ => rfl
  exact (css_cons (cs_for hp rfl (ci_range1 (by rfl) T.n_range (ce_callB (call_max2 rfl) rd_max2 (by rfl) T.n_max (by decide +kernel) (cal_cons (cea_ex ce_int) (cal_cons (cea_ex (ce_callB (call_min2 rfl) rd_min2 (by rfl) T.n_min (by decide +kernel) (cal_cons (cea_ex (ce_callB call_len_seq rd_len (by rfl) T.n_len (by decide +kernel) (cal_cons (cea_sl (pv 0)) cal_nil))) (cal_cons (cea_ex ce_int) cal_nil)))) cal_nil)))) (cg_name (i := 1) sc_law.nd rfl (.inl rfl)) (css_cons (cs_set (i := 2) sc_law.nd rfl (.inl rfl) (cw_call g__law_box (hr.mono (by decide)) (by rfl) T.m__law_box f__law_box.kp (f__law_box.binds (ps := ["script", "k"]) fun _ _ _ _ _ _ us hl => match us, hl with | [_, _], _ => rfl) tk (cal_cons (cea_ex (ce_var (pv 0))) (cal_cons (cea_ex (ce_var (pv 1))) cal_nil)))) (css_cons (cs_unp rfl rfl (pgs_cons (pg_name (i := 3) sc_law.nd rfl (.inr rfl)) (pgs_cons (pg_name (i := 4) sc_law.nd rfl (.inr rfl)) pgs_nil)) (ce_tup (cal_cons (cea_ex (ce_w (cw_callB g__law_sizes (hr.mono (by decide)) (by rfl) T.m__law_sizes f__law_sizes.kp (f__law_sizes.binds (ps := ["box", "most", "least"]) fun _ _ _ _ _ _ us hl => match us, hl with | [_, _, _], _ => rfl) tk (cal_cons (cea_sl (pv 2)) (cal_cons (cea_ex ce_int) (cal_cons (cea_ex ce_int) cal_nil)))))) (cal_cons (cea_ex (ce_w (cw_callB g__law_pages (hr.mono (by decide)) (by rfl) T.m__law_pages f__law_pages.kp (f__law_pages.binds (ps := ["box", "many"]) fun _ _ _ _ _ _ us hl => match us, hl with | [_, _], _ => rfl) tk (cal_cons (cea_sl (pv 2)) (cal_cons (cea_ex (ce_w (cw_op op_addA rd_addA (cea_ex ce_int) (cea_ex (ce_w (cw_callB g__law_take (hr.mono (by decide)) (by rfl) T.m__law_take f__law_take.kp (f__law_take.binds (ps := ["box", "many"]) fun _ _ _ _ _ _ us hl => match us, hl with | [_, _], _ => rfl) tk (cal_cons (cea_sl (pv 2)) (cal_cons (cea_ex ce_int) cal_nil)))))))) cal_nil))))) cal_nil)))) (css_cons (cs_par (i := 5) (j := 6) rfl sc_law.nd rfl rfl (by decide) rfl rfl (cwl_cons (cw_e (ce_var (pv 3))) (fun _ => (cwl_cons (cw_e (ce_callB call_len_seq rd_len (by rfl) T.n_len (by decide +kernel) (cal_cons (cea_sl (pv 4)) cal_nil))) (fun _ => cwl_nil)))) (by with_unfolding_all rfl)) (css_cons (cs_if (ct_w (cpw_and (ct_cmp (op_eqD hr.u64) rd_eq (cea_sl (pv 6)) (cea_ex ce_int) (nomark _)) (cpw_and1 (ct_cmp op_gt rd_gt (cea_ex (ce_callB call_len_seq rd_len (by rfl) T.n_len (by decide +kernel) (cal_cons (cea_sl (pv 3)) cal_nil))) (cea_ex ce_int) (nomark _))))) (css_one (cs_par (i := 5) (j := 6) rfl sc_law.nd rfl rfl (by decide) rfl rfl (cwl_cons (cw_sl rfl (cea_sl (pv 3)) co_none (co_some (cea_ex (ce_un un_neg rd_neg (cea_ex ce_int))))) (fun _ => (cwl_cons (cw_e (ce_op op_fdivW rd_div (cea_ex (ce_ix rfl (cea_sl (pv 3)) (cea_ex (ce_un un_neg rd_neg (cea_ex ce_int))))) (cea_ex (ce_ix rfl (cea_sl (pv 3)) (cea_ex (ce_un un_neg rd_neg (cea_ex ce_int))))))) (fun _ => cwl_nil)))) (by with_unfolding_all rfl))) css_nil) (css_cons (cs_for hp rfl (ci_seq rfl (ce_tup (cal_cons (cea_ex ce_str) (cal_cons (cea_ex ce_str) (cal_cons (cea_ex ce_str) cal_nil))))) (cg_name (i := 7) sc_law.nd rfl (.inl rfl)) (css_cons (cs_set (i := 8) sc_law.nd rfl (.inl rfl) (cw_call g__law_amount (hr.mono (by decide)) (by rfl) T.m__law_amount f__law_amount.kp (f__law_amount.binds (ps := ["sizes", "many", "when"]) fun _ _ _ _ _ _ us hl => match us, hl with | [_, _, _], _ => rfl) tk (cal_cons (cea_ex (ce_var (pv 5))) (cal_cons (cea_ex (ce_var (pv 6))) (cal_cons (cea_ex (ce_var (pv 7))) cal_nil))))) (css_one (cs_if (ct_w (cpw_or (ct_cmp (op_neD hr.u64) rd_ne (cea_ex (ce_callB (call_reprD hr.none hr.u70) (rd_repr rfl) (by rfl) T.n_repr (by decide +kernel) (cal_cons (cea_ex (ce_w (cw_call g_full_amount (hr.mono (by decide)) (by rfl) T.m_full_amount f_full_amount.kp (f_full_amount.binds (ps := ["sizes", "pages", "when"]) fun _ _ _ _ _ _ us hl => match us, hl with | [_, _, _], _ => rfl) tk (cal_cons (cea_ex (ce_var (pv 3))) (cal_cons (cea_ex (ce_var (pv 4))) (cal_cons (cea_ex (ce_var (pv 7))) cal_nil)))))) cal_nil))) (cea_ex (ce_callB (call_reprD hr.none hr.u70) (rd_repr rfl) (by rfl) T.n_repr (by decide +kernel) (cal_cons (cea_sl (pv 8)) cal_nil))) (nomark _)) (cpw_or1 (ct_cmp (op_neD hr.u64) rd_ne (cea_ex (ce_callB (call_reprD hr.none hr.u70) (rd_repr rfl) (by rfl) T.n_repr (by decide +kernel) (cal_cons (cea_ex (ce_w (cw_callK0 g_full_amount (hr.mono (by decide)) (by rfl) T.m_full_amount f_full_amount.kp (kbinds_full_amount_when_pages_sizes f_full_amount) tk (ckl_cons (cea_ex (ce_var (pv 7))) (ckl_cons (cea_ex (ce_w (cw_callTy call_list_of rd_listOf (by rfl) T.n_list (by decide +kernel) (cal_cons (cea_sl (pv 4)) cal_nil)))) (ckl_cons (cea_ex (ce_w (cw_callTy call_list_of rd_listOf (by rfl) T.n_list (by decide +kernel) (cal_cons (cea_sl (pv 3)) cal_nil)))) ckl_nil)))))) cal_nil))) (cea_ex (ce_callB (call_reprD hr.none hr.u70) (rd_repr rfl) (by rfl) T.n_repr (by decide +kernel) (cal_cons (cea_sl (pv 8)) cal_nil))) (nomark _))))) (css_one (cs_ret (cw_e ce_bl))) css_nil)))) (css_cons (cs_set (i := 9) sc_law.nd rfl (.inr rfl) (cw_callB g__law_take (hr.mono (by decide)) (by rfl) T.m__law_take f__law_take.kp (f__law_take.binds (ps := ["box", "many"]) fun _ _ _ _ _ _ us hl => match us, hl with | [_, _], _ => rfl) tk (cal_cons (cea_sl (pv 2)) (cal_cons (cea_ex (ce_w (cw_op op_addA rd_addA (cea_ex (ce_ix rfl (cea_sl (pv 3)) (cea_ex (ce_un un_neg rd_neg (cea_ex ce_int))))) (cea_ex ce_int)))) cal_nil)))) (css_cons (cs_set (i := 8) sc_law.nd rfl (.inl rfl) (cw_e (ce_callTy call_tupX rd_tuple (by rfl) T.n_tuple (by decide +kernel) (cal_cons (cea_ex (ce_w (cw_lc (own := [("size", 10)]) rfl sc_law.nd (ci_seq rfl (ce_var (pv 3))) (show BlkOk ["script", "k", "box", "sizes", "pages", "told", "many", "when", "due", "moves", "size", "amount", "units", "bad", "at", "none", "place", "odd", "wrong"] (defScope (topS 45)) _ _ from blk_by (by decide +kernel)) (fun _ _ _ _ _ => pg_name (i := 10) sc_law.nd rfl (.inl rfl)) (fun _ _ _ _ _ _ => (cts_one (ct_cmp op_gt rd_gt (cea_sl (pv 10)) (cea_sl (pv 9)) (nomark _)))) (fun _ _ _ _ _ _ => (ce_var (pv 10)))))) cal_nil)))) (css_cons (cs_if (ct_w (cpw_or (ct_cmp (op_neD hr.u64) rd_ne (cea_ex (ce_callB (call_reprD hr.none hr.u70) (rd_repr rfl) (by rfl) T.n_repr (by decide +kernel) (cal_cons (cea_ex (ce_w (cw_call g_above (hr.mono (by decide)) (by rfl) T.m_above f_above.kp (f_above.binds (ps := ["sizes", "moves"]) fun _ _ _ _ _ _ us hl => match us, hl with | [_, _], _ => rfl) tk (cal_cons (cea_ex (ce_var (pv 3))) (cal_cons (cea_ex (ce_var (pv 9))) cal_nil))))) cal_nil))) (cea_ex (ce_callB (call_reprD hr.none hr.u70) (rd_repr rfl) (by rfl) T.n_repr (by decide +kernel) (cal_cons (cea_sl (pv 8)) cal_nil))) (nomark _)) (cpw_or1 (ct_cmp (op_neD hr.u64) rd_ne (cea_ex (ce_callB (call_reprD hr.none hr.u70) (rd_repr rfl) (by rfl) T.n_repr (by decide +kernel) (cal_cons (cea_ex (ce_w (cw_callK0 g_above (hr.mono (by decide)) (by rfl) T.m_above f_above.kp (kbinds_above_moves_sizes f_above) tk (ckl_cons (cea_ex (ce_var (pv 9))) (ckl_cons (cea_ex (ce_w (cw_callTy call_list_of rd_listOf (by rfl) T.n_list (by decide +kernel) (cal_cons (cea_sl (pv 3)) cal_nil)))) ckl_nil))))) cal_nil))) (cea_ex (ce_callB (call_reprD hr.none hr.u70) (rd_repr rfl) (by rfl) T.n_repr (by decide +kernel) (cal_cons (cea_sl (pv 8)) cal_nil))) (nomark _))))) (css_one (cs_ret (cw_e ce_bl))) css_nil) (css_cons (cs_set (i := 11) sc_law.nd rfl (.inl rfl) (cw_call g__law_amount (hr.mono (by decide)) (by rfl) T.m__law_amount f__law_amount.kp (f__law_amount.binds (ps := ["sizes", "many", "when"]) fun _ _ _ _ _ _ us hl => match us, hl with | [_, _, _], _ => rfl) tk (cal_cons (cea_ex (ce_var (pv 5))) (cal_cons (cea_ex (ce_var (pv 6))) (cal_cons (cea_ex ce_str) cal_nil))))) (css_cons (cs_set (i := 8) sc_law.nd rfl (.inl rfl) (cw_e (ce_tup (cal_cons (cea_ex ce_str) (cal_cons (cea_ex (ce_var (pv 11))) cal_nil))))) (css_cons (cs_if (ct_cmp op_lt rd_lt (cea_sl (pv 9)) (cea_sl (pv 11)) (nomark _)) (css_cons (cs_set (i := 12) sc_law.nd rfl (.inl rfl) (cw_e (ce_op op_fdivW rd_div (cea_ex (ce_ix rfl (cea_sl (pv 5)) (cea_ex (ce_un un_neg rd_neg (cea_ex ce_int))))) (cea_ex (ce_ix rfl (cea_sl (pv 5)) (cea_ex (ce_un un_neg rd_neg (cea_ex ce_int)))))))) (css_one (cs_set (i := 8) sc_law.nd rfl (.inl rfl) (cw_e (ce_tup (cal_cons (cea_ex ce_str) (cal_cons (cea_ex (ce_var (pv 11))) (cal_cons (cea_ex (ce_w (cw_op op_addA rd_addA (cea_ex (ce_w (cw_op op_addA rd_addA (cea_ex (ce_op op_mulA rd_mulA (cea_sl (pv 6)) (cea_sl (pv 12)))) (cea_sl (pv 12))))) (cea_ex ce_int)))) cal_nil)))))))) css_nil) (css_cons (cs_if (ct_w (cpw_or (ct_cmp (op_neD hr.u64) rd_ne (cea_ex (ce_callB (call_reprD hr.none hr.u70) (rd_repr rfl) (by rfl) T.n_repr (by decide +kernel) (cal_cons (cea_ex (ce_w (cw_call g_verdict (hr.mono (by decide)) (by rfl) T.m_verdict f_verdict.kp (f_verdict.binds (ps := ["sizes", "pages", "moves"]) fun _ _ _ _ _ _ us hl => match us, hl with | [_, _, _], _ => rfl) tk (cal_cons (cea_ex (ce_var (pv 3))) (cal_cons (cea_ex (ce_var (pv 4))) (cal_cons (cea_ex (ce_var (pv 9))) cal_nil)))))) cal_nil))) (cea_ex (ce_callB (call_reprD hr.none hr.u70) (rd_repr rfl) (by rfl) T.n_repr (by decide +kernel) (cal_cons (cea_sl (pv 8)) cal_nil))) (nomark _)) (cpw_or1 (ct_cmp (op_neD hr.u64) rd_ne (cea_ex (ce_callB (call_reprD hr.none hr.u70) (rd_repr rfl) (by rfl) T.n_repr (by decide +kernel) (cal_cons (cea_ex (ce_w (cw_callK0 g_verdict (hr.mono (by decide)) (by rfl) T.m_verdict f_verdict.kp (kbinds_verdict_moves_pages_sizes f_verdict) tk (ckl_cons (cea_ex (ce_var (pv 9))) (ckl_cons (cea_ex (ce_w (cw_callTy call_list_of rd_listOf (by rfl) T.n_list (by decide +kernel) (cal_cons (cea_sl (pv 4)) cal_nil)))) (ckl_cons (cea_ex (ce_w (cw_callTy call_list_of rd_listOf (by rfl) T.n_list (by decide +kernel) (cal_cons (cea_sl (pv 3)) cal_nil)))) ckl_nil)))))) cal_nil))) (cea_ex (ce_callB (call_reprD hr.none hr.u70) (rd_repr rfl) (by rfl) T.n_repr (by decide +kernel) (cal_cons (cea_sl (pv 8)) cal_nil))) (nomark _))))) (css_one (cs_ret (cw_e ce_bl))) css_nil) (css_cons (cs_unp rfl rfl (pgs_cons (pg_name (i := 13) sc_law.nd rfl (.inr rfl)) (pgs_cons (pg_name (i := 14) sc_law.nd rfl (.inl rfl)) pgs_nil)) (ce_w (cw_callB g__law_pick (hr.mono (by decide)) (by rfl) T.m__law_pick f__law_pick.kp (f__law_pick.binds (ps := ["box", "some"]) fun _ _ _ _ _ _ us hl => match us, hl with | [_, _], _ => rfl) tk (cal_cons (cea_sl (pv 2)) (cal_cons (cea_ex (ce_w (cw_list (cal_cons (cea_ex (ce_tup (cal_cons (cea_ex ce_non) (cal_cons (cea_ex (ce_op op_sub rd_sub (cea_ex ce_int) (cea_ex ce_int))) cal_nil)))) (cal_cons (cea_ex (ce_tup (cal_cons (cea_ex (ce_tup cal_nil)) (cal_cons (cea_ex (ce_op op_sub rd_sub (cea_ex ce_int) (cea_ex ce_int))) cal_nil)))) (cal_cons (cea_ex (ce_tup (cal_cons (cea_ex (ce_tup (cal_cons (cea_ex ce_int) (cal_cons (cea_ex ce_int) cal_nil)))) (cal_cons (cea_ex ce_int) cal_nil)))) (cal_cons (cea_ex (ce_tup (cal_cons (cea_ex (ce_tup (cal_cons (cea_ex ce_int) (cal_cons (cea_ex ce_int) cal_nil)))) (cal_cons (cea_ex ce_int) cal_nil)))) (cal_cons (cea_ex (ce_tup (cal_cons (cea_ex (ce_tup (cal_cons (cea_ex ce_int) (cal_cons (cea_ex ce_int) (cal_cons (cea_ex ce_int) cal_nil))))) (cal_cons (cea_ex ce_int) cal_nil)))) (cal_cons (cea_ex (ce_tup (cal_cons (cea_ex (ce_tup (cal_cons (cea_ex ce_bl) (cal_cons (cea_ex ce_int) cal_nil)))) (cal_cons (cea_ex ce_int) cal_nil)))) cal_nil))))))))) cal_nil))))) (css_cons (cs_unp rfl rfl (pgs_cons (pg_name (i := 15) sc_law.nd rfl (.inr rfl)) (pgs_cons (pg_name (i := 16) sc_law.nd rfl (.inl rfl)) pgs_nil)) (ce_w (cw_callB g__law_pick (hr.mono (by decide)) (by rfl) T.m__law_pick f__law_pick.kp (f__law_pick.binds (ps := ["box", "some"]) fun _ _ _ _ _ _ us hl => match us, hl with | [_, _], _ => rfl) tk (cal_cons (cea_sl (pv 2)) (cal_cons (cea_ex (ce_w (cw_list (cal_cons (cea_ex (ce_tup (cal_cons (cea_ex ce_non) (cal_cons (cea_ex (ce_op op_sub rd_sub (cea_ex ce_int) (cea_ex ce_int))) cal_nil)))) (cal_cons (cea_ex (ce_tup (cal_cons (cea_ex (ce_tup (cal_cons (cea_ex ce_int) (cal_cons (cea_ex ce_int) cal_nil)))) (cal_cons (cea_ex ce_int) cal_nil)))) (cal_cons (cea_ex (ce_tup (cal_cons (cea_ex (ce_tup (cal_cons (cea_ex (ce_op op_sub rd_sub (cea_ex ce_int) (cea_ex ce_int))) cal_nil))) (cal_cons (cea_ex ce_int) cal_nil)))) (cal_cons (cea_ex (ce_tup (cal_cons (cea_ex (ce_tup (cal_cons (cea_ex ce_int) (cal_cons (cea_ex ce_int) (cal_cons (cea_ex ce_bl) cal_nil))))) (cal_cons (cea_ex ce_int) cal_nil)))) (cal_cons (cea_ex (ce_tup (cal_cons (cea_ex ce_str) (cal_cons (cea_ex (ce_op op_sub rd_sub (cea_ex ce_int) (cea_ex ce_int))) cal_nil)))) cal_nil)))))))) cal_nil))))) (css_cons (cs_unp rfl rfl (pgs_cons (pg_name (i := 17) sc_law.nd rfl (.inr rfl)) (pgs_cons (pg_name (i := 18) sc_law.nd rfl (.inr rfl)) pgs_nil)) (ce_tup (cal_cons (cea_ex (ce_w (cw_callB g__law_pick (hr.mono (by decide)) (by rfl) T.m__law_pick f__law_pick.kp (f__law_pick.binds (ps := ["box", "some"]) fun _ _ _ _ _ _ us hl => match us, hl with | [_, _], _ => rfl) tk (cal_cons (cea_sl (pv 2)) (cal_cons (cea_ex (ce_w (cw_list (cal_cons (cea_ex ce_non) (cal_cons (cea_ex (ce_op op_sub rd_sub (cea_ex ce_int) (cea_ex ce_int))) (cal_cons (cea_ex ce_bl) (cal_cons (cea_ex ce_str) (cal_cons (cea_ex (ce_tup (cal_cons (cea_ex ce_int) cal_nil))) cal_nil)))))))) cal_nil))))) (cal_cons (cea_ex (ce_w (cw_callB g__law_pick (hr.mono (by decide)) (by rfl) T.m__law_pick f__law_pick.kp (f__law_pick.binds (ps := ["box", "some"]) fun _ _ _ _ _ _ us hl => match us, hl with | [_, _], _ => rfl) tk (cal_cons (cea_sl (pv 2)) (cal_cons (cea_ex (ce_w (cw_list (cal_cons (cea_ex ce_non) (cal_cons (cea_ex ce_str) (cal_cons (cea_ex ce_str) (cal_cons (cea_ex ce_int) (cal_cons (cea_ex (ce_tup (cal_cons (cea_ex ce_str) cal_nil))) cal_nil)))))))) cal_nil))))) cal_nil)))) (css_cons (cs_if (ct_cmp (op_neD hr.u64) rd_ne (cea_ex (ce_w (cw_heard f__law_heard ((rd__law_heard (P := P) (w := w) T).mono (by decide)) sc__law_heard (f__law_heard.binds (ps := ["ask"]) fun _ _ _ _ _ _ us hl => match us, hl with | [_], _ => rfl) (hr.mono (by decide)) (by rfl) T.m__law_heard hL tk (cw_lam (k := 0) TB rfl hcd ((hlam 0).trans (by rw [hl]; rfl)) hm hu (show LamX.LamS (defScope (topS 45)) _ from LamX.lamS_by (by decide +kernel)) rfl) rfl (.inl rfl)))) (cea_ex (ce_tup (cal_cons (cea_ex ce_str) (cal_cons (cea_ex (ce_callB (call_reprD hr.none hr.u70) (rd_repr rfl) (by rfl) T.n_repr (by decide +kernel) (cal_cons (cea_sl (pv 14)) cal_nil))) cal_nil)))) (nomark _)) (css_one (cs_ret (cw_e ce_bl))) css_nil) (css_cons (cs_if (ct_cmp (op_neD hr.u64) rd_ne (cea_ex (ce_w (cw_heard f__law_heard ((rd__law_heard (P := P) (w := w) T).mono (by decide)) sc__law_heard (f__law_heard.binds (ps := ["ask"]) fun _ _ _ _ _ _ us hl => match us, hl with | [_], _ => rfl) (hr.mono (by decide)) (by rfl) T.m__law_heard hL tk (cw_lam (k := 1) TB rfl hcd ((hlam 1).trans (by rw [hl]; rfl)) hm hu (show LamX.LamS (defScope (topS 45)) _ from LamX.lamS_by (by decide +kernel)) rfl) rfl (.inl rfl)))) (cea_ex (ce_tup (cal_cons (cea_ex ce_str) (cal_cons (cea_ex (ce_callB (call_reprD hr.none hr.u70) (rd_repr rfl) (by rfl) T.n_repr (by decide +kernel) (cal_cons (cea_sl (pv 14)) cal_nil))) cal_nil)))) (nomark _)) (css_one (cs_ret (cw_e ce_bl))) css_nil) (css_cons (cs_if (ct_cmp (op_neD hr.u64) rd_ne (cea_ex (ce_w (cw_heard f__law_heard ((rd__law_heard (P := P) (w := w) T).mono (by decide)) sc__law_heard (f__law_heard.binds (ps := ["ask"]) fun _ _ _ _ _ _ us hl => match us, hl with | [_], _ => rfl) (hr.mono (by decide)) (by rfl) T.m__law_heard hL tk (cw_lam (k := 2) TB rfl hcd ((hlam 2).trans (by rw [hl]; rfl)) hm hu (show LamX.LamS (defScope (topS 45)) _ from LamX.lamS_by (by decide +kernel)) rfl) rfl (.inl rfl)))) (cea_ex (ce_tup (cal_cons (cea_ex ce_str) (cal_cons (cea_ex (ce_callB (call_reprD hr.none hr.u70) (rd_repr rfl) (by rfl) T.n_repr (by decide +kernel) (cal_cons (cea_sl (pv 16)) cal_nil))) cal_nil)))) (nomark _)) (css_one (cs_ret (cw_e ce_bl))) css_nil) (css_cons (cs_if (ct_cmp (op_neD hr.u64) rd_ne (cea_ex (ce_w (cw_heard f__law_heard ((rd__law_heard (P := P) (w := w) T).mono (by decide)) sc__law_heard (f__law_heard.binds (ps := ["ask"]) fun _ _ _ _ _ _ us hl => match us, hl with | [_], _ => rfl) (hr.mono (by decide)) (by rfl) T.m__law_heard hL tk (cw_lam (k := 3) TB rfl hcd ((hlam 3).trans (by rw [hl]; rfl)) hm hu (show LamX.LamS (defScope (topS 45)) _ from LamX.lamS_by (by decide +kernel)) rfl) rfl (.inl rfl)))) (cea_ex (ce_tup (cal_cons (cea_ex ce_str) (cal_cons (cea_ex ce_str) cal_nil)))) (nomark _)) (css_one (cs_ret (cw_e ce_bl))) css_nil) (css_cons (cs_if (ct_cmp (op_neD hr.u64) rd_ne (cea_ex (ce_w (cw_heard f__law_heard ((rd__law_heard (P := P) (w := w) T).mono (by decide)) sc__law_heard (f__law_heard.binds (ps := ["ask"]) fun _ _ _ _ _ _ us hl => match us, hl with | [_], _ => rfl) (hr.mono (by decide)) (by rfl) T.m__law_heard hL tk (cw_lam (k := 4) TB rfl hcd ((hlam 4).trans (by rw [hl]; rfl)) hm hu (show LamX.LamS (defScope (topS 45)) _ from LamX.lamS_by (by decide +kernel)) rfl) rfl (.inl rfl)))) (cea_ex (ce_tup (cal_cons (cea_ex ce_str) (cal_cons (cea_ex (ce_callB (call_reprD hr.none hr.u70) (rd_repr rfl) (by rfl) T.n_repr (by decide +kernel) (cal_cons (cea_sl (pv 18)) cal_nil))) cal_nil)))) (nomark _)) (css_one (cs_ret (cw_e ce_bl))) css_nil) (css_cons (cs_if (ct_cmp (op_neD hr.u64) rd_ne (cea_ex (ce_w (cw_heard f__law_heard ((rd__law_heard (P := P) (w := w) T).mono (by decide)) sc__law_heard (f__law_heard.binds (ps := ["ask"]) fun _ _ _ _ _ _ us hl => match us, hl with | [_], _ => rfl) (hr.mono (by decide)) (by rfl) T.m__law_heard hL tk (cw_lam (k := 5) TB rfl hcd ((hlam 5).trans (by rw [hl]; rfl)) hm hu (show LamX.LamS (defScope (topS 45)) _ from LamX.lamS_by (by decide +kernel)) rfl) rfl (.inl rfl)))) (cea_ex (ce_tup (cal_cons (cea_ex ce_str) (cal_cons (cea_ex (ce_callB (call_reprD hr.none hr.u70) (rd_repr rfl) (by rfl) T.n_repr (by decide +kernel) (cal_cons (cea_sl (pv 14)) cal_nil))) cal_nil)))) (nomark _)) (css_one (cs_ret (cw_e ce_bl))) css_nil) (css_cons (cs_if (ct_cmp (op_neD hr.u64) rd_ne (cea_ex (ce_w (cw_heard f__law_heard ((rd__law_heard (P := P) (w := w) T).mono (by decide)) sc__law_heard (f__law_heard.binds (ps := ["ask"]) fun _ _ _ _ _ _ us hl => match us, hl with | [_], _ => rfl) (hr.mono (by decide)) (by rfl) T.m__law_heard hL tk (cw_lam (k := 6) TB rfl hcd ((hlam 6).trans (by rw [hl]; rfl)) hm hu (show LamX.LamS (defScope (topS 45)) _ from LamX.lamS_by (by decide +kernel)) rfl) rfl (.inl rfl)))) (cea_ex (ce_tup (cal_cons (cea_ex ce_str) (cal_cons (cea_ex (ce_callB (call_reprD hr.none hr.u70) (rd_repr rfl) (by rfl) T.n_repr (by decide +kernel) (cal_cons (cea_sl (pv 16)) cal_nil))) cal_nil)))) (nomark _)) (css_one (cs_ret (cw_e ce_bl))) css_nil) (css_cons (cs_if (ct_cmp (op_neD hr.u64) rd_ne (cea_ex (ce_w (cw_heard f__law_heard ((rd__law_heard (P := P) (w := w) T).mono (by decide)) sc__law_heard (f__law_heard.binds (ps := ["ask"]) fun _ _ _ _ _ _ us hl => match us, hl with | [_], _ => rfl) (hr.mono (by decide)) (by rfl) T.m__law_heard hL tk (cw_lam (k := 7) TB rfl hcd ((hlam 7).trans (by rw [hl]; rfl)) hm hu (show LamX.LamS (defScope (topS 45)) _ from LamX.lamS_by (by decide +kernel)) rfl) rfl (.inl rfl)))) (cea_ex (ce_tup (cal_cons (cea_ex ce_str) (cal_cons (cea_ex ce_str) cal_nil)))) (nomark _)) (css_one (cs_ret (cw_e ce_bl))) css_nil) (css_cons (cs_if (ct_cmp (op_neD hr.u64) rd_ne (cea_ex (ce_w (cw_heard f__law_heard ((rd__law_heard (P := P) (w := w) T).mono (by decide)) sc__law_heard (f__law_heard.binds (ps := ["ask"]) fun _ _ _ _ _ _ us hl => match us, hl with | [_], _ => rfl) (hr.mono (by decide)) (by rfl) T.m__law_heard hL tk (cw_lam (k := 8) TB rfl hcd ((hlam 8).trans (by rw [hl]; rfl)) hm hu (show LamX.LamS (defScope (topS 45)) _ from LamX.lamS_by (by decide +kernel)) rfl) rfl (.inl rfl)))) (cea_ex (ce_tup (cal_cons (cea_ex ce_str) (cal_cons (cea_ex (ce_callB (call_reprD hr.none hr.u70) (rd_repr rfl) (by rfl) T.n_repr (by decide +kernel) (cal_cons (cea_sl (pv 17)) cal_nil))) cal_nil)))) (nomark _)) (css_one (cs_ret (cw_e ce_bl))) css_nil) (css_one (cs_if (ct_cmp (op_neD hr.u64) rd_ne (cea_ex (ce_w (cw_heard f__law_heard ((rd__law_heard (P := P) (w := w) T).mono (by decide)) sc__law_heard (f__law_heard.binds (ps := ["ask"]) fun _ _ _ _ _ _ us hl => match us, hl with | [_], _ => rfl) (hr.mono (by decide)) (by rfl) T.m__law_heard hL tk (cw_lam (k := 9) TB rfl hcd ((hlam 9).trans (by rw [hl]; rfl)) hm hu (show LamX.LamS (defScope (topS 45)) _ from LamX.lamS_by (by decide +kernel)) rfl) rfl (.inl rfl)))) (cea_ex (ce_tup (cal_cons (cea_ex ce_str) (cal_cons (cea_ex (ce_callB (call_reprD hr.none hr.u70) (rd_repr rfl) (by rfl) T.n_repr (by decide +kernel) (cal_cons (cea_sl (pv 17)) cal_nil))) cal_nil)))) (nomark _)) (css_one (cs_ret (cw_e ce_bl))) css_nil))))))))))))))))))))))))))) (css_one (cs_ret (cw_e ce_bl))))
end
end Gen

namespace Mir
open PySem.Spec PySem L2 PyProof.Rows
/-! how readings are reckoned: one row a construct, for simp -/
def S.andThen (r : S) (b : DenS) : S := match r with
  | .nx δ' => b δ'
  | r => r
section
variable {α β : Type} {δ δ' : Env} {x y z : PyData} {w : W} {i j k : Nat} {l m : List PyData}
@[simp] theorem q_bind_ok (a : α) (f : α → Env → R β) : (R.ok a δ).bind f = f a δ := rfl
@[simp] theorem q_bind_exc (c : Nat) (f : α → Env → R β) : (R.exc c x δ).bind f = .exc c x δ := rfl
@[simp] theorem q_bind_stuck (f : α → Env → R β) : (R.stuck : R α).bind f = .stuck := rfl
@[simp] theorem q_to_ok (a : α) (f : α → Env → S) : (R.ok a δ).to f = f a δ := rfl
@[simp] theorem q_to_exc (c : Nat) (f : α → Env → S) : (R.exc c x δ).to f = .exc c x δ := rfl
@[simp] theorem q_to_stuck (f : α → Env → S) : (R.stuck : R α).to f = .stuck := rfl
@[simp] theorem q_fto_ok : (RF.ok w l).to δ = .ok w δ := rfl
@[simp] theorem q_fto_exc (c : Nat) : (RF.exc c x l).to δ = .exc c x δ := rfl
@[simp] theorem q_toB_ok (v : W) : (RF.ok v l).toB δ i w = .ok v (δ.set i (some (w.put l))) := rfl
@[simp] theorem q_toB_exc (c : Nat) : (RF.exc c x l).toB δ i w = .exc c x (δ.set i (some (w.put l))) := rfl
@[simp] theorem q_calm (a : α) : (R.ok a δ).calm = .ok a δ := rfl
@[simp] theorem q_seq (a b : DenS) : sSeq a b δ = (a δ).andThen b := rfl
@[simp] theorem q_then_nx (b : DenS) : (S.nx δ).andThen b = b δ := rfl
@[simp] theorem q_then_ret (b : DenS) : (S.ret w δ).andThen b = .ret w δ := rfl
@[simp] theorem q_then_exc (c : Nat) (b : DenS) : (S.exc c x δ).andThen b = .exc c x δ := rfl
@[simp] theorem q_then_stuck (b : DenS) : S.stuck.andThen b = .stuck := rfl
@[simp] theorem q_then_brk (b : DenS) : (S.brk δ).andThen b = .brk δ := rfl
@[simp] theorem q_then_cont (b : DenS) : (S.cont δ).andThen b = .cont δ := rfl
@[simp] theorem q_loop_nx (b : DenS) : (S.nx δ).loop b = b δ := rfl
@[simp] theorem q_loop_cont (b : DenS) : (S.cont δ).loop b = b δ := rfl
@[simp] theorem q_loop_brk (b : DenS) : (S.brk δ).loop b = .nx δ := rfl
@[simp] theorem q_loop_ret (b : DenS) : (S.ret w δ).loop b = .ret w δ := rfl
@[simp] theorem q_loop_exc (c : Nat) (b : DenS) : (S.exc c x δ).loop b = .exc c x δ := rfl
@[simp] theorem q_ofO (b : DenS) : S.ofO (some δ) b = b δ := rfl
@[simp] theorem q_nil : sNil δ = .nx δ := rfl
@[simp] theorem q_ret (d : DenW) : sRet d δ = (d δ).to fun w δ' => .ret w δ' := rfl
@[simp] theorem q_if (c : DenB) (a b : DenS) : sIf c a b δ = (c δ).to fun x δ' => if x = true then a δ' else b δ' := rfl
@[simp] theorem q_set (d : DenW) : sSet i d δ = (d δ).to fun w δ' => if isBor δ' i then .stuck else .nx (δ'.set i (some w)) := rfl
@[simp] theorem q_expr (d : Den) : sExpr d δ = (d δ).to fun _ δ' => .nx δ' := rfl
@[simp] theorem q_raise (c : Nat) (d : Den) : sRaise c d δ = (d δ).to fun x δ' => .exc c x δ' := rfl
@[simp] theorem q_for (tg : Tgt) (it : DenI) (b : DenS) : sFor tg it b δ = (it δ).to fun xs δ' => forD tg b xs δ' := rfl
@[simp] theorem q_dC : dC x δ = .ok x δ := rfl
@[simp] theorem q_wE (d : Den) : wE d δ = (d δ).bind fun x δ' => .ok (.d x) δ' := rfl
@[simp] theorem q_eW (d : DenW) : eW d δ = (d δ).bind fun w δ' => match w with
  | .d x => .ok x δ'
  | .own l => .ok (.list l) δ'
  | _ => .stuck := rfl
@[simp] theorem q_dVar : dVar i δ = match δ[i]? with
  | some (some (.d x)) => .ok x δ
  | some (some (.own l)) => .ok (.list l) (δ.set i (some (.d (.list l))))
  | _ => .stuck := rfl
@[simp] theorem q_wMove : wMove i δ = match δ[i]? with
  | some (some (.d x)) => .ok (.d x) δ
  | some (some (.own l)) => .ok (.own l) (δ.set i none)
  | some (some (.dct l)) => .ok (.dct l) (δ.set i none)
  | _ => .stuck := rfl
@[simp] theorem q_aSl : aSl i δ = match δ[i]? with
  | some (some _) => .ok (.sl i) δ
  | _ => .stuck := rfl
@[simp] theorem q_aEx (d : Den) : aEx d δ = (d δ).bind fun x δ' => .ok (.v x) δ' := rfl
@[simp] theorem q_aFn : aFn k δ = .ok (.fn k) δ := rfl
@[simp] theorem q_aNil : aNil δ = .ok [] δ := rfl
@[simp] theorem q_aCons (a : DenA) (r : DenL) : aCons a r δ = (a δ).bind fun x δ1 => (r δ1).bind fun xs δ2 => .ok (x :: xs) δ2 := rfl
@[simp] theorem q_aStar (d : Den) (r : DenL) : aStar d r δ = (d δ).bind fun x δ1 => match seqE x with
  | some l => (r δ1).bind fun ys δ2 => .ok (l.map AV.v ++ ys) δ2
  | none => .stuck := rfl
@[simp] theorem q_peek_v : AV.peek δ (.v x) = some x := rfl
@[simp] theorem q_peek_sl : AV.peek δ (.sl i) = match δ[i]? with
    | some (some (.d x)) => some x
    | some (some (.own l)) => some (.list l)
    | some (some (.bor l)) => some (.list l)
    | _ => none := rfl
@[simp] theorem q_peekAll_nil : peekAll δ [] = some [] := rfl
@[simp] theorem q_peekAll_cons (a : AV) (as : List AV) : peekAll δ (a :: as) = match a.peek δ, peekAll δ as with
    | some x, some xs => some (x :: xs)
    | _, _ => none := rfl
@[simp] theorem q_app (f : List PyData → Option PyData) (as : List AV) : app f as δ = match peekAll δ as with
  | some xs => match f xs with
    | some z => .ok z δ
    | none => .stuck
  | none => .stuck := rfl
@[simp] theorem q_appW (f : List PyData → Option W) (as : List AV) : appW f as δ = match peekAll δ as with
  | some xs => match f xs with
    | some z => .ok z δ
    | none => .stuck
  | none => .stuck := rfl
@[simp] theorem q_dOp2 (f : List PyData → Option PyData) (a b : DenA) : dOp2 f a b δ = (a δ).bind fun x δ1 => (b δ1).bind fun y δ2 => app f [x, y] δ2 := rfl
@[simp] theorem q_dOp1 (f : List PyData → Option PyData) (a : DenA) : dOp1 f a δ = (a δ).bind fun x δ1 => app f [x] δ1 := rfl
@[simp] theorem q_dApp (f : List PyData → Option PyData) (as : DenL) : dApp f as δ = (as δ).bind fun xs δ1 => app f xs δ1 := rfl
@[simp] theorem q_wOp2 (f : List PyData → Option W) (a b : DenA) : wOp2 f a b δ = (a δ).bind fun x δ1 => (b δ1).bind fun y δ2 => appW f [x, y] δ2 := rfl
@[simp] theorem q_wApp (f : List PyData → Option W) (as : DenL) : wApp f as δ = (as δ).bind fun xs δ1 => appW f xs δ1 := rfl
@[simp] theorem q_dChain (f f' : List PyData → Option PyData) (a b c : DenA) : dChain f f' a b c δ = (a δ).bind fun x δ1 => (b δ1).bind fun y δ2 => (app f [x, y] δ2).bind fun z δ3 => match z with
  | .bool true => (c δ3).bind fun w δ4 => app f' [y, w] δ4
  | .bool false => .ok (.bool false) δ3
  | _ => .stuck := rfl
@[simp] theorem q_tB (d : Den) : tB d δ = (d δ).bind fun z δ1 => match z with
  | .bool b => .ok b δ1
  | _ => .stuck := rfl
@[simp] theorem q_bE (d : Den) : bE d δ = (d δ).bind fun x δ' => match x with
  | .bool b => .ok b δ'
  | _ => .stuck := rfl
@[simp] theorem q_bAnd (a b : DenB) : bAnd a b δ = (a δ).bind fun x δ' => if x = true then b δ' else .ok false δ' := rfl
@[simp] theorem q_bOr (a b : DenB) : bOr a b δ = (a δ).bind fun x δ' => if x = true then .ok true δ' else b δ' := rfl
@[simp] theorem q_bT (d : DenA) : bT d δ = (d δ).bind fun a δ' => match truA δ' a with
  | some b => .ok b δ'
  | none => .stuck := rfl
@[simp] theorem q_truA_v (x : PyData) : truA δ (.v x) = truD x := rfl
@[simp] theorem q_truA_sl (i : Nat) : truA δ (.sl i) = match δ[i]? with
  | some (some (.d x)) => truD x
  | some (some (.own l)) => some (!l.isEmpty)
  | some (some (.bor l)) => some (!l.isEmpty)
  | some (some (.dct l)) => some (!l.isEmpty)
  | some (some (.bod l)) => some (!l.isEmpty)
  | _ => none := rfl
@[simp] theorem q_truD_n : truD .none = some false := rfl
@[simp] theorem q_truD_b (b : Bool) : truD (.bool b) = some b := rfl
@[simp] theorem q_truD_i (i : Int) : truD (.int i) = some (i != 0) := rfl
@[simp] theorem q_truD_l (l : List PyData) : truD (.list l) = some (!l.isEmpty) := rfl
@[simp] theorem q_truD_t (l : List PyData) : truD (.tuple l) = some (!l.isEmpty) := rfl
@[simp] theorem q_bNot (a : DenB) : bNot a δ = (a δ).bind fun x δ' => .ok (!x) δ' := rfl
@[simp] theorem q_dAnd (a b : Den) : dAnd a b δ = (a δ).bind fun x δ' => match x with
  | .bool true => b δ'
  | .bool false => .ok (.bool false) δ'
  | _ => .stuck := rfl
@[simp] theorem q_dOr (a b : Den) : dOr a b δ = (a δ).bind fun x δ' => match x with
  | .bool false => b δ'
  | .bool true => .ok (.bool true) δ'
  | _ => .stuck := rfl
@[simp] theorem q_dNot (a : Den) : dNot a δ = (a δ).bind fun x δ' => match x with
  | .bool b => .ok (.bool (!b)) δ'
  | _ => .stuck := rfl
@[simp] theorem q_dIf (c : DenB) (a b : Den) : dIf c a b δ = (c δ).bind fun x δ' => if x = true then a δ' else b δ' := rfl
@[simp] theorem q_isBor : isBor δ i = match δ[i]? with
  | some (some (.bor _)) => true
  | some (some (.bod _)) => true
  | _ => false := rfl
@[simp] theorem q_tYes : tYesD δ = .ok true δ := rfl
@[simp] theorem q_allV_nil : allV [] = some [] := rfl
@[simp] theorem q_allV_v (r : List AV) : allV (.v x :: r) = (allV r).map (x :: ·) := rfl
@[simp] theorem q_wList (as : DenL) : wList as δ = (as δ).bind fun xs δ' => match allV xs with
  | some l => if l.length ≤ line then .ok (.own l) δ' else .stuck
  | none => .stuck := rfl
@[simp] theorem q_dTup (as : DenL) : dTup as δ = (as δ).bind fun xs δ' => match allV xs with
  | some l => if l.length ≤ line then .ok (.tuple l) δ' else .stuck
  | none => .stuck := rfl
@[simp] theorem q_toW_v : AV.toW δ (.v x) = some (.d x) := rfl
@[simp] theorem q_toW_fn : AV.toW δ (.fn k) = some (.fn k) := rfl
@[simp] theorem q_toW_sl : AV.toW δ (.sl i) = match δ[i]? with
    | some (some (.d x)) => some (.d x)
    | some (some (.fn k)) => some (.fn k)
    | _ => none := rfl
@[simp] theorem q_wsOf_nil : wsOf δ [] = some [] := rfl
@[simp] theorem q_wsOf_cons (a : AV) (as : List AV) : wsOf δ (a :: as) = match a.toW δ, wsOf δ as with
    | some w, some ws => some (w :: ws)
    | _, _ => none := rfl
@[simp] theorem q_wCall (n : Nat) (den : List W → RF) (as : DenL) : wCall n den as δ = (as δ).bind fun avs δ1 => match wsOf δ1 avs with
  | some ws => if ws.length = n then (den ws).to δ1 else .stuck
  | none => .stuck := rfl
@[simp] theorem q_wCallB (n k : Nat) (den : List W → RF) (as : DenL) : wCallB n k den as δ = (as δ).bind fun avs δ1 => match wsOfB δ1 k avs with
  | some (ws, i, w, _) => if ws.length = n then (den ws).toB δ1 i w else .stuck
  | none => .stuck := rfl
@[simp] theorem q_bor : AV.bor δ (.sl i) = match δ[i]? with
    | some (some (.own l)) => some (i, .own l, l)
    | some (some (.bor l)) => some (i, .bor l, l)
    | _ => none := rfl
@[simp] theorem q_wsOfB0 (a : AV) (as : List AV) : wsOfB δ 0 (a :: as) = match a.bor δ, wsOf δ as with
    | some (i, w, l), some ws => some (.bor l :: ws, i, w, l)
    | _, _ => none := rfl
@[simp] theorem q_wsOfBs (a : AV) (as : List AV) : wsOfB δ (k + 1) (a :: as) = match a.toW δ, wsOfB δ k as with
    | some w, some (ws, r) => some (w :: ws, r)
    | _, _ => none := rfl
@[simp] theorem q_wCallL (tab : Nat → Option (Nat × (List W → RF))) (as : DenL) : wCallL i tab as δ = match δ[i]? with
  | some (some (.fn k)) => match tab k with
    | some (n, den) => wCall n den as δ
    | none => .stuck
  | _ => .stuck := rfl
@[simp] theorem q_wCallK (n : Nat) (den : List W → RF) (ix : List Nat) (m1 m2 : Nat) (as ks : DenL) : wCallK n den ix m1 m2 as ks δ = (as δ).bind fun avs δ1 => (ks δ1).bind fun bvs δ2 => match wsOf δ2 (inOrder ix m1 m2 avs bvs) with
  | some ws => if ws.length = n then (den ws).to δ2 else .stuck
  | none => .stuck := rfl
@[simp] theorem q_put_own : W.put (.own l) m = .own m := rfl
@[simp] theorem q_put_bor : W.put (.bor l) m = .bor m := rfl
@[simp] theorem q_for_nil (tg : Tgt) (b : DenS) : forD tg b [] δ = .nx δ := rfl
@[simp] theorem q_for_cons (tg : Tgt) (b : DenS) : forD tg b (x :: l) δ = S.ofO (bindT tg x δ) fun δ1 => (b δ1).loop (forD tg b l) := rfl
@[simp] theorem q_bind_nm : bindT (.nm i) x δ = setD i x δ := rfl
@[simp] theorem q_bind_tup (is : List Nat) : bindT (.tup is) (.tuple l) δ = setDs is l δ := rfl
@[simp] theorem q_setD : setD i x δ = if isBor δ i then none else some (δ.set i (some (.d x))) := rfl
@[simp] theorem q_setDs_nil : setDs [] [] δ = some δ := rfl
@[simp] theorem q_setDs_cons (is : List Nat) : setDs (i :: is) (x :: l) δ = (setD i x δ).bind (setDs is l) := rfl
@[simp] theorem q_seqD_l : seqD (.list l) = some l := rfl
@[simp] theorem q_seqD_t : seqD (.tuple l) = some l := rfl
@[simp] theorem q_seqE_l : seqE (.list l) = some l := rfl
@[simp] theorem q_seqE_t : seqE (.tuple l) = some l := rfl
@[simp] theorem q_iSeq (d : Den) : iSeq d δ = (d δ).bind fun x δ' => match seqD x with
  | some l => .ok l δ'
  | none => .stuck := rfl
@[simp] theorem q_iRev (d : Den) : iRevD d δ = (d δ).bind fun x δ' => match seqD x with
  | some l => .ok l.reverse δ'
  | none => .stuck := rfl
@[simp] theorem q_iEnum (d : Den) : iEnum d δ = (d δ).bind fun x δ' => match seqD x with
  | some l => .ok (enumF 0 l) δ'
  | none => .stuck := rfl
@[simp] theorem q_iZip (a b : Den) : iZip a b δ = (a δ).bind fun x δ1 => (b δ1).bind fun y δ2 => match seqD x, seqD y with
  | some l, some m => .ok (zipD l m) δ2
  | _, _ => .stuck := rfl
@[simp] theorem q_iRange1 (d : Den) : iRange1 d δ = (d δ).bind fun x δ' => match x with
  | .int j => if big j = true then .ok (rangeD 0 j.toNat) δ' else .stuck
  | _ => .stuck := rfl
@[simp] theorem q_iRange2 (a b : Den) : iRange2 a b δ = (a δ).bind fun x δ1 => (b δ1).bind fun y δ2 => match x, y with
  | .int i, .int j => if big i = true ∧ big j = true then .ok (rangeD i (j - i).toNat) δ2 else .stuck
  | _, _ => .stuck := rfl
@[simp] theorem q_enum_nil : enumF i [] = [] := rfl
@[simp] theorem q_enum_cons : enumF i (x :: l) = .tuple [.int i, x] :: enumF (i + 1) l := rfl
@[simp] theorem q_ownL : ownL δ i = match δ[i]? with
  | some (some w) => match w.items with
    | some l => some (w, l)
    | none => none
  | _ => none := rfl
@[simp] theorem q_items_own : W.items (.own l) = some l := rfl
@[simp] theorem q_items_bor : W.items (.bor l) = some l := rfl
@[simp] theorem q_append (e : Den) : dAppend i e δ = match ownL δ i with
  | none => .stuck
  | some _ => (e δ).bind fun x δ1 => match ownL δ1 i with
    | none => .stuck
    | some (w, l) => if l.length < line then .ok .none (δ1.set i (some (w.put (l ++ [x])))) else .stuck := rfl
@[simp] theorem q_extend (e : DenA) : dExtend i e δ = match ownL δ i with
  | none => .stuck
  | some _ => (e δ).bind fun a δ1 => match a.peek δ1 with
    | none => .stuck
    | some x => match seqE x, ownL δ1 i with
      | some m, some (w, l) => if l.length + m.length ≤ line then .ok .none (δ1.set i (some (w.put (l ++ m)))) else .stuck
      | _, _ => .stuck := rfl
@[simp] theorem q_store (ix : DenA) (e : Den) : sStore i ix e δ = (e δ).to fun x δ1 => match ownL δ1 i with
  | none => .stuck
  | some _ => (ix δ1).to fun a δ2 => match a.peek δ2, ownL δ2 i with
    | some (.int k), some (w, l) => match ixN l.length k with
      | some j => .nx (δ2.set i (some (w.put (l.set j x))))
      | none => .stuck
    | _, _ => .stuck := rfl
@[simp] theorem q_augIx (ix : DenA) (f : List PyData → Option PyData) (e : DenA) : sAugIx i ix f e δ = match ownL δ i with
  | none => .stuck
  | some _ => (ix δ).to fun a δ1 => match a.peek δ1, ownL δ1 i with
    | some (.int k), some (_, l) => match atI l k with
      | some old => (e δ1).to fun b δ2 => (app f [.v old, b] δ2).to fun z δ3 => match ownL δ3 i with
        | some (w, l') => match ixN l'.length k with
          | some j => .nx (δ3.set i (some (w.put (l'.set j z))))
          | none => .stuck
        | none => .stuck
      | none => .stuck
    | _, _ => .stuck := rfl
@[simp] theorem q_aug (f : List PyData → Option PyData) (a : DenA) : sAug f i a δ = match δ[i]? with
  | some (some (.d x)) => (a δ).to fun y δ' => (app f [.v x, y] δ').to fun z δ2 => if isBor δ2 i then .stuck else .nx (δ2.set i (some (.d z)))
  | _ => .stuck := rfl
@[simp] theorem q_oNone : oNone δ = .ok none δ := rfl
@[simp] theorem q_oSome (d : DenA) : oSome d δ = (d δ).bind fun a δ1 => match a.peek δ1 with
  | some (.int i) => .ok (some i) δ1
  | _ => .stuck := rfl
@[simp] theorem q_wSl (a : DenA) (lo hi : DenO) : wSl a lo hi δ = (a δ).bind fun x δ1 => (lo δ1).bind fun l δ2 => (hi δ2).bind fun u δ3 => match x.peek δ3 with
  | some (.list xs) => .ok (.own (cutD xs l u)) δ3
  | some (.tuple xs) => .ok (.d (.tuple (cutD xs l u))) δ3
  | _ => .stuck := rfl
@[simp] theorem q_wRev (a : DenA) : wRev a δ = (a δ).bind fun x δ1 => match x.peek δ1 with
  | some (.list xs) => .ok (.own xs.reverse) δ1
  | _ => .stuck := rfl
@[simp] theorem q_sUnp (is : List Nat) (d : Den) : sUnp is d δ = (d δ).to fun x δ1 => match seqE x with
  | some xs => match setDs is xs δ1 with
    | some δ2 => .nx δ2
    | none => .stuck
  | none => .stuck := rfl
@[simp] theorem q_wlNil : wlNil δ = .ok [] δ := rfl
@[simp] theorem q_wlCons (d : DenW) (r : DenWL) : wlCons d r δ = (d δ).bind fun w δ1 => if noFn w = true then (r δ1).bind fun ws δ2 => .ok (w :: ws) δ2 else .stuck := rfl
@[simp] theorem q_noFn_d : noFn (.d x) = true := rfl
@[simp] theorem q_noFn_own : noFn (.own l) = true := rfl
@[simp] theorem q_setWs_nil : setWs [] [] δ = some δ := rfl
@[simp] theorem q_setWs_cons (is : List Nat) (ws : List W) : setWs (i :: is) (w :: ws) δ = if isBor δ i || decide (δ.length ≤ i) then none else setWs is ws (δ.set i (some w)) := rfl
@[simp] theorem q_sPar (is : List Nat) (d : DenWL) : sPar is d δ = (d δ).to fun ws δ1 => match setWs is ws δ1 with
  | some δ2 => .nx δ2
  | none => .stuck := rfl
@[simp] theorem q_wLc (tg : Tgt) (it : DenI) (tt : DenB) (te : Den) : wLc tg it tt te δ = (it δ).bind fun xs δ1 => if noBor δ1 tg.slots = true then lc tg tt te xs [] (wipeD δ1 tg.slots) else .stuck := rfl
@[simp] theorem q_lc_nil (tg : Tgt) (tt : DenB) (te : Den) : lc tg tt te [] l δ = .ok (.own l) δ := rfl
@[simp] theorem q_lc_cons (tg : Tgt) (tt : DenB) (te : Den) : lc tg tt te (x :: m) l δ = match bindT tg x δ with
    | none => .stuck
    | some δ1 => (tt δ1).calm.bind fun b δ2 => if b = true then (te δ2).calm.bind fun y δ3 => if l.length < line then (if noBor δ3 tg.slots = true then lc tg tt te m (l ++ [y]) (wipeD δ3 tg.slots) else .stuck) else .stuck
      else if noBor δ2 tg.slots = true then lc tg tt te m l (wipeD δ2 tg.slots) else .stuck := rfl
@[simp] theorem q_slots_nm : Tgt.slots (.nm i) = [i] := rfl
@[simp] theorem q_slots_tup (is : List Nat) : Tgt.slots (.tup is) = is := rfl
@[simp] theorem q_runF (n : Nat) (io : Option Nat) (b : DenS) (ws : List W) : runF n io b ws = (b (envOf n ws)).toRF io := rfl
@[simp] theorem q_rf_nx (io : Option Nat) : (S.nx δ).toRF io = .fin (ioOf io δ) (.d .none) := rfl
@[simp] theorem q_rf_ret (io : Option Nat) : (S.ret w δ).toRF io = .fin (ioOf io δ) w := rfl
@[simp] theorem q_rf_exc (c : Nat) (io : Option Nat) : (S.exc c x δ).toRF io = .fexc c x (ioOf io δ) := rfl
@[simp] theorem q_fin_d : RF.fin (some l) (.d x) = .ok (.d x) l := rfl
@[simp] theorem q_fin_own : RF.fin (some l) (.own m) = .ok (.own m) l := rfl
@[simp] theorem q_fexc (c : Nat) : RF.fexc c x (some l) = .exc c x l := rfl
@[simp] theorem q_io_none : ioOf none δ = some [] := rfl
@[simp] theorem q_io_some : ioOf (some k) δ = ioAt k δ := rfl
@[simp] theorem q_ioAt : ioAt k δ = match δ[k]? with
  | some (some (.bor l)) => some l
  | some (some (.bod l)) => some l
  | _ => none := rfl
@[simp] theorem q_envOf_nil (n : Nat) : envOf n [] = List.replicate n none := by simp [envOf]
@[simp] theorem q_envOf_cons (n : Nat) (ws : List W) : envOf (n + 1) (w :: ws) = some w :: envOf n ws := by simp [envOf]
@[simp] theorem q_rep (n : Nat) : List.replicate (n + 1) (none : Option W) = none :: List.replicate n none := rfl
/-! dicts, ranges, pop -/
@[simp] theorem q_fin_dct : RF.fin (some l) (.dct m) = .ok (.dct m) l := rfl
@[simp] theorem q_noFn_dct : noFn (.dct l) = true := rfl
@[simp] theorem q_put_dct : W.put (.dct l) m = .dct m := rfl
@[simp] theorem q_put_bod : W.put (.bod l) m = .bod m := rfl
@[simp] theorem q_bod : AV.bod δ (.sl i) = match δ[i]? with
    | some (some (.dct l)) => some (i, .dct l, l)
    | some (some (.bod l)) => some (i, .bod l, l)
    | _ => none := rfl
@[simp] theorem q_wsOfD0 (a : AV) (as : List AV) : wsOfK true δ 0 (a :: as) = match a.bod δ, wsOf δ as with
    | some (i, w, l), some ws => some (.bod l :: ws, i, w, l)
    | _, _ => none := rfl
@[simp] theorem q_wsOfDs (a : AV) (as : List AV) : wsOfK true δ (k + 1) (a :: as) = match a.toW δ, wsOfK true δ k as with
    | some w, some (ws, r) => some (w :: ws, r)
    | _, _ => none := rfl
@[simp] theorem q_wCallD (n k : Nat) (den : List W → RF) (as : DenL) : wCallD n k den as δ = (as δ).bind fun avs δ1 => match wsOfK true δ1 k avs with
  | some (ws, i, w, _) => if ws.length = n then (den ws).toB δ1 i w else .stuck
  | none => .stuck := rfl
@[simp] theorem q_wDict0 : wDict0 δ = .ok (.dct []) δ := rfl
@[simp] theorem q_dAt : dAt δ i = match δ[i]? with
  | some (some (.dct l)) => some l
  | some (some (.bod l)) => some l
  | _ => none := rfl
@[simp] theorem q_dDget (dk : Den) : dDget i dk δ = match dAt δ i with
  | none => .stuck
  | some _ => (dk δ).bind fun y δ1 => match y, dAt δ1 i with
    | .int k, some l => match getM l k with
      | some x => .ok x δ1
      | none => .stuck
    | _, _ => .stuck := rfl
@[simp] theorem q_dDin (neg : Bool) (dk : Den) : dDin neg i dk δ = (dk δ).bind fun y δ1 => match y, dAt δ1 i with
  | .int k, some l => .ok (.bool (if neg then !(getM l k).isSome else (getM l k).isSome)) δ1
  | _, _ => .stuck := rfl
@[simp] theorem q_sDput (dk dv : Den) : sDput i dk dv δ = (dv δ).to fun x δ1 => match dAt δ1 i with
  | none => .stuck
  | some _ => (dk δ1).to fun y δ2 => match y, dAt δ2 i, δ2[i]? with
    | .int k, some l, some (some w) => if l.length < line then .nx (δ2.set i (some (w.put (putM l k x)))) else .stuck
    | _, _, _ => .stuck := rfl
@[simp] theorem q_sDdel (dk : Den) : sDdel i dk δ = match dAt δ i with
  | none => .stuck
  | some _ => (dk δ).to fun y δ2 => match y, dAt δ2 i, δ2[i]? with
    | .int k, some l, some (some w) => if (getM l k).isSome = true then .nx (δ2.set i (some (w.put (dropM l k)))) else .stuck
    | _, _, _ => .stuck := rfl
@[simp] theorem q_dDlen : dDlen i δ = match dAt δ i with
  | some l => .ok (.int l.length) δ
  | none => .stuck := rfl
@[simp] theorem q_iRevR1 (d : Den) : iRevR1 d δ = (d δ).bind fun x δ1 => match x with
  | .int n => if big n = true then .ok (stepD (0 + (((n - 0).toNat : Nat) : Int) - 1) (-1) (n - 0).toNat) δ1 else .stuck
  | _ => .stuck := rfl
@[simp] theorem q_wLc2 (vs : List Nat) (tg tg1 : Tgt) (it it1 : DenI) (tt tt1 : DenB) (te : Den) : wLc2 vs tg it tt tg1 it1 tt1 te δ = (it δ).bind fun xs δ1 => if noBor δ1 vs = true then lc2 vs tg tt tg1 it1 tt1 te xs [] (wipeD δ1 vs) else .stuck := rfl
@[simp] theorem q_dIsB (i : Nat) (isb : Nat → Option Bool) : dIsB i isb δ = match δ[i]? with
  | some (some (.exc c _)) => match isb c with
    | some b => .ok (.bool b) δ
    | none => .stuck
  | _ => .stuck := rfl
@[simp] theorem q_iRange3 (a b c : Den) : iRange3 a b c δ = (a δ).bind fun x δ1 => (b δ1).bind fun y δ2 => (c δ2).bind fun z δ3 => match x, y, z with
  | .int i, .int j, .int k => if rgOk i j k = true then .ok (stepD i k (rgN i j k)) δ3 else .stuck
  | _, _, _ => .stuck := rfl
@[simp] theorem q_rngOf (xs : List AV) : rngOf xs δ = (peekAll δ xs).bind rngArgs := rfl
@[simp] theorem q_wListRng (as : DenL) : wListRng as δ = (as δ).bind fun xs δ1 => match rngOf xs δ1 with
  | some (i, j, c) => if rgOk i j c = true ∧ rgN i j c ≤ line then .ok (.own (stepD i c (rgN i j c))) δ1 else .stuck
  | none => .stuck := rfl
@[simp] theorem q_dInRng (neg : Bool) (a : Den) (as : DenL) : dInRng neg a as δ = (a δ).bind fun x δ1 => (as δ1).bind fun xs δ2 => match x, rngOf xs δ2 with
  | .int k, some (i, j, c) => if c ≠ 0 ∧ c.natAbs < 1073741824 then .ok (.bool (if neg then !inRng i j c k else inRng i j c k)) δ2 else .stuck
  | _, _ => .stuck := rfl
@[simp] theorem q_dPop : dPop i δ = match ownL δ i with
  | none => .stuck
  | some (w, l) => match l[l.length - 1]? with
    | some x => .ok x (δ.set i (some (w.put l.dropLast)))
    | none => .stuck := rfl
@[simp] theorem q_dPopAt (e : Den) : dPopAt i e δ = match ownL δ i with
  | none => .stuck
  | some _ => (e δ).bind fun y δ1 => match ownL δ1 i with
    | none => .stuck
    | some (w, l) => match y with
      | .int k => if 0 ≤ k ∧ k < l.length ∧ l.length ≤ line then match l[k.toNat]? with
        | some x => .ok x (δ1.set i (some (w.put (l.eraseIdx k.toNat))))
        | none => .stuck
        else .stuck
      | _ => .stuck := rfl
@[simp] theorem q_toU_v : AV.toU δ (.v x) = some (.d x) := rfl
@[simp] theorem q_toU_sl : AV.toU δ (.sl i) = match δ[i]? with
    | some (some (.d x)) => some (.d x)
    | some (some (.fn k)) => some (.fn k)
    | some (some (.own l)) => some (.d (.list l))
    | some (some (.bor l)) => some (.d (.list l))
    | _ => none := rfl
@[simp] theorem q_wsOfU_nil : wsOfU δ [] = some [] := rfl
@[simp] theorem q_wsOfU_cons (a : AV) (as : List AV) : wsOfU δ (a :: as) = match a.toU δ, wsOfU δ as with
    | some w, some ws => some (w :: ws)
    | _, _ => none := rfl
@[simp] theorem q_wCallU (n : Nat) (den : List W → RF) (as : DenL) : wCallU n den as δ = (as δ).bind fun avs δ1 => match wsOfU δ1 avs with
  | some ws => if ws.length = n then (den ws).toU δ1 else .stuck
  | none => .stuck := rfl
@[simp] theorem q_fto_U (f : flatD x = true) : (RF.ok (.d x) l).toU δ = .ok (.d x) δ := by simp [RF.toU, f]
/-! operators -/
variable {a b : Int}
@[simp] theorem q_rngArgs1 : rngArgs [.int a] = some (0, a, 1) := rfl
@[simp] theorem q_rngArgs2 : rngArgs [.int a, .int b] = some (a, b, 1) := rfl
@[simp] theorem q_rngArgs3 {c : Int} : rngArgs [.int a, .int b, .int c] = some (a, b, c) := rfl
@[simp] theorem q_fAdd : fAdd [.int a, .int b] = some (.int (a + b)) := rfl
@[simp] theorem q_fSub : fSub [.int a, .int b] = some (.int (a - b)) := rfl
@[simp] theorem q_fLt : fLt [.int a, .int b] = some (.bool (decide (a < b))) := rfl
@[simp] theorem q_fLe : fLe [.int a, .int b] = some (.bool (decide (a ≤ b))) := rfl
@[simp] theorem q_fGt : fGt [.int a, .int b] = some (.bool (decide (b < a))) := rfl
@[simp] theorem q_fGe : fGe [.int a, .int b] = some (.bool (decide (b ≤ a))) := rfl
@[simp] theorem q_fNeg : fNeg [.int a] = some (.int (-a)) := rfl
@[simp] theorem q_fInt : fInt [.int a] = some (.int a) := rfl
@[simp] theorem q_fAbs : fAbs [.int a] = some (.int (if a < 0 then -a else a)) := rfl
@[simp] theorem q_fMax : fMax2 [.int a, .int b] = some (.int (if b > a then b else a)) := rfl
@[simp] theorem q_fMin : fMin2 [.int a, .int b] = some (.int (if b < a then b else a)) := rfl
theorem q_fMod (h : 0 < b) : fMod [.int a, .int b] = some (.int (a % b)) := by simp [fMod, fI2, h]
@[simp] theorem q_fLen_l : fLen [.list l] = some (.int l.length) := rfl
@[simp] theorem q_fLen_t : fLen [.tuple l] = some (.int l.length) := rfl
@[simp] theorem q_fIx_l : fIx [.list l, .int a] = atI l a := rfl
@[simp] theorem q_fIx_t : fIx [.tuple l, .int a] = atI l a := rfl
@[simp] theorem q_fTuple_l : fTuple [.list l] = some (.tuple l) := rfl
@[simp] theorem q_fTuple_t : fTuple [.tuple l] = some (.tuple l) := rfl
@[simp] theorem q_fListOf_l : fListOf [.list l] = some (.own l) := rfl
@[simp] theorem q_fListOf_t : fListOf [.tuple l] = some (.own l) := rfl
@[simp] theorem q_fAddA_i : fAddA [.int a, .int b] = some (.d (.int (a + b))) := rfl
@[simp] theorem q_fAddA_t : fAddA [.tuple l, .tuple m] = if l.length + m.length ≤ line then some (.d (.tuple (l ++ m))) else none := rfl
@[simp] theorem q_fAddA_l : fAddA [.list l, .list m] = if l.length + m.length ≤ line then some (.own (l ++ m)) else none := rfl
end
end Mir

namespace K1
/-! the mathematics of digits -/
def chain : Int → List Int → Prop
  | _, [] => True
  | p, x :: l => p < x ∧ x ≤ 64 ∧ x % p = 0 ∧ chain x l
structure Sz (l : List Int) : Prop where
  ex : ∃ a t, l = a :: t ∧ 1 ≤ a ∧ a ≤ 64 ∧ chain a t ∧ t.length ≤ 4
def rat : List Int → List Int
  | a :: b :: l => b / a :: rat (b :: l)
  | _ => []
theorem rat_length : ∀ l : List Int, (rat l).length = l.length - 1
  | [] => rfl
  | [_] => rfl
  | a :: b :: l => by
    show (rat (b :: l)).length + 1 = _
    rw [rat_length (b :: l)]
    simp
theorem chain_at : ∀ {l : List Int} {p : Int} {j : Nat} {x : Int}, 0 < p → chain p l → l[j]? = some x → 0 < x ∧ x ≤ 64
  | [], _, _, _, _, _, h => by simp at h
  | y :: l, p, 0, x, hp, ⟨h1, h2, _, _⟩, h => by
    have e : y = x := by simpa using h
    subst e
    exact ⟨by omega, h2⟩
  | y :: l, p, j + 1, x, hp, ⟨h1, h2, _, h4⟩, h => chain_at (l := l) (p := y) (j := j) (by omega) h4 (by simpa using h)
theorem Sz.at {l : List Int} (h : Sz l) {j : Nat} {x : Int} (e : l[j]? = some x) : 0 < x ∧ x ≤ 64 := by
  obtain ⟨a, t, rfl, h1, h2, h3, h4⟩ := h.ex
  cases j with
  | zero =>
    have e' : a = x := by simpa using e
    subst e'
    exact ⟨by omega, h2⟩
  | succ j => exact chain_at (by omega) h3 (by simpa using e)
theorem Sz.len {l : List Int} (h : Sz l) : 1 ≤ l.length ∧ l.length ≤ 5 := by
  obtain ⟨a, t, rfl, h1, h2, h3, h4⟩ := h.ex
  simp; omega
def digR : List Int → Int → List Int
  | [], _ => []
  | s :: q, n => n / s :: digR q (n % s)
def ltz : List Int → List Int → Bool
  | d :: ds, r :: rs => decide (d < r) && ltz ds rs
  | _, _ => true
def tally : List Int → List Int → Int
  | d :: ds, s :: ss => d * s + tally ds ss
  | _, _ => 0
/-- what the two loops do from a level on: c tells whether they go on, g what they leave -/
def wq (c : Int → Int → Bool) (g : Int → Int) : List Int → List Int → List Int × Nat
  | d :: ds, r :: rs => if c d r then (g r :: (wq c g ds rs).1, (wq c g ds rs).2 + 1) else (d :: ds, 0)
  | ds, _ => (ds, 0)
def cP (d r : Int) : Bool := decide (d = r - 1)
def gP (_ : Int) : Int := 0
def cM (d _ : Int) : Bool := decide (d = 0)
def gM (r : Int) : Int := r - 1
theorem wq_lt (c : Int → Int → Bool) (g : Int → Int) : ∀ ds rs : List Int, ds.length = rs.length + 1 → (wq c g ds rs).1.length = ds.length ∧ (wq c g ds rs).2 < ds.length
  | [], rs, h => by simp at h
  | d :: ds, [], h => by simp [wq]
  | d :: ds, r :: rs, h => by
    have ih := wq_lt c g ds rs (by simpa using h)
    unfold wq
    by_cases k : c d r = true
    · simp [k, ih.1]; exact ih.2
    · simp [k]
def at0 (l : List Int) (k : Nat) : Int := l.getD k 0
/-- one more at a place -/
def bump (f : Int) (l : List Int) (k : Nat) : List Int := l.set k (at0 l k + f)
end K1

namespace K3
/-! the mathematics of octets -/
def hiR : Nat → Int → List Int
  | 0, _ => []
  | f + 1, m => if 0 < m then (128 + m % 128) :: hiR f (m / 128) else []
def oct (n : Int) : List Int := (n % 128 :: hiR 40 (n / 128)).reverse
def valR : List Int → Int
  | [] => 0
  | a :: r => valR r * 128 + a % 128
def val (l : List Int) : Int := l.foldl (fun a o => a * 128 + o % 128) 0
def endD : List Int → Option Nat
  | [] => none
  | x :: l => if x < 128 then some 0 else (endD l).map (· + 1)
def nx (o : List Int) (p : Nat) : Except Nat (Int × Nat) :=
  if o[p]? = some 128 then .error p else match endD (o.drop p) with
  | none => .error o.length
  | some k => .ok (val ((o.drop p).take (k + 1)), p + k + 1)
theorem hiR_mem : ∀ (f : Nat) (m x : Int), x ∈ hiR f m → 128 ≤ x ∧ x ≤ 255
  | 0, _, _, h => by simp [hiR] at h
  | f + 1, m, x, h => by
    unfold hiR at h
    split at h
    · rcases List.mem_cons.mp h with e | e
      · omega
      · exact hiR_mem f _ x e
    · simp at h
theorem hiR_len : ∀ (f : Nat) (m : Int), (hiR f m).length ≤ f
  | 0, _ => by simp [hiR]
  | f + 1, m => by
    unfold hiR
    split
    · have := hiR_len f (m / 128)
      simp; omega
    · simp
theorem pow_s (f : Nat) : (128 : Int) ^ (f + 1) = 128 ^ f * 128 := Int.pow_succ ..
theorem hiR_last : ∀ (f : Nat) (m x : Int), m < 128 ^ f → (hiR f m).getLast? = some x → x ≠ 128
  | 0, _, _, _, h => by simp [hiR] at h
  | f + 1, m, x, hm, h => by
    rw [pow_s] at hm
    unfold hiR at h
    split at h
    · rename_i h0
      have hd : m / 128 < 128 ^ f := by omega
      cases e : hiR f (m / 128) with
      | nil =>
        rw [e] at h
        have hx : 128 + m % 128 = x := by simpa using h
        have hz : m / 128 ≤ 0 := by
          cases f with
          | zero => simp at hd; omega
          | succ f =>
            unfold hiR at e
            split at e
            · cases e
            · omega
        omega
      | cons y l =>
        rw [e, List.getLast?_cons_cons, ← e] at h
        exact hiR_last f _ x hd h
    · simp at h
theorem valR_hiR : ∀ (f : Nat) (m : Int), 0 ≤ m → m < 128 ^ f → valR (hiR f m) = m
  | 0, m, h0, h1 => by simp at h1; simp [hiR, valR]; omega
  | f + 1, m, h0, h1 => by
    rw [pow_s] at h1
    unfold hiR
    split
    · unfold valR
      rw [valR_hiR f (m / 128) (by omega) (by omega)]
      omega
    · unfold valR
      omega
theorem val_rev : ∀ l : List Int, val l.reverse = valR l
  | [] => rfl
  | a :: l => by
    have := val_rev l
    unfold val at this ⊢
    rw [List.reverse_cons, List.foldl_append, this]
    rfl
theorem val_oct {n : Int} (h0 : 0 ≤ n) (h1 : n < 128 ^ 41) : val (oct n) = n := by
  unfold oct
  rw [val_rev]
  unfold valR
  rw [pow_s] at h1
  rw [valR_hiR 40 (n / 128) (by omega) (by omega)]
  omega
theorem val_nil : val [] = 0 := rfl
theorem val_snoc (l : List Int) (a : Int) : val (l ++ [a]) = val l * 128 + a % 128 := by
  unfold val
  rw [List.foldl_append]
  rfl
theorem valR_lt : ∀ l : List Int, 0 ≤ valR l ∧ valR l < 128 ^ l.length
  | [] => by simp [valR]
  | a :: l => by
    have := valR_lt l
    rw [List.length_cons, pow_s]
    unfold valR
    omega
theorem val_lt (l : List Int) : 0 ≤ val l ∧ val l < 128 ^ l.length := by
  have := valR_lt l.reverse
  rw [← val_rev, List.reverse_reverse, List.length_reverse] at this
  exact this
/-- what oct is made of -/
theorem oct_parts (n : Int) : ∃ w d, oct n = w ++ [d] ∧ 0 ≤ d ∧ d < 128 ∧ (∀ x ∈ w, 128 ≤ x ∧ x ≤ 255) ∧ w.length ≤ 40 ∧ w = (hiR 40 (n / 128)).reverse := by
  refine ⟨(hiR 40 (n / 128)).reverse, n % 128, by simp [oct], by omega, by omega, fun x hx => hiR_mem 40 _ x (by simpa using hx), by simpa using hiR_len 40 (n / 128), rfl⟩
theorem endD_high : ∀ (w r : List Int) (d : Int), (∀ x ∈ w, 128 ≤ x ∧ x ≤ 255) → d < 128 → endD (w ++ d :: r) = some w.length
  | [], r, d, _, h => by simp [endD, h]
  | x :: w, r, d, hw, h => by
    have hx := hw x (by simp)
    rw [List.cons_append]
    unfold endD
    rw [if_neg (by omega), endD_high w r d (fun y hy => hw y (by simp [hy])) h]
    rfl
theorem endD_lt : ∀ (l : List Int) (k : Nat), endD l = some k → k < l.length
  | [], _, h => by cases h
  | x :: l, k, h => by
    unfold endD at h
    split at h
    · cases h; simp
    · cases e : endD l with
      | none => rw [e] at h; (cases h)
      | some j =>
        rw [e] at h
        have := endD_lt l j e
        cases h
        simp; omega
theorem oct_item {n x : Int} (h : x ∈ oct n) : 0 ≤ x ∧ x ≤ 255 := by
  obtain ⟨w, d, e, h1, h2, h3, _⟩ := oct_parts n
  rw [e] at h
  rcases List.mem_append.mp h with m | m
  · have := h3 x m; omega
  · have : x = d := by simpa using m
    omega
theorem oct_len (n : Int) : 1 ≤ (oct n).length ∧ (oct n).length ≤ 41 := by
  obtain ⟨w, d, e, _, _, _, h, _⟩ := oct_parts n
  rw [e]
  simp; omega
theorem nx_oct {n : Int} (h0 : 0 ≤ n) (h1 : n < 128 ^ 41) (pre post : List Int) : nx (pre ++ oct n ++ post) pre.length = .ok (n, pre.length + (oct n).length) := by
  obtain ⟨w, d, e, d0, d1, hw, hl, ew⟩ := oct_parts n
  have hd : (pre ++ oct n ++ post).drop pre.length = w ++ d :: post := by
    rw [List.append_assoc, List.drop_left, e]
    simp
  have hg : (pre ++ oct n ++ post)[pre.length]? ≠ some 128 := by
    rw [List.append_assoc, List.getElem?_append_right (Nat.le_refl _), Nat.sub_self, e]
    cases w with
    | nil => simp; omega
    | cons x w =>
      simp
      have hx : (hiR 40 (n / 128)).getLast? = some x := by
        have : (hiR 40 (n / 128)).reverse.head? = some x := by rw [← ew]; rfl
        rw [List.head?_reverse] at this
        exact this
      rw [pow_s] at h1
      exact hiR_last 40 _ x (by omega) hx
  unfold nx
  rw [if_neg hg, hd, endD_high w post d hw d1]
  show Except.ok _ = _
  have ht : (w ++ d :: post).take (w.length + 1) = oct n := by
    rw [e, show w ++ d :: post = (w ++ [d]) ++ post by simp, List.take_left' (by simp)]
  rw [ht, val_oct h0 h1, e]
  simp
  omega
theorem nx_ok {o : List Int} {p b : Nat} {v : Int} (h : nx o p = .ok (v, b)) : p < b ∧ b ≤ o.length ∧ 0 ≤ v ∧ v < 128 ^ o.length ∧ p < o.length := by
  unfold nx at h
  split at h
  · cases h
  · split at h
    · cases h
    · rename_i k hk
      have hlt := endD_lt _ k hk
      rw [List.length_drop] at hlt
      have hv := val_lt ((o.drop p).take (k + 1))
      have hl : ((o.drop p).take (k + 1)).length ≤ o.length := by
        rw [List.length_take, List.length_drop]; omega
      have hp : (128 : Int) ^ ((o.drop p).take (k + 1)).length ≤ 128 ^ o.length := by
        have := Nat.pow_le_pow_right (show 0 < 128 by decide) hl
        exact_mod_cast this
      cases h
      exact ⟨by omega, by omega, hv.1, by omega, by omega⟩
theorem nx_err {o : List Int} {p e : Nat} (h : nx o p = .error e) : (e = p ∧ p < o.length ∧ o[p]? = some 128) ∨ (e = o.length ∧ o[p]? ≠ some 128 ∧ endD (o.drop p) = none) := by
  unfold nx at h
  split at h
  · rename_i h1
    cases h
    refine .inl ⟨rfl, ?_, h1⟩
    rcases Nat.lt_or_ge p o.length with q | q
    · exact q
    · rw [List.getElem?_eq_none q] at h1; cases h1
  · rename_i h1
    split at h
    · rename_i h2
      cases h
      exact .inr ⟨rfl, h1, h2⟩
    · cases h
/-- so many numbers, each of which may follow the one ahead -/
def rdN (can : Int → Option Int → Bool) (o : List Int) : Nat → Nat → List Int → Option Int → Except Nat (List Int × Nat)
  | 0, p, acc, _ => .ok (acc, p)
  | n + 1, p, acc, a => match nx o p with
    | .error e => .error e
    | .ok (v, b) => if can v a = true then rdN can o n b (acc ++ [v]) (some v) else .error p
/-- numbers to the end -/
def rdAll (o : List Int) : Nat → Nat → List Int → Except Nat (List Int × Nat)
  | 0, p, acc => .ok (acc, p)
  | n + 1, p, acc => match nx o p with
    | .error e => if e < o.length then .error e else .ok (acc, p)
    | .ok (v, b) => rdAll o n b (acc ++ [v])
theorem rdN_octs (can : Int → Option Int → Bool) : ∀ (ns : List Int) (pre post acc : List Int) (a : Option Int), (∀ n ∈ ns, 0 ≤ n ∧ n < 128 ^ 41) → (∀ i (h : i < ns.length), can ns[i] (if i = 0 then a else ns[i - 1]?) = true) →
    rdN can (pre ++ ns.flatMap oct ++ post) ns.length pre.length acc a = .ok (acc ++ ns, pre.length + (ns.flatMap oct).length)
  | [], pre, post, acc, a, _, _ => by simp [rdN]
  | n :: ns, pre, post, acc, a, hn, hc => by
    have h := hn n (by simp)
    have e : pre ++ (n :: ns).flatMap oct ++ post = pre ++ oct n ++ (ns.flatMap oct ++ post) := by simp
    have e2 : pre ++ oct n ++ (ns.flatMap oct ++ post) = (pre ++ oct n) ++ ns.flatMap oct ++ post := by simp
    have c0 : can n a = true := hc 0 (by simp)
    rw [List.length_cons]
    unfold rdN
    rw [e, nx_oct h.1 h.2]
    show (if can n a = true then _ else _) = _
    rw [if_pos c0, e2, show pre.length + (oct n).length = (pre ++ oct n).length by simp, rdN_octs can ns (pre ++ oct n) post (acc ++ [n]) (some n) (fun m hm => hn m (by simp [hm])) fun i hi => ?_]
    · simp; omega
    · have := hc (i + 1) (by simpa using hi)
      cases i with
      | zero => simpa using this
      | succ i => simpa using this
theorem rdAll_octs : ∀ (ns : List Int) (pre acc : List Int) (f : Nat), (∀ n ∈ ns, 0 ≤ n ∧ n < 128 ^ 41) → ns.length ≤ f →
    rdAll (pre ++ ns.flatMap oct) f pre.length acc = .ok (acc ++ ns, pre.length + (ns.flatMap oct).length)
  | [], pre, acc, f, _, _ => by
    cases f with
    | zero => simp [rdAll]
    | succ f =>
      have : nx (pre ++ []) pre.length = .error (pre ++ []).length := by
        unfold nx
        have e : (pre ++ ([] : List Int)).drop pre.length = [] := by simp
        rw [if_neg (by simp), e]
        rfl
      simp only [List.flatMap_nil]
      unfold rdAll
      rw [this]
      simp
  | n :: ns, pre, acc, f, hn, hf => by
    cases f with
    | zero => simp at hf
    | succ f =>
      have h := hn n (by simp)
      have e : pre ++ (n :: ns).flatMap oct = pre ++ oct n ++ ns.flatMap oct := by simp
      have e2 : pre ++ oct n ++ ns.flatMap oct = (pre ++ oct n) ++ ns.flatMap oct := by simp
      unfold rdAll
      rw [e, nx_oct h.1 h.2]
      show rdAll _ f _ _ = _
      rw [show pre.length + (oct n).length = (pre ++ oct n).length by simp, rdAll_octs ns (pre ++ oct n) (acc ++ [n]) f (fun m hm => hn m (by simp [hm])) (by simp at hf; omega)]
      simp; omega
end K3

namespace K6
open PySem Mir L2 K1 K3
/-! the mathematics of units, blocks and what is held -/
def hd (L : List Int) : Int := L.headD 0
def lst (L : List Int) : Int := L.getLastD 0
theorem chain_facts : ∀ (l : List Int) (p : Int), 0 < p → chain p l → ∀ x ∈ l, p ∣ x ∧ x ∣ (p :: l).getLastD 0 ∧ 0 < x ∧ x ≤ 64
  | [], _, _, _, x, h => by cases h
  | y :: l, p, hp, ⟨h1, h2, h3, h4⟩, x, hx => by
    have hy : p ∣ y := Int.dvd_of_emod_eq_zero h3
    have e : (p :: y :: l).getLastD 0 = (y :: l).getLastD 0 := by simp [List.getLastD_cons]
    rw [e]
    obtain rfl | hx := List.mem_cons.mp hx
    · refine ⟨hy, ?_, by omega, h2⟩
      cases l with
      | nil => simp
      | cons z l =>
        have := chain_facts (z :: l) x (by omega) h4 z (by simp)
        exact Int.dvd_trans this.1 this.2.1
    · obtain ⟨k1, k2, k3, k4⟩ := chain_facts l y (by omega) h4 x hx
      exact ⟨Int.dvd_trans hy k1, k2, k3, k4⟩
theorem sz_facts {L : List Int} (h : Sz L) : 0 < hd L ∧ hd L ∈ L ∧ lst L ∈ L ∧ 0 < lst L ∧ lst L ≤ 64 ∧ ∀ x ∈ L, hd L ∣ x ∧ x ∣ lst L ∧ 0 < x ∧ x ≤ 64 := by
  obtain ⟨a, t, rfl, h1, h2, h3, h4⟩ := h.ex
  have hf := chain_facts t a (by omega) h3
  have e : hd (a :: t) = a := rfl
  have all : ∀ x ∈ a :: t, hd (a :: t) ∣ x ∧ x ∣ lst (a :: t) ∧ 0 < x ∧ x ≤ 64 := fun x hx => by
    obtain rfl | hx := List.mem_cons.mp hx
    · refine ⟨by rw [e]; exact Int.dvd_refl _, ?_, by omega, h2⟩
      cases t with
      | nil => simp [lst]
      | cons z t =>
        have := hf z (by simp)
        exact Int.dvd_trans this.1 this.2.1
    · exact hf x hx
  have hl : lst (a :: t) ∈ a :: t := by
    unfold lst
    rw [List.getLastD_eq_getLast?, List.getLast?_eq_some_getLast (by simp)]
    exact List.getLast_mem (by simp)
  exact ⟨by rw [e]; omega, by rw [e]; simp, hl, (all _ hl).2.2.1, (all _ hl).2.2.2, all⟩
abbrev Blk := Int × Int × Int
/-- of one block a cell is one of these -/
def over (s p : Int) (b : Blk) : Bool := decide (b.2.2 < p + s) && decide (p < b.2.2 + b.2.1)
/-- k is where one of a block's least units begins -/
def part (u : Int) (k s p : Int) : Bool := decide (p ≤ k) && (decide (k < p + s) && decide ((k - p) % u = 0))
def standB (L P : List Int) (acc : List Blk) (s q : Int) : Bool := decide (q % s = 0) && (P.contains (q / lst L) && acc.all fun b => !over s q b)
structure Blo (L P : List Int) (b : Blk) : Prop where
  s : b.2.1 ∈ L
  p : b.2.2 % b.2.1 = 0
  g : b.2.2 / lst L ∈ P
/-- what is told to be held -/
def Held (L : List Int) (m : List PyData) (acc : List Blk) : Prop := ∀ k : Int, (getM m k).isSome = acc.any fun b => part (hd L) k b.2.1 b.2.2
theorem getM_cons (e : PyData) (m : List PyData) (k : Int) : getM (e :: m) k = if isE k e = true then some (valE e) else getM m k := rfl
theorem isE_entE (k j : Int) (x : PyData) : isE j (entE k x) = decide (k = j) := rfl
theorem getM_app : ∀ (m : List PyData) (k j : Int) (x : PyData), (getM (m ++ [entE k x]) j).isSome = ((getM m j).isSome || decide (k = j))
  | [], k, j, x => by
    rw [List.nil_append, getM_cons, isE_entE]
    by_cases c : k = j <;> simp [getM, c]
  | e :: m, k, j, x => by
    rw [List.cons_append, getM_cons, getM_cons]
    by_cases c : isE j e = true
    · rw [if_pos c, if_pos c]; rfl
    · rw [if_neg c, if_neg c]
      exact getM_app m k j x
theorem getM_any : ∀ (m : List PyData) (k : Int), m.any (isE k) = (getM m k).isSome
  | [], _ => rfl
  | e :: m, k => by
    rw [List.any_cons, getM_any m k, getM_cons]
    by_cases c : isE k e = true
    · rw [if_pos c, c]; rfl
    · rw [if_neg c]; simp [c]
theorem getM_map : ∀ (m : List PyData) (k j : Int) (x : PyData), (getM (m.map fun e => if isE k e = true then entE k x else e) j).isSome = (getM m j).isSome
  | [], _, _, _ => rfl
  | e :: m, k, j, x => by
    rw [List.map_cons, getM_cons, getM_cons]
    by_cases c : isE k e = true
    · rw [if_pos c]
      have hk : isE j e = decide (k = j) := by
        unfold isE at c ⊢
        split at c
        · have := of_decide_eq_true c
          subst this
          rfl
        · cases c
      rw [isE_entE, hk]
      by_cases d : k = j
      · simp [d]
      · simp [d]
        exact getM_map m k j x
    · rw [if_neg c]
      by_cases d : isE j e = true
      · rw [if_pos d, if_pos d]
      · rw [if_neg d, if_neg d]
        exact getM_map m k j x
theorem getM_put (m : List PyData) (k j : Int) (x : PyData) : (getM (putM m k x) j).isSome = ((getM m j).isSome || decide (k = j)) := by
  unfold putM
  by_cases c : (m.any (isE k)) = true
  · rw [if_pos c, getM_map]
    by_cases d : k = j
    · subst d
      rw [getM_any] at c
      simp [c]
    · simp [d]
  · rw [if_neg c, getM_app]
theorem len_put (m : List PyData) (k : Int) (x : PyData) : (putM m k x).length ≤ m.length + 1 := by
  unfold putM
  split <;> simp
/-- the parts of a unit -/
theorem part_step {u s p k : Int} {n : Nat} (hu : 0 < u) (hs : s = n * u) : part u k s p = true ↔ ∃ t : Nat, t < n ∧ k = p + t * u := by
  unfold part
  simp only [decide_eq_true_eq, Bool.and_eq_true]
  constructor
  · rintro ⟨h1, h2, h3⟩
    obtain ⟨c, hc⟩ := Int.dvd_of_emod_eq_zero h3
    have hkc : k - p = c * u := by rw [hc]; exact Int.mul_comm ..
    have hc0 : 0 ≤ c := by
      rcases Int.lt_or_le c 0 with q | q
      · have := Int.mul_neg_of_neg_of_pos q hu
        omega
      · exact q
    have hcn : c < n := by
      rcases Int.lt_or_le c n with q | q
      · exact q
      · have := Int.mul_le_mul_of_nonneg_right q (show 0 ≤ u by omega)
        omega
    exact ⟨c.toNat, by omega, by rw [Int.toNat_of_nonneg hc0]; omega⟩
  · rintro ⟨t, ht, rfl⟩
    have h0 : 0 ≤ (t : Int) * u := Int.mul_nonneg (by omega) (by omega)
    have h1 : (t : Int) * u < n * u := Int.mul_lt_mul_of_pos_right (by omega) hu
    refine ⟨by omega, by omega, ?_⟩
    rw [show p + (t : Int) * u - p = (t : Int) * u by omega]
    exact Int.mul_emod_left ..
/-- blocks of whole least units share a cell exactly if they share the beginning of a least unit -/
theorem over_part {u s p s' p' : Int} (hu : 0 < u) (h1 : u ∣ s) (h2 : u ∣ p) (h3 : u ∣ s') (h4 : u ∣ p') (hs : 0 < s) (hs' : 0 < s') : (p' < p + s ∧ p < p' + s') ↔ ∃ k, part u k s p = true ∧ part u k s' p' = true := by
  unfold part
  simp only [decide_eq_true_eq, Bool.and_eq_true]
  constructor
  · rintro ⟨a, b⟩
    rcases Int.le_total p p' with c | c
    · exact ⟨p', ⟨c, a, Int.emod_eq_zero_of_dvd (Int.dvd_sub h4 h2)⟩, by omega, by omega, by simp⟩
    · exact ⟨p, ⟨by omega, by omega, by simp⟩, c, b, Int.emod_eq_zero_of_dvd (Int.dvd_sub h2 h4)⟩
  · rintro ⟨k, ⟨a, b, _⟩, c, d, _⟩
    exact ⟨by omega, by omega⟩
theorem Blo.div {L P : List Int} {b : Blk} (h : Sz L) (hb : Blo L P b) : hd L ∣ b.2.1 ∧ hd L ∣ b.2.2 ∧ 0 < b.2.1 := by
  obtain ⟨_, _, _, _, _, hf⟩ := sz_facts h
  obtain ⟨k1, _, k3, _⟩ := hf _ hb.s
  exact ⟨k1, Int.dvd_trans k1 (Int.dvd_of_emod_eq_zero hb.p), k3⟩
/-- no part of a unit is held exactly if no block lies over it -/
theorem free_iff {L P : List Int} {m : List PyData} {acc : List Blk} {s q : Int} {n : Nat} (h : Sz L) (hm : Held L m acc) (ha : ∀ b ∈ acc, Blo L P b) (hs : s ∈ L) (hq : q % s = 0) (hn : s = n * hd L) :
    ((List.range n).any fun t => (getM m (q + (t : Int) * hd L)).isSome) = acc.any fun b => over s q b := by
  obtain ⟨u0, _, _, _, _, hf⟩ := sz_facts h
  obtain ⟨d1, _, s0, _⟩ := hf s hs
  have d2 : hd L ∣ q := Int.dvd_trans d1 (Int.dvd_of_emod_eq_zero hq)
  rw [Bool.eq_iff_iff]; rw [List.any_eq_true]; rw [List.any_eq_true]
  constructor
  · rintro ⟨t, ht, hg⟩
    rw [hm, List.any_eq_true] at hg
    obtain ⟨b, hb, hp⟩ := hg
    refine ⟨b, hb, ?_⟩
    obtain ⟨e1, e2, e3⟩ := (ha b hb).div h
    have := (over_part u0 d1 d2 e1 e2 s0 e3).mpr ⟨_, (part_step u0 hn).mpr ⟨t, List.mem_range.mp ht, rfl⟩, hp⟩
    unfold over
    simp [this.1, this.2]
  · rintro ⟨b, hb, ho⟩
    unfold over at ho
    simp only [Bool.and_eq_true, decide_eq_true_eq] at ho
    obtain ⟨e1, e2, e3⟩ := (ha b hb).div h
    obtain ⟨k, k1, k2⟩ := (over_part u0 d1 d2 e1 e2 s0 e3).mp ho
    obtain ⟨t, ht, rfl⟩ := (part_step u0 hn).mp k1
    refine ⟨t, List.mem_range.mpr ht, ?_⟩
    rw [hm, List.any_eq_true]
    exact ⟨b, hb, k2⟩
end K6

namespace K1
open PySem Mir L2 PyProof.Rows
/-! what repr tells of small values -/
def zeros (z : Str) : Bool := decide (z.length ≤ 10) && z.cps.toList.all fun c => c == 48
def nice : Nat → PyData → Bool
  | _, .none => true
  | _, .bool _ => true
  | _, .int i => decide (i.natAbs < 10 ^ 34)
  | _, .str z => zeros z
  | k + 1, .list l => decide (l.length ≤ 10) && l.all (nice k)
  | k + 1, .tuple l => decide (l.length ≤ 10) && l.all (nice k)
  | _, _ => false
theorem strOk_of {x : Str} (h : ∀ c ∈ x.cps.toList, c < 1114112) : PyData.strOk x = true := by
  unfold PyData.strOk
  rw [← Array.all_toList]
  rw [List.all_eq_true]
  exact fun c hc => decide_eq_true (h c hc)
theorem of_strOk {x : Str} (h : PyData.strOk x = true) : ∀ c ∈ x.cps.toList, c < 1114112 := by
  unfold PyData.strOk at h
  rw [← Array.all_toList, List.all_eq_true] at h
  exact fun c hc => of_decide_eq_true (h c hc)
theorem strOk_app {a b : Str} (ha : PyData.strOk a = true) (hb : PyData.strOk b = true) : PyData.strOk (a ++ b) = true :=
  strOk_of fun c hc => (mem_cps_append.mp hc).elim (of_strOk ha c) (of_strOk hb c)
theorem strOk_int (i : Int) : PyData.strOk (PyData.int i).shown = true := strOk_of fun c hc => by
  rcases Nat.lt_or_ge c 1114112 with h | h
  · exact h
  · exact absurd hc (shown_int_free' ⟨by omega, .inr (by omega)⟩ i)
theorem strOk_from : ∀ (ts : List Str) (k : Nat) (acc : Str), PyData.strOk acc = true → (∀ t ∈ ts, PyData.strOk t = true) → PyData.strOk (textFrom k acc ts) = true
  | [], _, _, h, _ => h
  | t :: ts, k, acc, h, ht => strOk_from ts (k + 1) _ (strOk_app (strOk_app h (by split <;> decide +kernel)) (ht t (by simp))) fun u hu => ht u (by simp [hu])
theorem strOk_list {ts : List Str} (h : ∀ t ∈ ts, PyData.strOk t = true) : PyData.strOk (listText ts) = true := strOk_app (strOk_from ts 0 _ (by decide +kernel) h) (by decide +kernel)
theorem strOk_tuple {ts : List Str} (h : ∀ t ∈ ts, PyData.strOk t = true) : PyData.strOk (tupleText ts) = true :=
  strOk_app (strOk_app (by decide +kernel) (strOk_of fun c hc => by
    rcases (mem_join ", " c ts).mp hc with ⟨t, ht, k⟩ | ⟨_, k⟩
    · exact of_strOk (h t ht) c k
    · exact of_strOk (x := (", " : Str)) (by decide +kernel) c k)) (by split <;> decide +kernel)
theorem zeros_ten : ∀ n < 11, PyData.strOk (reprText ⟨(List.replicate n 48).toArray⟩) = true := by decide +kernel
theorem zeros_eq {z : Str} (h : zeros z = true) : ∃ n < 11, z = ⟨(List.replicate n 48).toArray⟩ := by
  unfold zeros at h
  rw [Bool.and_eq_true] at h
  have h1 := of_decide_eq_true h.1
  have h2 : ∀ c ∈ z.cps.toList, c = 48 := fun c hc => by simpa using List.all_eq_true.mp h.2 c hc
  have h3 : z.cps.toList = List.replicate z.cps.toList.length 48 := List.eq_replicate_iff.mpr ⟨rfl, h2⟩
  have h4 : z.cps.toList.length = z.length := Array.length_toList
  refine ⟨z.length, by omega, ?_⟩
  cases z with
  | mk cs =>
    congr 1
    rw [← h4, ← h3]
structure NiceAll (d : PyData) (k : Nat) : Prop where
  sh : d.showable = true
  nd : d.hasDict = false
  dp : d.depth ≤ k
  lv : d.leavesShort 36 = true
  ok : PyData.strOk d.shown = true
  cl : d.canLay0 = true
  bk : d.bulk + 1 ≤ 11 * 11 ^ k
structure NiceL (l : List PyData) (k : Nat) : Prop where
  sh : PyData.showableAll l = true
  nd : PyData.hasDictAll l = false
  dp : PyData.depthAll l ≤ k
  lv : PyData.leavesShortAll 36 l = true
  ok : ∀ t ∈ PyData.shownAll l, PyData.strOk t = true
  cl : PyData.canLayAll0 l = true
  bk : PyData.bulkAll l ≤ l.length * (11 * 11 ^ k)
theorem niceL {k : Nat} (f : ∀ d, nice k d = true → NiceAll d k) : ∀ l : List PyData, l.all (nice k) = true → NiceL l k
  | [], _ => ⟨rfl, rfl, Nat.zero_le _, rfl, fun t ht => by simp [PyData.shownAll] at ht, rfl, by simp [PyData.bulkAll]⟩
  | d :: l, h => by
    rw [List.all_cons, Bool.and_eq_true_iff] at h
    have a := f d h.1
    have b := niceL f l h.2
    refine ⟨by simp [PyData.showableAll, a.sh, b.sh], by simp [PyData.hasDictAll, a.nd, b.nd], by simp only [PyData.depthAll]; have := a.dp; have := b.dp; omega, by simp [PyData.leavesShortAll, a.lv, b.lv], fun t ht => ?_, by simp [PyData.canLayAll0, a.cl, b.cl], ?_⟩
    · simp only [PyData.shownAll, List.mem_cons] at ht
      rcases ht with e | e
      · rw [e]; exact a.ok
      · exact b.ok t e
    · have h1 := a.bk
      have h2 := b.bk
      simp only [PyData.bulkAll, List.length_cons, Nat.add_mul, Nat.one_mul]
      omega
theorem nice_all : ∀ (k : Nat) (d : PyData), nice k d = true → NiceAll d k
  | k, .none, _ => ⟨rfl, rfl, Nat.zero_le _, rfl, by decide +kernel, rfl, by have := Nat.one_le_pow k 11 (by decide); simp only [PyData.bulk]; omega⟩
  | k, .bool b, _ => ⟨rfl, rfl, Nat.zero_le _, rfl, by cases b <;> decide +kernel, rfl, by have := Nat.one_le_pow k 11 (by decide); simp only [PyData.bulk]; omega⟩
  | k, .int i, h => by
    have hi : i.natAbs < 10 ^ 34 := by cases k <;> exact of_decide_eq_true h
    have hl : i.natAbs.log2 < 1920 := by
      by_cases h0 : i.natAbs = 0
      · rw [h0]; decide
      · have : i.natAbs.log2 < 200 := (Nat.log2_lt h0).mpr (Nat.lt_trans hi (by decide))
        omega
    refine ⟨by simp [PyData.showable, hl], rfl, Nat.zero_le _, ?_, strOk_int i, rfl, by have := Nat.one_le_pow k 11 (by decide); simp only [PyData.bulk]; omega⟩
    have e := int_text_length_le10 (k := 34) (by decide) hi
    have e2 : (PyData.shown (.int i)).length ≤ 35 := by
      unfold PyData.shown
      exact Nat.le_trans (Nat.le_of_eq (PySem.ofString_length _)) e
    simp only [PyData.leavesShort, decide_eq_true_eq]
    omega
  | k, .str z, h => by
    have hz : zeros z = true := by cases k <;> exact h
    obtain ⟨n, hn, rfl⟩ := zeros_eq hz
    have hs : PyData.strOk ⟨(List.replicate n 48).toArray⟩ = true := strOk_of fun c hc => by
      simp at hc
      omega
    refine ⟨rfl, rfl, Nat.zero_le _, ?_, zeros_ten n hn, hs, ?_⟩
    · simp [PyData.leavesShort]
    · have := Nat.one_le_pow k 11 (by decide)
      simp only [PyData.bulk, List.size_toArray, List.length_replicate]
      omega
  | k + 1, .list l, h => by
    unfold nice at h
    rw [Bool.and_eq_true] at h
    have hl := of_decide_eq_true h.1
    have a := niceL (nice_all k) l h.2
    refine ⟨by simpa [PyData.showable] using a.sh, by simpa [PyData.hasDict] using a.nd, by simp only [PyData.depth]; have := a.dp; omega, by simpa [PyData.leavesShort] using a.lv, ?_, by simpa [PyData.canLay0] using a.cl, ?_⟩
    · simp only [PyData.shown]
      exact strOk_list a.ok
    · have h1 := a.bk
      have h2 : l.length * (11 * 11 ^ k) ≤ 10 * (11 * 11 ^ k) := Nat.mul_le_mul_right _ hl
      have h3 := Nat.one_le_pow k 11 (by decide)
      simp only [PyData.bulk, Nat.pow_succ]
      omega
  | k + 1, .tuple l, h => by
    unfold nice at h
    rw [Bool.and_eq_true] at h
    have hl := of_decide_eq_true h.1
    have a := niceL (nice_all k) l h.2
    refine ⟨by simpa [PyData.showable] using a.sh, by simpa [PyData.hasDict] using a.nd, by simp only [PyData.depth]; have := a.dp; omega, by simpa [PyData.leavesShort] using a.lv, ?_, by simpa [PyData.canLay0] using a.cl, ?_⟩
    · simp only [PyData.shown]
      exact strOk_tuple a.ok
    · have h1 := a.bk
      have h2 : l.length * (11 * 11 ^ k) ≤ 10 * (11 * 11 ^ k) := Nat.mul_le_mul_right _ hl
      have h3 := Nat.one_le_pow k 11 (by decide)
      simp only [PyData.bulk, Nat.pow_succ]
      omega
  | 0, .list l, h => by cases h
  | 0, .tuple l, h => by cases h
  | 0, .dict _, h => by cases h
  | k + 1, .dict _, h => by cases h
theorem repr_nice {d : PyData} (h : nice 2 d = true) : fRepr [d] = some (.str d.shown) := by
  have a := nice_all 2 d h
  have b := PyData.shown_le_bulk 36 (by decide) d a.lv
  have c := a.bk
  have e : (11 : Nat) * 11 ^ 2 = 1331 := by decide
  have dp := a.dp
  have h1 : d.depth ≤ 60 := by omega
  have h2 : d.shown.length ≤ line := by
    show _ ≤ 100000
    omega
  simp [fRepr, a.sh, a.nd, h1, h2]
theorem ok_nice {d : PyData} (h : nice 2 d = true) : PyData.strOk d.shown = true := (nice_all 2 d h).ok
end K1

namespace K3
open PySem Mir L2 K1
/-! what any law's mathematics leans on -/
abbrev I (l : List Int) : List PyData := l.map PyData.int
theorem atn {α : Type} {xs : List α} (n : Nat) : atI xs (n : Int) = xs[n]? := by
  unfold atI ixN
  have h0 : (0 : Int) ≤ n := by omega
  rw [if_pos h0]
  by_cases h : (n : Int) < xs.length
  · rw [if_pos h]; simp
  · rw [if_neg h]
    have : xs.length ≤ n := by omega
    simp [List.getElem?_eq_none this]
theorem atn1 {α : Type} {xs : List α} (n : Nat) : atI xs ((n : Int) + 1) = xs[n + 1]? := atn (n + 1)
theorem at_0 {α : Type} {xs : List α} : atI xs 0 = xs[0]? := atn 0
theorem at_1 {α : Type} {xs : List α} : atI xs 1 = xs[1]? := atn 1
theorem at_m1 {α : Type} {xs : List α} : atI xs (-1) = xs.getLast? := by
  rw [List.getLast?_eq_getElem?]
  unfold atI ixN
  rw [if_neg (by omega)]
  by_cases h : -(xs.length : Int) ≤ -1
  · rw [if_pos h]
    have : ((-1 : Int) + xs.length).toNat = xs.length - 1 := by omega
    simp [this]
  · rw [if_neg h]
    have : xs.length = 0 := by omega
    have e : xs = [] := List.length_eq_zero_iff.mp this
    subst e
    rfl
theorem log_small {n k : Nat} (h : n < 2 ^ k) (hk : 0 < k) : n.log2 < k := by
  by_cases h0 : n = 0
  · subst h0; simpa using hk
  · exact (Nat.log2_lt h0).2 h
theorem fDiv_ok {a b : Int} (h : 0 < b) (h2 : b < 2 ^ 100) : fDiv [.int a, .int b] = some (.int (a / b)) := by
  have h3 : b.natAbs.log2 < 100 := log_small (by
    have : (b.natAbs : Int) = b := by omega
    have h4 : ((b.natAbs : Nat) : Int) < ((2 ^ 100 : Nat) : Int) := by rw [this]; exact_mod_cast h2
    exact_mod_cast h4) (by decide)
  have h4 : b.natAbs.log2 < 9000 := by omega
  simp [fDiv, fI2, h, h4]
theorem nat_lt_pow {a : Int} (k : Nat) (h : -(2 ^ k) < a) (h2 : a < 2 ^ k) : a.natAbs < 2 ^ k := by
  have e : ((2 ^ k : Nat) : Int) = (2 : Int) ^ k := by push_cast; rfl
  have : (a.natAbs : Int) < ((2 ^ k : Nat) : Int) := by rw [e]; omega
  exact_mod_cast this
theorem fMulA_ok {a b : Int} (h : -(2 ^ 200) < a) (h2 : a < 2 ^ 200) (h3 : -(2 ^ 200) < b) (h4 : b < 2 ^ 200) : fMulA [.int a, .int b] = some (.int (a * b)) := by
  have e1 := log_small (nat_lt_pow 200 h h2) (by decide)
  have e2 := log_small (nat_lt_pow 200 h3 h4) (by decide)
  have e3 : a.natAbs.log2 + b.natAbs.log2 < 1000000 := by omega
  simp [fMulA, e3]
theorem fEq_i {a b : Int} : fEq [.int a, .int b] = some (.bool (decide (a = b))) := by
  by_cases h : a = b
  · subst h; simp [fEq, okEq, SeqAt.shaped, PyData.canLay0, PyData.depth, PyData.eqv]
  · simp [fEq, okEq, SeqAt.shaped, PyData.canLay0, PyData.depth, PyData.eqv, h]
theorem fNe_i {a b : Int} : fNe [.int a, .int b] = some (.bool (!decide (a = b))) := by
  by_cases h : a = b
  · subst h; simp [fNe, okEq, SeqAt.shaped, PyData.canLay0, PyData.depth, PyData.eqv]
  · simp [fNe, okEq, SeqAt.shaped, PyData.canLay0, PyData.depth, PyData.eqv, h]
theorem fNe_s {a b : Str} (ha : PyData.strOk a = true) (hb : PyData.strOk b = true) : fNe [.str a, .str b] = some (.bool (!(a == b))) := by
  simp [fNe, okEq, SeqAt.shaped, PyData.canLay0, PyData.depth, PyData.eqv, ha, hb]
/-- lo, lo + 1, .. -/
def rg (lo : Nat) : Nat → List PyData
  | 0 => []
  | n + 1 => .int lo :: rg (lo + 1) n
theorem rangeD_rg : ∀ (n lo : Nat), rangeD lo n = rg lo n
  | 0, _ => rfl
  | n + 1, lo => by
    have ih := rangeD_rg n (lo + 1)
    unfold rangeD at ih ⊢
    rw [List.range_succ_eq_map, List.map_cons, List.map_map, rg, ← ih]
    congr 1
    apply List.map_congr_left
    intro a _
    show PyData.int _ = PyData.int _
    congr 1
    push_cast
    omega
theorem range0 (n : Nat) : rangeD 0 n = rg 0 n := rangeD_rg n 0
theorem noD_I (l : List Int) : (I l).all noDict = true := by simp [I, noDict]
theorem line_eq : line = 100000 := rfl
theorem le_line {n : Nat} (h : n ≤ 90000) : (n ≤ line) = True := eq_true (by rw [line_eq]; omega)
theorem lt_line {n : Nat} (h : n < 90000) : (n < line) = True := eq_true (by rw [line_eq]; omega)
theorem fLen_seq {v : PyData} {vs : List PyData} (h : seqE v = some vs) : fLen [v] = some (.int vs.length) := by cases v <;> cases h <;> rfl
theorem fTuple_seq {v : PyData} {vs : List PyData} (h : seqE v = some vs) : fTuple [v] = some (.tuple vs) := by cases v <;> cases h <;> rfl
theorem seqD_seq {v : PyData} {vs : List PyData} (h : seqE v = some vs) : seqD v = some vs := by cases v <;> cases h <;> rfl
def isBorO : Option (Option W) → Bool
  | some (some (.bor _)) => true
  | some (some (.bod _)) => true
  | _ => false
theorem isBor_O {δ : Mir.Env} {i : Nat} : isBor δ i = isBorO δ[i]? := rfl
@[simp] theorem bo_n : isBorO (some none) = false := rfl
@[simp] theorem bo_d (x : PyData) : isBorO (some (some (.d x))) = false := rfl
@[simp] theorem bo_own (x : List PyData) : isBorO (some (some (.own x))) = false := rfl
@[simp] theorem bo_bor (x : List PyData) : isBorO (some (some (.bor x))) = true := rfl
@[simp] theorem bo_dct (x : List PyData) : isBorO (some (some (.dct x))) = false := rfl
@[simp] theorem bo_bod (x : List PyData) : isBorO (some (some (.bod x))) = true := rfl
@[simp] theorem bo_lam (x : Nat) : isBorO (some (some (.lam x))) = false := rfl
@[simp] theorem bo_lams (x : List Nat) : isBorO (some (some (.lams x))) = false := rfl
@[simp] theorem bo_map (x : Option PyData) : isBorO (some (x.map W.d)) = false := by cases x <;> rfl
def dOnlyO : Option W → Option W
  | some w => if w.plain = true then some w else none
  | none => none
theorem dOnly_nil : dOnly [] = [] := rfl
theorem dOnly_cons (o : Option W) (δ : Mir.Env) : dOnly (o :: δ) = dOnlyO o :: dOnly δ := by cases o <;> rfl
@[simp] theorem do_n : dOnlyO none = none := rfl
@[simp] theorem do_d (x : PyData) : dOnlyO (some (.d x)) = some (.d x) := rfl
@[simp] theorem do_own (x : List PyData) : dOnlyO (some (.own x)) = none := rfl
@[simp] theorem do_bor (x : List PyData) : dOnlyO (some (.bor x)) = none := rfl
@[simp] theorem do_dct (x : List PyData) : dOnlyO (some (.dct x)) = none := rfl
@[simp] theorem do_bod (x : List PyData) : dOnlyO (some (.bod x)) = none := rfl
@[simp] theorem do_lam (x : Nat) : dOnlyO (some (.lam x)) = none := rfl
@[simp] theorem do_lams (x : List Nat) : dOnlyO (some (.lams x)) = none := rfl
@[simp] theorem do_map (x : Option PyData) : dOnlyO (x.map W.d) = x.map W.d := by cases x <;> rfl
theorem range_int {d : Den} {i : Int} {δ δ' : Mir.Env} (h : d δ = .ok (.int i) δ') (hb : big i = true) : iRange1 d δ = .ok (rangeD 0 i.toNat) δ' := by
  unfold iRange1
  simp only [h, q_bind_ok, hb, if_true]
theorem range_nat {d : Den} {n : Nat} {δ δ' : Mir.Env} (h : d δ = .ok (.int n) δ') (hl : n < 90000) : iRange1 d δ = .ok (rg 0 n) δ' := by
  have hb : big (n : Int) = true := by unfold big; rw [Bool.and_eq_true, decide_eq_true_eq, decide_eq_true_eq]; omega
  have e := range_int h hb
  have e2 : ((n : Nat) : Int).toNat = n := Int.toNat_natCast _
  rw [e2, range0] at e
  exact e
theorem range_same {d : Den} {n : Nat} {δ : Mir.Env} (h : d δ = .ok (.int n) δ) (hl : n < 90000) : iRange1 d δ = .ok (rg 0 n) δ := range_nat h hl
theorem fNe_refl {d : PyData} (h : SeqAt.shaped d = true) : fNe [d, d] = some (.bool false) := by
  simp [fNe, okEq, h, SeqAt.eqv_refl d (SeqAt.canLay_of_shaped h)]
theorem fEq_refl {d : PyData} (h : SeqAt.shaped d = true) : fEq [d, d] = some (.bool true) := by
  simp [fEq, okEq, h, SeqAt.eqv_refl d (SeqAt.canLay_of_shaped h)]
def isNum : PyData → Bool
  | .int i => decide (0 ≤ i)
  | _ => false

end K3

namespace K3
open PySem Mir L2 K1 PyProof.Rows
/-! what repr tells of values whose size is told by their weight -/
def wordL : List Str := ["take", "give", "0", "00", "full", "beaten", "", "both", "giving", "1", "request", "taking", "x", "2", "TAKE", "put", "smooth", "page", "deep"]
def words (z : Str) : Bool := wordL.contains z
def fit : Nat → PyData → Bool
  | _, .none => true
  | _, .bool _ => true
  | _, .int i => decide (i.natAbs < 10 ^ 60)
  | _, .str z => words z
  | k + 1, .list l => l.all (fit k)
  | k + 1, .tuple l => l.all (fit k)
  | _, _ => false
theorem words_all : ∀ z ∈ wordL, (PyData.str z).leavesShort 62 = true ∧ PyData.strOk (PyData.str z).shown = true ∧ (PyData.str z).canLay0 = true := by decide +kernel
theorem words_in {z : Str} (h : words z = true) : z ∈ wordL := by
  unfold words at h
  exact List.contains_iff_mem.mp h
structure FitAll (d : PyData) (k : Nat) : Prop where
  sh : d.showable = true
  nd : d.hasDict = false
  dp : d.depth ≤ k
  lv : d.leavesShort 62 = true
  ok : PyData.strOk d.shown = true
  cl : d.canLay0 = true
structure FitL (l : List PyData) (k : Nat) : Prop where
  sh : PyData.showableAll l = true
  nd : PyData.hasDictAll l = false
  dp : PyData.depthAll l ≤ k
  lv : PyData.leavesShortAll 62 l = true
  ok : ∀ t ∈ PyData.shownAll l, PyData.strOk t = true
  cl : PyData.canLayAll0 l = true
theorem fitL {k : Nat} (f : ∀ d, fit k d = true → FitAll d k) : ∀ l : List PyData, l.all (fit k) = true → FitL l k
  | [], _ => ⟨rfl, rfl, Nat.zero_le _, rfl, fun t ht => by simp [PyData.shownAll] at ht, rfl⟩
  | d :: l, h => by
    rw [List.all_cons, Bool.and_eq_true_iff] at h
    have a := f d h.1
    have b := fitL f l h.2
    refine ⟨by simp [PyData.showableAll, a.sh, b.sh], by simp [PyData.hasDictAll, a.nd, b.nd], by simp only [PyData.depthAll]; have := a.dp; have := b.dp; omega, by simp [PyData.leavesShortAll, a.lv, b.lv], fun t ht => ?_, by simp [PyData.canLayAll0, a.cl, b.cl]⟩
    simp only [PyData.shownAll, List.mem_cons] at ht
    rcases ht with e | e
    · rw [e]; exact a.ok
    · exact b.ok t e
theorem fit_all : ∀ (k : Nat) (d : PyData), fit k d = true → FitAll d k
  | k, .none, _ => ⟨rfl, rfl, Nat.zero_le _, rfl, by decide +kernel, rfl⟩
  | k, .bool b, _ => ⟨rfl, rfl, Nat.zero_le _, rfl, by cases b <;> decide +kernel, rfl⟩
  | k, .int i, h => by
    have hi : i.natAbs < 10 ^ 60 := by cases k <;> exact of_decide_eq_true h
    have hl : i.natAbs.log2 < 1920 := by
      by_cases h0 : i.natAbs = 0
      · rw [h0]; decide
      · have : i.natAbs.log2 < 200 := (Nat.log2_lt h0).mpr (Nat.lt_trans hi (by decide))
        omega
    refine ⟨by simp [PyData.showable, hl], rfl, Nat.zero_le _, ?_, strOk_int i, rfl⟩
    have e := int_text_length_le10 (k := 60) (by decide) hi
    have e2 : (PyData.shown (.int i)).length ≤ 61 := by
      unfold PyData.shown
      exact Nat.le_trans (Nat.le_of_eq (PySem.ofString_length _)) e
    simp only [PyData.leavesShort, decide_eq_true_eq]
    omega
  | k, .str z, h => by
    have hz : words z = true := by cases k <;> exact h
    have a := words_all z (words_in hz)
    exact ⟨rfl, rfl, Nat.zero_le _, a.1, a.2.1, a.2.2⟩
  | k + 1, .list l, h => by
    unfold fit at h
    have a := fitL (fit_all k) l h
    refine ⟨by simpa [PyData.showable] using a.sh, by simpa [PyData.hasDict] using a.nd, by simp only [PyData.depth]; have := a.dp; omega, by simpa [PyData.leavesShort] using a.lv, ?_, by simpa [PyData.canLay0] using a.cl⟩
    simp only [PyData.shown]
    exact strOk_list a.ok
  | k + 1, .tuple l, h => by
    unfold fit at h
    have a := fitL (fit_all k) l h
    refine ⟨by simpa [PyData.showable] using a.sh, by simpa [PyData.hasDict] using a.nd, by simp only [PyData.depth]; have := a.dp; omega, by simpa [PyData.leavesShort] using a.lv, ?_, by simpa [PyData.canLay0] using a.cl⟩
    simp only [PyData.shown]
    exact strOk_tuple a.ok
  | 0, .list l, h => by cases h
  | 0, .tuple l, h => by cases h
  | 0, .dict _, h => by cases h
  | k + 1, .dict _, h => by cases h
theorem repr_fit {d : PyData} {k : Nat} (h : fit k d = true) (hk : k ≤ 60) (hb : d.bulk ≤ 1500) : fRepr [d] = some (.str d.shown) := by
  have a := fit_all k d h
  have b := PyData.shown_le_bulk 62 (by decide) d a.lv
  have dp := a.dp
  have h1 : d.depth ≤ 60 := by omega
  have h2 : d.shown.length ≤ line := by
    show _ ≤ 100000
    omega
  simp [fRepr, a.sh, a.nd, h1, h2]
theorem ok_fit {d : PyData} {k : Nat} (h : fit k d = true) : PyData.strOk d.shown = true := (fit_all k d h).ok
theorem rn_fit {d : PyData} {k : Nat} (h : fit k d = true) : fNe [.str d.shown, .str d.shown] = some (.bool false) := by
  rw [fNe_s (ok_fit h) (ok_fit h)]
  simp
theorem fit_int {k : Nat} {i : Int} (h : -(10 ^ 60) < i) (h2 : i < 10 ^ 60) : fit k (.int i) = true := by
  have e : i.natAbs < 10 ^ 60 := by omega
  cases k <;> exact decide_eq_true e
theorem fit_I {k : Nat} {l : List Int} (h : ∀ d ∈ l, 0 ≤ d ∧ d < 10 ^ 60) : (I l).all (fit k) = true := by
  rw [List.all_eq_true]
  intro x hx
  obtain ⟨d, hd, rfl⟩ := List.mem_map.mp hx
  have := h d hd
  exact fit_int (by omega) (by omega)
theorem bulk_I : ∀ l : List Int, PyData.bulkAll (I l) = l.length
  | [] => rfl
  | x :: l => by
    show (PyData.int x).bulk + 1 + PyData.bulkAll (I l) = _
    rw [bulk_I l]
    show 0 + 1 + l.length = _
    simp; omega
end K3

namespace K65
open PySem Mir Gen L2 K1 K3 K6
/-! ### sizes, pages -/
def canSz : Int → Option Int → Bool
  | i, none => decide (1 ≤ i) && decide (i ≤ 64)
  | i, some j => decide (1 ≤ i) && decide (i ≤ 64) && (decide (j < i) && decide (i % j = 0))
def canPg : Int → Option Int → Bool
  | i, none => decide (0 ≤ i)
  | i, some j => decide (0 ≤ i) && decide (j < i)
def oD : Option Int → PyData
  | none => .none
  | some i => .int i
theorem m_is_number (x : PyData) (hx : noDict x = true) : den_is_number [.d x] = .ok (.d (.bool (isNum x))) [] := by
  cases x <;> first | rfl | cases hx
theorem m_is_sequence (x : PyData) (hx : noDict x = true) : den_is_sequence [.d x] = .ok (.d (.bool (seqE x).isSome)) [] := by
  cases x <;> first | rfl | cases hx
theorem m_can_size {i : Int} {a : Option Int} (ha : ∀ j, a = some j → 0 < j) : den__can_be_size [.d (.int i), .d (oD a)] = .ok (.d (.bool (canSz i a))) [] := by
  have h := m_is_number (.int i) rfl
  simp only [isNum] at h
  unfold den__can_be_size body__can_be_size
  generalize den_is_number = D at h ⊢
  cases a with
  | none =>
    by_cases h0 : 0 ≤ i <;> by_cases h1 : 1 ≤ i <;> by_cases h2 : i ≤ 64 <;> simp [oD, h, h0, h1, h2, fIsN, canSz] <;> omega
  | some j =>
    have hj := ha j rfl
    by_cases h0 : 0 ≤ i <;> by_cases h1 : 1 ≤ i <;> by_cases h2 : i ≤ 64 <;> by_cases h3 : j < i <;> simp [oD, h, h0, h1, h2, h3, fIsN, canSz, q_fMod hj, fEq_i] <;> omega
theorem m_can_page {i : Int} {a : Option Int} : den__can_be_page [.d (.int i), .d (oD a)] = .ok (.d (.bool (canPg i a))) [] := by
  have h := m_is_number (.int i) rfl
  simp only [isNum] at h
  unfold den__can_be_page body__can_be_page
  generalize den_is_number = D at h ⊢
  cases a with
  | none => by_cases h0 : 0 ≤ i <;> simp [oD, h, h0, fIsN, canPg]
  | some j => by_cases h0 : 0 ≤ i <;> by_cases h3 : j < i <;> simp [oD, h, h0, h3, fIsN, canPg]
/-- each may follow the one ahead -/
def okAll (can : Int → Option Int → Bool) : Option Int → List Int → Bool
  | _, [] => true
  | a, x :: l => can x a && okAll can (some x) l
abbrev tabC : Nat → Option (Nat × (List W → RF)) := tab1 5 2 den__can_be_page (tab1 4 2 den__can_be_size tab0)
/-- what is told of one of the two tests -/
structure Test (k : Nat) (can : Int → Option Int → Bool) (P : Int → Prop) : Prop where
  at_ : ∃ D, tabC k = some (2, D) ∧ ∀ (i : Int) (a : Option Int), (∀ j, a = some j → P j) → D [.d (.int i), .d (oD a)] = .ok (.d (.bool (can i a))) []
  up : ∀ i a, can i a = true → P i
theorem test_size : Test 4 canSz (0 < ·) := ⟨⟨_, rfl, fun i a h => m_can_size h⟩, fun i a h => by
  cases a <;> simp [canSz] at h <;> omega⟩
theorem test_page : Test 5 canPg (fun _ => True) := ⟨⟨_, rfl, fun i a _ => m_can_page⟩, fun _ _ _ => trivial⟩
theorem fw_loop {k : Nat} {can : Int → Option Int → Bool} {P : Int → Prop} (T : Test k can P) (v : PyData) : ∀ (l : List Int) (a : Option Int) (n : Nat) (x3 x4 : Option PyData), (∀ j, a = some j → P j) → okAll can a l = true →
    ∃ (y : PyData) (x3' x4' : Option PyData), forD (.tup [3, 4]) (sSeq (sIf (bNot (bE (eW (wCallL 1 tabC (aCons (aEx (dVar 4)) (aCons (aEx (dVar 2)) aNil)))))) (sRet (wMove 3)) sNil) (sSet 2 (wE (dVar 4)))) (enumF n (I l)) [some (.d v), some (.fn k), some (.d (oD a)), x3.map W.d, x4.map W.d] =
      .nx [some (.d v), some (.fn k), some (.d y), x3'.map W.d, x4'.map W.d]
  | [], a, n, x3, x4, _, _ => ⟨_, _, _, rfl⟩
  | x :: l, a, n, x3, x4, ha, hl => by
    obtain ⟨D, h1, h2⟩ := T.at_
    unfold okAll at hl
    rw [Bool.and_eq_true] at hl
    obtain ⟨y, x3', x4', ih⟩ := fw_loop T v l (some x) (n + 1) (some (.int n)) (some (.int x)) (fun j e => by cases e; exact T.up _ _ hl.1) hl.2
    refine ⟨y, x3', x4', ?_⟩
    have h3 := h2 x a ha
    rw [hl.1] at h3
    rw [← ih]
    generalize tabC = tc at h1 ⊢
    simp [-q_isBor, isBor_O, h1, h3]
    rfl
theorem m_first_wrong {k : Nat} {can : Int → Option Int → Bool} {P : Int → Prop} (T : Test k can P) {x : PyData} {l : List Int} (hx : seqE x = some (I l)) (hl : okAll can none l = true) : den__first_wrong [.d x, .fn k] = .ok (.d .none) [] := by
  obtain ⟨y, x3, x4, h⟩ := fw_loop T x l none 0 none none (fun j e => by cases e) hl
  have hs := seqD_seq hx
  simp only [Option.map_none, oD] at h
  unfold den__first_wrong body__first_wrong
  simp [-q_isBor, isBor_O, hs]
  rw [h]
  simp
theorem ok_chain : ∀ (l : List Int) (p : Int), 0 < p → chain p l → okAll canSz (some p) l = true
  | [], _, _, _ => rfl
  | x :: l, p, hp, ⟨h1, h2, h3, h4⟩ => by
    unfold okAll
    rw [ok_chain l x (by omega) h4]
    simp [canSz, h1, h2, h3]
    omega
theorem Sz.okAll {L : List Int} (h : Sz L) : okAll canSz none L = true := by
  obtain ⟨a, t, rfl, h1, h2, h3, h4⟩ := h.ex
  unfold K65.okAll
  rw [ok_chain t a (by omega) h3]
  simp [canSz, h1, h2]
theorem noD_of {x : PyData} {l : List PyData} (hx : seqE x = some l) : noDict x = true := by cases x <;> first | rfl | cases hx
theorem m_sizes {x : PyData} {L : List Int} (h : Sz L) (hx : seqE x = some (I L)) : den_check_sizes [.d x] = .ok (.d (.tuple (I L))) [] := by
  have h1 := m_is_sequence x (noD_of hx)
  have h2 := m_first_wrong test_size hx (Sz.okAll h)
  have hl := fLen_seq hx
  have ht := fTuple_seq hx
  have hn := h.len
  rw [hx] at h1
  have c1 : (1 : Int) ≤ L.length := by omega
  have c2 : (L.length : Int) ≤ 5 := by omega
  unfold den_check_sizes body_check_sizes
  generalize den_is_sequence = D1 at h1 ⊢
  generalize den__first_wrong = D2 at h2 ⊢
  simp [-q_isBor, isBor_O, h1, h2, hl, ht, c1, c2, fNotN]
/-- pages that can be -/
def Pg (p : List Int) : Prop := okAll canPg none p = true ∧ p.length ≤ 64
theorem m_pages {x : PyData} {p : List Int} (h : Pg p) (hx : seqE x = some (I p)) : den_check_pages [.d x] = .ok (.d (.tuple (I p))) [] := by
  have h1 := m_is_sequence x (noD_of hx)
  have h2 := m_first_wrong test_page hx h.1
  have hl := fLen_seq hx
  have ht := fTuple_seq hx
  have hn := h.2
  rw [hx] at h1
  have c2 : ¬ (64 : Int) < p.length := by omega
  unfold den_check_pages body_check_pages
  generalize den_is_sequence = D1 at h1 ⊢
  generalize den__first_wrong = D2 at h2 ⊢
  simp [-q_isBor, isBor_O, h1, h2, hl, ht, c2, fNotN]
theorem m_need_x {x : PyData} (hx : noDict x = true) : den_need_number [.d x] = if isNum x then .ok (.d x) [] else .exc 2 x [] := by
  have h := m_is_number x hx
  unfold den_need_number body_need_number
  generalize den_is_number = D at h ⊢
  cases e : isNum x <;> rw [e] at h <;> simp [-q_isBor, isBor_O, h]
end K65

namespace K65
open PySem Mir Gen L2 K1 K3 K6
/-! ### the law's own defs: draws -/
/-- the box that draws are taken out of -/
def Box (l : List PyData) : Prop := ∃ g r : Int, l = [.int g, .int r] ∧ 0 ≤ g ∧ 1 ≤ r ∧ r ≤ 2147483587
theorem take_ok {l : List PyData} {many : Int} (hb : Box l) (h0 : 0 < many) (h1 : many < 2 ^ 100) : ∃ (d : Int) (l' : List PyData), den__law_take [.bor l, .d (.int many)] = .ok (.d (.int d)) l' ∧ 0 ≤ d ∧ d < many ∧ Box l' := by
  obtain ⟨g, r, rfl, g0, r1, r2⟩ := hb
  unfold den__law_take body__law_take
  by_cases c : 0 < g
  · refine ⟨g % many, [.int (g / many), .int r], ?_, Int.emod_nonneg _ (by omega), Int.emod_lt_of_pos _ h0, g / many, r, rfl, Int.ediv_nonneg g0 (by omega), r1, r2⟩
    simp [at_0, c, q_fMod h0, fDiv_ok h0 h1, ixN]
  · have e1 := fMulA_ok (a := r) (b := 40692) (by omega) (by omega) (by omega) (by omega)
    have b1 := Int.emod_nonneg (r * 40692 + 97) (show (2147483399 : Int) ≠ 0 by decide)
    have b2 := Int.emod_lt_of_pos (r * 40692 + 97) (show (0 : Int) < 2147483399 by decide)
    generalize hraw : (r * 40692 + 97) % 2147483399 = raw at b1 b2
    have e2 := fMulA_ok (a := raw) (b := 40014) (by omega) (by omega) (by omega) (by omega)
    have e3 := fMulA_ok (a := raw) (b := 2147483629) (by omega) (by omega) (by omega) (by omega)
    have b3 := Int.emod_nonneg (raw * 40014 + 11) (show (2147483587 : Int) ≠ 0 by decide)
    have b4 := Int.emod_lt_of_pos (raw * 40014 + 11) (show (0 : Int) < 2147483587 by decide)
    refine ⟨(raw * 2147483629 + ((raw * 40014 + 11) % 2147483587 + 1)) / 8209 % many, [.int g, .int ((raw * 40014 + 11) % 2147483587 + 1)], ?_, Int.emod_nonneg _ (by omega), Int.emod_lt_of_pos _ h0, g, _, rfl, g0, by omega, by omega⟩
    simp [at_0, at_1, c, q_fMod h0, e1, q_fMod (show (0 : Int) < 2147483399 by decide), hraw, e2, e3, q_fMod (show (0 : Int) < 2147483587 by decide), ixN, fDiv_ok (show (0 : Int) < 8209 by decide) (by decide)]
theorem pick_ok {l vs : List PyData} {x : PyData} (hb : Box l) (hx : seqE x = some vs) (h0 : 0 < vs.length) (h1 : vs.length < 1000) : ∃ (v : PyData) (l' : List PyData), den__law_pick [.bor l, .d x] = .ok (.d v) l' ∧ v ∈ vs ∧ Box l' := by
  obtain ⟨d, l', h, d0, d1, hb'⟩ := take_ok (many := (vs.length : Int)) hb (by omega) (by omega)
  obtain ⟨k, rfl⟩ : ∃ k : Nat, d = k := ⟨d.toNat, by omega⟩
  have hk : k < vs.length := by omega
  have g : fIx [x, .int (k : Int)] = some vs[k] := by
    have g2 : atI vs (k : Int) = some vs[k] := by rw [atn]; exact List.getElem?_eq_getElem hk
    cases x <;> cases hx <;> exact g2
  refine ⟨vs[k], l', ?_, List.getElem_mem hk, hb'⟩
  unfold den__law_pick body__law_pick
  simp [fLen_seq hx, h, g]
theorem chain_snoc : ∀ (l : List Int) (p y z : Int), chain p l → (p :: l).getLast? = some z → z < y → y % z = 0 → y ≤ 64 → chain p (l ++ [y])
  | [], p, y, z, _, hz, h1, h2, h3 => by
    have e : p = z := by simpa using hz
    subst e
    exact ⟨h1, h3, h2, trivial⟩
  | x :: l, p, y, z, ⟨k1, k2, k3, k4⟩, hz, h1, h2, h3 => ⟨k1, k2, k3, chain_snoc l x y z k4 (by rw [List.getLast?_cons_cons] at hz; exact hz) h1 h2 h3⟩
theorem _root_.K1.Sz.snoc {L : List Int} {z q : Int} (h : Sz L) (hz : L.getLast? = some z) (hq : 2 ≤ q) (h64 : z * q ≤ 64) (hl : L.length < 5) : Sz (L ++ [z * q]) := by
  obtain ⟨j, hj⟩ : ∃ j, L[j]? = some z := ⟨L.length - 1, by rw [← List.getLast?_eq_getElem?]; exact hz⟩
  obtain ⟨p1, p2⟩ := h.at hj
  obtain ⟨a, t, rfl, h1, h2, h3, h4⟩ := h.ex
  have h5 : z * 2 ≤ z * q := Int.mul_le_mul_of_nonneg_left hq (by omega)
  exact ⟨a, t ++ [z * q], rfl, h1, h2, chain_snoc t a _ z h3 hz (by omega) (Int.mul_emod_right ..) h64, by simp at hl ⊢; omega⟩
theorem _root_.K1.Sz.one {a : Int} (h1 : 1 ≤ a) (h2 : a ≤ 64) : Sz [a] := ⟨a, [], rfl, h1, h2, trivial, by simp⟩
theorem q_fModI {a b : Int} (h : 0 < b) : fMod [.int a, .int b] = some (.int (a % b)) := q_fMod h
theorem abs_ok {a : Int} : 0 ≤ (if a < 0 then -a else a) := by split <;> omega
def bx_1 : DenS := (sSet 2 (wOp2 fAddA (aEx (dOp2 fMulA (aEx (dC (.int 9719))) (aSl 1))) (aEx (dC (.int 6301)))))
def bx_2 : DenS := (sIf (bE (dOp2 fLt (aSl 1) (aEx (dApp fLen (aCons (aSl 0) aNil))))) (sSet 2 (wE (dApp fAbs (aCons (aEx (dApp fInt (aCons (aEx (dOp2 fIx (aSl 0) (aSl 1))) aNil))) aNil)))) (sIf (bE (dOp2 fGt (aEx (dApp fLen (aCons (aSl 0) aNil))) (aEx (dC (.int 0))))) (sSet 2 (wOp2 fAddA (aSl 2) (aEx (dOp2 fMulA (aEx (dOp2 fMod (aEx (dApp fInt (aCons (aEx (dApp fAbs (aCons (aEx (dApp fInt (aCons (aEx (dOp2 fIx (aSl 0) (aEx (dOp2 fMod (aEx (dApp fInt (aCons (aSl 1) aNil))) (aEx (dApp fLen (aCons (aSl 0) aNil))))))) aNil))) aNil))) aNil))) (aEx (dC (.int 2147483587))))) (aEx (dC (.int 13087))))))) sNil))
def bx_3 : DenS := (sSet 3 (wE (dIf (bE (dOp2 fGe (aSl 2) (aEx (dOp2 fPow (aEx (dC (.int 10))) (aEx (dC (.int 18))))))) (dVar 2) (dC (.int 0)))))
def bx_4 : DenS := (sRet (wList (aCons (aEx (dVar 3)) (aCons (aEx (eW (wOp2 fAddA (aEx (dOp2 fMod (aEx (dApp fInt (aCons (aEx (eW (wOp2 fAddA (aEx (dOp2 fMulA (aEx (dOp2 fMod (aEx (dApp fInt (aCons (aSl 2) aNil))) (aEx (dC (.int 2147483587))))) (aEx (dC (.int 69069))))) (aEx (dOp2 fMulA (aEx (dC (.int 6301))) (aSl 1)))))) aNil))) (aEx (dC (.int 2147483587))))) (aEx (dC (.int 1)))))) aNil))))
def bx : DenS := (sSeq bx_1 (sSeq bx_2 (sSeq bx_3 bx_4)))
theorem bx_eq : body__law_box = bx := rfl
/-- what a box is made of -/
theorem box_of {c : Int} {k : Nat} (hc : 0 ≤ c) : Box [.int (if 1000000000000000000 ≤ c then c else 0), .int ((c % 2147483587 * 69069 + 6301 * k) % 2147483587 + 1)] := by
  have b1 := Int.emod_nonneg (c % 2147483587 * 69069 + 6301 * k) (show (2147483587 : Int) ≠ 0 by decide)
  have b2 := Int.emod_lt_of_pos (c % 2147483587 * 69069 + 6301 * k) (show (0 : Int) < 2147483587 by decide)
  refine ⟨_, _, rfl, ?_, by omega, by omega⟩
  split <;> omega
theorem bx_2_ok {s : List Int} {k : Nat} (hk : k < 1000) (hs : s.length < 1000) {c0 : Int} (h0 : 0 ≤ c0) : ∃ c : Int, bx_2 [some (.d (.list (I s))), some (.d (.int k)), some (.d (.int c0)), none] = .nx [some (.d (.list (I s))), some (.d (.int k)), some (.d (.int c)), none] ∧ 0 ≤ c := by
  by_cases c : k < s.length
  · have g : s[k]? = some s[k] := List.getElem?_eq_getElem c
    have g2 : atI (I s) (k : Int) = some (.int s[k]) := by rw [atn]; simp [g]
    have c' : (k : Int) < (s.length : Int) := by omega
    refine ⟨_, ?_, abs_ok (a := s[k])⟩
    unfold bx_2
    simp [-q_isBor, isBor_O, c', g2]
  · have c' : ¬ (k : Int) < (s.length : Int) := by omega
    by_cases c3 : 0 < s.length
    · have c3' : (0 : Int) < (s.length : Int) := by omega
      have b1 := Int.emod_nonneg (k : Int) (show (s.length : Int) ≠ 0 by omega)
      have b2 := Int.emod_lt_of_pos (k : Int) c3'
      obtain ⟨j, hj⟩ : ∃ j : Nat, (k : Int) % (s.length : Int) = j := ⟨((k : Int) % (s.length : Int)).toNat, by omega⟩
      have hjl : j < s.length := by omega
      have g : s[j]? = some s[j] := List.getElem?_eq_getElem hjl
      have g2 : atI (I s) (j : Int) = some (.int s[j]) := by rw [atn]; simp [g]
      have qm := q_fMod (a := (k : Int)) c3'
      rw [hj] at qm
      have ha := abs_ok (a := s[j])
      refine ⟨c0 + (if s[j] < 0 then -s[j] else s[j]) % 2147483587 * 13087, ?_, ?_⟩
      · generalize hz : (if s[j] < 0 then -s[j] else s[j]) = z at ha
        have b3 := Int.emod_nonneg z (show (2147483587 : Int) ≠ 0 by decide)
        have b4 := Int.emod_lt_of_pos z (show (0 : Int) < 2147483587 by decide)
        have m := fMulA_ok (a := z % 2147483587) (b := 13087) (by omega) (by omega) (by omega) (by omega)
        have qz := q_fMod (a := z) (show (0 : Int) < 2147483587 by decide)
        unfold bx_2
        have hne : s ≠ [] := fun e => by rw [e] at c3; simp at c3
        simp [-q_isBor, isBor_O, c', c3', c3, hne, qm, g2, hz, qz, m]
      · have b3 := Int.emod_nonneg (if s[j] < 0 then -s[j] else s[j]) (show (2147483587 : Int) ≠ 0 by decide)
        omega
    · have c3' : ¬ (0 : Int) < (s.length : Int) := by omega
      refine ⟨c0, ?_, h0⟩
      have e : s = [] := List.length_eq_zero_iff.mp (by omega)
      subst e
      unfold bx_2
      simp [-q_isBor, isBor_O]
      omega
theorem law_box_ok {s : List Int} {k : Nat} (hk : k < 1000) (hs : s.length < 1000) : ∃ l, den__law_box [.d (.list (I s)), .d (.int k)] = .ok (.own l) [] ∧ Box l := by
  have hp : fPow [.int 10, .int 18] = some (.int 1000000000000000000) := by
    have e : (10 : Int) ^ 18 = 1000000000000000000 := by decide
    simp [fPow, fI2, e]
  have m1 := fMulA_ok (a := 9719) (b := (k : Int)) (by omega) (by omega) (by omega) (by omega)
  have m2 := fMulA_ok (a := 6301) (b := (k : Int)) (by omega) (by omega) (by omega) (by omega)
  have e1 : bx_1 [some (.d (.list (I s))), some (.d (.int k)), none, none] = .nx [some (.d (.list (I s))), some (.d (.int k)), some (.d (.int (9719 * k + 6301))), none] := by
    unfold bx_1
    simp [-q_isBor, isBor_O, m1]
  obtain ⟨c, e2, hc⟩ := bx_2_ok hk hs (show (0 : Int) ≤ 9719 * k + 6301 by omega)
  have e3 : bx_3 [some (.d (.list (I s))), some (.d (.int k)), some (.d (.int c)), none] = .nx [some (.d (.list (I s))), some (.d (.int k)), some (.d (.int c)), some (.d (.int (if 1000000000000000000 ≤ c then c else 0)))] := by
    unfold bx_3
    by_cases h : 1000000000000000000 ≤ c <;> simp [-q_isBor, isBor_O, hp, h]
  refine ⟨_, ?_, box_of (k := k) hc⟩
  have b1 := Int.emod_nonneg c (show (2147483587 : Int) ≠ 0 by decide)
  have b2 := Int.emod_lt_of_pos c (show (0 : Int) < 2147483587 by decide)
  have q1 := q_fMod (a := c) (show (0 : Int) < 2147483587 by decide)
  have q2 := q_fMod (a := c % 2147483587 * 69069 + 6301 * k) (show (0 : Int) < 2147483587 by decide)
  have m3 := fMulA_ok (a := c % 2147483587) (b := 69069) (by omega) (by omega) (by omega) (by omega)
  unfold den__law_box
  rw [bx_eq, q_runF]
  have ev : envOf 4 [.d (.list (I s)), .d (.int k)] = [some (.d (.list (I s))), some (.d (.int k)), none, none] := rfl
  rw [ev]
  unfold bx
  rw [q_seq, e1, q_then_nx, q_seq, e2, q_then_nx, q_seq, e3, q_then_nx]
  generalize (if 1000000000000000000 ≤ c then c else 0) = g
  unfold bx_4
  simp [q1, q2, m2, m3, le_line]
end K65

namespace K65
open PySem Mir Gen L2 K1 K3 K6
/-! the sizes that are drawn -/
def lz_1 : DenS := (sSet 3 (wOp2 fAddA (aSl 2) (aEx (eW (wCallB 2 0 den__law_take (aCons (aSl 0) (aCons (aEx (dOp2 fSub (aEx (dC (.int 5))) (aSl 2))) aNil)))))))
def lz_2 : DenS := (sSet 4 (wList (aCons (aEx (eW (wCallB 2 0 den__law_pick (aCons (aSl 0) (aCons (aEx (eW (wList (aCons (aEx (dC (.int 1))) (aCons (aEx (dC (.int 1))) (aCons (aEx (dC (.int 1))) (aCons (aEx (dC (.int 2))) (aCons (aEx (dC (.int 3))) aNil)))))))) aNil))))) aNil)))
def lz_3b_1 : DenS := (sSet 6 (wE (dOp2 fMulA (aEx (dOp2 fIx (aSl 4) (aSl 5))) (aEx (eW (wCallB 2 0 den__law_pick (aCons (aSl 0) (aCons (aEx (eW (wList (aCons (aEx (dC (.int 2))) (aCons (aEx (dC (.int 2))) (aCons (aEx (dC (.int 3))) (aCons (aEx (dC (.int 2))) (aCons (aEx (dC (.int 4))) aNil)))))))) aNil))))))))
def lz_3b_2 : DenS := (sIf (bOr (bE (dOp2 fGt (aSl 6) (aEx (dOp2 fMulA (aSl 1) (aEx (dOp2 fIx (aSl 4) (aEx (dC (.int 0))))))))) (bE (dOp2 fGt (aSl 6) (aEx (dC (.int 64)))))) (fun δ => .brk δ) sNil)
def lz_3b_3 : DenS := (sExpr (dAppend 4 (dVar 6)))
def lz_3b : DenS := (sSeq lz_3b_1 (sSeq lz_3b_2 lz_3b_3))
def lz_3 : DenS := (sFor (.nm 5) (iRange1 (dOp2 fSub (aSl 3) (aEx (dC (.int 1))))) lz_3b)
def lz_4 : DenS := (sIf (bE (dOp2 fLt (aEx (dApp fLen (aCons (aSl 4) aNil))) (aSl 2))) (sSet 4 (wSl (aEx (eW (wLc (.nm 7) (iSeq (dTup (aCons (aEx (dC (.int 1))) (aCons (aEx (dC (.int 2))) (aCons (aEx (dC (.int 4))) (aCons (aEx (dC (.int 8))) aNil)))))) tYesD (dOp2 fMulA (aEx (dOp2 fIx (aSl 4) (aEx (dC (.int 0))))) (aSl 7))))) oNone (oSome (aSl 2)))) sNil)
def lz_5 : DenS := (sRet (wE (dApp fTuple (aCons (aSl 4) aNil))))
def lz : DenS := (sSeq lz_1 (sSeq lz_2 (sSeq lz_3 (sSeq lz_4 lz_5))))
theorem lz_eq : body__law_sizes = lz := rfl
theorem sizes_loop : ∀ (n j : Nat) (L : List Int) (l : List PyData) (m : PyData) (x5 x6 : Option PyData), Box l → Sz L → L.length = j + 1 → L.length + n ≤ 5 →
    ∃ (L' : List Int) (l' : List PyData) (x5' x6' : Option PyData), forD (.nm 5) lz_3b (rg j n) [some (.bor l), some (.d (.int 20)), some (.d (.int 1)), some (.d m), some (.own (I L)), x5.map W.d, x6.map W.d, none] =
      .nx [some (.bor l'), some (.d (.int 20)), some (.d (.int 1)), some (.d m), some (.own (I L')), x5'.map W.d, x6'.map W.d, none] ∧ Box l' ∧ Sz L'
  | 0, j, L, l, m, x5, x6, hb, hL, _, _ => ⟨L, l, x5, x6, rfl, hb, hL⟩
  | n + 1, j, L, l, m, x5, x6, hb, hL, hj, hn => by
    obtain ⟨z, hz⟩ : ∃ z, L.getLast? = some z := by
      obtain ⟨a, t, rfl, _⟩ := hL.ex
      exact ⟨_, List.getLast?_eq_getLast (List.cons_ne_nil a t)⟩
    have hz2 : L[j]? = some z := by
      rw [List.getLast?_eq_getElem?, hj] at hz
      exact hz
    obtain ⟨p1, p2⟩ := hL.at hz2
    have gz : atI (I L) (j : Int) = some (.int z) := by rw [atn]; simp [hz2]
    obtain ⟨f1, f2, f3, f4, f5, f6⟩ := sz_facts hL
    have f7 := (f6 _ f2).2.2.2
    have g0 : atI (I L) 0 = some (.int (hd L)) := by
      obtain ⟨a, t, rfl, _⟩ := hL.ex
      rw [at_0]
      rfl
    have gm0 := fMulA_ok (a := 20) (b := hd L) (by omega) (by omega) (by omega) (by omega)
    obtain ⟨v, l1, hp, hv, hb1⟩ := pick_ok (vs := [.int 2, .int 2, .int 3, .int 2, .int 4]) (x := .list [.int 2, .int 2, .int 3, .int 2, .int 4]) hb rfl (by simp) (by simp)
    obtain ⟨q, rfl, q2, qm⟩ : ∃ q : Int, v = .int q ∧ 2 ≤ q ∧ q ≤ 4 := by
      simp at hv
      rcases hv with e | e | e | e <;> first | exact ⟨2, e, by omega, by omega⟩ | exact ⟨3, e, by omega, by omega⟩ | exact ⟨4, e, by omega, by omega⟩
    have gm := fMulA_ok (a := z) (b := q) (by omega) (by omega) (by omega) (by omega)
    have st : setD 5 (.int (j : Nat)) [some (.bor l), some (.d (.int 20)), some (.d (.int 1)), some (.d m), some (.own (I L)), x5.map W.d, x6.map W.d, none] = some [some (.bor l), some (.d (.int 20)), some (.d (.int 1)), some (.d m), some (.own (I L)), some (.d (.int (j : Nat))), x6.map W.d, none] := by
      simp only [q_setD, isBor_O]
      simp
    rw [rg, q_for_cons, q_bind_nm, st, q_ofO]
    have s1 : lz_3b_1 [some (.bor l), some (.d (.int 20)), some (.d (.int 1)), some (.d m), some (.own (I L)), some (.d (.int (j : Nat))), x6.map W.d, none] = .nx [some (.bor l1), some (.d (.int 20)), some (.d (.int 1)), some (.d m), some (.own (I L)), some (.d (.int (j : Nat))), some (.d (.int (z * q))), none] := by
      unfold lz_3b_1
      generalize z * q = zq at gm ⊢
      generalize I L = w at gz g0 ⊢
      generalize fMulA = G at gm ⊢
      generalize den__law_pick = D2 at hp ⊢
      generalize (j : Int) = jj at gz ⊢
      cases x6 <;> simp [-q_isBor, isBor_O, gz, gm, hp, le_line]
    have gl : (I L).length < 90000 := by simp; omega
    unfold lz_3b
    rw [q_seq, s1, q_then_nx, q_seq]
    generalize hzq : z * q = zq
    by_cases c : 20 * hd L < zq ∨ 64 < zq
    · refine ⟨L, l1, some (.int j), some (.int zq), ?_, hb1, hL⟩
      have s2 : lz_3b_2 [some (.bor l1), some (.d (.int 20)), some (.d (.int 1)), some (.d m), some (.own (I L)), some (.d (.int (j : Nat))), some (.d (.int zq)), none] = .brk [some (.bor l1), some (.d (.int 20)), some (.d (.int 1)), some (.d m), some (.own (I L)), some (.d (.int (j : Nat))), some (.d (.int zq)), none] := by
        unfold lz_3b_2
        generalize hd L = h0 at g0 gm0 c
        generalize I L = w at gz g0 ⊢
        generalize fMulA = G at gm0 ⊢
        rcases c with c | c
        · simp [-q_isBor, isBor_O, g0, gm0, c]
        · by_cases c2 : 20 * h0 < zq <;> simp [-q_isBor, isBor_O, g0, gm0, c, c2]
      rw [s2, q_then_brk, q_loop_brk]
      rfl
    · have c1 : ¬ 20 * hd L < zq := fun k => c (.inl k)
      have c2 : ¬ 64 < zq := fun k => c (.inr k)
      have hS := hL.snoc hz q2 (by omega) (by omega)
      rw [hzq] at hS
      obtain ⟨L', l', x5', x6', ih, hb', hL'⟩ := sizes_loop n (j + 1) (L ++ [zq]) l1 m (some (.int j)) (some (.int zq)) hb1 hS (by simp; omega) (by simp; omega)
      refine ⟨L', l', x5', x6', ?_, hb', hL'⟩
      have s2 : lz_3b_2 [some (.bor l1), some (.d (.int 20)), some (.d (.int 1)), some (.d m), some (.own (I L)), some (.d (.int (j : Nat))), some (.d (.int zq)), none] = .nx [some (.bor l1), some (.d (.int 20)), some (.d (.int 1)), some (.d m), some (.own (I L)), some (.d (.int (j : Nat))), some (.d (.int zq)), none] := by
        unfold lz_3b_2
        generalize hd L = h0 at g0 gm0 c1
        generalize I L = w at gz g0 ⊢
        generalize fMulA = G at gm0 ⊢
        simp [-q_isBor, isBor_O, g0, gm0, c1, c2]
      have e : I (L ++ [zq]) = I L ++ [.int zq] := by simp
      have s3 : lz_3b_3 [some (.bor l1), some (.d (.int 20)), some (.d (.int 1)), some (.d m), some (.own (I L)), some (.d (.int (j : Nat))), some (.d (.int zq)), none] = .nx [some (.bor l1), some (.d (.int 20)), some (.d (.int 1)), some (.d m), some (.own (I (L ++ [zq]))), some (.d (.int (j : Nat))), some (.d (.int zq)), none] := by
        rw [e]
        unfold lz_3b_3
        generalize I L = w at gl ⊢
        simp [-q_isBor, isBor_O, lt_line gl]
      rw [s2, q_then_nx, s3, q_loop_nx]
      exact ih
theorem law_sizes_ok {l : List PyData} (hb : Box l) : ∃ (L : List Int) (l' : List PyData), den__law_sizes [.bor l, .d (.int 20), .d (.int 1)] = .ok (.d (.tuple (I L))) l' ∧ Box l' ∧ Sz L := by
  obtain ⟨d, l1, ht, d0, d1, hb1⟩ := take_ok (many := 4) hb (by decide) (by decide)
  obtain ⟨k, rfl⟩ : ∃ k : Nat, d = k := ⟨d.toNat, by omega⟩
  obtain ⟨v, l2, hp, hv, hb2⟩ := pick_ok (vs := [.int 1, .int 1, .int 1, .int 2, .int 3]) (x := .list [.int 1, .int 1, .int 1, .int 2, .int 3]) hb1 rfl (by simp) (by simp)
  obtain ⟨q, rfl, q2, qm⟩ : ∃ q : Int, v = .int q ∧ 1 ≤ q ∧ q ≤ 64 := by
    simp at hv
    rcases hv with e | e | e
    · exact ⟨1, e, by omega, by omega⟩
    · exact ⟨2, e, by omega, by omega⟩
    · exact ⟨3, e, by omega, by omega⟩
  obtain ⟨L, l3, x5, x6, h, hb3, hL⟩ := sizes_loop k 0 [q] l2 (.int (1 + (k : Int))) none none hb2 (Sz.one q2 qm) rfl (by simp; omega)
  refine ⟨L, l3, ?_, hb3, hL⟩
  have ev : envOf 8 [.bor l, .d (.int 20), .d (.int 1)] = [some (.bor l), some (.d (.int 20)), some (.d (.int 1)), none, none, none, none, none] := rfl
  have s1 : lz_1 [some (.bor l), some (.d (.int 20)), some (.d (.int 1)), none, none, none, none, none] = .nx [some (.bor l1), some (.d (.int 20)), some (.d (.int 1)), some (.d (.int (1 + (k : Int)))), none, none, none, none] := by
    unfold lz_1
    generalize den__law_take = D1 at ht ⊢
    simp [-q_isBor, isBor_O, ht, le_line]
  have s2 : lz_2 [some (.bor l1), some (.d (.int 20)), some (.d (.int 1)), some (.d (.int (1 + (k : Int)))), none, none, none, none] = .nx [some (.bor l2), some (.d (.int 20)), some (.d (.int 1)), some (.d (.int (1 + (k : Int)))), some (.own (I [q])), none, none, none] := by
    unfold lz_2
    generalize den__law_pick = D2 at hp ⊢
    simp [-q_isBor, isBor_O, hp, le_line]
  have it : iRange1 (dOp2 fSub (aSl 3) (aEx (dC (.int 1)))) [some (.bor l2), some (.d (.int 20)), some (.d (.int 1)), some (.d (.int (1 + (k : Int)))), some (.own (I [q])), none, none, none] = .ok (rg 0 k) [some (.bor l2), some (.d (.int 20)), some (.d (.int 1)), some (.d (.int (1 + (k : Int)))), some (.own (I [q])), none, none, none] := by
    refine range_same ?_ (by omega)
    have e : 1 + (k : Int) - 1 = k := by omega
    simp [e]
  simp only [Option.map_none] at h
  have hl := hL.len
  have c1 : ¬ ((I L).length : Int) < 1 := by
    obtain ⟨a, t, rfl, _⟩ := hL.ex
    simp
    omega
  have c2 : (I L).length ≤ 5 := by simpa using hl.2
  have s4 : lz_4 [some (.bor l3), some (.d (.int 20)), some (.d (.int 1)), some (.d (.int (1 + (k : Int)))), some (.own (I L)), x5.map W.d, x6.map W.d, none] = .nx [some (.bor l3), some (.d (.int 20)), some (.d (.int 1)), some (.d (.int (1 + (k : Int)))), some (.own (I L)), x5.map W.d, x6.map W.d, none] := by
    unfold lz_4
    generalize I L = w at c1 ⊢
    simp [-q_isBor, isBor_O, c1]
  unfold den__law_sizes
  rw [lz_eq, q_runF, ev]
  unfold lz lz_3
  rw [q_seq, s1, q_then_nx, q_seq, s2, q_then_nx, q_seq, q_for, it, q_to_ok, h, q_then_nx, q_seq, s4, q_then_nx]
  unfold lz_5
  generalize I L = w at c2 ⊢
  simp [-q_isBor, isBor_O, le_line (show w.length ≤ 90000 by omega)]
end K65

namespace K65
open PySem Mir Gen L2 K1 K3 K6
/-! the pages that are drawn -/
theorem okPg_snoc : ∀ (p : List Int) (a : Option Int) (v : Int), okAll canPg a p = true → 0 ≤ v → (∀ j, (p.getLast? = some j ∨ (p = [] ∧ a = some j)) → j < v) → okAll canPg a (p ++ [v]) = true
  | [], a, v, _, h0, hj => by
    cases a with
    | none => simp [okAll, canPg, h0]
    | some j => simp [okAll, canPg, h0, hj j (.inr ⟨rfl, rfl⟩)]
  | x :: p, a, v, h, h0, hj => by
    unfold okAll at h
    rw [Bool.and_eq_true] at h
    rw [List.cons_append]
    unfold okAll
    rw [Bool.and_eq_true]
    refine ⟨h.1, okPg_snoc p (some x) v h.2 h0 fun j q => ?_⟩
    rcases q with q | ⟨q, e⟩
    · refine hj j (.inl ?_)
      cases p with
      | nil => cases q
      | cons y p => rw [List.getLast?_cons_cons]; exact q
    · subst q
      cases e
      exact hj x (.inl rfl)
/-- pages as they are drawn -/
structure Dr (p : List Int) (m : Nat) : Prop where
  ok : okAll canPg none p = true
  len : p.length = m
  pos : 1 ≤ m
  bd : ∀ x ∈ p, 0 ≤ x ∧ x ≤ 2 * m
theorem Dr.next {p : List Int} {m : Nat} {v d : Int} (h : Dr p m) (hv : p.getLast? = some v) (h0 : 0 ≤ d) (h1 : d < 2) : Dr (p ++ [v + 1 + d]) (m + 1) := by
  have hb := h.bd v (List.mem_of_getLast? hv)
  refine ⟨okPg_snoc p none _ h.ok (by omega) fun j q => ?_, by simp [h.len], by omega, fun x hx => ?_⟩
  · rcases q with q | ⟨_, e⟩
    · rw [hv] at q; cases q; omega
    · cases e
  · rcases List.mem_append.mp hx with q | q
    · have := h.bd x q; push_cast; omega
    · have : x = v + 1 + d := by simpa using q
      push_cast; omega
def lp_1 : DenS := (sSet 2 (wList (aCons (aEx (eW (wCallB 2 0 den__law_take (aCons (aSl 0) (aCons (aEx (dC (.int 3))) aNil))))) aNil)))
def lp_2b_1 : DenS := (sExpr (dAppend 2 (eW (wOp2 fAddA (aEx (eW (wOp2 fAddA (aEx (dOp2 fIx (aSl 2) (aSl 3))) (aEx (dC (.int 1)))))) (aEx (eW (wCallB 2 0 den__law_take (aCons (aSl 0) (aCons (aEx (dC (.int 2))) aNil)))))))))
def lp_2b : DenS := lp_2b_1
def lp_2 : DenS := (sFor (.nm 3) (iRange1 (dOp2 fSub (aSl 1) (aEx (dC (.int 1))))) lp_2b)
def lp_3 : DenS := (sRet (wE (dApp fTuple (aCons (aSl 2) aNil))))
def lp : DenS := (sSeq lp_1 (sSeq lp_2 lp_3))
theorem lp_eq : body__law_pages = lp := rfl
theorem pages_loop (m : PyData) : ∀ (n j : Nat) (p : List Int) (l : List PyData) (x3 : Option PyData), Box l → Dr p (j + 1) → j + n < 100 →
    ∃ (p' : List Int) (l' : List PyData) (x3' : Option PyData), forD (.nm 3) lp_2b (rg j n) [some (.bor l), some (.d m), some (.own (I p)), x3.map W.d] = .nx [some (.bor l'), some (.d m), some (.own (I p')), x3'.map W.d] ∧ Box l' ∧ Dr p' (j + n + 1)
  | 0, j, p, l, x3, hb, hd, _ => ⟨p, l, x3, rfl, hb, hd⟩
  | n + 1, j, p, l, x3, hb, hd, hn => by
    have hl := hd.len
    obtain ⟨v, hv⟩ : ∃ v, p[j]? = some v := ⟨p[j]'(by omega), List.getElem?_eq_getElem _⟩
    have hv2 : p.getLast? = some v := by rw [List.getLast?_eq_getElem?, hl]; exact hv
    have gv : atI (I p) (j : Int) = some (.int v) := by rw [atn]; simp [hv]
    obtain ⟨d, l1, ht, d0, d1, hb1⟩ := take_ok (many := 2) hb (by decide) (by decide)
    obtain ⟨p', l', x3', ih, hb', hd'⟩ := pages_loop m n (j + 1) (p ++ [v + 1 + d]) l1 (some (.int j)) hb1 (hd.next hv2 d0 d1) (by omega)
    have ej : j + 1 + n + 1 = j + (n + 1) + 1 := by omega
    refine ⟨p', l', x3', ?_, hb', ej ▸ hd'⟩
    have gl : (I p).length < 90000 := by simp; omega
    have e : I (p ++ [v + 1 + d]) = I p ++ [.int (v + 1 + d)] := by simp
    rw [e] at ih
    rw [rg, ← ih]
    unfold lp_2b lp_2b_1
    generalize I p = w at gv gl ⊢
    generalize den__law_take = D at ht ⊢
    generalize (j : Int) = jj at gv ⊢
    cases x3 <;> simp [-q_isBor, isBor_O, gv, ht, lt_line gl]
theorem law_pages_ok {l : List PyData} {k : Nat} (hb : Box l) (hk : k < 7) : ∃ (P : List Int) (l' : List PyData), den__law_pages [.bor l, .d (.int (1 + (k : Int)))] = .ok (.d (.tuple (I P))) l' ∧ Box l' ∧ Dr P (k + 1) := by
  obtain ⟨d, l1, ht, d0, d1, hb1⟩ := take_ok (many := 3) hb (by decide) (by decide)
  have h0 : Dr [d] (0 + 1) := ⟨by simp [okAll, canPg, d0], rfl, by omega, fun x hx => by
    have : x = d := by simpa using hx
    omega⟩
  obtain ⟨P, l2, x3, h, hb2, hd⟩ := pages_loop (.int (1 + (k : Int))) k 0 [d] l1 none hb1 h0 (by omega)
  refine ⟨P, l2, ?_, hb2, by simpa using hd⟩
  have ev : envOf 4 [.bor l, .d (.int (1 + (k : Int)))] = [some (.bor l), some (.d (.int (1 + (k : Int)))), none, none] := rfl
  have s1 : lp_1 [some (.bor l), some (.d (.int (1 + (k : Int)))), none, none] = .nx [some (.bor l1), some (.d (.int (1 + (k : Int)))), some (.own (I [d])), none] := by
    unfold lp_1
    generalize den__law_take = D1 at ht ⊢
    simp [-q_isBor, isBor_O, ht, le_line]
  have it : iRange1 (dOp2 fSub (aSl 1) (aEx (dC (.int 1)))) [some (.bor l1), some (.d (.int (1 + (k : Int)))), some (.own (I [d])), none] = .ok (rg 0 k) [some (.bor l1), some (.d (.int (1 + (k : Int)))), some (.own (I [d])), none] := by
    refine range_same ?_ (by omega)
    have e : 1 + (k : Int) - 1 = k := by omega
    simp [e]
  simp only [Option.map_none] at h
  have c2 : (I P).length ≤ 90000 := by have := hd.len; simp; omega
  unfold den__law_pages
  rw [lp_eq, q_runF, ev]
  unfold lp lp_2
  rw [q_seq, s1, q_then_nx, q_seq, q_for, it, q_to_ok, h, q_then_nx]
  unfold lp_3
  generalize I P = w at c2 ⊢
  simp [-q_isBor, isBor_O, le_line c2]
theorem Dr.pg {p : List Int} {m : Nat} (h : Dr p m) (hm : m ≤ 7) : Pg p := ⟨h.ok, by have := h.len; omega⟩
end K65

namespace K65
open PySem Mir Gen L2 K1 K3 K6
/-! the sizes that count, the amounts -/
theorem chain_dropLast : ∀ (l : List Int) (p : Int), chain p l → chain p l.dropLast
  | [], _, _ => trivial
  | [_], _, _ => trivial
  | x :: y :: l, p, ⟨h1, h2, h3, h4⟩ => ⟨h1, h2, h3, chain_dropLast (y :: l) x h4⟩
theorem sz_dropLast {L : List Int} (h : Sz L) (hl : 1 < L.length) : Sz L.dropLast := by
  obtain ⟨a, t, rfl, h1, h2, h3, h4⟩ := h.ex
  cases t with
  | nil => simp at hl
  | cons b t => exact ⟨a, (b :: t).dropLast, rfl, h1, h2, chain_dropLast _ _ h3, by simp at h4 ⊢; omega⟩
def cnt (L P : List Int) : List Int × Int := if P.length = 1 ∧ 1 < L.length then (L.dropLast, lst L / lst L.dropLast) else (L, (P.length : Int))
theorem two_last {L : List Int} (h : Sz L) (hl : 1 < L.length) : ∃ (F : List Int) (y z : Int), L = F ++ [y, z] ∧ 0 < y ∧ y < z ∧ z ≤ 64 ∧ y ∣ z := by
  obtain ⟨a, t, rfl, h1, h2, h3, h4⟩ := h.ex
  have go : ∀ (t : List Int) (a : Int), 0 < a → a ≤ 64 → chain a t → t ≠ [] → ∃ (F : List Int) (y z : Int), a :: t = F ++ [y, z] ∧ 0 < y ∧ y < z ∧ z ≤ 64 ∧ y ∣ z := by
    intro t
    induction t with
    | nil => intro a _ _ _ k; exact absurd rfl k
    | cons b t ih =>
      intro a h1 h2 h3 _
      obtain ⟨g1, g2, g3, g4⟩ := h3
      cases t with
      | nil => exact ⟨[], a, b, rfl, h1, by omega, g2, Int.dvd_of_emod_eq_zero (by omega)⟩
      | cons c t =>
        obtain ⟨F, y, z, e, k⟩ := ih b (by omega) (by omega) g4 (by simp)
        exact ⟨a :: F, y, z, by rw [e]; rfl, k⟩
  exact go t a (by omega) h2 h3 (by intro k; subst k; simp at hl)
theorem lst_two {F : List Int} {y z : Int} : lst (F ++ [y, z]) = z := by simp [lst]
theorem drop_two {F : List Int} {y z : Int} : (F ++ [y, z]).dropLast = F ++ [y] := by
  rw [show F ++ [y, z] = (F ++ [y]) ++ [z] by simp, List.dropLast_concat]
theorem lst_one {F : List Int} {y : Int} : lst (F ++ [y]) = y := by simp [lst]
theorem cnt_ok {L P : List Int} (h : Sz L) (h1 : 1 ≤ P.length) (h2 : P.length ≤ 64) : Sz (cnt L P).1 ∧ 1 ≤ (cnt L P).2 ∧ (cnt L P).2 ≤ 64 := by
  unfold cnt
  split
  · rename_i c
    refine ⟨sz_dropLast h c.2, ?_⟩
    obtain ⟨F, y, z, rfl, k1, k2, k3, k4⟩ := two_last h c.2
    simp only [lst_two, drop_two, lst_one]
    obtain ⟨q, rfl⟩ := k4
    rw [Int.mul_ediv_cancel_left _ (by omega)]
    have e : y * 1 ≤ y * q ∨ q < 1 := by
      by_cases c : q < 1
      · exact .inr c
      · exact .inl (Int.mul_le_mul_of_nonneg_left (by omega) (by omega))
    have hq : 0 < q := by
      by_cases c : q ≤ 0
      · have := Int.mul_nonpos_of_nonneg_of_nonpos (show 0 ≤ y by omega) c
        omega
      · omega
    have e2 : 1 * q ≤ y * q := Int.mul_le_mul_of_nonneg_right (by omega) (by omega)
    constructor <;> omega
  · refine ⟨h, ?_, ?_⟩ <;> simp <;> omega
theorem cut_last (l : List PyData) : cutD l none (some (-1)) = l.dropLast := by
  unfold cutD
  cases l with
  | nil => rfl
  | cons a l =>
    have e1 : HT.sIx (a :: l).length 0 none = 0 := by simp [HT.sIx]
    have e2 : HT.sIx (a :: l).length (a :: l).length (some (-1)) = l.length := by
      simp [HT.sIx]
      try omega
    rw [e1, e2, List.drop_zero, Nat.sub_zero, List.dropLast_eq_take]
    simp
end K65

namespace K65
open PySem Mir Gen L2 K1 K3 K6
theorem at_m2 {α : Type} {l : List α} {a b : α} : atI (l ++ [a, b]) (-2) = some a := by
  have e : ixN (l ++ [a, b]).length (-2) = some l.length := by
    unfold ixN
    have hl : (l ++ [a, b]).length = l.length + 2 := by simp
    rw [hl, if_neg (by omega), if_pos (by omega)]
    congr 1
    omega
  unfold atI
  rw [e]
  simp
theorem at_l2 {α : Type} {l : List α} {a b : α} : atI (l ++ [a, b]) (-1) = some b := by
  rw [at_m1]
  simp
theorem fEq_s {a b : Str} (ha : PyData.strOk a = true) (hb : PyData.strOk b = true) : fEq [.str a, .str b] = some (.bool (a == b)) := by
  simp [fEq, okEq, SeqAt.shaped, PyData.canLay0, PyData.depth, PyData.eqv, ha, hb]
theorem intsD_I : ∀ l : List Int, intsD (I l) = some l
  | [] => rfl
  | x :: l => by
    have e := intsD_I l
    show (intsD (I l)).map (x :: ·) = _
    rw [e]
    rfl
theorem fSum_I (l : List Int) : fSum [.tuple (I l)] = some (.int l.sum) := by
  show (intsD (I l)).map _ = _
  rw [intsD_I]
  rfl
inductive Wh where
  | r
  | g
  | t
def Wh.s : Wh → Str
  | .r => "request"
  | .g => "giving"
  | .t => "taking"
theorem wh_r (w : Wh) : fEq [.str w.s, .str "request"] = some (.bool (match w with | .r => true | _ => false)) := by cases w <;> exact fEq_s (by decide +kernel) (by decide +kernel)
theorem wh_g (w : Wh) : fEq [.str w.s, .str "giving"] = some (.bool (match w with | .g => true | _ => false)) := by cases w <;> exact fEq_s (by decide +kernel) (by decide +kernel)
def amt (C : List Int) (m : Int) (w : Wh) : PyData := if C.length = 1 then .int 0 else match w with
  | .r => .int (lst C.dropLast)
  | .g => if (C.length : Int) ≤ m then .int C.dropLast.sum else .none
  | .t => if C.length = 2 then .int (hd C * (lst C / hd C - (lst C / hd C + m - 1) / m)) else .none
theorem I_two {F : List Int} {y z : Int} : I (F ++ [y, z]) = I F ++ [.int y, .int z] := by simp
theorem m_law_amount {C : List Int} {m : Int} (h : Sz C) (m1 : 1 ≤ m) (m2 : m ≤ 64) (w : Wh) : den__law_amount [.d (.tuple (I C)), .d (.int m), .d (.str w.s)] = .ok (.d (amt C m w)) [] := by
  have a1 := wh_r w
  have a2 := wh_g w
  unfold den__law_amount body__law_amount
  by_cases c : C.length = 1
  · have c' : ((I C).length : Int) = 1 := by simp [c]
    have e : amt C m w = .int 0 := by simp [amt, c]
    rw [e]
    generalize I C = v at c' ⊢
    generalize w.s = s
    simp [-q_isBor, isBor_O, fEq_i, c']
  · obtain ⟨F, y, z, rfl, k1, k2, k3, k4⟩ := two_last h (by have := h.len; omega)
    have c' : ¬ ((I (F ++ [y, z])).length : Int) = 1 := by simp; omega
    have g2 : atI (I (F ++ [y, z])) (-2) = some (.int y) := by rw [I_two]; exact at_m2
    have cl := cut_last (I (F ++ [y, z]))
    have cl2 : (I (F ++ [y, z])).dropLast = I (F ++ [y]) := by
      rw [I_two, show I F ++ [PyData.int y, .int z] = (I F ++ [.int y]) ++ [.int z] by simp, List.dropLast_concat]
      simp
    rw [cl2] at cl
    have fs := fSum_I (F ++ [y])
    have hl : ((I (F ++ [y, z])).length : Int) = F.length + 2 := by simp
    cases w with
    | r =>
      have e : amt (F ++ [y, z]) m .r = .int y := by simp only [amt, drop_two, lst_one]; rw [if_neg c]
      rw [e]
      generalize I (F ++ [y, z]) = v at c' g2 ⊢
      generalize Wh.r.s = s at a1 ⊢
      simp [-q_isBor, isBor_O, fEq_i, c', g2, a1]
    | g =>
      have e : amt (F ++ [y, z]) m .g = if (F.length : Int) + 2 ≤ m then .int (F ++ [y]).sum else .none := by simp only [amt, drop_two]; rw [if_neg c]; simp
      rw [e]
      generalize I (F ++ [y, z]) = v at c' cl hl ⊢
      generalize I (F ++ [y]) = v2 at cl fs
      generalize Wh.g.s = s at a1 a2 ⊢
      generalize (F ++ [y]).sum = sm at fs ⊢
      generalize fSum = G at fs ⊢
      by_cases c2 : (F.length : Int) + 2 ≤ m
      · have c3 : (v.length : Int) ≤ m := by omega
        simp [-q_isBor, isBor_O, fEq_i, c', cl, a1, a2, c2, c3, fs]
      · have c3 : ¬ (v.length : Int) ≤ m := by omega
        simp [-q_isBor, isBor_O, fEq_i, c', cl, a1, a2, c2, c3, fs]
    | t =>
      by_cases c2 : F = []
      · subst c2
        obtain ⟨q, hq⟩ := k4
        have q1 : z / y = q := by rw [hq, Int.mul_ediv_cancel_left _ (by omega)]
        have e : amt ([] ++ [y, z]) m .t = .int (y * (z / y - (z / y + m - 1) / m)) := rfl
        rw [e]
        have d0 := Int.ediv_le_self y (show 0 ≤ z by omega)
        have d1 := Int.ediv_nonneg (show 0 ≤ z by omega) (show 0 ≤ y by omega)
        have g0 : atI (I ([] ++ [y, z])) 0 = some (.int y) := rfl
        have g1 : atI (I ([] ++ [y, z])) 1 = some (.int z) := rfl
        have f1 := fDiv_ok (a := z) (b := y) (by omega) (by omega)
        have f2 := fDiv_ok (a := z / y + m - 1) (b := m) (by omega) (by omega)
        have d2 := Int.ediv_le_self m (show 0 ≤ z / y + m - 1 by omega)
        have d3 := Int.ediv_nonneg (show 0 ≤ z / y + m - 1 by omega) (show 0 ≤ m by omega)
        generalize (z / y + m - 1) / m = qq at f2 d2 d3 ⊢
        generalize z / y = uu at f1 f2 d0 d1 d2 ⊢
        have f3 := fMulA_ok (a := y) (b := uu - qq) (by omega) (by omega) (by omega) (by omega)
        have c3 : ¬ (2 : Int) < (I ([] ++ [y, z])).length := by simp
        generalize I ([] ++ [y, z]) = v at c' c3 g0 g1 ⊢
        generalize Wh.t.s = s at a1 a2 ⊢
        generalize y * (uu - qq) = pr at f3 ⊢
        simp [-q_isBor, isBor_O, fEq_i, c', c3, a1, a2, g0, g1, f1, f2, f3]
      · have hF : 1 ≤ F.length := List.length_pos_iff.mpr c2
        have c3 : (2 : Int) < (I (F ++ [y, z])).length := by omega
        have e : amt (F ++ [y, z]) m .t = .none := by
          simp only [amt]
          rw [if_neg c, if_neg (by simp; omega)]
        rw [e]
        generalize I (F ++ [y, z]) = v at c' c3 ⊢
        generalize Wh.t.s = s at a1 a2 ⊢
        simp [-q_isBor, isBor_O, fEq_i, c', c3, a1, a2]
end K65

namespace K65
open PySem Mir Gen L2 K1 K3 K6
def cntD (L P : List Int) : PyData := .tuple [.tuple (I (cnt L P).1), .int (cnt L P).2]
theorem m_stc {L P : List Int} (h : Sz L) : den_sizes_that_count [.d (.tuple (I L)), .d (.tuple (I P))] = .ok (.d (cntD L P)) [] := by
  unfold den_sizes_that_count body_sizes_that_count
  by_cases c : P.length = 1 ∧ 1 < L.length
  · have e : cntD L P = .tuple [.tuple (I L.dropLast), .int (lst L / lst L.dropLast)] := by simp only [cntD, cnt]; rw [if_pos c]
    rw [e]
    obtain ⟨F, y, z, rfl, k1, k2, k3, k4⟩ := two_last h c.2
    simp only [lst_two, drop_two, lst_one]
    have c1 : ((I P).length : Int) = 1 := by simp [c.1]
    have c2 : (1 : Int) < (I (F ++ [y, z])).length := by simp; omega
    have g1 : atI (I (F ++ [y, z])) (-1) = some (.int z) := by rw [I_two]; exact at_l2
    have g2 : atI (I (F ++ [y, z])) (-2) = some (.int y) := by rw [I_two]; exact at_m2
    have f1 := fDiv_ok (a := z) (b := y) (by omega) (by omega)
    have cl := cut_last (I (F ++ [y, z]))
    have cl2 : (I (F ++ [y, z])).dropLast = I (F ++ [y]) := by
      rw [I_two, show I F ++ [PyData.int y, .int z] = (I F ++ [.int y]) ++ [.int z] by simp, List.dropLast_concat]
      simp
    rw [cl2] at cl
    generalize I (F ++ [y, z]) = v at c2 g1 g2 cl ⊢
    generalize I (F ++ [y]) = v2 at cl ⊢
    generalize I P = p at c1 ⊢
    generalize z / y = d at f1 ⊢
    simp [-q_isBor, isBor_O, fEq_i, c1, c2, g1, g2, f1, cl, le_line]
  · have e : cntD L P = .tuple [.tuple (I L), .int P.length] := by simp only [cntD, cnt]; rw [if_neg c]
    rw [e]
    have hp : (P.length : Int) = (I P).length := by simp
    rw [hp]
    by_cases c1 : P.length = 1
    · have c1' : ((I P).length : Int) = 1 := by simp [c1]
      have c2 : ¬ (1 : Int) < (I L).length := by
        have : ¬ 1 < L.length := fun k => c ⟨c1, k⟩
        simp
        omega
      generalize I L = v at c2 ⊢
      generalize I P = p at c1' ⊢
      simp [-q_isBor, isBor_O, fEq_i, c1', c2, le_line]
    · have c1' : ¬ ((I P).length : Int) = 1 := by simp; omega
      generalize I L = v
      generalize I P = p at c1' ⊢
      simp [-q_isBor, isBor_O, fEq_i, c1', le_line]
section
variable {L P : List Int} {x y : PyData}
theorem m_need_counting (h : Sz L) (hp : Pg P) (h1 : 1 ≤ P.length) (hx : seqE x = some (I L)) (hy : seqE y = some (I P)) : den_need_counting [.d x, .d y] = .ok (.d (cntD L P)) [] := by
  have g1 := m_sizes h hx
  have g2 := m_pages hp hy
  have g3 := m_stc (P := P) h
  have c : (I P).isEmpty = false := by
    cases P with
    | nil => simp at h1
    | cons a t => rfl
  unfold den_need_counting body_need_counting
  generalize cntD L P = z at g3 ⊢
  generalize den_check_sizes = D1 at g1 ⊢
  generalize den_check_pages = D2 at g2 ⊢
  generalize den_sizes_that_count = D3 at g3 ⊢
  generalize I L = v at g1 g3
  generalize I P = p at g2 g3 c
  have c2 : ¬ p = [] := by
    intro k
    subst k
    cases c
  simp [-q_isBor, isBor_O, g1, g2, g3, c, c2]
/-- no page -/
theorem m_need_counting0 (h : Sz L) (hx : seqE x = some (I L)) (hy : seqE y = some []) : den_need_counting [.d x, .d y] = .exc 2 y [] := by
  have g1 := m_sizes h hx
  have g2 := m_pages (x := y) (p := []) ⟨rfl, by simp⟩ hy
  unfold den_need_counting body_need_counting
  generalize den_check_sizes = D1 at g1 ⊢
  generalize den_check_pages = D2 at g2 ⊢
  generalize I L = v at g1
  simp [-q_isBor, isBor_O, g1, g2]
/-- pages that are none -/
theorem m_need_countingP {e : PyData} (h : Sz L) (hx : seqE x = some (I L)) (g2 : den_check_pages [.d y] = .exc 1 e []) : den_need_counting [.d x, .d y] = .exc 1 e [] := by
  have g1 := m_sizes h hx
  unfold den_need_counting body_need_counting
  generalize den_check_sizes = D1 at g1 ⊢
  generalize den_check_pages = D2 at g2 ⊢
  generalize I L = v at g1
  simp [-q_isBor, isBor_O, g1, g2]
/-- sizes that are none -/
theorem m_need_countingS {e : PyData} (g1 : den_check_sizes [.d x] = .exc 0 e []) : den_need_counting [.d x, .d y] = .exc 0 e [] := by
  unfold den_need_counting body_need_counting
  generalize den_check_sizes = D1 at g1 ⊢
  simp [-q_isBor, isBor_O, g1]
end
abbrev whD : PyData := .tuple [.str "request", .str "giving", .str "taking"]
theorem fInT_ok {x : PyData} (hx : SeqAt.shaped x = true) {b : Bool} (hb : (PyData.eqv (.str "request") x || (PyData.eqv (.str "giving") x || PyData.eqv (.str "taking") x)) = b) : fInT true [x, whD] = some (.bool (!b)) := by
  have h2 : SeqAt.shaped whD = true := by
    have e1 : PyData.strOk "request" = true := by decide +kernel
    have e2 : PyData.strOk "giving" = true := by decide +kernel
    have e3 : PyData.strOk "taking" = true := by decide +kernel
    simp [SeqAt.shaped, PyData.canLay0, PyData.canLayAll0, PyData.depth, PyData.depthAll, e1, e2, e3]
  subst hb
  simp [fInT, okEq, hx, h2]
theorem m_need_when (w : Wh) : den_need_when [.d (.str w.s)] = .ok (.d (.str w.s)) [] := by
  have hx : SeqAt.shaped (.str w.s) = true := by
    have e : PyData.strOk w.s = true := by cases w <;> decide +kernel
    simp [SeqAt.shaped, PyData.canLay0, PyData.depth, e]
  have hb : (PyData.eqv (.str "request") (.str w.s) || (PyData.eqv (.str "giving") (.str w.s) || PyData.eqv (.str "taking") (.str w.s))) = true := by
    have k : ("request" == w.s || ("giving" == w.s || "taking" == w.s)) = true := by cases w <;> decide +kernel
    simpa [PyData.eqv] using k
  have e := fInT_ok hx hb
  unfold whD at e
  unfold den_need_when body_need_when
  simp [-q_isBor, isBor_O, e]
theorem m_need_when_no {x : PyData} (e : fInT true [x, whD] = some (.bool true)) : den_need_when [.d x] = .exc 2 x [] := by
  unfold whD at e
  unfold den_need_when body_need_when
  simp [-q_isBor, isBor_O, e]
theorem m_least {C : List Int} {m : Int} (h : Sz C) (m1 : 1 ≤ m) (m2 : m ≤ 64) (hl : C.length = 2) : den_least_at_taking [.d (.tuple (I C)), .d (.int m)] = .ok (.d (.int (hd C * (lst C / hd C - (lst C / hd C + m - 1) / m)))) [] := by
  obtain ⟨F, y, z, rfl, k1, k2, k3, k4⟩ := two_last h (by omega)
  have hF : F = [] := by
    simp at hl
    exact hl
  subst hF
  obtain ⟨q, hq⟩ := k4
  have q1 : z / y = q := by rw [hq, Int.mul_ediv_cancel_left _ (by omega)]
  have e : hd ([] ++ [y, z]) = y := rfl
  have e2 : lst ([] ++ [y, z]) = z := rfl
  rw [e, e2]
  have d0 := Int.ediv_le_self y (show 0 ≤ z by omega)
  have d1 := Int.ediv_nonneg (show 0 ≤ z by omega) (show 0 ≤ y by omega)
  have g0 : atI (I ([] ++ [y, z])) 0 = some (.int y) := rfl
  have g1 : atI (I ([] ++ [y, z])) (-1) = some (.int z) := rfl
  have f1 := fDiv_ok (a := z) (b := y) (by omega) (by omega)
  have f2 := fDiv_ok (a := z / y + m - 1) (b := m) (by omega) (by omega)
  have d2 := Int.ediv_le_self m (show 0 ≤ z / y + m - 1 by omega)
  have d3 := Int.ediv_nonneg (show 0 ≤ z / y + m - 1 by omega) (show 0 ≤ m by omega)
  have hz : z = y * (z / y) := by rw [q1]; exact hq
  generalize hqq : (z / y + m - 1) / m = qq at f2 d2 d3 ⊢
  have f3 := fMulA_ok (a := y) (b := qq) (by omega) (by omega) (by omega) (by omega)
  have hr : z - y * qq = y * (z / y - qq) := by rw [Int.mul_sub, ← hz]
  rw [← hr]
  generalize z / y = uu at f1 f2 ⊢
  unfold den_least_at_taking body_least_at_taking
  generalize I ([] ++ [y, z]) = v at g0 g1 ⊢
  generalize y * qq = pr at f3 ⊢
  simp [-q_isBor, isBor_O, fEq_i, g0, g1, f1, f2, f3]
section
variable {L P : List Int} {x y : PyData}
theorem m_full_amount (h : Sz L) (hp : Pg P) (h1 : 1 ≤ P.length) (hx : seqE x = some (I L)) (hy : seqE y = some (I P)) (w : Wh) : den_full_amount [.d x, .d y, .d (.str w.s)] = .ok (.d (amt (cnt L P).1 (cnt L P).2 w)) [] := by
  have g1 := m_need_counting h hp h1 hx hy
  have g2 := m_need_when w
  obtain ⟨hC, m1, m2⟩ := cnt_ok (P := P) h h1 hp.2
  unfold cntD at g1
  generalize (cnt L P).1 = C at g1 hC ⊢
  generalize (cnt L P).2 = m at g1 m1 m2 ⊢
  have g3 := m_least hC m1 m2
  have a1 := wh_r w
  have a2 := wh_g w
  unfold den_full_amount body_full_amount
  generalize den_need_counting = D1 at g1 ⊢
  generalize den_need_when = D2 at g2 ⊢
  by_cases c : C.length = 1
  · have c' : ((I C).length : Int) = 1 := by simp [c]
    have e : amt C m w = .int 0 := by simp [amt, c]
    rw [e]
    generalize I C = v at c' g1 ⊢
    generalize w.s = s at g2 ⊢
    simp [-q_isBor, isBor_O, fEq_i, c', g1, g2]
  · obtain ⟨F, u, z, rfl, k1, k2, k3, k4⟩ := two_last hC (by have := hC.len; omega)
    have c' : ¬ ((I (F ++ [u, z])).length : Int) = 1 := by simp; omega
    have gg2 : atI (I (F ++ [u, z])) (-2) = some (.int u) := by rw [I_two]; exact at_m2
    have cl := cut_last (I (F ++ [u, z]))
    have cl2 : (I (F ++ [u, z])).dropLast = I (F ++ [u]) := by
      rw [I_two, show I F ++ [PyData.int u, .int z] = (I F ++ [.int u]) ++ [.int z] by simp, List.dropLast_concat]
      simp
    rw [cl2] at cl
    have fs := fSum_I (F ++ [u])
    have hl : ((I (F ++ [u, z])).length : Int) = F.length + 2 := by simp
    cases w with
    | r =>
      have e : amt (F ++ [u, z]) m .r = .int u := by simp only [amt, drop_two, lst_one]; rw [if_neg c]
      rw [e]
      generalize I (F ++ [u, z]) = v at c' gg2 g1 ⊢
      generalize Wh.r.s = s at a1 g2 ⊢
      simp [-q_isBor, isBor_O, fEq_i, c', gg2, a1, g1, g2]
    | g =>
      have e : amt (F ++ [u, z]) m .g = if (F.length : Int) + 2 ≤ m then .int (F ++ [u]).sum else .none := by simp only [amt, drop_two]; rw [if_neg c]; simp
      rw [e]
      generalize I (F ++ [u, z]) = v at c' cl hl g1 ⊢
      generalize I (F ++ [u]) = v2 at cl fs
      generalize Wh.g.s = s at a1 a2 g2 ⊢
      generalize (F ++ [u]).sum = sm at fs ⊢
      generalize fSum = G at fs ⊢
      by_cases c2 : (F.length : Int) + 2 ≤ m
      · have c3 : (v.length : Int) ≤ m := by omega
        simp [-q_isBor, isBor_O, fEq_i, c', cl, a1, a2, c2, c3, fs, g1, g2]
      · have c3 : ¬ (v.length : Int) ≤ m := by omega
        simp [-q_isBor, isBor_O, fEq_i, c', cl, a1, a2, c2, c3, fs, g1, g2]
    | t =>
      by_cases c2 : F = []
      · subst c2
        have g3 := g3 rfl
        have e : amt ([] ++ [u, z]) m .t = .int (hd ([] ++ [u, z]) * (lst ([] ++ [u, z]) / hd ([] ++ [u, z]) - (lst ([] ++ [u, z]) / hd ([] ++ [u, z]) + m - 1) / m)) := rfl
        rw [e]
        generalize hd ([] ++ [u, z]) * (lst ([] ++ [u, z]) / hd ([] ++ [u, z]) - (lst ([] ++ [u, z]) / hd ([] ++ [u, z]) + m - 1) / m) = pr at g3 ⊢
        have c3 : ((I ([] ++ [u, z])).length : Int) = 2 := rfl
        generalize I ([] ++ [u, z]) = v at c' c3 g1 g3 ⊢
        generalize Wh.t.s = s at a1 a2 g2 ⊢
        generalize den_least_at_taking = D3 at g3 ⊢
        simp [-q_isBor, isBor_O, fEq_i, c', c3, a1, a2, g1, g2, g3]
      · have hF : 1 ≤ F.length := List.length_pos_iff.mpr c2
        have c3 : ¬ ((I (F ++ [u, z])).length : Int) = 2 := by omega
        have e : amt (F ++ [u, z]) m .t = .none := by
          simp only [amt]
          rw [if_neg c, if_neg (by simp; omega)]
        rw [e]
        generalize I (F ++ [u, z]) = v at c' c3 g1 ⊢
        generalize Wh.t.s = s at a1 a2 g2 ⊢
        generalize den_least_at_taking = D3
        simp [-q_isBor, isBor_O, fEq_i, c', c3, a1, a2, g1, g2]
end
end K65

namespace K65
open PySem Mir Gen L2 K1 K3 K6
/-! the foe's place -/
theorem rgN_unit {u p : Int} {n : Nat} (hu : 0 < u) : rgN p (p + n * u) u = n := by
  unfold rgN Builtin.Range.rangeSize
  rw [if_pos hu]
  by_cases c : n = 0
  · subst c; simp
  · have h1 : u ≤ n * u := by
      have := Int.mul_le_mul_of_nonneg_right (show (1 : Int) ≤ n by omega) (show 0 ≤ u by omega)
      omega
    rw [if_pos (by omega)]
    have e : (p + (n : Int) * u - p - 1) / u = n - 1 := by
      have e2 : p + (n : Int) * u - p - 1 = (u - 1) + (n - 1 : Int) * u := by
        have : ((n : Int) - 1) * u = n * u - u := by rw [Int.sub_mul, Int.one_mul]
        omega
      rw [e2, Int.add_mul_ediv_right _ _ (by omega), Int.ediv_eq_zero_of_lt (by omega) (by omega)]
      omega
    rw [e]
    omega
def ppE : Den := (dOp2 fMulA (aSl 2) (aEx (dOp2 fIx (aSl 0) (aEx (dOp1 fNeg (aEx (dC (.int 1))))))))
theorem at_lst {L : List Int} (h : Sz L) : atI (I L) (-1) = some (.int (lst L)) := by
  obtain ⟨a, t, rfl, _⟩ := h.ex
  rw [at_m1]
  unfold lst
  rw [List.getLast?_map, List.getLastD_eq_getLast?, List.getLast?_eq_getLast (List.cons_ne_nil a t)]
  rfl
theorem pp_lc {L : List Int} (h : Sz L) (w1 : PyData) : ∀ (P acc : List Int), (∀ p ∈ P, 0 ≤ p ∧ p < 10 ^ 9) → acc.length + P.length ≤ 1000 →
    lc (.nm 2) tYesD ppE (I P) (I acc) [some (.d (.tuple (I L))), some (.d w1), none] = .ok (.own (I (acc ++ P.map (· * lst L)))) [some (.d (.tuple (I L))), some (.d w1), none]
  | [], acc, _, _ => by simp
  | p :: P, acc, hp, hl => by
    have ih := pp_lc h w1 P (acc ++ [p * lst L]) (fun q hq => hp q (List.mem_cons_of_mem _ hq)) (by simp at hl ⊢; omega)
    have g := at_lst h
    obtain ⟨f1, f2, f3, f4, f5, f6⟩ := sz_facts h
    have hb := hp p (List.mem_cons_self ..)
    have gm := fMulA_ok (a := p) (b := lst L) (by omega) (by omega) (by omega) (by omega)
    have t : ppE [some (.d (.tuple (I L))), some (.d w1), some (.d (.int p))] = .ok (.int (p * lst L)) [some (.d (.tuple (I L))), some (.d w1), some (.d (.int p))] := by
      unfold ppE
      generalize I L = v at g ⊢
      generalize p * lst L = pl at gm ⊢
      generalize lst L = z at g gm
      simp [-q_isBor, isBor_O, g, gm]
    have e : I (acc ++ (p :: P).map (· * lst L)) = I (acc ++ [p * lst L] ++ P.map (· * lst L)) := by simp
    have e2 : I (acc ++ [p * lst L]) = I acc ++ [.int (p * lst L)] := by simp
    have hn : (I acc).length < 90000 := by simp at hl ⊢; omega
    rw [e]
    rw [e2] at ih
    generalize I (acc ++ [p * lst L] ++ P.map (· * lst L)) = y at ih ⊢
    generalize I acc = z at ih hn ⊢
    generalize p * lst L = pl at t ih ⊢
    generalize ppE = tt at t ih ⊢
    generalize hI : I P = IP at ih
    have e3 : I (p :: P) = .int p :: IP := by rw [← hI]; rfl
    rw [e3]
    simp [-q_isBor, isBor_O, t, lt_line hn, noBor, wipeD]
    exact ih
theorem m_page_places {L P : List Int} (h : Sz L) (hp : ∀ p ∈ P, 0 ≤ p ∧ p < 10 ^ 9) (hl : P.length ≤ 64) : den__page_places [.d (.tuple (I L)), .d (.tuple (I P))] = .ok (.own (I (P.map (· * lst L)))) [] := by
  have e := pp_lc h (.tuple (I P)) P [] hp (by simp; omega)
  have ev : envOf 3 [.d (.tuple (I L)), .d (.tuple (I P))] = [some (.d (.tuple (I L))), some (.d (.tuple (I P))), none] := rfl
  unfold den__page_places
  rw [q_runF, ev]
  show S.toRF _ (sRet (wLc (.nm 2) (iSeq (dVar 1)) tYesD ppE) _) = _
  rw [List.nil_append, show I ([] : List Int) = [] from rfl] at e
  generalize I (P.map (· * lst L)) = y at e ⊢
  generalize ppE = tt at e ⊢
  generalize I L = v at e ⊢
  generalize I P = w at e ⊢
  simp [-q_isBor, isBor_O, noBor, wipeD]
  rw [e]
  simp [-q_isBor, isBor_O]
def up_1 : DenS := (sSet 3 (wList aNil))
def up_2b_1 : DenS := (sExpr (dExtend 3 (aEx (eW (wListRng (aCons (aSl 4) (aCons (aEx (eW (wOp2 fAddA (aSl 4) (aEx (dOp2 fIx (aSl 0) (aEx (dOp1 fNeg (aEx (dC (.int 1)))))))))) (aCons (aEx (dOp2 fIx (aSl 0) (aSl 2))) aNil))))))))
def up_2b : DenS := up_2b_1
def up_2 : DenS := (sFor (.nm 4) (iSeq (eW (wCall 2 den__page_places (aCons (aEx (dVar 0)) (aCons (aEx (dVar 1)) aNil))))) up_2b)
def up_3 : DenS := (sRet (wMove 3))
def up : DenS := (sSeq up_1 (sSeq up_2 up_3))
theorem up_eq : body_unit_places = up := rfl
theorem up_loop {L : List Int} {s : Int} {n j : Nat} (h : Sz L) (hs : 0 < s) (hj : L[j]? = some s) (hn : lst L = n * s) (w1 : PyData) : ∀ (Q : List Int) (acc : List PyData) (x4 : Option PyData), (∀ q ∈ Q, 0 ≤ q ∧ q < 10 ^ 12) → acc.length + n * Q.length ≤ 90000 →
    ∃ (acc' : List PyData) (x4' : Option PyData), forD (.nm 4) up_2b (I Q) [some (.d (.tuple (I L))), some (.d w1), some (.d (.int j)), some (.own acc), x4.map W.d] = .nx [some (.d (.tuple (I L))), some (.d w1), some (.d (.int j)), some (.own acc'), x4'.map W.d] ∧ acc'.length = acc.length + n * Q.length
  | [], acc, x4, _, _ => ⟨acc, x4, rfl, by simp⟩
  | q :: Q, acc, x4, hq, hl => by
    have hq0 := hq q (List.mem_cons_self ..)
    obtain ⟨f1, f2, f3, f4, f5, f6⟩ := sz_facts h
    have hjs := h.at hj
    have g1 := at_lst h
    have g2 : atI (I L) (j : Int) = some (.int s) := by rw [atn]; simp [hj]
    have r1 : rgN q (q + lst L) s = n := by rw [hn]; exact rgN_unit hs
    have r2 : rgOk q (q + lst L) s = true := by
      unfold rgOk big
      simp only [decide_eq_true_eq, Bool.and_eq_true]
      refine ⟨⟨⟨⟨by omega, by omega⟩, ⟨by omega, by omega⟩⟩, by omega⟩, by omega⟩
    have hl1 : n * (q :: Q).length = n + n * Q.length := by
      rw [List.length_cons, Nat.mul_add, Nat.mul_one, Nat.add_comm]
    have hn9 : n ≤ 90000 := by omega
    obtain ⟨acc', x4', ih, hlen⟩ := up_loop h hs hj hn w1 Q (acc ++ stepD q s n) (some (.int q)) (fun p hp => hq p (List.mem_cons_of_mem _ hp)) (by rw [List.length_append, stepD_len]; omega)
    refine ⟨acc', x4', ?_, by rw [hlen, List.length_append, stepD_len]; omega⟩
    have st : setD 4 (.int q) [some (.d (.tuple (I L))), some (.d w1), some (.d (.int j)), some (.own acc), x4.map W.d] = some [some (.d (.tuple (I L))), some (.d w1), some (.d (.int j)), some (.own acc), some (.d (.int q))] := by
      simp only [q_setD, isBor_O]
      simp
    have e3 : I (q :: Q) = .int q :: I Q := rfl
    rw [e3, q_for_cons, q_bind_nm, st, q_ofO]
    have ll : acc.length + (stepD q s n).length ≤ 90000 := by rw [stepD_len]; omega
    have sb : up_2b [some (.d (.tuple (I L))), some (.d w1), some (.d (.int j)), some (.own acc), some (.d (.int q))] = .nx [some (.d (.tuple (I L))), some (.d w1), some (.d (.int j)), some (.own (acc ++ stepD q s n)), some (.d (.int q))] := by
      unfold up_2b
      try unfold up_2b_1
      generalize I L = v at g1 g2 ⊢
      generalize (j : Int) = jj at g2 ⊢
      generalize lst L = z at g1 r1 r2
      generalize hS : stepD q s n = ss at ll ⊢
      have hS2 : stepD q s (rgN q (q + z) s) = ss := by rw [r1]; exact hS
      simp [-q_isBor, isBor_O, g1, g2, rngArgs, r1, r2, hS, le_line ll, le_line hn9]
    rw [sb, q_loop_nx]
    exact ih
theorem m_unit_places {L P : List Int} {s : Int} {n j : Nat} (h : Sz L) (hp : ∀ p ∈ P, 0 ≤ p ∧ p < 10 ^ 9) (hl : P.length ≤ 64) (hs : 0 < s) (hj : L[j]? = some s) (hn : lst L = n * s) (hn2 : n ≤ 64) :
    ∃ R : List PyData, den_unit_places [.d (.tuple (I L)), .d (.tuple (I P)), .d (.int j)] = .ok (.own R) [] ∧ R.length = n * P.length := by
  have g := m_page_places h hp hl
  obtain ⟨f1, f2, f3, f4, f5, f6⟩ := sz_facts h
  have hm : n * P.length ≤ 64 * 64 := Nat.mul_le_mul hn2 hl
  obtain ⟨R, x4, e, hR⟩ := up_loop h hs hj hn (.tuple (I P)) (P.map (· * lst L)) [] none (fun q hq => by
    obtain ⟨p, hp1, rfl⟩ := List.mem_map.mp hq
    have hb := hp p hp1
    have a1 := Int.mul_nonneg hb.1 (show 0 ≤ lst L by omega)
    have a2 := Int.mul_le_mul_of_nonneg_left f5 hb.1
    constructor <;> omega) (by simp; omega)
  refine ⟨R, ?_, by simpa using hR⟩
  have ev : envOf 5 [.d (.tuple (I L)), .d (.tuple (I P)), .d (.int (j : Int))] = [some (.d (.tuple (I L))), some (.d (.tuple (I P))), some (.d (.int j)), none, none] := rfl
  unfold den_unit_places
  rw [up_eq, q_runF, ev]
  unfold up up_1 up_2 up_3
  simp only [Option.map_none] at e
  generalize I (P.map (· * lst L)) = y at e g
  generalize I L = v at e g ⊢
  generalize I P = w at e g ⊢
  generalize up_2b = bb at e ⊢
  generalize den__page_places = D at g ⊢
  simp [-q_isBor, isBor_O, g, le_line]
  rw [e]
  simp [-q_isBor, isBor_O]
end K65

namespace K65
open PySem Mir Gen L2 K1 K3 K6
theorem cnt_place {L P : List Int} (h : Sz L) (h1 : 1 ≤ P.length) (h2 : P.length ≤ 64) : ∃ n : Nat, lst L = n * lst (cnt L P).1 ∧ ((n * P.length : Nat) : Int) = (cnt L P).2 ∧ L[(cnt L P).1.length - 1]? = some (lst (cnt L P).1) ∧ n ≤ 64 := by
  unfold cnt
  split
  · rename_i c
    obtain ⟨F, y, z, rfl, k1, k2, k3, k4⟩ := two_last h c.2
    simp only [lst_two, drop_two, lst_one]
    obtain ⟨q, hq⟩ := k4
    have q1 : z / y = q := by rw [hq, Int.mul_ediv_cancel_left _ (by omega)]
    have d0 := Int.ediv_le_self y (show 0 ≤ z by omega)
    have d1 := Int.ediv_nonneg (show 0 ≤ z by omega) (show 0 ≤ y by omega)
    rw [q1] at d0 d1 ⊢
    refine ⟨q.toNat, ?_, ?_, by simp, by omega⟩
    · rw [Int.toNat_of_nonneg d1, hq, Int.mul_comm]
    · rw [c.1, Nat.mul_one, Int.toNat_of_nonneg d1]
  · refine ⟨1, by simp, by simp, ?_, by omega⟩
    simp only
    obtain ⟨a, t, rfl, _⟩ := h.ex
    rw [← List.getLast?_eq_getElem?]
    unfold lst
    rw [List.getLastD_eq_getLast?, List.getLast?_eq_getLast (List.cons_ne_nil a t)]
    rfl
theorem Dr.small {p : List Int} {m : Nat} (h : Dr p m) (hm : m ≤ 7) : ∀ x ∈ p, 0 ≤ x ∧ x < 10 ^ 9 := fun x hx => by
  have := h.bd x hx
  omega
section
variable {L P : List Int} {x y : PyData}
theorem m_arena (h : Sz L) (hp : Pg P) (hb : ∀ p ∈ P, 0 ≤ p ∧ p < 10 ^ 9) (h1 : 1 ≤ P.length) (hx : seqE x = some (I L)) (hy : seqE y = some (I P)) (hc : (cnt L P).1.length ≠ 1) :
    ∃ R : List PyData, den_arena [.d x, .d y] = .ok (.d (.tuple [.int (lst (cnt L P).1.dropLast), .int (lst (cnt L P).1), .tuple R])) [] ∧ (R.length : Int) = (cnt L P).2 := by
  obtain ⟨n, n1, n2, n3, n4⟩ := cnt_place h h1 hp.2
  obtain ⟨hC, m1, m2⟩ := cnt_ok h h1 hp.2
  have g1 := m_sizes h hx
  have g2 := m_pages hp hy
  have g3 := m_stc (P := P) h
  have hl := hC.len
  obtain ⟨R, g4, hR⟩ := m_unit_places h hb hp.2 (by obtain ⟨_, _, _, k, _⟩ := sz_facts hC; exact k) n3 n1 n4
  refine ⟨R, ?_, by rw [hR]; exact n2⟩
  unfold cntD at g3
  generalize (cnt L P).2 = m at *
  generalize hCC : (cnt L P).1 = C at *
  obtain ⟨F, u, z, rfl, k1, k2, k3, k4⟩ := two_last hC (by omega)
  have hR2 : R.length ≤ 90000 := by omega
  rw [drop_two, lst_one, lst_two]
  have c' : ¬ ((I (F ++ [u, z])).length : Int) = 1 := by simp; omega
  have gg1 : atI (I (F ++ [u, z])) (-1) = some (.int z) := by rw [I_two]; exact at_l2
  have gg2 : atI (I (F ++ [u, z])) (-2) = some (.int u) := by rw [I_two]; exact at_m2
  have el : ((I (F ++ [u, z])).length : Int) - 1 = ((F ++ [u, z]).length - 1 : Nat) := by simp; omega
  have cP : (I P).isEmpty = false := by
    cases P with
    | nil => simp at h1
    | cons a t => rfl
  generalize (((F ++ [u, z]).length - 1 : Nat) : Int) = lv at g4 el
  unfold den_arena body_arena
  generalize I (F ++ [u, z]) = v at c' gg1 gg2 el g3
  generalize I L = vL at g1 g3 g4
  generalize I P = vP at g2 g3 g4 cP
  generalize den_check_sizes = D1 at g1 ⊢
  generalize den_check_pages = D2 at g2 ⊢
  generalize den_sizes_that_count = D3 at g3 ⊢
  generalize den_unit_places = D4 at g4 ⊢
  have cP2 : ¬ vP = [] := by
    intro k
    subst k
    cases cP
  simp [-q_isBor, isBor_O, g1, g2, g3, g4, fEq_i, c', gg1, gg2, el, cP, cP2, le_line, le_line hR2]
theorem m_foe_many (h : Sz L) (hp : Pg P) (hb : ∀ p ∈ P, 0 ≤ p ∧ p < 10 ^ 9) (h1 : 1 ≤ P.length) (hx : seqE x = some (I L)) (hy : seqE y = some (I P)) (hc : (cnt L P).1.length ≠ 1) :
    den_foe_many [.d x, .d y] = .ok (.d (.int ((cnt L P).2 * (lst (cnt L P).1 / lst (cnt L P).1.dropLast) + lst (cnt L P).1 / lst (cnt L P).1.dropLast + 1))) [] := by
  obtain ⟨R, g1, hR⟩ := m_arena h hp hb h1 hx hy hc
  obtain ⟨hC, m1, m2⟩ := cnt_ok h h1 hp.2
  have hl := hC.len
  rw [← hR] at m1 m2 ⊢
  generalize (cnt L P).1 = C at *
  obtain ⟨F, u, z, rfl, k1, k2, k3, k4⟩ := two_last hC (by omega)
  rw [drop_two, lst_one, lst_two] at *
  have d0 := Int.ediv_le_self u (show 0 ≤ z by omega)
  have d1 := Int.ediv_nonneg (show 0 ≤ z by omega) (show 0 ≤ u by omega)
  have f1 := fDiv_ok (a := z) (b := u) (by omega) (by omega)
  generalize z / u = d at d0 d1 f1 ⊢
  have f2 := fMulA_ok (a := (R.length : Int)) (b := d) (by omega) (by omega) (by omega) (by omega)
  have gp : den__phases [.d (.int u), .d (.int z), .d (.tuple R)] = .ok (.d (.tuple [.int ((R.length : Int) * d), .int ((R.length : Int) * d + d)])) [] := by
    unfold den__phases body__phases
    generalize (R.length : Int) * d = e at f2 ⊢
    simp [-q_isBor, isBor_O, f1, f2, le_line]
  unfold den_foe_many body_foe_many
  generalize (R.length : Int) * d = e at gp ⊢
  generalize den__phases = D1 at gp ⊢
  generalize den_arena = D2 at g1 ⊢
  simp [-q_isBor, isBor_O, g1, gp, at_1]
def am (C : List Int) : Int := if C.length = 1 then 0 else lst C.dropLast
theorem amt_r (C : List Int) (m : Int) : amt C m .r = .int (am C) := by
  unfold amt am
  split <;> rfl
theorem am_ok {C : List Int} (h : Sz C) : 0 ≤ am C ∧ am C ≤ 64 := by
  unfold am
  split
  · omega
  · obtain ⟨F, u, z, rfl, k1, k2, k3, k4⟩ := two_last h (by have := h.len; omega)
    rw [drop_two, lst_one]
    omega
def vdD (C : List Int) (m mv : Int) : PyData := if am C ≤ mv then .tuple [.str "full", .int (am C)] else .tuple [.str "beaten", .int (am C), .int (m * (lst C / lst C.dropLast) + lst C / lst C.dropLast + 1)]
theorem m_need {i : Int} (h : 0 ≤ i) : den_need_number [.d (.int i)] = .ok (.d (.int i)) [] := by
  have e := K65.m_need_x (x := .int i) rfl
  rw [e]
  simp [isNum, h]
theorem m_verdict {mv : Int} (h : Sz L) (hp : Pg P) (hb : ∀ p ∈ P, 0 ≤ p ∧ p < 10 ^ 9) (h1 : 1 ≤ P.length) (hx : seqE x = some (I L)) (hy : seqE y = some (I P)) (h0 : 0 ≤ mv) :
    den_verdict [.d x, .d y, .d (.int mv)] = .ok (.d (vdD (cnt L P).1 (cnt L P).2 mv)) [] := by
  have g1 := m_full_amount h hp h1 hx hy .r
  rw [amt_r] at g1
  have g2 := m_need h0
  have g3 := m_foe_many h hp hb h1 hx hy
  have es : Wh.r.s = "request" := rfl
  rw [es] at g1
  unfold den_verdict body_verdict vdD
  generalize den_full_amount = D1 at g1 ⊢
  generalize den_need_number = D2 at g2 ⊢
  generalize den_foe_many = D3 at g3 ⊢
  by_cases c : am (cnt L P).1 ≤ mv
  · rw [if_pos c]
    generalize am (cnt L P).1 = a at *
    simp [-q_isBor, isBor_O, g1, g2, c, le_line]
  · rw [if_neg c]
    have hc : (cnt L P).1.length ≠ 1 := by
      intro k
      apply c
      unfold am
      rw [if_pos k]
      exact h0
    have g3 := g3 hc
    generalize (cnt L P).2 * (lst (cnt L P).1 / lst (cnt L P).1.dropLast) + lst (cnt L P).1 / lst (cnt L P).1.dropLast + 1 = r at g3 ⊢
    generalize am (cnt L P).1 = a at *
    simp [-q_isBor, isBor_O, g1, g2, g3, c, le_line]
end
/-! the sizes above -/
def gtB (i j : Nat) : DenB := (bE (dOp2 fGt (aSl i) (aSl j)))
def abv (l : List Int) (mv : Int) : List Int := l.filter fun s => decide (mv < s)
theorem ab_lc (w0 : PyData) (mv : Int) : ∀ (l acc : List Int), acc.length + l.length ≤ 1000 →
    lc (.nm 2) (gtB 2 1) (dVar 2) (I l) (I acc) [some (.d w0), some (.d (.int mv)), none] = .ok (.own (I (acc ++ abv l mv))) [some (.d w0), some (.d (.int mv)), none]
  | [], acc, _ => by simp [abv]
  | s :: l, acc, hl => by
    have hn : (I acc).length < 90000 := by simp at hl ⊢; omega
    have e3 : I (s :: l) = .int s :: I l := rfl
    by_cases c : mv < s
    · have ih := ab_lc w0 mv l (acc ++ [s]) (by simp at hl ⊢; omega)
      have e : I (acc ++ abv (s :: l) mv) = I (acc ++ [s] ++ abv l mv) := by simp [abv, c]
      have e2 : I (acc ++ [s]) = I acc ++ [.int s] := by simp
      rw [e, e3]
      rw [e2] at ih
      generalize I (acc ++ [s] ++ abv l mv) = y at ih ⊢
      generalize I acc = z at ih hn ⊢
      generalize I l = v at ih ⊢
      simp [-q_isBor, isBor_O, gtB, c, lt_line hn, noBor, wipeD] at ih ⊢
      exact ih
    · have ih := ab_lc w0 mv l acc (by simp at hl ⊢; omega)
      have e : I (acc ++ abv (s :: l) mv) = I (acc ++ abv l mv) := by simp [abv, c]
      rw [e, e3]
      generalize I (acc ++ abv l mv) = y at ih ⊢
      generalize I acc = z at ih hn ⊢
      generalize I l = v at ih ⊢
      simp [-q_isBor, isBor_O, gtB, c, lt_line hn, noBor, wipeD] at ih ⊢
      exact ih
theorem m_above {L : List Int} {x : PyData} {mv : Int} (h : Sz L) (hx : seqE x = some (I L)) (h0 : 0 ≤ mv) : den_above [.d x, .d (.int mv)] = .ok (.d (.tuple (I (abv L mv)))) [] := by
  have g1 := m_sizes h hx
  have g2 := m_need h0
  have hl := h.len
  have e := ab_lc (.tuple (I L)) mv L [] (by simp; omega)
  rw [List.nil_append, show I ([] : List Int) = [] from rfl] at e
  have ev : envOf 3 [.d x, .d (.int mv)] = [some (.d x), some (.d (.int mv)), none] := rfl
  have hy : (I (abv L mv)).length ≤ 90000 := by
    have := List.length_filter_le (fun s => decide (mv < s)) L
    simp [abv]
    omega
  unfold den_above
  rw [q_runF, ev]
  show S.toRF _ ((sSeq (sSet 0 (wCall 1 den_check_sizes (aCons (aEx (dVar 0)) aNil))) (sSeq (sExpr (eW (wCall 1 den_need_number (aCons (aEx (dVar 1)) aNil)))) (sRet (wE (dApp fTuple (aCons (aEx (eW (wLc (.nm 2) (iSeq (dVar 0)) (gtB 2 1) (dVar 2)))) aNil)))))) _) = _
  generalize I (abv L mv) = y at e hy ⊢
  generalize gtB 2 1 = tt at e ⊢
  generalize I L = v at e g1
  generalize den_check_sizes = D1 at g1 ⊢
  generalize den_need_number = D2 at g2 ⊢
  simp [-q_isBor, isBor_O, g1, g2, noBor, wipeD, e, le_line hy]
end K65

namespace K65
open PySem Mir Gen L2 K1 K3 K6
/-! what is refused -/
section
variable {L P : List Int} {x y z e : PyData}
theorem fa_S (g : den_check_sizes [.d x] = .exc 0 e []) : den_full_amount [.d x, .d y, .d z] = .exc 0 e [] := by
  have g1 := m_need_countingS (y := y) g
  unfold den_full_amount body_full_amount
  generalize den_need_counting = D1 at g1 ⊢
  simp [-q_isBor, isBor_O, g1]
theorem fa_P (h : Sz L) (hx : seqE x = some (I L)) (g : den_check_pages [.d y] = .exc 1 e []) : den_full_amount [.d x, .d y, .d z] = .exc 1 e [] := by
  have g1 := m_need_countingP h hx g
  unfold den_full_amount body_full_amount
  generalize den_need_counting = D1 at g1 ⊢
  simp [-q_isBor, isBor_O, g1]
theorem fa_0 (h : Sz L) (hx : seqE x = some (I L)) (hy : seqE y = some []) : den_full_amount [.d x, .d y, .d z] = .exc 2 y [] := by
  have g1 := m_need_counting0 h hx hy
  unfold den_full_amount body_full_amount
  generalize den_need_counting = D1 at g1 ⊢
  simp [-q_isBor, isBor_O, g1]
theorem fa_W (h : Sz L) (hp : Pg P) (h1 : 1 ≤ P.length) (hx : seqE x = some (I L)) (hy : seqE y = some (I P)) (hw : fInT true [z, whD] = some (.bool true)) : den_full_amount [.d x, .d y, .d z] = .exc 2 z [] := by
  have g1 := m_need_counting h hp h1 hx hy
  have g2 := m_need_when_no hw
  unfold cntD at g1
  unfold den_full_amount body_full_amount
  generalize den_need_counting = D1 at g1 ⊢
  generalize den_need_when = D2 at g2 ⊢
  simp [-q_isBor, isBor_O, g1, g2]
theorem vd_of {c : Nat} (g1 : den_full_amount [.d x, .d y, .d (.str "request")] = .exc c e []) : den_verdict [.d x, .d y, .d z] = .exc c e [] := by
  unfold den_verdict body_verdict
  generalize den_full_amount = D1 at g1 ⊢
  simp [-q_isBor, isBor_O, g1]
theorem vd_N (h : Sz L) (hp : Pg P) (h1 : 1 ≤ P.length) (hx : seqE x = some (I L)) (hy : seqE y = some (I P)) (hz : noDict z = true) (hn : isNum z = false) : den_verdict [.d x, .d y, .d z] = .exc 2 z [] := by
  have g1 := m_full_amount h hp h1 hx hy .r
  have es : Wh.r.s = "request" := rfl
  rw [es] at g1
  have g2 := m_need_x hz
  rw [hn] at g2
  unfold den_verdict body_verdict
  generalize amt (cnt L P).1 (cnt L P).2 .r = a at g1
  generalize den_full_amount = D1 at g1 ⊢
  generalize den_need_number = D2 at g2 ⊢
  have g2' : D2 [.d z] = .exc 2 z [] := by simpa using g2
  simp [-q_isBor, isBor_O, g1, g2']
theorem ab_S (g : den_check_sizes [.d x] = .exc 0 e []) : den_above [.d x, .d y] = .exc 0 e [] := by
  unfold den_above body_above
  generalize den_check_sizes = D1 at g ⊢
  simp [-q_isBor, isBor_O, g]
theorem ab_N (h : Sz L) (hx : seqE x = some (I L)) (hz : noDict z = true) (hn : isNum z = false) : den_above [.d x, .d z] = .exc 2 z [] := by
  have g1 := m_sizes h hx
  have g2 := m_need_x hz
  rw [hn] at g2
  unfold den_above body_above
  generalize den_check_sizes = D1 at g1 ⊢
  generalize den_need_number = D2 at g2 ⊢
  generalize I L = v at g1
  have g2' : D2 [.d z] = .exc 2 z [] := by simpa using g2
  simp [-q_isBor, isBor_O, g1, g2']
end
/-! values that are none -/
structure BadS (p : PyData) (x : PyData) (at_ : Int) : Prop where
  eq : p = .tuple [x, .int at_]
  ex : den_check_sizes [.d x] = .exc 0 (.int at_) []
  sm : -1 ≤ at_ ∧ at_ ≤ 2
structure BadP (p : PyData) (x : PyData) (at_ : Int) : Prop where
  eq : p = .tuple [x, .int at_]
  ex : den_check_pages [.d x] = .exc 1 (.int at_) []
  sm : -1 ≤ at_ ∧ at_ ≤ 2
def sL : List PyData := [.tuple [.none, .int (-1)], .tuple [.tuple [], .int (-1)], .tuple [.tuple [.int 2, .int 3], .int 1], .tuple [.tuple [.int 0, .int 2], .int 0], .tuple [.tuple [.int 1, .int 2, .int 2], .int 2], .tuple [.tuple [.bool true, .int 2], .int 0]]
def pL : List PyData := [.tuple [.none, .int (-1)], .tuple [.tuple [.int 1, .int 1], .int 1], .tuple [.tuple [.int (-1)], .int 0], .tuple [.tuple [.int 0, .int 2, .bool true], .int 2], .tuple [.str "0", .int (-1)]]
theorem badS {p : PyData} (h : p ∈ sL) : ∃ x at_, BadS p x at_ := by
  unfold sL at h
  simp only [List.mem_cons, List.mem_nil_iff, or_false] at h
  rcases h with h | h | h | h | h | h <;> subst h <;> exact ⟨_, _, rfl, rfl, by decide⟩
theorem badP {p : PyData} (h : p ∈ pL) : ∃ x at_, BadP p x at_ := by
  unfold pL at h
  simp only [List.mem_cons, List.mem_nil_iff, or_false] at h
  rcases h with h | h | h | h | h <;> subst h <;> exact ⟨_, _, rfl, rfl, by decide⟩
def oL : List PyData := [.none, .int (-1), .bool true, .str "1", .tuple [.int 1]]
def wL : List PyData := [.none, .str "", .str "both", .int 0, .tuple [.str "giving"]]
theorem oddL {x : PyData} (h : x ∈ oL) : noDict x = true ∧ isNum x = false ∧ fit 1 x = true ∧ x.bulk ≤ 10 := by
  unfold oL at h
  simp only [List.mem_cons, List.mem_nil_iff, or_false] at h
  rcases h with h | h | h | h | h <;> subst h <;> exact ⟨by decide +kernel, by decide +kernel, by decide +kernel, by decide +kernel⟩
theorem wrongL {x : PyData} (h : x ∈ wL) : fInT true [x, whD] = some (.bool true) ∧ fit 1 x = true ∧ x.bulk ≤ 10 := by
  unfold wL at h
  simp only [List.mem_cons, List.mem_nil_iff, or_false] at h
  have e0 : PyData.strOk "" = true := by decide +kernel
  have e1 : PyData.strOk "both" = true := by decide +kernel
  have e2 : PyData.strOk "giving" = true := by decide +kernel
  have n0 : ("request" == "" || ("giving" == "" || "taking" == "")) = false := by decide +kernel
  have n1 : (("request" : Str) == "both" || (("giving" : Str) == "both" || ("taking" : Str) == "both")) = false := by decide +kernel
  have n2 : (("request" : Str) == "" || (("giving" : Str) == "" || ("taking" : Str) == "")) = false := by decide +kernel
  rcases h with h | h | h | h | h <;> subst h
  · exact ⟨fInT_ok (b := false) (by simp [SeqAt.shaped, PyData.canLay0, PyData.depth]) (by simp [PyData.eqv]), by decide +kernel, by decide +kernel⟩
  · exact ⟨fInT_ok (b := false) (by simp [SeqAt.shaped, PyData.canLay0, PyData.depth, e0]) (by simpa [PyData.eqv] using n2), by decide +kernel, by decide +kernel⟩
  · exact ⟨fInT_ok (b := false) (by simp [SeqAt.shaped, PyData.canLay0, PyData.depth, e1]) (by simpa [PyData.eqv] using n1), by decide +kernel, by decide +kernel⟩
  · exact ⟨fInT_ok (b := false) (by simp [SeqAt.shaped, PyData.canLay0, PyData.depth]) (by simp [PyData.eqv]), by decide +kernel, by decide +kernel⟩
  · exact ⟨fInT_ok (b := false) (by simp [SeqAt.shaped, PyData.canLay0, PyData.canLayAll0, PyData.depth, PyData.depthAll, e2]) (by simp [PyData.eqv]), by decide +kernel, by decide +kernel⟩
/-! asks -/
def nmOf : Nat → Str
  | 0 => "sizes"
  | 1 => "pages"
  | _ => "refused"
theorem nm_ok (c : Nat) : PyData.strOk (nmOf c) = true := by
  unfold nmOf
  split <;> decide +kernel
theorem wh_exc {dens : Nat → DenW} {k c : Nat} {δ : Mir.Env} {x : PyData} (hc : c < 3) (h : lamRF (dens k) δ = .exc c x []) (hz : fRepr [x] = some (.str x.shown)) : wHeard (wLam k) body__law_heard 2 dens δ = .ok (.d (.tuple [.str (nmOf c), .str x.shown])) δ := by
  have hd : wLam k δ = .ok (.lam k) δ := rfl
  unfold wHeard
  rw [hd]
  match c, hc with
  | 0, _ => simp [body__law_heard, sTry, wAsk, h, hz, le_line, handle, subD, noExc, dFld, Mir.endD, nmOf]
  | 1, _ => simp [body__law_heard, sTry, wAsk, h, hz, le_line, handle, subD, noExc, dFld, Mir.endD, nmOf]
  | 2, _ => simp [body__law_heard, sTry, wAsk, h, hz, le_line, handle, subD, noExc, dFld, Mir.endD, nmOf]
theorem pair_refl {a b : Str} (ha : PyData.strOk a = true) (hb : PyData.strOk b = true) : fNe [.tuple [.str a, .str b], .tuple [.str a, .str b]] = some (.bool false) :=
  fNe_refl (by simp [SeqAt.shaped, PyData.canLay0, PyData.canLayAll0, PyData.depth, PyData.depthAll, ha, hb])
theorem ask_at {H : DenW} {δ : Mir.Env} {c i : Nat} {x : PyData} {nm : Str} (hn : nm = nmOf c) (a : H δ = .ok (.d (.tuple [.str (nmOf c), .str x.shown])) δ) (hi : δ[i]? = some (some (.d x))) (hz : fRepr [x] = some (.str x.shown)) (ho : PyData.strOk x.shown = true) :
    sIf (bE (dOp2 fNe (aEx (eW H)) (aEx (dTup (aCons (aEx (dC (.str nm))) (aCons (aEx (dApp fRepr (aCons (aSl i) aNil))) aNil)))))) (sRet (wE (dC (.bool false)))) sNil δ = .nx δ := by
  subst hn
  have e := pair_refl (nm_ok c) ho
  generalize x.shown = sh at a hz e
  generalize nmOf c = n at a e ⊢
  simp [-q_isBor, isBor_O, a, hi, hz, e, le_line]
theorem ask_lit {H : DenW} {δ : Mir.Env} {c : Nat} {nm sh : Str} (hn : nm = nmOf c) (a : H δ = .ok (.d (.tuple [.str (nmOf c), .str sh])) δ) (ho : PyData.strOk sh = true) :
    sIf (bE (dOp2 fNe (aEx (eW H)) (aEx (dTup (aCons (aEx (dC (.str nm))) (aCons (aEx (dC (.str sh))) aNil)))))) (sRet (wE (dC (.bool false)))) sNil δ = .nx δ := by
  subst hn
  have e := pair_refl (nm_ok c) ho
  generalize nmOf c = n at a e ⊢
  simp [-q_isBor, isBor_O, a, e, le_line]
end K65

namespace K65
open PySem Mir Gen L2 K1 K3 K6
/-! ### the law -/
def lw_1b_1 : DenS := (sSet 2 (wCall 2 den__law_box (aCons (aEx (dVar 0)) (aCons (aEx (dVar 1)) aNil))))
def lw_1b_2 : DenS := (sUnp [3, 4] (dTup (aCons (aEx (eW (wCallB 3 0 den__law_sizes (aCons (aSl 2) (aCons (aEx (dC (.int 20))) (aCons (aEx (dC (.int 1))) aNil)))))) (aCons (aEx (eW (wCallB 2 0 den__law_pages (aCons (aSl 2) (aCons (aEx (eW (wOp2 fAddA (aEx (dC (.int 1))) (aEx (eW (wCallB 2 0 den__law_take (aCons (aSl 2) (aCons (aEx (dC (.int 7))) aNil)))))))) aNil))))) aNil))))
def lw_1b_3 : DenS := (sPar [5, 6] (wlCons (wE (dVar 3)) (wlCons (wE (dApp fLen (aCons (aSl 4) aNil))) wlNil)))
def lw_1b_4 : DenS := (sIf (bAnd (bE (dOp2 fEq (aSl 6) (aEx (dC (.int 1))))) (bE (dOp2 fGt (aEx (dApp fLen (aCons (aSl 3) aNil))) (aEx (dC (.int 1)))))) (sPar [5, 6] (wlCons (wSl (aSl 3) oNone (oSome (aEx (dOp1 fNeg (aEx (dC (.int 1))))))) (wlCons (wE (dOp2 fDiv (aEx (dOp2 fIx (aSl 3) (aEx (dOp1 fNeg (aEx (dC (.int 1))))))) (aEx (dOp2 fIx (aSl 3) (aEx (dOp1 fNeg (aEx (dC (.int 2))))))))) wlNil))) sNil)
def lw_1b_5b_1 : DenS := (sSet 8 (wCall 3 den__law_amount (aCons (aEx (dVar 5)) (aCons (aEx (dVar 6)) (aCons (aEx (dVar 7)) aNil)))))
def lw_1b_5b_2 : DenS := (sIf (bOr (bE (dOp2 fNe (aEx (dApp fRepr (aCons (aEx (eW (wCall 3 den_full_amount (aCons (aEx (dVar 3)) (aCons (aEx (dVar 4)) (aCons (aEx (dVar 7)) aNil)))))) aNil))) (aEx (dApp fRepr (aCons (aSl 8) aNil))))) (bE (dOp2 fNe (aEx (dApp fRepr (aCons (aEx (eW (wCallK 3 den_full_amount [2, 1, 0] 0 3 aNil (aCons (aEx (dVar 7)) (aCons (aEx (eW (wApp fListOf (aCons (aSl 4) aNil)))) (aCons (aEx (eW (wApp fListOf (aCons (aSl 3) aNil)))) aNil)))))) aNil))) (aEx (dApp fRepr (aCons (aSl 8) aNil)))))) (sRet (wE (dC (.bool false)))) sNil)
def lw_1b_5b : DenS := (sSeq lw_1b_5b_1 lw_1b_5b_2)
def lw_1b_5 : DenS := (sFor (.nm 7) (iSeq (dTup (aCons (aEx (dC (.str "request"))) (aCons (aEx (dC (.str "giving"))) (aCons (aEx (dC (.str "taking"))) aNil))))) lw_1b_5b)
def lw_1b_6 : DenS := (sSet 9 (wCallB 2 0 den__law_take (aCons (aSl 2) (aCons (aEx (eW (wOp2 fAddA (aEx (dOp2 fIx (aSl 3) (aEx (dOp1 fNeg (aEx (dC (.int 1))))))) (aEx (dC (.int 3)))))) aNil))))
def lw_1b_7 : DenS := (sSet 8 (wE (dApp fTuple (aCons (aEx (eW (wLc (.nm 10) (iSeq (dVar 3)) (bE (dOp2 fGt (aSl 10) (aSl 9))) (dVar 10)))) aNil))))
def lw_1b_8 : DenS := (sIf (bOr (bE (dOp2 fNe (aEx (dApp fRepr (aCons (aEx (eW (wCall 2 den_above (aCons (aEx (dVar 3)) (aCons (aEx (dVar 9)) aNil))))) aNil))) (aEx (dApp fRepr (aCons (aSl 8) aNil))))) (bE (dOp2 fNe (aEx (dApp fRepr (aCons (aEx (eW (wCallK 2 den_above [1, 0] 0 2 aNil (aCons (aEx (dVar 9)) (aCons (aEx (eW (wApp fListOf (aCons (aSl 3) aNil)))) aNil))))) aNil))) (aEx (dApp fRepr (aCons (aSl 8) aNil)))))) (sRet (wE (dC (.bool false)))) sNil)
def lw_1b_9 : DenS := (sSet 11 (wCall 3 den__law_amount (aCons (aEx (dVar 5)) (aCons (aEx (dVar 6)) (aCons (aEx (dC (.str "request"))) aNil)))))
def lw_1b_10 : DenS := (sSet 8 (wE (dTup (aCons (aEx (dC (.str "full"))) (aCons (aEx (dVar 11)) aNil)))))
def lw_1b_11t_1 : DenS := (sSet 12 (wE (dOp2 fDiv (aEx (dOp2 fIx (aSl 5) (aEx (dOp1 fNeg (aEx (dC (.int 1))))))) (aEx (dOp2 fIx (aSl 5) (aEx (dOp1 fNeg (aEx (dC (.int 2))))))))))
def lw_1b_11t_2 : DenS := (sSet 8 (wE (dTup (aCons (aEx (dC (.str "beaten"))) (aCons (aEx (dVar 11)) (aCons (aEx (eW (wOp2 fAddA (aEx (eW (wOp2 fAddA (aEx (dOp2 fMulA (aSl 6) (aSl 12))) (aSl 12)))) (aEx (dC (.int 1)))))) aNil))))))
def lw_1b_11t : DenS := (sSeq lw_1b_11t_1 lw_1b_11t_2)
def lw_1b_11 : DenS := (sIf (bE (dOp2 fLt (aSl 9) (aSl 11))) lw_1b_11t sNil)
def lw_1b_12 : DenS := (sIf (bOr (bE (dOp2 fNe (aEx (dApp fRepr (aCons (aEx (eW (wCall 3 den_verdict (aCons (aEx (dVar 3)) (aCons (aEx (dVar 4)) (aCons (aEx (dVar 9)) aNil)))))) aNil))) (aEx (dApp fRepr (aCons (aSl 8) aNil))))) (bE (dOp2 fNe (aEx (dApp fRepr (aCons (aEx (eW (wCallK 3 den_verdict [2, 1, 0] 0 3 aNil (aCons (aEx (dVar 9)) (aCons (aEx (eW (wApp fListOf (aCons (aSl 4) aNil)))) (aCons (aEx (eW (wApp fListOf (aCons (aSl 3) aNil)))) aNil)))))) aNil))) (aEx (dApp fRepr (aCons (aSl 8) aNil)))))) (sRet (wE (dC (.bool false)))) sNil)
def lw_1b_13 : DenS := (sUnp [13, 14] (eW (wCallB 2 0 den__law_pick (aCons (aSl 2) (aCons (aEx (eW (wList (aCons (aEx (dTup (aCons (aEx (dC .none)) (aCons (aEx (dOp2 fSub (aEx (dC (.int 0))) (aEx (dC (.int 1))))) aNil)))) (aCons (aEx (dTup (aCons (aEx (dTup aNil)) (aCons (aEx (dOp2 fSub (aEx (dC (.int 0))) (aEx (dC (.int 1))))) aNil)))) (aCons (aEx (dTup (aCons (aEx (dTup (aCons (aEx (dC (.int 2))) (aCons (aEx (dC (.int 3))) aNil)))) (aCons (aEx (dC (.int 1))) aNil)))) (aCons (aEx (dTup (aCons (aEx (dTup (aCons (aEx (dC (.int 0))) (aCons (aEx (dC (.int 2))) aNil)))) (aCons (aEx (dC (.int 0))) aNil)))) (aCons (aEx (dTup (aCons (aEx (dTup (aCons (aEx (dC (.int 1))) (aCons (aEx (dC (.int 2))) (aCons (aEx (dC (.int 2))) aNil))))) (aCons (aEx (dC (.int 2))) aNil)))) (aCons (aEx (dTup (aCons (aEx (dTup (aCons (aEx (dC (.bool true))) (aCons (aEx (dC (.int 2))) aNil)))) (aCons (aEx (dC (.int 0))) aNil)))) aNil))))))))) aNil)))))
def lw_1b_14 : DenS := (sUnp [15, 16] (eW (wCallB 2 0 den__law_pick (aCons (aSl 2) (aCons (aEx (eW (wList (aCons (aEx (dTup (aCons (aEx (dC .none)) (aCons (aEx (dOp2 fSub (aEx (dC (.int 0))) (aEx (dC (.int 1))))) aNil)))) (aCons (aEx (dTup (aCons (aEx (dTup (aCons (aEx (dC (.int 1))) (aCons (aEx (dC (.int 1))) aNil)))) (aCons (aEx (dC (.int 1))) aNil)))) (aCons (aEx (dTup (aCons (aEx (dTup (aCons (aEx (dOp2 fSub (aEx (dC (.int 0))) (aEx (dC (.int 1))))) aNil))) (aCons (aEx (dC (.int 0))) aNil)))) (aCons (aEx (dTup (aCons (aEx (dTup (aCons (aEx (dC (.int 0))) (aCons (aEx (dC (.int 2))) (aCons (aEx (dC (.bool true))) aNil))))) (aCons (aEx (dC (.int 2))) aNil)))) (aCons (aEx (dTup (aCons (aEx (dC (.str "0"))) (aCons (aEx (dOp2 fSub (aEx (dC (.int 0))) (aEx (dC (.int 1))))) aNil)))) aNil)))))))) aNil)))))
def lw_1b_15 : DenS := (sUnp [17, 18] (dTup (aCons (aEx (eW (wCallB 2 0 den__law_pick (aCons (aSl 2) (aCons (aEx (eW (wList (aCons (aEx (dC .none)) (aCons (aEx (dOp2 fSub (aEx (dC (.int 0))) (aEx (dC (.int 1))))) (aCons (aEx (dC (.bool true))) (aCons (aEx (dC (.str "1"))) (aCons (aEx (dTup (aCons (aEx (dC (.int 1))) aNil))) aNil)))))))) aNil))))) (aCons (aEx (eW (wCallB 2 0 den__law_pick (aCons (aSl 2) (aCons (aEx (eW (wList (aCons (aEx (dC .none)) (aCons (aEx (dC (.str ""))) (aCons (aEx (dC (.str "both"))) (aCons (aEx (dC (.int 0))) (aCons (aEx (dTup (aCons (aEx (dC (.str "giving"))) aNil))) aNil)))))))) aNil))))) aNil))))
def lw_1b_16 : DenS := (sIf (bE (dOp2 fNe (aEx (eW (wHeard (wLam 0) body__law_heard 2 dens_law))) (aEx (dTup (aCons (aEx (dC (.str "sizes"))) (aCons (aEx (dApp fRepr (aCons (aSl 14) aNil))) aNil)))))) (sRet (wE (dC (.bool false)))) sNil)
def lw_1b_17 : DenS := (sIf (bE (dOp2 fNe (aEx (eW (wHeard (wLam 1) body__law_heard 2 dens_law))) (aEx (dTup (aCons (aEx (dC (.str "sizes"))) (aCons (aEx (dApp fRepr (aCons (aSl 14) aNil))) aNil)))))) (sRet (wE (dC (.bool false)))) sNil)
def lw_1b_18 : DenS := (sIf (bE (dOp2 fNe (aEx (eW (wHeard (wLam 2) body__law_heard 2 dens_law))) (aEx (dTup (aCons (aEx (dC (.str "pages"))) (aCons (aEx (dApp fRepr (aCons (aSl 16) aNil))) aNil)))))) (sRet (wE (dC (.bool false)))) sNil)
def lw_1b_19 : DenS := (sIf (bE (dOp2 fNe (aEx (eW (wHeard (wLam 3) body__law_heard 2 dens_law))) (aEx (dTup (aCons (aEx (dC (.str "refused"))) (aCons (aEx (dC (.str "[]"))) aNil)))))) (sRet (wE (dC (.bool false)))) sNil)
def lw_1b_20 : DenS := (sIf (bE (dOp2 fNe (aEx (eW (wHeard (wLam 4) body__law_heard 2 dens_law))) (aEx (dTup (aCons (aEx (dC (.str "refused"))) (aCons (aEx (dApp fRepr (aCons (aSl 18) aNil))) aNil)))))) (sRet (wE (dC (.bool false)))) sNil)
def lw_1b_21 : DenS := (sIf (bE (dOp2 fNe (aEx (eW (wHeard (wLam 5) body__law_heard 2 dens_law))) (aEx (dTup (aCons (aEx (dC (.str "sizes"))) (aCons (aEx (dApp fRepr (aCons (aSl 14) aNil))) aNil)))))) (sRet (wE (dC (.bool false)))) sNil)
def lw_1b_22 : DenS := (sIf (bE (dOp2 fNe (aEx (eW (wHeard (wLam 6) body__law_heard 2 dens_law))) (aEx (dTup (aCons (aEx (dC (.str "pages"))) (aCons (aEx (dApp fRepr (aCons (aSl 16) aNil))) aNil)))))) (sRet (wE (dC (.bool false)))) sNil)
def lw_1b_23 : DenS := (sIf (bE (dOp2 fNe (aEx (eW (wHeard (wLam 7) body__law_heard 2 dens_law))) (aEx (dTup (aCons (aEx (dC (.str "refused"))) (aCons (aEx (dC (.str "()"))) aNil)))))) (sRet (wE (dC (.bool false)))) sNil)
def lw_1b_24 : DenS := (sIf (bE (dOp2 fNe (aEx (eW (wHeard (wLam 8) body__law_heard 2 dens_law))) (aEx (dTup (aCons (aEx (dC (.str "refused"))) (aCons (aEx (dApp fRepr (aCons (aSl 17) aNil))) aNil)))))) (sRet (wE (dC (.bool false)))) sNil)
def lw_1b_25 : DenS := (sIf (bE (dOp2 fNe (aEx (eW (wHeard (wLam 9) body__law_heard 2 dens_law))) (aEx (dTup (aCons (aEx (dC (.str "refused"))) (aCons (aEx (dApp fRepr (aCons (aSl 17) aNil))) aNil)))))) (sRet (wE (dC (.bool false)))) sNil)
def lw_1b : DenS := (sSeq lw_1b_1 (sSeq lw_1b_2 (sSeq lw_1b_3 (sSeq lw_1b_4 (sSeq lw_1b_5 (sSeq lw_1b_6 (sSeq lw_1b_7 (sSeq lw_1b_8 (sSeq lw_1b_9 (sSeq lw_1b_10 (sSeq lw_1b_11 (sSeq lw_1b_12 (sSeq lw_1b_13 (sSeq lw_1b_14 (sSeq lw_1b_15 (sSeq lw_1b_16 (sSeq lw_1b_17 (sSeq lw_1b_18 (sSeq lw_1b_19 (sSeq lw_1b_20 (sSeq lw_1b_21 (sSeq lw_1b_22 (sSeq lw_1b_23 (sSeq lw_1b_24 lw_1b_25))))))))))))))))))))))))
def lw_1 : DenS := (sFor (.nm 1) (iRange1 (dApp fMax2 (aCons (aEx (dC (.int 3))) (aCons (aEx (dApp fMin2 (aCons (aEx (dApp fLen (aCons (aSl 0) aNil))) (aCons (aEx (dC (.int 7))) aNil)))) aNil)))) lw_1b)
def lw_2 : DenS := (sRet (wE (dC (.bool true))))
def lw : DenS := (sSeq lw_1 lw_2)
theorem lw_eq : body_law = lw := rfl
abbrev E19 (s : List Int) (j : Int) (l : List PyData) (L P C : List Int) (m : Int) (w7 w8 w9 w11 w12 w13 w14 w15 w16 w17 w18 : Option W) : Mir.Env :=
  [some (.d (.list (I s))), some (.d (.int j)), some (.own l), some (.d (.tuple (I L))), some (.d (.tuple (I P))), some (.d (.tuple (I C))), some (.d (.int m)), w7, w8, w9, none, w11, w12, w13, w14, w15, w16, w17, w18]
section
variable {s : List Int} {j : Int} {l : List PyData} {L P C : List Int} {m : Int} {w7 w8 w9 w11 w12 w13 w14 w15 w16 w17 w18 : Option W}
theorem fit_amt (h : Sz C) (m1 : 1 ≤ m) (m2 : m ≤ 64) (w : Wh) : fit 0 (amt C m w) = true ∧ (amt C m w).bulk = 0 := by
  unfold amt
  split
  · exact ⟨fit_int (by decide) (by decide), rfl⟩
  · obtain ⟨F, y, z, rfl, k1, k2, k3, k4⟩ := two_last h (by have := h.len; omega)
    cases w with
    | r =>
      simp only [drop_two, lst_one]
      exact ⟨fit_int (by omega) (by omega), rfl⟩
    | g =>
      simp only
      split
      · have hs : ∀ l : List Int, (∀ x ∈ l, 0 ≤ x ∧ x ≤ 64) → 0 ≤ l.sum ∧ l.sum ≤ 64 * l.length := by
          intro l
          induction l with
          | nil => intro _; simp
          | cons a t ih =>
            intro hx
            have i := ih fun x k => hx x (List.mem_cons_of_mem _ k)
            have a1 := hx a (List.mem_cons_self ..)
            rw [List.sum_cons]; rw [List.length_cons]
            push_cast
            omega
        have hm := hs (F ++ [y, z]).dropLast fun x hx => by
          obtain ⟨_, _, _, _, _, f6⟩ := sz_facts h
          have := f6 x (List.dropLast_subset _ hx)
          omega
        have hl := h.len
        have hd : (F ++ [y, z]).dropLast.length ≤ 5 := by rw [List.length_dropLast]; omega
        exact ⟨fit_int (by omega) (by omega), rfl⟩
      · exact ⟨rfl, rfl⟩
    | t =>
      simp only
      split
      · obtain ⟨f1, f2, f3, f4, f5, f6⟩ := sz_facts h
        have fh := f6 _ f2
        have d0 := Int.ediv_le_self (hd (F ++ [y, z])) (show 0 ≤ lst (F ++ [y, z]) by omega)
        have d1 := Int.ediv_nonneg (show 0 ≤ lst (F ++ [y, z]) by omega) (show 0 ≤ hd (F ++ [y, z]) by omega)
        generalize lst (F ++ [y, z]) / hd (F ++ [y, z]) = u at *
        have d2 := Int.ediv_le_self m (show 0 ≤ u + m - 1 by omega)
        have d3 := Int.ediv_nonneg (show 0 ≤ u + m - 1 by omega) (show 0 ≤ m by omega)
        generalize (u + m - 1) / m = q at *
        have a1 := Int.mul_le_mul_of_nonneg_right (show hd (F ++ [y, z]) ≤ 64 by omega) (show 0 ≤ u + q + 1 by omega)
        have a2 : hd (F ++ [y, z]) * (u - q) ≤ hd (F ++ [y, z]) * (u + q + 1) := Int.mul_le_mul_of_nonneg_left (by omega) (by omega)
        have a3 : hd (F ++ [y, z]) * (-(u + q + 1)) ≤ hd (F ++ [y, z]) * (u - q) := Int.mul_le_mul_of_nonneg_left (by omega) (by omega)
        rw [Int.mul_neg] at a3
        exact ⟨fit_int (by omega) (by omega), rfl⟩
      · exact ⟨rfl, rfl⟩
theorem l_5b (h : Sz L) (hp : Pg P) (h1 : 1 ≤ P.length) (b8 : isBorO (some w8) = false) (w : Wh) :
    lw_1b_5b (E19 s j l L P (cnt L P).1 (cnt L P).2 (some (.d (.str w.s))) w8 w9 w11 w12 w13 w14 w15 w16 w17 w18) = .nx (E19 s j l L P (cnt L P).1 (cnt L P).2 (some (.d (.str w.s))) (some (.d (amt (cnt L P).1 (cnt L P).2 w))) w9 w11 w12 w13 w14 w15 w16 w17 w18) := by
  obtain ⟨hC, m1, m2⟩ := cnt_ok h h1 hp.2
  have g1 := m_law_amount hC m1 m2 w
  have g2 := m_full_amount (x := .tuple (I L)) (y := .tuple (I P)) h hp h1 rfl rfl w
  have g3 := m_full_amount (x := .list (I L)) (y := .list (I P)) h hp h1 rfl rfl w
  obtain ⟨f1, f2⟩ := fit_amt hC m1 m2 w
  have q := repr_fit f1 (by decide) (by omega)
  have e := rn_fit f1
  unfold lw_1b_5b lw_1b_5b_1 lw_1b_5b_2
  simp only [E19]
  generalize amt (cnt L P).1 (cnt L P).2 w = a at *
  generalize (cnt L P).1 = C at *
  generalize (cnt L P).2 = m at *
  generalize den__law_amount = D1 at g1 ⊢
  generalize den_full_amount = D2 at g2 g3 ⊢
  generalize a.shown = sh at q e
  have n1 := h.len
  have n2 := hp.2
  have k1 : (I L).length ≤ 90000 := by simp; omega
  have k2 : (I P).length ≤ 90000 := by simp; omega
  generalize I L = vL at g2 g3 k1 ⊢
  generalize I P = vP at g2 g3 k2 ⊢
  generalize I C = vC at g1 ⊢
  generalize w.s = ws at g1 g2 g3 ⊢
  simp [-q_isBor, isBor_O, g1, g2, g3, q, e, b8, inOrder, le_line, le_line k1, le_line k2]
theorem l_5 (h : Sz L) (hp : Pg P) (h1 : 1 ≤ P.length) (b7 : isBorO (some w7) = false) (b8 : isBorO (some w8) = false) :
    lw_1b_5 (E19 s j l L P (cnt L P).1 (cnt L P).2 w7 w8 w9 w11 w12 w13 w14 w15 w16 w17 w18) = .nx (E19 s j l L P (cnt L P).1 (cnt L P).2 (some (.d (.str "taking"))) (some (.d (amt (cnt L P).1 (cnt L P).2 .t))) w9 w11 w12 w13 w14 w15 w16 w17 w18) := by
  have e1 := l_5b (s := s) (j := j) (l := l) (w9 := w9) (w11 := w11) (w12 := w12) (w13 := w13) (w14 := w14) (w15 := w15) (w16 := w16) (w17 := w17) (w18 := w18) h hp h1 b8 .r
  have e2 := l_5b (s := s) (j := j) (l := l) (w9 := w9) (w11 := w11) (w12 := w12) (w13 := w13) (w14 := w14) (w15 := w15) (w16 := w16) (w17 := w17) (w18 := w18) (w8 := some (.d (amt (cnt L P).1 (cnt L P).2 .r))) h hp h1 rfl .g
  have e3 := l_5b (s := s) (j := j) (l := l) (w9 := w9) (w11 := w11) (w12 := w12) (w13 := w13) (w14 := w14) (w15 := w15) (w16 := w16) (w17 := w17) (w18 := w18) (w8 := some (.d (amt (cnt L P).1 (cnt L P).2 .g))) h hp h1 rfl .t
  have st : ∀ (x : PyData) (w7 w8 : Option W), isBorO (some w7) = false → setD 7 x (E19 s j l L P (cnt L P).1 (cnt L P).2 w7 w8 w9 w11 w12 w13 w14 w15 w16 w17 w18) = some (E19 s j l L P (cnt L P).1 (cnt L P).2 (some (.d x)) w8 w9 w11 w12 w13 w14 w15 w16 w17 w18) := fun x w7 w8 b => by
    simp only [q_setD, isBor_O]
    simp [b]
  have it : (iSeq (dTup (aCons (aEx (dC (.str "request"))) (aCons (aEx (dC (.str "giving"))) (aCons (aEx (dC (.str "taking"))) aNil))))) (E19 s j l L P (cnt L P).1 (cnt L P).2 w7 w8 w9 w11 w12 w13 w14 w15 w16 w17 w18) = .ok [.str "request", .str "giving", .str "taking"] (E19 s j l L P (cnt L P).1 (cnt L P).2 w7 w8 w9 w11 w12 w13 w14 w15 w16 w17 w18) := by
    simp only [E19]
    simp [le_line]
  have d1 : Wh.r.s = "request" := rfl
  have d2 : Wh.g.s = "giving" := rfl
  have d3 : Wh.t.s = "taking" := rfl
  rw [d1] at e1
  rw [d2] at e2
  rw [d3] at e3
  unfold lw_1b_5
  rw [q_for, it, q_to_ok, q_for_cons, q_bind_nm, st _ _ _ b7, q_ofO, e1, q_loop_nx, q_for_cons, q_bind_nm, st _ _ _ rfl, q_ofO, e2, q_loop_nx, q_for_cons, q_bind_nm, st _ _ _ rfl, q_ofO, e3, q_loop_nx]
  rfl
end
end K65

namespace K65
open PySem Mir Gen L2 K1 K3 K6
section
variable {s : List Int} {l : List PyData} {L P C : List Int} {m : Int} {w7 w8 w9 w11 w12 w13 w14 w15 w16 w17 w18 : Option W}
abbrev E0 (s : List Int) (j : Nat) (w2 w3 w4 w5 w6 w7 w8 w9 w11 w12 w13 w14 w15 w16 w17 w18 : Option W) : Mir.Env :=
  [some (.d (.list (I s))), some (.d (.int (j : Nat))), w2, w3, w4, w5, w6, w7, w8, w9, none, w11, w12, w13, w14, w15, w16, w17, w18]
theorem l_14 {j : Nat} {w2 w3 w4 w5 w6 : Option W} (hj : j < 1000) (hs : s.length < 1000) (b2 : isBorO (some w2) = false) (b3 : isBorO (some w3) = false) (b4 : isBorO (some w4) = false) (b5 : isBorO (some w5) = false) (b6 : isBorO (some w6) = false) (R : DenS) :
    ∃ (L P : List Int) (l : List PyData) (k : Nat), sSeq lw_1b_1 (sSeq lw_1b_2 (sSeq lw_1b_3 (sSeq lw_1b_4 R))) (E0 s j w2 w3 w4 w5 w6 w7 w8 w9 w11 w12 w13 w14 w15 w16 w17 w18) =
      R (E19 s j l L P (cnt L P).1 (cnt L P).2 w7 w8 w9 w11 w12 w13 w14 w15 w16 w17 w18) ∧ Box l ∧ Sz L ∧ Dr P (k + 1) ∧ k < 7 := by
  obtain ⟨l0, e1, hb0⟩ := law_box_ok (k := j) hj hs
  obtain ⟨L, l1, e2, hb1, hL⟩ := law_sizes_ok hb0
  obtain ⟨d, l2, e3, d0, d1, hb2⟩ := take_ok (many := 7) hb1 (by decide) (by decide)
  obtain ⟨k, rfl⟩ : ∃ k : Nat, d = k := ⟨d.toNat, by omega⟩
  obtain ⟨P, l3, e4, hb3, hP⟩ := law_pages_ok hb2 (show k < 7 by omega)
  refine ⟨L, P, l3, k, ?_, hb3, hL, hP, by omega⟩
  have s1 : lw_1b_1 (E0 s j w2 w3 w4 w5 w6 w7 w8 w9 w11 w12 w13 w14 w15 w16 w17 w18) = .nx (E0 s j (some (.own l0)) w3 w4 w5 w6 w7 w8 w9 w11 w12 w13 w14 w15 w16 w17 w18) := by
    unfold lw_1b_1
    simp only [E0]
    generalize den__law_box = D at e1 ⊢
    generalize (j : Int) = ji at e1 ⊢
    generalize I s = zs at e1 ⊢
    simp [-q_isBor, isBor_O, e1, b2]
  have s2 : lw_1b_2 (E0 s j (some (.own l0)) w3 w4 w5 w6 w7 w8 w9 w11 w12 w13 w14 w15 w16 w17 w18) = .nx (E0 s j (some (.own l3)) (some (.d (.tuple (I L)))) (some (.d (.tuple (I P)))) w5 w6 w7 w8 w9 w11 w12 w13 w14 w15 w16 w17 w18) := by
    unfold lw_1b_2
    simp only [E0]
    generalize den__law_take = D1 at e3 ⊢
    generalize den__law_sizes = D2 at e2 ⊢
    generalize den__law_pages = D3 at e4 ⊢
    generalize (j : Int) = ji
    generalize (k : Int) = ki at e3 e4
    generalize I L = z at e2 ⊢
    generalize I P = z2 at e4 ⊢
    generalize I s = zs
    simp [-q_isBor, isBor_O, e2, e3, e4, b3, b4, le_line]
  have s3 : lw_1b_3 (E0 s j (some (.own l3)) (some (.d (.tuple (I L)))) (some (.d (.tuple (I P)))) w5 w6 w7 w8 w9 w11 w12 w13 w14 w15 w16 w17 w18) = .nx (E19 s j l3 L P L P.length w7 w8 w9 w11 w12 w13 w14 w15 w16 w17 w18) := by
    unfold lw_1b_3
    simp only [E0, E19]
    have el : ((I P).length : Int) = P.length := by simp
    generalize (P.length : Int) = pl at el ⊢
    generalize (j : Int) = ji
    generalize I L = z
    generalize I P = z2 at el ⊢
    generalize I s = zs
    simp [-q_isBor, isBor_O, b5, b6, el]
  have s4 : lw_1b_4 (E19 s j l3 L P L P.length w7 w8 w9 w11 w12 w13 w14 w15 w16 w17 w18) = .nx (E19 s j l3 L P (cnt L P).1 (cnt L P).2 w7 w8 w9 w11 w12 w13 w14 w15 w16 w17 w18) := by
    unfold lw_1b_4 cnt
    simp only [E19]
    by_cases c : P.length = 1 ∧ 1 < L.length
    · rw [if_pos c]
      obtain ⟨F, y, z, rfl, k1, k2, k3, k4⟩ := two_last hL c.2
      simp only [lst_two, drop_two, lst_one]
      have c1 : (P.length : Int) = 1 := by omega
      have c2 : (1 : Int) < (I (F ++ [y, z])).length := by simp; omega
      have g1 : atI (I (F ++ [y, z])) (-1) = some (.int z) := by rw [I_two]; exact at_l2
      have g2 : atI (I (F ++ [y, z])) (-2) = some (.int y) := by rw [I_two]; exact at_m2
      have f1 := fDiv_ok (a := z) (b := y) (by omega) (by omega)
      have cl := cut_last (I (F ++ [y, z]))
      have cl2 : (I (F ++ [y, z])).dropLast = I (F ++ [y]) := by
        rw [I_two, show I F ++ [PyData.int y, .int z] = (I F ++ [.int y]) ++ [.int z] by simp, List.dropLast_concat]
        simp
      rw [cl2] at cl
      generalize I (F ++ [y, z]) = v at c2 g1 g2 cl ⊢
      generalize I (F ++ [y]) = v2 at cl ⊢
      generalize (P.length : Int) = p at c1 ⊢
      generalize z / y = d at f1 ⊢
      generalize I P = z2
      generalize I s = zs
      generalize (j : Int) = ji
      simp [-q_isBor, isBor_O, fEq_i, c1, c2, g1, g2, f1, cl]
    · rw [if_neg c]
      by_cases c1 : P.length = 1
      · have c1' : (P.length : Int) = 1 := by omega
        have c2 : ¬ (1 : Int) < (I L).length := by
          have : ¬ 1 < L.length := fun k => c ⟨c1, k⟩
          simp
          omega
        generalize I L = v at c2 ⊢
        generalize (P.length : Int) = p at c1' ⊢
        generalize I P = z2
        generalize I s = zs
        generalize (j : Int) = ji
        simp [-q_isBor, isBor_O, fEq_i, c1', c2]
      · have c1' : ¬ (P.length : Int) = 1 := by omega
        generalize I L = v
        generalize (P.length : Int) = p at c1' ⊢
        generalize I P = z2
        generalize I s = zs
        generalize (j : Int) = ji
        simp [-q_isBor, isBor_O, fEq_i, c1']
  rw [q_seq, s1, q_then_nx, q_seq, s2, q_then_nx, q_seq, s3, q_then_nx, q_seq, s4, q_then_nx]
variable {j : Int}
theorem lw_lc (mv : Int) : ∀ (k acc : List Int), acc.length + k.length ≤ 1000 →
    lc (.nm 10) (gtB 10 9) (dVar 10) (I k) (I acc) (E19 s j l L P C m w7 w8 (some (.d (.int mv))) w11 w12 w13 w14 w15 w16 w17 w18) = .ok (.own (I (acc ++ abv k mv))) (E19 s j l L P C m w7 w8 (some (.d (.int mv))) w11 w12 w13 w14 w15 w16 w17 w18)
  | [], acc, _ => by simp [abv]
  | a :: k, acc, hl => by
    have hn : (I acc).length < 90000 := by simp at hl ⊢; omega
    have e3 : I (a :: k) = .int a :: I k := rfl
    by_cases c : mv < a
    · have ih := lw_lc mv k (acc ++ [a]) (by simp at hl ⊢; omega)
      have e : I (acc ++ abv (a :: k) mv) = I (acc ++ [a] ++ abv k mv) := by simp [abv, c]
      have e2 : I (acc ++ [a]) = I acc ++ [.int a] := by simp
      rw [e, e3]
      rw [e2] at ih
      simp only [E19] at ih ⊢
      generalize I (acc ++ [a] ++ abv k mv) = y at ih ⊢
      generalize I acc = z at ih hn ⊢
      generalize I k = v at ih ⊢
      generalize I L = vL at ih ⊢
      generalize I P = vP at ih ⊢
      generalize I C = vC at ih ⊢
      generalize I s = vs at ih ⊢
      simp [-q_isBor, isBor_O, gtB, c, lt_line hn, noBor, wipeD] at ih ⊢
      exact ih
    · have ih := lw_lc mv k acc (by simp at hl ⊢; omega)
      have e : I (acc ++ abv (a :: k) mv) = I (acc ++ abv k mv) := by simp [abv, c]
      rw [e, e3]
      simp only [E19] at ih ⊢
      generalize I (acc ++ abv k mv) = y at ih ⊢
      generalize I acc = z at ih hn ⊢
      generalize I k = v at ih ⊢
      generalize I L = vL at ih ⊢
      generalize I P = vP at ih ⊢
      generalize I C = vC at ih ⊢
      generalize I s = vs at ih ⊢
      simp [-q_isBor, isBor_O, gtB, c, lt_line hn, noBor, wipeD] at ih ⊢
      exact ih
theorem l_6 (h : Sz L) (hb : Box l) (b9 : isBorO (some w9) = false) : ∃ (mv : Int) (l' : List PyData), 0 ≤ mv ∧ mv < 100 ∧ Box l' ∧ lw_1b_6 (E19 s j l L P C m w7 w8 w9 w11 w12 w13 w14 w15 w16 w17 w18) = .nx (E19 s j l' L P C m w7 w8 (some (.d (.int mv))) w11 w12 w13 w14 w15 w16 w17 w18) := by
  obtain ⟨f1, f2, f3, f4, f5, f6⟩ := sz_facts h
  obtain ⟨d, l1, ht, d0, d1, hb1⟩ := take_ok (many := lst L + 3) hb (by omega) (by omega)
  refine ⟨d, l1, d0, by omega, hb1, ?_⟩
  have g1 := at_lst h
  unfold lw_1b_6
  simp only [E19]
  generalize den__law_take = D at ht ⊢
  generalize lst L = z at g1 ht
  generalize I L = vL at g1 ⊢
  generalize I P = vP
  generalize I C = vC
  generalize I s = vs
  simp [-q_isBor, isBor_O, g1, ht, b9]
theorem abv_sub {L : List Int} {mv : Int} (h : Sz L) : (abv L mv).length ≤ 5 ∧ ∀ x ∈ abv L mv, 0 ≤ x ∧ x < 10 ^ 60 := by
  constructor
  · have := List.length_filter_le (fun s => decide (mv < s)) L
    have := h.len
    unfold abv
    omega
  · intro x hx
    obtain ⟨_, _, _, _, _, f6⟩ := sz_facts h
    have := f6 x (List.mem_filter.mp hx).1
    omega
theorem l_78 {mv : Int} (h : Sz L) (h0 : 0 ≤ mv) (b8 : isBorO (some w8) = false) (R : DenS) : sSeq lw_1b_7 (sSeq lw_1b_8 R) (E19 s j l L P C m w7 w8 (some (.d (.int mv))) w11 w12 w13 w14 w15 w16 w17 w18) = R (E19 s j l L P C m w7 (some (.d (.tuple (I (abv L mv))))) (some (.d (.int mv))) w11 w12 w13 w14 w15 w16 w17 w18) := by
  have hl := h.len
  have e := lw_lc (s := s) (j := j) (l := l) (L := L) (P := P) (C := C) (m := m) (w7 := w7) (w8 := w8) (w11 := w11) (w12 := w12) (w13 := w13) (w14 := w14) (w15 := w15) (w16 := w16) (w17 := w17) (w18 := w18) mv L [] (by simp; omega)
  obtain ⟨a1, a2⟩ := abv_sub (mv := mv) h
  rw [List.nil_append, show I ([] : List Int) = [] from rfl] at e
  have g1 := m_above (x := .tuple (I L)) h rfl h0
  have g2 := m_above (x := .list (I L)) h rfl h0
  have f1 : fit 1 (.tuple (I (abv L mv))) = true := fit_I a2
  have bk : (PyData.tuple (I (abv L mv))).bulk ≤ 1500 := by
    show PyData.bulkAll (I (abv L mv)) ≤ 1500
    rw [bulk_I]
    omega
  have q := repr_fit f1 (by decide) bk
  have en := rn_fit f1
  have hy : (I (abv L mv)).length ≤ 90000 := by simp; omega
  have k1 : (I L).length ≤ 90000 := by simp; omega
  have s7 : lw_1b_7 (E19 s j l L P C m w7 w8 (some (.d (.int mv))) w11 w12 w13 w14 w15 w16 w17 w18) = .nx (E19 s j l L P C m w7 (some (.d (.tuple (I (abv L mv))))) (some (.d (.int mv))) w11 w12 w13 w14 w15 w16 w17 w18) := by
    show (sSet 8 (wE (dApp fTuple (aCons (aEx (eW (wLc (.nm 10) (iSeq (dVar 3)) (gtB 10 9) (dVar 10)))) aNil)))) _ = _
    simp only [E19] at e ⊢
    generalize I (abv L mv) = y at e hy ⊢
    generalize gtB 10 9 = tt at e ⊢
    generalize I L = vL at e ⊢
    generalize I P = vP at e ⊢
    generalize I C = vC at e ⊢
    generalize I s = vs at e ⊢
    simp [-q_isBor, isBor_O, noBor, wipeD, e, b8, le_line hy]
  have s8 : lw_1b_8 (E19 s j l L P C m w7 (some (.d (.tuple (I (abv L mv))))) (some (.d (.int mv))) w11 w12 w13 w14 w15 w16 w17 w18) = .nx (E19 s j l L P C m w7 (some (.d (.tuple (I (abv L mv))))) (some (.d (.int mv))) w11 w12 w13 w14 w15 w16 w17 w18) := by
    unfold lw_1b_8
    simp only [E19]
    generalize den_above = D at g1 g2 ⊢
    generalize I (abv L mv) = y at q en g1 g2 ⊢
    generalize (PyData.tuple y).shown = sh at q en
    generalize I L = vL at g1 g2 k1 ⊢
    generalize I P = vP
    generalize I C = vC
    generalize I s = vs
    simp [-q_isBor, isBor_O, g1, g2, q, en, inOrder, le_line k1]
  rw [q_seq, s7, q_then_nx, q_seq, s8, q_then_nx]
theorem l_912 {mv : Int} {k : Nat} (h : Sz L) (hP : Dr P (k + 1)) (hk : k < 7) (h0 : 0 ≤ mv) (h100 : mv < 100) (b8 : isBorO (some w8) = false) (b11 : isBorO (some w11) = false) (b12 : isBorO (some w12) = false) (R : DenS) :
    ∃ w12' : Option W, isBorO (some w12') = false ∧ sSeq lw_1b_9 (sSeq lw_1b_10 (sSeq lw_1b_11 (sSeq lw_1b_12 R))) (E19 s j l L P (cnt L P).1 (cnt L P).2 w7 w8 (some (.d (.int mv))) w11 w12 w13 w14 w15 w16 w17 w18) =
      R (E19 s j l L P (cnt L P).1 (cnt L P).2 w7 (some (.d (vdD (cnt L P).1 (cnt L P).2 mv))) (some (.d (.int mv))) (some (.d (.int (am (cnt L P).1)))) w12' w13 w14 w15 w16 w17 w18) := by
  have hp := hP.pg (show k + 1 ≤ 7 by omega)
  have hb := hP.small (show k + 1 ≤ 7 by omega)
  have h1 : 1 ≤ P.length := by rw [hP.len]; omega
  obtain ⟨hC, m1, m2⟩ := cnt_ok h h1 hp.2
  have g1 := m_law_amount hC m1 m2 .r
  have es : Wh.r.s = "request" := rfl
  rw [es, amt_r] at g1
  have v1 := m_verdict (x := .tuple (I L)) (y := .tuple (I P)) h hp hb h1 rfl rfl h0
  have v2 := m_verdict (x := .list (I L)) (y := .list (I P)) h hp hb h1 rfl rfl h0
  obtain ⟨am0, am1⟩ := am_ok hC
  have n1 := h.len
  have n2 := hp.2
  have k1 : (I L).length ≤ 90000 := by simp; omega
  have k2 : (I P).length ≤ 90000 := by simp; omega
  have fv : fit 1 (vdD (cnt L P).1 (cnt L P).2 mv) = true ∧ (vdD (cnt L P).1 (cnt L P).2 mv).bulk ≤ 1500 := by
    unfold vdD
    split
    · refine ⟨?_, Nat.le_of_ble_eq_true rfl⟩
      show [PyData.str "full", .int (am (cnt L P).1)].all (fit 0) = true
      have e1 : fit 0 (.str "full") = true := by decide +kernel
      have e2 : fit 0 (.int (am (cnt L P).1)) = true := fit_int (by omega) (by omega)
      simp [e1, e2]
    · rename_i c
      refine ⟨?_, Nat.le_of_ble_eq_true rfl⟩
      have hne : (cnt L P).1.length ≠ 1 := by
        intro k
        apply c
        unfold am
        rw [if_pos k]
        exact h0
      have hl := hC.len
      obtain ⟨F, u, z, e, q1, q2, q3, q4⟩ := two_last hC (by omega)
      rw [e, drop_two, lst_one, lst_two]
      have d0 := Int.ediv_le_self u (show 0 ≤ z by omega)
      have d1 := Int.ediv_nonneg (show 0 ≤ z by omega) (show 0 ≤ u by omega)
      generalize z / u = d at d0 d1 ⊢
      have a1 := Int.mul_nonneg (show 0 ≤ (cnt L P).2 by omega) d1
      have a2 := Int.mul_le_mul_of_nonneg_right m2 d1
      have e1 : fit 0 (.str "beaten") = true := by decide +kernel
      have e2 : fit 0 (.int (am (F ++ [u, z]))) = true := by rw [← e]; exact fit_int (by omega) (by omega)
      have e3 : fit 0 (.int ((cnt L P).2 * d + d + 1)) = true := fit_int (by omega) (by omega)
      show [PyData.str "beaten", .int _, .int _].all (fit 0) = true
      simp [e1, e2, e3]
  have q := repr_fit fv.1 (by decide) fv.2
  have en := rn_fit fv.1
  have s9 : ∀ w8, lw_1b_9 (E19 s j l L P (cnt L P).1 (cnt L P).2 w7 w8 (some (.d (.int mv))) w11 w12 w13 w14 w15 w16 w17 w18) = .nx (E19 s j l L P (cnt L P).1 (cnt L P).2 w7 w8 (some (.d (.int mv))) (some (.d (.int (am (cnt L P).1)))) w12 w13 w14 w15 w16 w17 w18) := fun w8 => by
    unfold lw_1b_9
    simp only [E19]
    generalize den__law_amount = D at g1 ⊢
    generalize am (cnt L P).1 = a at g1 ⊢
    generalize (cnt L P).1 = C at g1 ⊢
    generalize (cnt L P).2 = m at g1 ⊢
    generalize I L = vL
    generalize I P = vP
    generalize I C = vC at g1 ⊢
    generalize I s = vs
    simp [-q_isBor, isBor_O, g1, b11]
  have s10 : lw_1b_10 (E19 s j l L P (cnt L P).1 (cnt L P).2 w7 w8 (some (.d (.int mv))) (some (.d (.int (am (cnt L P).1)))) w12 w13 w14 w15 w16 w17 w18) = .nx (E19 s j l L P (cnt L P).1 (cnt L P).2 w7 (some (.d (.tuple [.str "full", .int (am (cnt L P).1)]))) (some (.d (.int mv))) (some (.d (.int (am (cnt L P).1)))) w12 w13 w14 w15 w16 w17 w18) := by
    unfold lw_1b_10
    simp only [E19]
    generalize am (cnt L P).1 = a
    generalize (cnt L P).1 = C
    generalize (cnt L P).2 = m
    generalize I L = vL
    generalize I P = vP
    generalize I C = vC
    generalize I s = vs
    simp [-q_isBor, isBor_O, b8, le_line]
  have s11 : ∃ w12' : Option W, isBorO (some w12') = false ∧ lw_1b_11 (E19 s j l L P (cnt L P).1 (cnt L P).2 w7 (some (.d (.tuple [.str "full", .int (am (cnt L P).1)]))) (some (.d (.int mv))) (some (.d (.int (am (cnt L P).1)))) w12 w13 w14 w15 w16 w17 w18) = .nx (E19 s j l L P (cnt L P).1 (cnt L P).2 w7 (some (.d (vdD (cnt L P).1 (cnt L P).2 mv))) (some (.d (.int mv))) (some (.d (.int (am (cnt L P).1)))) w12' w13 w14 w15 w16 w17 w18) := by
    unfold lw_1b_11 vdD
    by_cases c : am (cnt L P).1 ≤ mv
    · refine ⟨w12, b12, ?_⟩
      rw [if_pos c]
      have c2 : ¬ mv < am (cnt L P).1 := by omega
      simp only [E19]
      generalize am (cnt L P).1 = a at c2 ⊢
      generalize (cnt L P).1 = C
      generalize (cnt L P).2 = m
      generalize I L = vL
      generalize I P = vP
      generalize I C = vC
      generalize I s = vs
      simp [-q_isBor, isBor_O, c2]
    · rw [if_neg c]
      have c2 : mv < am (cnt L P).1 := by omega
      have hne : (cnt L P).1.length ≠ 1 := by
        intro k
        apply c
        unfold am
        rw [if_pos k]
        exact h0
      have hl := hC.len
      obtain ⟨F, u, z, e, q1, q2, q3, q4⟩ := two_last hC (by omega)
      refine ⟨some (.d (.int (z / u))), rfl, ?_⟩
      simp only [E19]
      generalize am (cnt L P).1 = a at c2 ⊢
      rw [e, drop_two, lst_one, lst_two]
      have gg1 : atI (I (F ++ [u, z])) (-1) = some (.int z) := by rw [I_two]; exact at_l2
      have gg2 : atI (I (F ++ [u, z])) (-2) = some (.int u) := by rw [I_two]; exact at_m2
      have d0 := Int.ediv_le_self u (show 0 ≤ z by omega)
      have d1 := Int.ediv_nonneg (show 0 ≤ z by omega) (show 0 ≤ u by omega)
      have f1 := fDiv_ok (a := z) (b := u) (by omega) (by omega)
      generalize z / u = d at d0 d1 f1 ⊢
      have f2 := fMulA_ok (a := (cnt L P).2) (b := d) (by omega) (by omega) (by omega) (by omega)
      generalize (cnt L P).2 = m at f2 ⊢
      generalize I (F ++ [u, z]) = vC at gg1 gg2 ⊢
      generalize I L = vL
      generalize I P = vP
      generalize I s = vs
      generalize m * d = md at f2 ⊢
      unfold lw_1b_11t lw_1b_11t_1 lw_1b_11t_2
      simp [-q_isBor, isBor_O, c2, gg1, gg2, f1, f2, b12, le_line]
  obtain ⟨w12', b12', s11⟩ := s11
  refine ⟨w12', b12', ?_⟩
  have s12 : lw_1b_12 (E19 s j l L P (cnt L P).1 (cnt L P).2 w7 (some (.d (vdD (cnt L P).1 (cnt L P).2 mv))) (some (.d (.int mv))) (some (.d (.int (am (cnt L P).1)))) w12' w13 w14 w15 w16 w17 w18) = .nx (E19 s j l L P (cnt L P).1 (cnt L P).2 w7 (some (.d (vdD (cnt L P).1 (cnt L P).2 mv))) (some (.d (.int mv))) (some (.d (.int (am (cnt L P).1)))) w12' w13 w14 w15 w16 w17 w18) := by
    unfold lw_1b_12
    simp only [E19]
    generalize den_verdict = D at v1 v2 ⊢
    generalize vdD (cnt L P).1 (cnt L P).2 mv = vd at q en v1 v2 ⊢
    generalize vd.shown = sh at q en
    generalize am (cnt L P).1 = a
    generalize (cnt L P).1 = C
    generalize (cnt L P).2 = m
    generalize I L = vL at v1 v2 k1 ⊢
    generalize I P = vP at v1 v2 k2 ⊢
    generalize I C = vC
    generalize I s = vs
    simp [-q_isBor, isBor_O, v1, v2, q, en, inOrder, le_line k1, le_line k2]
  rw [q_seq, s9, q_then_nx, q_seq, s10, q_then_nx, q_seq, s11, q_then_nx, q_seq, s12, q_then_nx]
end
end K65

namespace K65
open PySem Mir Gen L2 K1 K3 K6
section
variable {s : List Int} {j : Int} {l : List PyData} {L P C : List Int} {m : Int} {w7 w8 w9 w11 w12 w13 w14 w15 w16 w17 w18 : Option W}
theorem l_13 (hb : Box l) (b13 : isBorO (some w13) = false) (b14 : isBorO (some w14) = false) : ∃ (x : PyData) (a : Int) (l' : List PyData), BadS (.tuple [x, .int a]) x a ∧ Box l' ∧
    lw_1b_13 (E19 s j l L P C m w7 w8 w9 w11 w12 w13 w14 w15 w16 w17 w18) = .nx (E19 s j l' L P C m w7 w8 w9 w11 w12 (some (.d x)) (some (.d (.int a))) w15 w16 w17 w18) := by
  obtain ⟨v, l1, hp, hv, hb1⟩ := pick_ok (vs := sL) (x := .list sL) hb rfl (by decide) (by decide)
  obtain ⟨x, a, hB⟩ := badS hv
  have e := hB.eq
  subst e
  refine ⟨x, a, l1, hB, hb1, ?_⟩
  unfold sL at hp
  unfold lw_1b_13
  simp only [E19]
  generalize den__law_pick = D at hp ⊢
  generalize I L = vL
  generalize I P = vP
  generalize I C = vC
  generalize I s = vs
  simp [-q_isBor, isBor_O, hp, b13, b14, le_line]
theorem l_14' (hb : Box l) (b15 : isBorO (some w15) = false) (b16 : isBorO (some w16) = false) : ∃ (x : PyData) (a : Int) (l' : List PyData), BadP (.tuple [x, .int a]) x a ∧ Box l' ∧
    lw_1b_14 (E19 s j l L P C m w7 w8 w9 w11 w12 w13 w14 w15 w16 w17 w18) = .nx (E19 s j l' L P C m w7 w8 w9 w11 w12 w13 w14 (some (.d x)) (some (.d (.int a))) w17 w18) := by
  obtain ⟨v, l1, hp, hv, hb1⟩ := pick_ok (vs := pL) (x := .list pL) hb rfl (by decide) (by decide)
  obtain ⟨x, a, hB⟩ := badP hv
  have e := hB.eq
  subst e
  refine ⟨x, a, l1, hB, hb1, ?_⟩
  unfold pL at hp
  unfold lw_1b_14
  simp only [E19]
  generalize den__law_pick = D at hp ⊢
  generalize I L = vL
  generalize I P = vP
  generalize I C = vC
  generalize I s = vs
  simp [-q_isBor, isBor_O, hp, b15, b16, le_line]
theorem l_15 (hb : Box l) (b17 : isBorO (some w17) = false) (b18 : isBorO (some w18) = false) : ∃ (x y : PyData) (l' : List PyData), x ∈ oL ∧ y ∈ wL ∧ Box l' ∧
    lw_1b_15 (E19 s j l L P C m w7 w8 w9 w11 w12 w13 w14 w15 w16 w17 w18) = .nx (E19 s j l' L P C m w7 w8 w9 w11 w12 w13 w14 w15 w16 (some (.d x)) (some (.d y))) := by
  obtain ⟨v, l1, hp, hv, hb1⟩ := pick_ok (vs := oL) (x := .list oL) hb rfl (by decide) (by decide)
  obtain ⟨v2, l2, hp2, hv2, hb2⟩ := pick_ok (vs := wL) (x := .list wL) hb1 rfl (by decide) (by decide)
  refine ⟨v, v2, l2, hv, hv2, hb2, ?_⟩
  unfold oL at hp
  unfold wL at hp2
  unfold lw_1b_15
  simp only [E19]
  generalize den__law_pick = D at hp hp2 ⊢
  generalize I L = vL
  generalize I P = vP
  generalize I C = vC
  generalize I s = vs
  simp [-q_isBor, isBor_O, hp, hp2, b17, b18, le_line]
end
section
variable {s : List Int} {j : Int} {l : List PyData} {L P C : List Int} {m : Int} {x7 x8 x9 x11 xb xn xo xw : PyData} {w12 : Option W} {a b : Int} {k : Nat}
abbrev EA (s : List Int) (j : Int) (l : List PyData) (L P C : List Int) (m : Int) (x7 x8 x9 x11 : PyData) (w12 : Option W) (xb xn xo xw : PyData) (a b : Int) : Mir.Env :=
  E19 s j l L P C m (some (.d x7)) (some (.d x8)) (some (.d x9)) (some (.d x11)) w12 (some (.d xb)) (some (.d (.int a))) (some (.d xn)) (some (.d (.int b))) (some (.d xo)) (some (.d xw))
theorem fit_small {i : Int} (h : -1 ≤ i ∧ i ≤ 2) : fRepr [.int i] = some (.str (PyData.int i).shown) ∧ PyData.strOk (PyData.int i).shown = true := by
  have f : fit 0 (.int i) = true := fit_int (by omega) (by omega)
  exact ⟨repr_fit f (by decide) (Nat.le_of_ble_eq_true rfl), ok_fit f⟩
/-- the lambdas' values -/
theorem lam_of {D : List W → RF} {dens : Nat → DenW} {δ : Mir.Env} {k n : Nat} {as : DenL} {xs : List W} {c : Nat} {e : PyData} (hk : dens k = wCall n D as) (hc : wCall n D as (dOnly δ) = .exc c e (dOnly δ)) : lamRF (dens k) δ = .exc c e [] := by
  unfold lamRF
  rw [hk, hc]
theorem asks_ok (hL : Sz L) (hP : Dr P (k + 1)) (hk : k < 7) (hS : BadS (.tuple [xb, .int a]) xb a) (hN : BadP (.tuple [xn, .int b]) xn b) (ho : xo ∈ oL) (hw : xw ∈ wL) :
    sSeq lw_1b_16 (sSeq lw_1b_17 (sSeq lw_1b_18 (sSeq lw_1b_19 (sSeq lw_1b_20 (sSeq lw_1b_21 (sSeq lw_1b_22 (sSeq lw_1b_23 (sSeq lw_1b_24 lw_1b_25)))))))) (EA s j l L P C m x7 x8 x9 x11 w12 xb xn xo xw a b) = .nx (EA s j l L P C m x7 x8 x9 x11 w12 xb xn xo xw a b) := by
  have hp := hP.pg (show k + 1 ≤ 7 by omega)
  have h1 : 1 ≤ P.length := by rw [hP.len]; omega
  obtain ⟨o1, o2, o3, o4⟩ := oddL ho
  obtain ⟨v1, v2, v3⟩ := wrongL hw
  obtain ⟨ra, oa⟩ := fit_small hS.sm
  obtain ⟨rb, ob⟩ := fit_small hN.sm
  have ro := repr_fit o3 (by decide) (by omega)
  have oo := ok_fit o3
  have rw_ := repr_fit v2 (by decide) (by omega)
  have ow := ok_fit v2
  have el : fRepr [.list []] = some (.str (PyData.list []).shown) := by rfl
  have et : fRepr [.tuple []] = some (.str (PyData.tuple []).shown) := by rfl
  have sl : (PyData.list []).shown = "[]" := by rfl
  have st : (PyData.tuple []).shown = "()" := by rfl
  generalize hδ : EA s j l L P C m x7 x8 x9 x11 w12 xb xn xo xw a b = δ
  have d3 : δ[3]? = some (some (.d (.tuple (I L)))) := by rw [← hδ]; rfl
  have d4 : δ[4]? = some (some (.d (.tuple (I P)))) := by rw [← hδ]; rfl
  have d13 : δ[13]? = some (some (.d xb)) := by rw [← hδ]; rfl
  have d14 : δ[14]? = some (some (.d (.int a))) := by rw [← hδ]; rfl
  have d15 : δ[15]? = some (some (.d xn)) := by rw [← hδ]; rfl
  have d16 : δ[16]? = some (some (.d (.int b))) := by rw [← hδ]; rfl
  have d17 : δ[17]? = some (some (.d xo)) := by rw [← hδ]; rfl
  have d18 : δ[18]? = some (some (.d xw)) := by rw [← hδ]; rfl
  have dd : ∀ (i : Nat) (x : PyData), δ[i]? = some (some (.d x)) → (dOnly δ)[i]? = some (some (.d x)) := fun i x h => by
    unfold dOnly
    rw [List.getElem?_map, h]
    rfl
  have c3 := dd _ _ d3
  have c4 := dd _ _ d4
  have c13 := dd _ _ d13
  have c15 := dd _ _ d15
  have c17 := dd _ _ d17
  have c18 := dd _ _ d18
  generalize hε : dOnly δ = ε at c3 c4 c13 c15 c17 c18
  have k0 : lamRF (dens_law 0) δ = .exc 0 (.int a) [] := by
    have g := fa_S (y := xn) (z := xw) hS.ex
    have hd : dens_law 0 = (wCall 3 den_full_amount (aCons (aEx (dVar 13)) (aCons (aEx (dVar 15)) (aCons (aEx (dVar 18)) aNil)))) := rfl
    rw [lamRF, hd, hε]
    generalize den_full_amount = D at g ⊢
    simp [-q_isBor, c13, c15, c18, g]
  have k1 : lamRF (dens_law 1) δ = .exc 0 (.int a) [] := by
    have g := ab_S (y := xo) hS.ex
    have hd : dens_law 1 = (wCall 2 den_above (aCons (aEx (dVar 13)) (aCons (aEx (dVar 17)) aNil))) := rfl
    rw [lamRF, hd, hε]
    generalize den_above = D at g ⊢
    simp [-q_isBor, c13, c17, g]
  have k2 : lamRF (dens_law 2) δ = .exc 1 (.int b) [] := by
    have g := fa_P (x := .tuple (I L)) (z := xw) hL rfl hN.ex
    have hd : dens_law 2 = (wCall 3 den_full_amount (aCons (aEx (dVar 3)) (aCons (aEx (dVar 15)) (aCons (aEx (dVar 18)) aNil)))) := rfl
    rw [lamRF, hd, hε]
    generalize den_full_amount = D at g ⊢
    generalize I L = v at c3 g
    simp [-q_isBor, c3, c15, c18, g]
  have k3 : lamRF (dens_law 3) δ = .exc 2 (.list []) [] := by
    have g := fa_0 (x := .tuple (I L)) (y := .list []) (z := xw) hL rfl rfl
    have hd : dens_law 3 = (wCall 3 den_full_amount (aCons (aEx (dVar 3)) (aCons (aEx (eW (wList aNil))) (aCons (aEx (dVar 18)) aNil)))) := rfl
    rw [lamRF, hd, hε]
    generalize den_full_amount = D at g ⊢
    generalize I L = v at c3 g
    simp [-q_isBor, c3, c18, g, le_line]
  have k4 : lamRF (dens_law 4) δ = .exc 2 xw [] := by
    have g := fa_W (x := .tuple (I L)) (y := .tuple (I P)) (z := xw) hL hp h1 rfl rfl v1
    have hd : dens_law 4 = (wCall 3 den_full_amount (aCons (aEx (dVar 3)) (aCons (aEx (dVar 4)) (aCons (aEx (dVar 18)) aNil)))) := rfl
    rw [lamRF, hd, hε]
    generalize den_full_amount = D at g ⊢
    generalize I L = v at c3 g
    generalize I P = p at c4 g
    simp [-q_isBor, c3, c4, c18, g]
  have k5 : lamRF (dens_law 5) δ = .exc 0 (.int a) [] := by
    have g := vd_of (z := xo) (fa_S (y := xn) (z := .str "request") hS.ex)
    have hd : dens_law 5 = (wCall 3 den_verdict (aCons (aEx (dVar 13)) (aCons (aEx (dVar 15)) (aCons (aEx (dVar 17)) aNil)))) := rfl
    rw [lamRF, hd, hε]
    generalize den_verdict = D at g ⊢
    simp [-q_isBor, c13, c15, c17, g]
  have k6 : lamRF (dens_law 6) δ = .exc 1 (.int b) [] := by
    have g := vd_of (z := xo) (fa_P (x := .tuple (I L)) (z := .str "request") hL rfl hN.ex)
    have hd : dens_law 6 = (wCall 3 den_verdict (aCons (aEx (dVar 3)) (aCons (aEx (dVar 15)) (aCons (aEx (dVar 17)) aNil)))) := rfl
    rw [lamRF, hd, hε]
    generalize den_verdict = D at g ⊢
    generalize I L = v at c3 g
    simp [-q_isBor, c3, c15, c17, g]
  have k7 : lamRF (dens_law 7) δ = .exc 2 (.tuple []) [] := by
    have g := vd_of (z := xo) (fa_0 (x := .tuple (I L)) (y := .tuple []) (z := .str "request") hL rfl rfl)
    have hd : dens_law 7 = (wCall 3 den_verdict (aCons (aEx (dVar 3)) (aCons (aEx (dTup aNil)) (aCons (aEx (dVar 17)) aNil)))) := rfl
    rw [lamRF, hd, hε]
    generalize den_verdict = D at g ⊢
    generalize I L = v at c3 g
    simp [-q_isBor, c3, c17, g, le_line]
  have k8 : lamRF (dens_law 8) δ = .exc 2 xo [] := by
    have g := vd_N (x := .tuple (I L)) (y := .tuple (I P)) (z := xo) hL hp h1 rfl rfl o1 o2
    have hd : dens_law 8 = (wCall 3 den_verdict (aCons (aEx (dVar 3)) (aCons (aEx (dVar 4)) (aCons (aEx (dVar 17)) aNil)))) := rfl
    rw [lamRF, hd, hε]
    generalize den_verdict = D at g ⊢
    generalize I L = v at c3 g
    generalize I P = p at c4 g
    simp [-q_isBor, c3, c4, c17, g]
  have k9 : lamRF (dens_law 9) δ = .exc 2 xo [] := by
    have g := ab_N (x := .tuple (I L)) (z := xo) hL rfl o1 o2
    have hd : dens_law 9 = (wCall 2 den_above (aCons (aEx (dVar 3)) (aCons (aEx (dVar 17)) aNil))) := rfl
    rw [lamRF, hd, hε]
    generalize den_above = D at g ⊢
    generalize I L = v at c3 g
    simp [-q_isBor, c3, c17, g]
  have a0 : lw_1b_16 δ = .nx δ := ask_at rfl (wh_exc (by decide) k0 ra) d14 ra oa
  have a1 : lw_1b_17 δ = .nx δ := ask_at rfl (wh_exc (by decide) k1 ra) d14 ra oa
  have a2 : lw_1b_18 δ = .nx δ := ask_at rfl (wh_exc (by decide) k2 rb) d16 rb ob
  have a3 : lw_1b_19 δ = .nx δ := ask_lit rfl (sl ▸ wh_exc (by decide) k3 el) (by decide +kernel)
  have a4 : lw_1b_20 δ = .nx δ := ask_at rfl (wh_exc (by decide) k4 rw_) d18 rw_ ow
  have a5 : lw_1b_21 δ = .nx δ := ask_at rfl (wh_exc (by decide) k5 ra) d14 ra oa
  have a6 : lw_1b_22 δ = .nx δ := ask_at rfl (wh_exc (by decide) k6 rb) d16 rb ob
  have a7 : lw_1b_23 δ = .nx δ := ask_lit rfl (st ▸ wh_exc (by decide) k7 et) (by decide +kernel)
  have a8 : lw_1b_24 δ = .nx δ := ask_at rfl (wh_exc (by decide) k8 ro) d17 ro oo
  have a9 : lw_1b_25 δ = .nx δ := ask_at rfl (wh_exc (by decide) k9 ro) d17 ro oo
  rw [q_seq, a0, q_then_nx, q_seq, a1, q_then_nx, q_seq, a2, q_then_nx, q_seq, a3, q_then_nx, q_seq, a4, q_then_nx, q_seq, a5, q_then_nx, q_seq, a6, q_then_nx, q_seq, a7, q_then_nx, q_seq, a8, q_then_nx, a9]
end
/-- the slots ahead of a round -/
structure Slots (s : List Int) (ws : List (Option W)) : Prop where
  nb : ∀ w ∈ ws, isBorO (some w) = false
theorem law_body {s : List Int} {j : Nat} {w2 w3 w4 w5 w6 w7 w8 w9 w11 w12 w13 w14 w15 w16 w17 w18 : Option W} (hj : j < 1000) (hs : s.length < 1000)
    (h : Slots s [w2, w3, w4, w5, w6, w7, w8, w9, w11, w12, w13, w14, w15, w16, w17, w18]) :
    ∃ v2 v3 v4 v5 v6 v7 v8 v9 v11 v12 v13 v14 v15 v16 v17 v18, lw_1b (E0 s j w2 w3 w4 w5 w6 w7 w8 w9 w11 w12 w13 w14 w15 w16 w17 w18) = .nx (E0 s j v2 v3 v4 v5 v6 v7 v8 v9 v11 v12 v13 v14 v15 v16 v17 v18) ∧
      Slots s [v2, v3, v4, v5, v6, v7, v8, v9, v11, v12, v13, v14, v15, v16, v17, v18] := by
  have nb := h.nb
  simp only [List.mem_cons, List.mem_nil_iff, or_false, forall_eq_or_imp, forall_eq] at nb
  obtain ⟨b2, b3, b4, b5, b6, b7, b8, b9, b11, b12, b13, b14, b15, b16, b17, b18⟩ := nb
  obtain ⟨L, P, l, k, e1, hb, hL, hP, hk⟩ := l_14 (w7 := w7) (w8 := w8) (w9 := w9) (w11 := w11) (w12 := w12) (w13 := w13) (w14 := w14) (w15 := w15) (w16 := w16) (w17 := w17) (w18 := w18) hj hs b2 b3 b4 b5 b6
    (sSeq lw_1b_5 (sSeq lw_1b_6 (sSeq lw_1b_7 (sSeq lw_1b_8 (sSeq lw_1b_9 (sSeq lw_1b_10 (sSeq lw_1b_11 (sSeq lw_1b_12 (sSeq lw_1b_13 (sSeq lw_1b_14 (sSeq lw_1b_15 (sSeq lw_1b_16 (sSeq lw_1b_17 (sSeq lw_1b_18 (sSeq lw_1b_19 (sSeq lw_1b_20 (sSeq lw_1b_21 (sSeq lw_1b_22 (sSeq lw_1b_23 (sSeq lw_1b_24 lw_1b_25))))))))))))))))))))
  have hp := hP.pg (show k + 1 ≤ 7 by omega)
  have h1 : 1 ≤ P.length := by rw [hP.len]; omega
  have e5 := l_5 (s := s) (j := (j : Int)) (l := l) (w9 := w9) (w11 := w11) (w12 := w12) (w13 := w13) (w14 := w14) (w15 := w15) (w16 := w16) (w17 := w17) (w18 := w18) hL hp h1 b7 b8
  obtain ⟨mv, l1, m0, m1, hb1, e6⟩ := l_6 (s := s) (j := (j : Int)) (P := P) (C := (cnt L P).1) (m := (cnt L P).2) (w7 := some (.d (.str "taking"))) (w8 := some (.d (amt (cnt L P).1 (cnt L P).2 .t))) (w11 := w11) (w12 := w12) (w13 := w13) (w14 := w14) (w15 := w15) (w16 := w16) (w17 := w17) (w18 := w18) hL hb b9
  have e7 := l_78 (s := s) (j := (j : Int)) (l := l1) (P := P) (C := (cnt L P).1) (m := (cnt L P).2) (w7 := some (.d (.str "taking"))) (w8 := some (.d (amt (cnt L P).1 (cnt L P).2 .t))) (w11 := w11) (w12 := w12) (w13 := w13) (w14 := w14) (w15 := w15) (w16 := w16) (w17 := w17) (w18 := w18) hL m0 rfl
    (sSeq lw_1b_9 (sSeq lw_1b_10 (sSeq lw_1b_11 (sSeq lw_1b_12 (sSeq lw_1b_13 (sSeq lw_1b_14 (sSeq lw_1b_15 (sSeq lw_1b_16 (sSeq lw_1b_17 (sSeq lw_1b_18 (sSeq lw_1b_19 (sSeq lw_1b_20 (sSeq lw_1b_21 (sSeq lw_1b_22 (sSeq lw_1b_23 (sSeq lw_1b_24 lw_1b_25))))))))))))))))
  obtain ⟨w12', b12', e9⟩ := l_912 (s := s) (j := (j : Int)) (l := l1) (w7 := some (.d (.str "taking"))) (w8 := some (.d (.tuple (I (abv L mv))))) (w11 := w11) (w12 := w12) (w13 := w13) (w14 := w14) (w15 := w15) (w16 := w16) (w17 := w17) (w18 := w18) hL hP hk m0 m1 rfl b11 b12
    (sSeq lw_1b_13 (sSeq lw_1b_14 (sSeq lw_1b_15 (sSeq lw_1b_16 (sSeq lw_1b_17 (sSeq lw_1b_18 (sSeq lw_1b_19 (sSeq lw_1b_20 (sSeq lw_1b_21 (sSeq lw_1b_22 (sSeq lw_1b_23 (sSeq lw_1b_24 lw_1b_25))))))))))))
  obtain ⟨xb, a, l2, hB, hb2, e13⟩ := l_13 (s := s) (j := (j : Int)) (l := l1) (L := L) (P := P) (C := (cnt L P).1) (m := (cnt L P).2) (w7 := some (.d (.str "taking"))) (w8 := some (.d (vdD (cnt L P).1 (cnt L P).2 mv))) (w9 := some (.d (.int mv))) (w11 := some (.d (.int (am (cnt L P).1)))) (w12 := w12') (w15 := w15) (w16 := w16) (w17 := w17) (w18 := w18) hb1 b13 b14
  obtain ⟨xn, b, l3, hN, hb3, e14⟩ := l_14' (s := s) (j := (j : Int)) (l := l2) (L := L) (P := P) (C := (cnt L P).1) (m := (cnt L P).2) (w7 := some (.d (.str "taking"))) (w8 := some (.d (vdD (cnt L P).1 (cnt L P).2 mv))) (w9 := some (.d (.int mv))) (w11 := some (.d (.int (am (cnt L P).1)))) (w12 := w12') (w13 := some (.d xb)) (w14 := some (.d (.int a))) (w17 := w17) (w18 := w18) hb2 b15 b16
  obtain ⟨xo, xw, l4, ho, hw, hb4, e15⟩ := l_15 (s := s) (j := (j : Int)) (l := l3) (L := L) (P := P) (C := (cnt L P).1) (m := (cnt L P).2) (w7 := some (.d (.str "taking"))) (w8 := some (.d (vdD (cnt L P).1 (cnt L P).2 mv))) (w9 := some (.d (.int mv))) (w11 := some (.d (.int (am (cnt L P).1)))) (w12 := w12') (w13 := some (.d xb)) (w14 := some (.d (.int a))) (w15 := some (.d xn)) (w16 := some (.d (.int b))) hb3 b17 b18
  have e16 := asks_ok (s := s) (j := (j : Int)) (l := l4) (C := (cnt L P).1) (m := (cnt L P).2) (x7 := .str "taking") (x8 := vdD (cnt L P).1 (cnt L P).2 mv) (x9 := .int mv) (x11 := .int (am (cnt L P).1)) (w12 := w12') hL hP hk hB hN ho hw
  refine ⟨some (.own l4), some (.d (.tuple (I L))), some (.d (.tuple (I P))), some (.d (.tuple (I (cnt L P).1))), some (.d (.int (cnt L P).2)), some (.d (.str "taking")), some (.d (vdD (cnt L P).1 (cnt L P).2 mv)), some (.d (.int mv)), some (.d (.int (am (cnt L P).1))), w12', some (.d xb), some (.d (.int a)), some (.d xn), some (.d (.int b)), some (.d xo), some (.d xw), ?_, ⟨?_⟩⟩
  · unfold lw_1b
    rw [e1, q_seq, e5, q_then_nx, q_seq, e6, q_then_nx, e7, e9, q_seq, e13, q_then_nx, q_seq, e14, q_then_nx, q_seq, e15, q_then_nx, e16]
  · simp only [List.mem_cons, List.mem_nil_iff, or_false, forall_eq_or_imp, forall_eq]
    exact ⟨rfl, rfl, rfl, rfl, rfl, rfl, rfl, rfl, rfl, b12', rfl, rfl, rfl, rfl, rfl, rfl⟩
theorem law_loop {s : List Int} (hs : s.length < 1000) : ∀ (n j : Nat) (x1 : Option PyData) (w2 w3 w4 w5 w6 w7 w8 w9 w11 w12 w13 w14 w15 w16 w17 w18 : Option W), j + n < 1000 → Slots s [w2, w3, w4, w5, w6, w7, w8, w9, w11, w12, w13, w14, w15, w16, w17, w18] →
    ∃ δ', forD (.nm 1) lw_1b (rg j n) [some (.d (.list (I s))), x1.map W.d, w2, w3, w4, w5, w6, w7, w8, w9, none, w11, w12, w13, w14, w15, w16, w17, w18] = .nx δ'
  | 0, j, x1, w2, w3, w4, w5, w6, w7, w8, w9, w11, w12, w13, w14, w15, w16, w17, w18, _, _ => ⟨_, rfl⟩
  | n + 1, j, x1, w2, w3, w4, w5, w6, w7, w8, w9, w11, w12, w13, w14, w15, w16, w17, w18, hj, h => by
    obtain ⟨v2, v3, v4, v5, v6, v7, v8, v9, v11, v12, v13, v14, v15, v16, v17, v18, e, h'⟩ := law_body (j := j) (by omega) hs h
    obtain ⟨δ', ih⟩ := law_loop hs n (j + 1) (some (.int j)) v2 v3 v4 v5 v6 v7 v8 v9 v11 v12 v13 v14 v15 v16 v17 v18 (by omega) h'
    refine ⟨δ', ?_⟩
    have st : setD 1 (.int (j : Nat)) [some (.d (.list (I s))), x1.map W.d, w2, w3, w4, w5, w6, w7, w8, w9, none, w11, w12, w13, w14, w15, w16, w17, w18] = some (E0 s j w2 w3 w4 w5 w6 w7 w8 w9 w11 w12 w13 w14 w15 w16 w17 w18) := by
      simp only [q_setD, isBor_O]
      simp
    rw [rg, q_for_cons, q_bind_nm, st, q_ofO, e]
    exact ih
theorem law_true {s : List Int} (hs : s.length < 1000) : den_law [.d (.list (I s))] = .ok (.d (.bool true)) [] := by
  obtain ⟨m, hm, hv⟩ : ∃ m : Nat, m < 10 ∧ (if (if (7 : Int) < s.length then 7 else (s.length : Int)) > 3 then (if (7 : Int) < s.length then 7 else (s.length : Int)) else 3) = (m : Int) := by
    refine ⟨((if (if (7 : Int) < s.length then 7 else (s.length : Int)) > 3 then (if (7 : Int) < s.length then 7 else (s.length : Int)) else 3) : Int).toNat, ?_, ?_⟩ <;> split <;> split <;> omega
  obtain ⟨δ', e⟩ := law_loop hs m 0 none none none none none none none none none none none none none none none none none (by omega) ⟨by simp⟩
  show den_law [.d (.list (I s))] = _
  unfold den_law
  rw [lw_eq, q_runF]
  have ev : envOf 19 [.d (.list (I s))] = [some (.d (.list (I s))), none, none, none, none, none, none, none, none, none, none, none, none, none, none, none, none, none, none] := rfl
  rw [ev]
  unfold lw
  have it : iRange1 (dApp fMax2 (aCons (aEx (dC (.int 3))) (aCons (aEx (dApp fMin2 (aCons (aEx (dApp fLen (aCons (aSl 0) aNil))) (aCons (aEx (dC (.int 7))) aNil)))) aNil))) [some (.d (.list (I s))), none, none, none, none, none, none, none, none, none, none, none, none, none, none, none, none, none, none] = .ok (rg 0 m) [some (.d (.list (I s))), none, none, none, none, none, none, none, none, none, none, none, none, none, none, none, none, none, none] := by
    refine range_same ?_ (by omega)
    simp [hv]
  unfold lw_1
  rw [q_seq, q_for, it, q_to_ok]
  have e' : forD (.nm 1) lw_1b (rg 0 m) [some (.d (.list (I s))), none, none, none, none, none, none, none, none, none, none, none, none, none, none, none, none, none, none] = .nx δ' := e
  rw [e', q_then_nx]
  rfl
end K65

namespace Mir
open PySem PySem.Spec PyProof.Rows L2 Evl
/-! the end: from the law's promise to its row -/
section
variable {Pg : Program} {wd : World} {K : PySem.W.Frag} {mg mb : Str → Option Value} {S : Sg} {den : List W → RF} {k : Nat} {fa scr : Addr} {fd : FuncData} {x : Str} {cs : List (Addr × Addr)} {t : Shared} {vals : List Value} {ns : List Int}
/-- what is tracked at the law's call: the tables, and the script unless it is one of the module's own lists -/
def law0 (own : Bool) (scr : Addr) (f : HO) (ts : List Addr) : Hp := fun z => bif own && (z == scr) then some f else bif ts.contains z then some (.tbl #[]) else none
theorem law0_own {scr : Addr} {f : HO} {ts : List Addr} : law0 true scr f ts scr = some f := by simp [law0]
theorem law0_tab {own : Bool} {scr z : Addr} {f : HO} {ts : List Addr} (hz : z ∈ ts) (hn : z ≠ scr) : law0 own scr f ts z = some (.tbl #[]) := by
  have e : (z == scr) = false := by simpa using hn
  simp [law0, hz, e]
theorem law0_cases {own : Bool} {scr z : Addr} {f u : HO} {ts : List Addr} (h : law0 own scr f ts z = some u) : (own = true ∧ z = scr ∧ u = f) ∨ (z ∈ ts ∧ u = .tbl #[]) := by
  unfold law0 at h
  cases c1 : (own && (z == scr)) with
  | true =>
    rw [c1] at h
    rw [Bool.and_eq_true, beq_iff_eq] at c1
    exact .inl ⟨c1.1, c1.2, (Option.some.inj h).symm⟩
  | false =>
    rw [c1] at h
    cases c2 : ts.contains z with
    | true =>
      rw [c2] at h
      exact .inr ⟨by simpa using c2, (Option.some.inj h).symm⟩
    | false =>
      rw [c2] at h
      cases h
theorem law0_ex {own : Bool} {scr : Addr} {f : HO} {ts : List Addr} : Ex (law0 own scr f []) (law0 own scr f ts) := fun z u h => by
  rcases law0_cases h with ⟨rfl, rfl, rfl⟩ | ⟨h2, _⟩
  · exact law0_own
  · cases h2
theorem dpAll_intsT (H : Hp) : ∀ l : List Int, DpAll K H (l.map V.int) (l.map PyData.int)
  | [] => .nil
  | i :: l => .cons (.int i) (dpAll_intsT H l)
theorem endRun (own : Bool) (f : HO) (hK : K.In t.heap) (hG : t.heap.Ns mainGlobals mg) (hB : t.heap.Ns builtinsNs mb) (hBB : ∀ y : Str, y ≠ "__name__" → mb y = bootBuiltins y) (hL : t.heap.NoLimit) (hgen : t.gens = #[])
    (tE : ∀ p ∈ cs, t.heap.get? p.2 = some { cls := .none, data := .fields #[] }) (tK : ∀ p ∈ cs, K.lookup p.2 = none) (tC : ∀ p ∈ cs, PySem.W.CodeHd t.heap p.1 p.2)
    (hbm : ∃ (m : Addr) (o : Obj), mg "__builtins__" = some (.ref m) ∧ m ≠ builtinsNs ∧ t.heap.get? m = some o ∧ o.cls = .type "module" ∧ o.dict = some builtinsNs ∧ o.data = .plain)
    (hscr : t.heap.get? scr = some { cls := .type "list", data := .seq vals.toArray }) (hf : own = true → f = .frz { cls := .type "list", data := .seq vals.toArray } (.lst (ns.map V.int)) ∧ K.lookup scr = none)
    (hD : Dp K (law0 own scr f []) (.ref scr) (.list (ns.map PyData.int))) (hvals : Vals (ns.map V.int) vals) (hlen : ns.length ≤ sizeLine) (hroom : Room k callerA)
    (hFn : ∀ base : Heap, K.In base → base.Ns mainGlobals mg → (∀ p ∈ cs, LamX.TabB base mg p.1 p.2) → FnG Pg wd K mg base k fa fd [x] (SpP S 1 den)) (hbind : ∀ (s : Shared) (u : Value), BindsTo s fd ⟨[u], []⟩ [(x, u)])
    (hden : den [.d (.list (ns.map PyData.int))] = .ok (.d (.bool true)) []) (hSK : S.K = K) (hST : ∀ q ∈ S.T, ∃ p ∈ cs, q.1 = p.2) :
    codeAny (model Pg wd) callerA (.call (.ref fa) ⟨[.ref scr], []⟩) (fun r u => r = .ok (.ret (.bool true)) ∧ OldK t.heap u.heap ∧ u.os = t.os ∧ AllBare u.gens) t := by
  have inT : ∀ z ∈ cs.map (·.2), t.heap.get? z = some { cls := .none, data := .fields #[] } := fun z hz => by
    obtain ⟨p, hp, rfl⟩ := List.mem_map.mp hz
    exact tE p hp
  have scrT : ∀ z ∈ cs.map (·.2), z ≠ scr := fun z hz e => by
    have g := inT z hz
    rw [e, hscr] at g
    cases g
  obtain ⟨H, rfl⟩ : ∃ H, H = law0 own scr f (cs.map (·.2)) := ⟨_, rfl⟩
  have atT : ∀ p ∈ cs, law0 own scr f (cs.map (·.2)) p.2 = some (.tbl #[]) := fun p hp => law0_tab (List.mem_map_of_mem hp) (scrT _ (List.mem_map_of_mem hp))
  -- what else stands in the heap is not tracked
  have out : ∀ {z : Addr} {o : Obj}, t.heap.get? z = some o → (∀ its n, o.data ≠ .seq its n) → o.data ≠ .fields #[] → law0 own scr f (cs.map (·.2)) z = none := fun {z o} g n1 n2 => by
    cases c : law0 own scr f (cs.map (·.2)) z with
    | none => rfl
    | some u =>
      rcases law0_cases c with ⟨_, rfl, _⟩ | ⟨m, _⟩
      · rw [hscr] at g
        cases g
        exact absurd rfl (n1 _ _)
      · rw [inT z m] at g
        cases g
        exact absurd rfl n2
  have dOut : ∀ {z : Addr} {o : Obj} {es : Array DictEntry} {m : Nat}, t.heap.get? z = some o → o.data = .dict es m → law0 own scr f (cs.map (·.2)) z = none := fun g e => out g (fun _ _ c => by rw [e] at c; cases c) fun c => by rw [e] at c; cases c
  have nsB : ∀ {z : Addr} {m : Str → Option Value}, t.heap.Ns z m → (hidT t.heap (law0 own scr f (cs.map (·.2)))).Ns z m := fun {z m} ⟨o, es, q, g, e, r⟩ => ⟨o, es, q, hidT_get g (dOut g e), e, r⟩
  have inB : K.In (hidT t.heap (law0 own scr f (cs.map (·.2)))) := fun z o lk => hidT_get (hK z o lk) (by
    cases c : law0 own scr f (cs.map (·.2)) z with
    | none => rfl
    | some u =>
      rcases law0_cases c with ⟨w, rfl, _⟩ | ⟨m, _⟩
      · rw [(hf w).2] at lk
        cases lk
      · obtain ⟨p, hp, rfl⟩ := List.mem_map.mp m
        rw [tK p hp] at lk
        cases lk)
  have modB : L2.Mod K mg (hidT t.heap (law0 own scr f (cs.map (·.2)))) := ⟨inB, nsB hG, ⟨mb, nsB hB, hBB⟩, hL.elim fun m hm => ⟨m, nsB hm.1, hm.2⟩⟩
  have tabB : ∀ p ∈ cs, LamX.TabB (hidT t.heap (law0 own scr f (cs.map (·.2)))) mg p.1 p.2 := fun p hp => by
    refine ⟨?_, ?_, fun e => ?_⟩
    · obtain ⟨o, us, f1, f2, f3, f4, f5, f6, f7, g, r1, r2, r3, r⟩ := tC p hp
      refine ⟨o, us, f1, f2, f3, f4, f5, f6, f7, hidT_get g (out g (fun _ _ c => by rw [r2] at c; cases c) fun c => ?_), r1, r2, r3, r⟩
      rw [r2] at c
      cases c
      simp at r3
    · obtain ⟨m, o, b1, b2, b3, b4, b5, b6⟩ := hbm
      refine ⟨m, o, b1, b2, fun e => ?_, fun e => ?_, hidT_get b3 (out b3 (fun _ _ c => by rw [b6] at c; cases c) fun c => by rw [b6] at c; cases c), b4, b5, b6⟩
      · obtain ⟨o2, es, q, g, e2, _⟩ := hG
        rw [e, g] at b3
        cases b3
        rw [b6] at e2
        cases e2
      · rw [e, tE p hp] at b3
        cases b3
        cases b6
    · obtain ⟨o2, es, q, g, e2, _⟩ := hG
      rw [e, tE p hp] at g
      cases g
      cases e2
  have okH : HOk Pg wd (law0 own scr f (cs.map (·.2))) t.heap := fun z u c => by
    rcases law0_cases c with ⟨w, rfl, rfl⟩ | ⟨m, rfl⟩
    · rw [(hf w).1]
      exact ⟨hscr, by rw [List.length_map]; exact hlen, vals, _, hvals, hscr⟩
    · exact inT z m
  have env : Env0 Pg wd K mg (hidT t.heap (law0 own scr f (cs.map (·.2)))) callerA [] t (law0 own scr f (cs.map (·.2))) :=
    { frames := rfl, mod := modB, bs := fun _ _ g => of_hidT g, bsz := Nat.le_of_eq (hidT_size _ _), funs := trivial, frf := (fun _ hz => nomatch hz), hok := okH, bare := .of_eq hgen }
  have tabs : LamX.Tabs S.T (law0 own scr f (cs.map (·.2))) := fun q hq => by
    obtain ⟨p, hp, e⟩ := hST q hq
    rw [e]
    exact LamX.TabS.nil (atT p hp)
  have tabF : TabF S.T (law0 own scr f []) := ⟨(fun q hq => by
    obtain ⟨p, hp, e⟩ := hST q hq
    rw [e]
    cases c : law0 own scr f [] p.2 with
    | none => rfl
    | some u =>
      rcases law0_cases c with ⟨_, e2, _⟩ | ⟨m, _⟩
      · exact absurd e2 (scrT _ (List.mem_map_of_mem hp))
      · cases m), fun a o c => by
    rcases law0_cases c with ⟨w, _, rfl⟩ | ⟨m, _⟩
    · rw [(hf w).1]
      exact trivial
    · cases m⟩
  have sp : SpP S 1 den [.ref scr] (law0 own scr f (cs.map (·.2))) (fun v _ => v = .bl true) fun _ _ _ => False := by
    refine ⟨rfl, law0 own scr f [], [.d (.list (ns.map PyData.int))], trivial, law0_ex, tabs, tabF, rfl, fun j v w g1 g2 => ?_, ?_⟩
    · cases j with
      | zero =>
        cases g1
        cases g2
        exact ⟨.d (by rw [hSK]; exact hD), rfl⟩
      | succ j => simp at g1
    · rw [hden]
      intro v F' H' ps _ _ _ _ r _ _
      cases r with
      | d r => cases r; rfl
  refine codeAny_mono ((hFn _ inB (nsB hG) tabB).go callerA [] t _ ⟨[.ref scr], []⟩ [.ref scr] [.ref scr] _ _ ⟨hroom, rfl⟩ env (hbind t _) (.cons rfl .nil) sp) fun r u hr => ?_
  match r, hr with
  | .error e, ⟨_, _, _, _, _, _, _, _, _, _, _, _, no⟩ => exact no.elim
  | .ok .next, no => exact no.elim
  | .ok .brk, no => exact no.elim
  | .ok .cont, no => exact no.elim
  | .ok (.ret z), ⟨v, H', os, bare, un, okU, rv, q⟩ =>
    have q2 : v = .bl true := q
    subst q2
    obtain rfl : z = Value.bool true := rv
    have same : ∀ y o, y ∉ cs.map (·.2) → t.heap.get? y = some o → u.heap.get? y = some o := fun y o ny g => by
      cases c : law0 own scr f (cs.map (·.2)) y with
      | none => exact un.keep y o g c (List.not_mem_nil) (List.not_mem_nil)
      | some v =>
        rcases law0_cases c with ⟨w, e1, e2⟩ | ⟨m, _⟩
        · have c2 := un.frzs y { cls := .type "list", data := .seq vals.toArray } (.lst (ns.map V.int)) (by rw [c, e2, (hf w).1])
          have g2 := (okU _ _ c2).1
          rw [e1, hscr] at g
          cases g
          exact g2
        · exact absurd m ny
    have grow : ∀ p ∈ cs, ∃ more : Array Value, u.heap.get? p.2 = some { cls := .none, data := .fields more } := fun p hp =>
      let ⟨_, c⟩ := un.tbls p.2 #[] (atT p hp)
      ⟨_, okU _ _ c⟩
    refine ⟨rfl, ⟨fun y o g => ?_, fun y o g => ?_⟩, os, bare⟩
    · by_cases m : y ∈ cs.map (·.2)
      · obtain ⟨p, hp, rfl⟩ := List.mem_map.mp m
        obtain ⟨more, g2⟩ := grow p hp
        rw [tE p hp] at g
        cases g
        exact .inr (.inl ⟨((tC p hp).tab (tE p hp)).isCodeTable, rfl, #[], more, rfl, by rw [Array.empty_append]; exact g2⟩)
      · exact .inl (same y o m g)
    · by_cases m : y ∈ cs.map (·.2)
      · obtain ⟨p, hp, rfl⟩ := List.mem_map.mp m
        obtain ⟨more, g2⟩ := grow p hp
        exact ⟨_, g2⟩
      · exact ⟨o, same y o m g⟩
end
end Mir

namespace Mir
open PySem PySem.Spec PyProof.Rows L2 Evl MirX He
/-! what the top of a program leaves: facts by names -/
def dOf (x : Str) (st : Stmt) : DefD := ⟨(x, none), x, x, defArgs st, defBody st, defScope st, [], []⟩
def bodyIn : Stmt → List Stmt
  | .ClassDef _ _ _ b _ _ _ _ _ _ _ => b
  | _ => []
def iniOf (st : Stmt) : Stmt := (bodyIn st).getD 0 (.Pass ⟨0, 0, 0, 0⟩)
def dIni (c : Str) (st : Stmt) : DefD := ⟨(c, some "__init__"), "__init__", c ++ ".__init__", defArgs (iniOf st), defBody (iniOf st), defScope (iniOf st), [], []⟩
theorem fun_of {K : PySem.W.Frag} {x q : Str} {st : Stmt} {f : Addr} {fd : FuncData} (F : FunD K x q (defArgs st) (defBody st) (defScope st) [] [] f fd) : L2.Fun K x q st f fd := by
  obtain ⟨oc, od, dV, kV, doc, pm, an, cdv, ct, osl, e, lk, hc, hd, _⟩ := F.ex
  rcases hd with ⟨_, e2⟩ | ⟨no, _⟩
  · subst e2
    exact ⟨⟨oc, od, kV, doc, pm, an, cdv, ct, osl, e, lk, hc⟩, F.kp⟩
  · exact absurd rfl no
section
variable {mg : Str → Option Value} {h : Heap} {K : PySem.W.Frag}
def errCls (K : PySem.W.Frag) (C : Addr) : Bool := match K.lookup C with
  | some ⟨.type "type", _, .cls cd, sl⟩ =>
    (match cd.mro, sl.toList with
    | .ref D :: bm, [_, _, _, _, some (.builtin m), _] => (D == C) && (((m == "ValueError.__new__" && PySem.HandSPX.refsVE bm) || (m == "LookupError.__new__" && bm == keyTail)) && ((!cd.hasDel) && cd.hasDict))
    | _, _ => false)
  | _ => false
theorem errCls_ok {C : Addr} (b : errCls K C = true) : ∃ nm q N bs bm sn sub ab col dd k0 k1 k2 k3 k5 newId, K.lookup C = some (PySem.excClassObj nm q C N bs bm true sn sub ab col dd k0 k1 k2 k3 k5 newId) ∧ MadeBy newId bm := by
  unfold errCls at b
  split at b
  · next od cd sl lk =>
    split at b
    · next D bm s0 s1 s2 s3 m s5 e1 e2 =>
      obtain ⟨g1, r1⟩ := ba b
      obtain ⟨g2, r2⟩ := ba r1
      obtain ⟨g3, f4⟩ := ba r2
      have f1 := beq_iff_eq.mp g1
      have f3 : cd.hasDel = false := by simpa using g3
      have b5 : MadeBy m bm := by
        rw [Bool.or_eq_true] at g2
        rcases g2 with g | g
        · obtain ⟨u1, u2⟩ := ba g
          rw [beq_iff_eq.mp u1]
          exact made_value u2
        · obtain ⟨u1, u2⟩ := ba g
          rw [beq_iff_eq.mp u1, beq_iff_eq.mp u2]
          exact made_key
      clear b r1 r2 g1 g2 g3
      obtain ⟨a1, a2, a3, a4, a5, a6, a7, a8, a9, a10, a11⟩ := cd
      have e3 : sl = #[s0, s1, s2, s3, some (.builtin m), s5] := Array.toList_inj.mp e2
      simp only at e1 f3 f4
      subst f1 e1 e3 f3 f4
      exact ⟨_, _, _, _, _, _, _, _, _, _, _, _, _, _, _, _, lk, b5⟩
    · cases b
  · cases b
def kwNone (K : PySem.W.Frag) (f : Addr) : Bool := match K.lookup f with
  | some ⟨_, _, .func fd, _⟩ => (match fd.kwdefaults with
    | .none => true
    | _ => false)
  | _ => false
/-- an own error of one field -/
def errB (K : PySem.W.Frag) (p : Str × Str) : Bool :=
  errCls K (ga K p.1) && (eqO (PySem.W.findIn K (.ref (ga K p.1)) "__setattr__") (some (some (.builtin "object.__setattr__"))) && (eqO (PySem.W.findIn K (.ref (ga K p.1)) "__getattribute__") (some (some (.builtin "BaseException.__getattribute__"))) &&
  (eqO (PySem.W.findIn K (.ref (ga K p.1)) "__getattr__") (some none) && (eqO (PySem.W.findIn K (.ref (ga K p.1)) p.2) (some none) && (eqO (PySem.W.findIn K (.ref (ga K p.1)) "__init__") (some (some (.ref (fAd K (p.1, some "__init__"))))) &&
  (decide (PySem.W.typeIn K (.ref (fAd K (p.1, some "__init__"))) = some (.type "function")) && (PySem.W.keepIn K (.ref (ga K p.1)) && (decide (PySem.W.subIn K (.ref (ga K p.1)) (.type "BaseException") = some true) &&
  (decide (PySem.W.typeIn K (.ref (ga K p.1)) = some (.type "type")) && (PySem.W.hasDictIn K (ga K p.1) && kwNone K (fAd K (p.1, some "__init__"))))))))))))
theorem errTxt_of {c f q : Str} {st : Stmt} {fd : FuncData} {p1 p2 q1 q2 q3 q4 : Pos} (hm : mg c = some (.ref (ga K c))) (b : errB K (c, f) = true)
    (F : FunD K "__init__" q (defArgs st) (defBody st) (defScope st) [] [] (fAd K (c, some "__init__")) fd) (e1 : defArgs st = iA f p1 p2) (e2 : defBody st = iB f q1 q2 q3 q4) (e3 : defScope st = iS f) : ErrTxt K mg c q f (ga K c) (fAd K (c, some "__init__")) := by
  obtain ⟨b1, b⟩ := ba b
  obtain ⟨b2, b⟩ := ba b
  obtain ⟨b3, b⟩ := ba b
  obtain ⟨b4, b⟩ := ba b
  obtain ⟨b5, b⟩ := ba b
  obtain ⟨b6, b⟩ := ba b
  obtain ⟨b7, b⟩ := ba b
  obtain ⟨b8, b⟩ := ba b
  obtain ⟨b9, b⟩ := ba b
  obtain ⟨b10, b⟩ := ba b
  obtain ⟨b11, b12⟩ := ba b
  obtain ⟨oc, od, dV, kV, doc, pm, an, cdv, ct, osl, e, lk, hc, hd, _⟩ := F.ex
  have hk : kV = .none := by
    unfold kwNone at b12
    rw [lk] at b12
    rw [e] at b12
    cases kV <;> first | rfl | cases b12
  rcases hd with ⟨_, hd⟩ | ⟨no, _⟩
  · rw [e, e1, e2, e3, hk, hd] at lk
    exact { gC := hm, cls := errCls_ok b1, sa := eqO_ok b2, ga := eqO_ok b3, gg := eqO_ok b4, noN := eqO_ok b5, iC := eqO_ok b6, tC := of_decide_eq_true b7, kC := b8, exC := of_decide_eq_true b9, tyC := of_decide_eq_true b10, hdC := b11, fn := ⟨oc, od, doc, pm, an, cdv, ct, osl, p1, p2, q1, q2, q3, q4, lk, hc⟩ }
  · exact absurd rfl no
/-- what is looked up of a caught error -/
def excCB (K : PySem.W.Frag) (c : Str) : Bool :=
  eqO (PySem.W.findIn K (.ref (ga K c)) "__getattribute__") (some (some (.builtin "BaseException.__getattribute__"))) && (eqO (PySem.W.findIn K (.ref (ga K c)) "__getattr__") (some none) && (decide (PySem.W.subIn K (.ref (ga K c)) (.type "BaseException") = some true) &&
  (PySem.W.hasDictIn K (ga K c) && (eqO (PySem.W.findIn K (.ref (ga K c)) "__class__") (some (some (.builtin "object.__class__"))) && (eqO (PySem.W.specialIn K (.builtin "object.__class__") "__get__") (some (some (.builtin "getset_descriptor.__get__"))) &&
  (decide (PySem.W.takesIn K (.builtin "object.__class__") = some true) && decide (PySem.W.mroIn K (ga K c) (.type "object") = some true)))))))
theorem excC_of {c : Str} (b : excCB K c = true) : ExcC K (ga K c) := by
  obtain ⟨b1, b⟩ := ba b
  obtain ⟨b2, b⟩ := ba b
  obtain ⟨b3, b⟩ := ba b
  obtain ⟨b4, b⟩ := ba b
  obtain ⟨b5, b⟩ := ba b
  obtain ⟨b6, b⟩ := ba b
  obtain ⟨b7, b8⟩ := ba b
  exact ⟨eqO_ok b1, eqO_ok b2, of_decide_eq_true b3, b4, eqO_ok b5, eqO_ok b6, of_decide_eq_true b7, of_decide_eq_true b8⟩
/-- which class is which one's -/
def pairB (K : PySem.W.Frag) (cl : Nat → Str) (n : Nat) (sub : Nat → Nat → Option Bool) : Bool := (List.range n).all fun i => (List.range n).all fun j => match sub i j with
  | some b => decide (PySem.W.exmOne K (.ref (ga K (cl i))) (.ref (ga K (cl j))) = some b) && decide (PySem.W.kitOne K (.ref (ga K (cl i))) (.ref (ga K (cl j))) = some b)
  | none => true
theorem pair_of {cl : Nat → Str} {n : Nat} {sub : Nat → Nat → Option Bool} (b : pairB K cl n sub = true) (hs : ∀ i j v, sub i j = some v → i < n ∧ j < n) : ∀ i j v, sub i j = some v → PySem.W.exmOne K (.ref (ga K (cl i))) (.ref (ga K (cl j))) = some v ∧ PySem.W.kitOne K (.ref (ga K (cl i))) (.ref (ga K (cl j))) = some v := fun i j v e => by
  obtain ⟨hi, hj⟩ := hs i j v e
  have k := List.all_eq_true.mp (List.all_eq_true.mp b i (List.mem_range.mpr hi)) j (List.mem_range.mpr hj)
  simp only [e] at k
  obtain ⟨k1, k2⟩ := ba k
  exact ⟨of_decide_eq_true k1, of_decide_eq_true k2⟩
end
/-- no tuple of the module bears a dict -/
def kxB (K : PySem.W.Frag) : Bool := K.all fun p => p.2.dict.isNone || (match p.2.cls with
  | .type c => !(c == "tuple")
  | _ => true)
theorem kx_of {K : PySem.W.Frag} (b : kxB K = true) : KX K := fun a o e hc => by
  have hm : (a, o) ∈ K := by
    clear b
    induction K with
    | nil => cases e
    | cons p K ih =>
      obtain ⟨x, y⟩ := p
      rw [List.lookup_cons] at e
      split at e
      · rename_i hx
        rw [← eq_of_beq hx]
        cases e
        exact List.mem_cons_self
      · exact List.mem_cons_of_mem _ (ih e)
  have k := List.all_eq_true.mp b _ hm
  rw [Bool.or_eq_true] at k
  rcases k with k | k
  · simpa using k
  · simp [hc] at k
/-- what a tuple of the module holds -/
def itB : List Value → List PyData → Bool
  | [], [] => true
  | .none :: vs, .none :: ds => itB vs ds
  | .bool a :: vs, .bool b :: ds => a == b && itB vs ds
  | .int i _ :: vs, .int j :: ds => decide (i = j) && itB vs ds
  | .str x _ :: vs, .str y :: ds => decide (x = y) && itB vs ds
  | _, _ => false
theorem it_of {K : PySem.W.Frag} : ∀ {vs : List Value} {ds : List PyData}, itB vs ds = true → ds.length = vs.length ∧ ∃ xs, Vals xs vs ∧ ∀ F, DpAll K F xs ds := by
  intro vs
  induction vs with
  | nil =>
    intro ds h
    cases ds with
    | nil => exact ⟨rfl, [], .nil, fun F => .nil⟩
    | cons a b => cases h
  | cons v vs ih =>
    intro ds h
    cases ds with
    | nil => cases v <;> cases h
    | cons d ds =>
      cases v <;> cases d <;> first | (exact absurd h (by intro k; cases k)) | skip
      · obtain ⟨k, xs, h1, h2⟩ := ih h
        exact ⟨by simp [k], .non :: xs, .cons rfl h1, fun F => .cons .non (h2 F)⟩
      · obtain ⟨e, h'⟩ := ba h
        cases eq_of_beq e
        obtain ⟨k, xs, h1, h2⟩ := ih h'
        exact ⟨by simp [k], .bl _ :: xs, .cons rfl h1, fun F => .cons (.bl _) (h2 F)⟩
      · obtain ⟨e, h'⟩ := ba h
        cases of_decide_eq_true e
        obtain ⟨k, xs, h1, h2⟩ := ih h'
        exact ⟨by simp [k], .int _ :: xs, .cons ⟨_, rfl⟩ h1, fun F => .cons (.int _) (h2 F)⟩
      · obtain ⟨e, h'⟩ := ba h
        cases of_decide_eq_true e
        obtain ⟨k, xs, h1, h2⟩ := ih h'
        exact ⟨by simp [k], .str _ :: xs, .cons ⟨_, rfl⟩ h1, fun F => .cons (.str _) (h2 F)⟩
def tupB (K : PySem.W.Frag) (p : Str × List PyData) : Bool := match K.lookup (ga K p.1) with
  | some ⟨.type c, _, .seq its _, _⟩ => (c == "tuple") && (decide (its.size ≤ 1000) && itB its.toList p.2)
  | _ => false
theorem tup_of {K : PySem.W.Frag} {c : Str} {l : List PyData} (b : tupB K (c, l) = true) : ∀ F, Dp K F (.ref (ga K c)) (.tuple l) := by
  unfold tupB at b
  split at b
  · next c2 od its n sl lk =>
    obtain ⟨b1, b⟩ := ba b
    obtain ⟨b2, b⟩ := ba b
    obtain ⟨_, xs, h1, h2⟩ := it_of (K := K) b
    intro F
    exact .tup (.inr ⟨_, its, n, lk, by rw [eq_of_beq b1], rfl, by have := of_decide_eq_true b2; rw [sizeLine_eq]; omega, h1⟩) (h2 F)
  · cases b
/-! ### the row -/
theorem walkG {l : PySem.W.OpenLaw} {n k : Nat} {q : Program} {loose : List Str} {XP : (Str → Option Value) → Heap → Prop} {YP : World → Heap → Prop} {d : DefRec} {x : Str}
    (h1 : l.most = some n) (h2 : n ≤ sizeLine) (h3 : d.params.defaults = []) (h4 : Room k callerA)
    (F : ∀ (w : World) (mg : Str → Option Value) (fa : Addr) (h : Heap), YP w h → h.Ns mainGlobals mg → mg d.name = some (.ref fa) → ∃ (K : PySem.W.Frag) (S : Sg) (den : List W → RF) (fd : FuncData) (cs : List (Addr × Addr)), K.In h ∧ S.K = K ∧ (∀ p ∈ S.T, ∃ r ∈ cs, p.1 = r.2) ∧
      (∀ p ∈ cs, h.get? p.2 = some { cls := .none, data := .fields #[] }) ∧ (∀ p ∈ cs, K.lookup p.2 = none) ∧ (∀ p ∈ cs, PySem.W.CodeHd h p.1 p.2) ∧ (∀ (s : Shared) (u : Value), BindsTo s fd ⟨[u], []⟩ [(x, u)]) ∧
      (∀ ns : List Int, ns.length ≤ n → (∀ z ∈ ns, Builtin.Int.intBits z ≤ 1048576) → den [.d (.list (ns.map PyData.int))] = .ok (.d (.bool true)) []) ∧
      ∀ base : Heap, K.In base → base.Ns mainGlobals mg → (∀ p ∈ cs, LamX.TabB base mg p.1 p.2) → FnG l.prog w K mg base k fa fd [x] (SpP S 1 den)) : PySem.W.WalkO q loose XP YP l.row.toRowW d [] (fun f vs => PySem.call f vs) :=
  Att.attach_callB h1 h3 fun w _ t mg mb fa o _ _ _ scr vals ns gr y _ _ _ hfa hs hi hlen hbits hgen => by
    obtain ⟨K, S, den, fd, cs, kin, hSK, hST, tE, tK, tC, hb, hden, hF⟩ := F w mg fa _ y gr.T.g hfa
    have rv : Vals (ns.map V.int) vals := vals_ints hi
    have hl : ns.length ≤ sizeLine := Nat.le_trans hlen h2
    cases c : K.lookup scr with
    | none =>
      exact endRun true _ kin gr.T.g gr.T.b gr.T.builtins gr.T.nolimit hgen tE tK tC gr.T.bmain hs (fun _ => ⟨rfl, c⟩) (.lst (.inl (.inr ⟨_, law0_own⟩)) (dpAll_intsT _ _)) rv hl h4 hF hb (hden ns hlen hbits) hSK hST
    | some u =>
      have g := kin scr u c
      rw [hs] at g
      cases g
      exact endRun false (.tbl #[]) kin gr.T.g gr.T.b gr.T.builtins gr.T.nolimit hgen tE tK tC gr.T.bmain hs (fun z => nomatch z) (.lst (.inr ⟨_, vals.toArray, _, c, rfl, rfl, rfl, by rw [List.size_toArray, hi.length]; exact hl, by simpa using rv⟩) (dpAll_intsT _ _)) rv hl h4 hF hb (hden ns hlen hbits) hSK hST
end Mir
namespace Mir
open PySem PySem.Spec PyProof.Rows L2 Evl MirX He
section
variable {K : PySem.W.Frag} {h : Heap} {mg : Str → Option Value} {fa : List Fa} {fn : List DefD}
theorem def_of (c : SaysD fa fn K) (i : Nat) (x : Str) (st : Stmt) (e : fn[i]? = some (dOf x st)) : ∃ fd, L2.Fun K x x st (ga K x) fd :=
  let ⟨fd, F⟩ := c.def_ i e
  ⟨fd, fun_of (st := st) F⟩
theorem err_of (c : SaysD fa fn K) (i : Nat) (x f : Str) (st : Stmt) (e : fn[i]? = some (dIni x st)) (hm : mg x = some (.ref (ga K x))) (b : errB K (x, f) = true) {p1 p2 q1 q2 q3 q4 : Pos}
    (e1 : defArgs (iniOf st) = iA f p1 p2) (e2 : defBody (iniOf st) = iB f q1 q2 q3 q4) (e3 : defScope (iniOf st) = iS f) : ∃ q fI, ErrTxt K mg x q f (ga K x) fI :=
  let ⟨_, F⟩ := c.def_ i e
  ⟨_, _, errTxt_of (st := iniOf st) hm b F e1 e2 e3⟩
theorem fun_one {x q : Str} {st : Stmt} {f : Addr} {fd fd' : FuncData} (F : L2.Fun K x q st f fd) (F' : L2.Fun K x q st f fd') : fd' = fd := by
  obtain ⟨_, _, _, _, _, _, _, _, _, _, l1, _⟩ := F.ex
  obtain ⟨_, _, _, _, _, _, _, _, _, _, l2, _⟩ := F'.ex
  rw [l1] at l2
  have e := congrArg (fun o : Option Obj => match o with | some ⟨_, _, .func g, _⟩ => g | _ => fd) l2
  exact e.symm
theorem only_snd : ∀ {l : List (Addr × Str)} {a : Addr} {b : Str} {p : Addr × Str}, (l.map (·.1)).Nodup → (a, b) ∈ l → p ∈ l → p.1 = a → p.2 = b
  | [], _, _, _, _, h, _, _ => nomatch h
  | r :: l, a, b, p, hn, h1, h2, e => by
    rw [List.map_cons] at hn
    rw [List.nodup_cons] at hn
    rcases List.mem_cons.mp h1 with e1 | m1 <;> rcases List.mem_cons.mp h2 with e2 | m2
    · rw [e2, ← e1]
    · exact absurd (List.mem_map.mpr ⟨p, m2, by rw [e, ← e1]⟩) hn.1
    · refine absurd (List.mem_map.mpr ⟨(a, b), m1, ?_⟩) hn.1
      rw [← e2]
      exact e.symm
    · exact only_snd hn.2 m1 m2 e
/-- a def's table -/
theorem tab_of {x q : Str} {st : Stmt} {fd : FuncData} {base : Heap} {tf : List Defn} (F : L2.Fun K x q st (ga K x) fd) (hx : (x, none) ∈ tf) (hT : ∀ p ∈ tf.map (cT K), LamX.TabB base mg p.1 p.2) :
    ∃ c, fd.code = .ref c ∧ LamX.TabB base mg c (cT K (x, none)).2 := by
  obtain ⟨_, _, _, _, _, _, _, _, _, e, lk, hc⟩ := F.ex
  obtain ⟨c, hcv⟩ := codeIn_ref hc
  have e2 : fd.code = .ref c := by rw [e]; exact hcv
  refine ⟨c, e2, ?_⟩
  have t := hT _ (List.mem_map_of_mem hx)
  have e3 : (cT K (x, none)).1 = c := codeOf_eq (p := (x, none)) lk e2
  rw [e3] at t
  exact t
end
end Mir

namespace Top
open PySem PySem.Spec PyProof.Rows L2 Evl MirX Mir He Gen
def defs : List DefD := [dOf "is_int" (topS 6), dOf "is_number" (topS 7), dOf "is_sequence" (topS 8), dOf "need_number" (topS 9), dOf "_can_be_size" (topS 14), dOf "_can_be_page" (topS 15), dOf "_first_wrong" (topS 16), dOf "check_sizes" (topS 17), dOf "check_pages" (topS 18), dOf "sizes_that_count" (topS 19), dOf "need_counting" (topS 20), dOf "_page_places" (topS 22), dOf "unit_places" (topS 23), dOf "arena" (topS 25), dOf "_phases" (topS 26), dOf "foe_many" (topS 27), dOf "need_when" (topS 30), dOf "least_at_taking" (topS 32), dOf "full_amount" (topS 34), dOf "above" (topS 35), dOf "verdict" (topS 36), dOf "_law_box" (topS 38), dOf "_law_take" (topS 39), dOf "_law_pick" (topS 40), dOf "_law_sizes" (topS 41), dOf "_law_pages" (topS 42), dOf "_law_amount" (topS 43), dOf "_law_heard" (topS 44), dOf "law" (topS 45), dIni "BadSizes" (topS 2), dIni "BadPages" (topS 3), dIni "Refused" (topS 4)]
def facts : List Fa := [.glo "is_int", .glo "is_number", .glo "is_sequence", .glo "need_number", .glo "_can_be_size", .glo "_can_be_page", .glo "_first_wrong", .glo "check_sizes", .glo "check_pages", .glo "sizes_that_count", .glo "need_counting", .glo "_page_places", .glo "unit_places", .glo "arena", .glo "_phases", .glo "foe_many", .glo "need_when", .glo "least_at_taking", .glo "full_amount", .glo "above", .glo "verdict", .glo "_law_box", .glo "_law_take", .glo "_law_pick", .glo "_law_sizes", .glo "_law_pages", .glo "_law_amount", .glo "_law_heard", .glo "law", .glo "BadSizes", .glo "BadPages", .glo "Refused", .glo "OwnError", .free "isinstance", .free "len", .free "range", .free "enumerate", .free "zip", .free "reversed", .free "tuple", .free "list", .free "int", .free "abs", .free "min", .free "max", .free "repr", .free "bool", .free "str", .free "sorted", .free "sum", .free "dict", .free "any", .free "all", .free "set", .int "MOST_SIZES" 5, .int "GREATEST_SIZE" 64, .int "MOST_PAGES" 64, .glo "WHENS"]
def tabs : List Defn := [("law", none)]
def fnN : Nat → Str
  | 0 => "is_int"
  | 1 => "is_number"
  | 2 => "is_sequence"
  | 3 => "need_number"
  | 4 => "_can_be_size"
  | 5 => "_can_be_page"
  | 6 => "_first_wrong"
  | 7 => "check_sizes"
  | 8 => "check_pages"
  | 9 => "sizes_that_count"
  | 10 => "need_counting"
  | 11 => "_page_places"
  | 12 => "unit_places"
  | 13 => "arena"
  | 14 => "_phases"
  | 15 => "foe_many"
  | 16 => "need_when"
  | 17 => "least_at_taking"
  | 18 => "full_amount"
  | 19 => "above"
  | 20 => "verdict"
  | 21 => "_law_box"
  | 22 => "_law_take"
  | 23 => "_law_pick"
  | 24 => "_law_sizes"
  | 25 => "_law_pages"
  | 26 => "_law_amount"
  | 27 => "_law_heard"
  | _ => "law"
def clsN : Nat → Str
  | 0 => "BadSizes"
  | 1 => "BadPages"
  | 2 => "Refused"
  | _ => "OwnError"
def fldN : Nat → Str
  | 0 => "at"
  | 1 => "at"
  | 2 => "value"
  | _ => ""
def more (K : PySem.W.Frag) : Bool := kxB K && ((([("BadSizes", "at"), ("BadPages", "at"), ("Refused", "value")] : List (Str × Str)).all (errB K)) && (((["BadSizes", "BadPages", "Refused", "OwnError"] : List Str).all (excCB K)) && (pairB K clsN 4 subD && ((([("WHENS", [.str "request", .str "giving", .str "taking"])] : List (Str × List PyData)).all (tupB K)) && (decide ((tabs.map fun p => (cT K p).2).Nodup))))))
def sgOf (K : PySem.W.Frag) : Sg := { K := K, fn := fun i => ga K (fnN i), lam := fun _ => ⟨"", ⟨[], [], none, [], [], none, []⟩, noE, ⟨.function, [], false, false, []⟩, []⟩, cls := fun i => ga K (clsN i), fld := fldN, ea := 0, ed := 0, ec := .none, T := [((cT K ("law", none)).2, (envOfC "law" (defScope (topS 45)) 0 0 .none).qual ++ "<lambda>")] }
theorem sub_lt : ∀ i j v, subD i j = some v → i < 4 ∧ j < 4 := by
  intro i j v e
  unfold subD at e
  split at e <;> first | exact ⟨by decide, by decide⟩ | cases e
theorem txt_of {K : PySem.W.Frag} {h : Heap} {mg : Str → Option Value} {w : World} (X : K.In h) (G : h.Ns mainGlobals mg) (c : SaysX facts defs [] tabs more w h K) : Txt K mg (sgOf K) := by
  have d := c.t.d
  obtain ⟨m0, m1⟩ := ba c.more
  obtain ⟨m1, m2⟩ := ba m1
  obtain ⟨m2, m3⟩ := ba m2
  obtain ⟨m3, m4⟩ := ba m3
  have pr := pair_of m3 sub_lt
  obtain ⟨mt, m4⟩ := ba m4
  exact
  { hK := rfl
    kx := kx_of m0
    f_is_int := def_of d 0 _ _ rfl
    m_is_int := glo_ok X G (d.fact 0 rfl)
    f_is_number := def_of d 1 _ _ rfl
    m_is_number := glo_ok X G (d.fact 1 rfl)
    f_is_sequence := def_of d 2 _ _ rfl
    m_is_sequence := glo_ok X G (d.fact 2 rfl)
    f_need_number := def_of d 3 _ _ rfl
    m_need_number := glo_ok X G (d.fact 3 rfl)
    f__can_be_size := def_of d 4 _ _ rfl
    m__can_be_size := glo_ok X G (d.fact 4 rfl)
    f__can_be_page := def_of d 5 _ _ rfl
    m__can_be_page := glo_ok X G (d.fact 5 rfl)
    f__first_wrong := def_of d 6 _ _ rfl
    m__first_wrong := glo_ok X G (d.fact 6 rfl)
    f_check_sizes := def_of d 7 _ _ rfl
    m_check_sizes := glo_ok X G (d.fact 7 rfl)
    f_check_pages := def_of d 8 _ _ rfl
    m_check_pages := glo_ok X G (d.fact 8 rfl)
    f_sizes_that_count := def_of d 9 _ _ rfl
    m_sizes_that_count := glo_ok X G (d.fact 9 rfl)
    f_need_counting := def_of d 10 _ _ rfl
    m_need_counting := glo_ok X G (d.fact 10 rfl)
    f__page_places := def_of d 11 _ _ rfl
    m__page_places := glo_ok X G (d.fact 11 rfl)
    f_unit_places := def_of d 12 _ _ rfl
    m_unit_places := glo_ok X G (d.fact 12 rfl)
    f_arena := def_of d 13 _ _ rfl
    m_arena := glo_ok X G (d.fact 13 rfl)
    f__phases := def_of d 14 _ _ rfl
    m__phases := glo_ok X G (d.fact 14 rfl)
    f_foe_many := def_of d 15 _ _ rfl
    m_foe_many := glo_ok X G (d.fact 15 rfl)
    f_need_when := def_of d 16 _ _ rfl
    m_need_when := glo_ok X G (d.fact 16 rfl)
    f_least_at_taking := def_of d 17 _ _ rfl
    m_least_at_taking := glo_ok X G (d.fact 17 rfl)
    f_full_amount := def_of d 18 _ _ rfl
    m_full_amount := glo_ok X G (d.fact 18 rfl)
    f_above := def_of d 19 _ _ rfl
    m_above := glo_ok X G (d.fact 19 rfl)
    f_verdict := def_of d 20 _ _ rfl
    m_verdict := glo_ok X G (d.fact 20 rfl)
    f__law_box := def_of d 21 _ _ rfl
    m__law_box := glo_ok X G (d.fact 21 rfl)
    f__law_take := def_of d 22 _ _ rfl
    m__law_take := glo_ok X G (d.fact 22 rfl)
    f__law_pick := def_of d 23 _ _ rfl
    m__law_pick := glo_ok X G (d.fact 23 rfl)
    f__law_sizes := def_of d 24 _ _ rfl
    m__law_sizes := glo_ok X G (d.fact 24 rfl)
    f__law_pages := def_of d 25 _ _ rfl
    m__law_pages := glo_ok X G (d.fact 25 rfl)
    f__law_amount := def_of d 26 _ _ rfl
    m__law_amount := glo_ok X G (d.fact 26 rfl)
    f__law_heard := def_of d 27 _ _ rfl
    m__law_heard := glo_ok X G (d.fact 27 rfl)
    f_law := def_of d 28 _ _ rfl
    m_law := glo_ok X G (d.fact 28 rfl)
    n_isinstance := free_ok X G (d.fact 33 rfl)
    n_len := free_ok X G (d.fact 34 rfl)
    n_range := free_ok X G (d.fact 35 rfl)
    n_enumerate := free_ok X G (d.fact 36 rfl)
    n_zip := free_ok X G (d.fact 37 rfl)
    n_reversed := free_ok X G (d.fact 38 rfl)
    n_tuple := free_ok X G (d.fact 39 rfl)
    n_list := free_ok X G (d.fact 40 rfl)
    n_int := free_ok X G (d.fact 41 rfl)
    n_abs := free_ok X G (d.fact 42 rfl)
    n_min := free_ok X G (d.fact 43 rfl)
    n_max := free_ok X G (d.fact 44 rfl)
    n_repr := free_ok X G (d.fact 45 rfl)
    n_bool := free_ok X G (d.fact 46 rfl)
    n_str := free_ok X G (d.fact 47 rfl)
    n_sorted := free_ok X G (d.fact 48 rfl)
    n_sum := free_ok X G (d.fact 49 rfl)
    n_dict := free_ok X G (d.fact 50 rfl)
    n_any := free_ok X G (d.fact 51 rfl)
    n_all := free_ok X G (d.fact 52 rfl)
    n_set := free_ok X G (d.fact 53 rfl)
    c_MOST_SIZES := int_ok X G (d.fact 54 rfl)
    c_GREATEST_SIZE := int_ok X G (d.fact 55 rfl)
    c_MOST_PAGES := int_ok X G (d.fact 56 rfl)
    c_WHENS := ⟨_, glo_ok X G (d.fact 57 rfl), tup_of (List.all_eq_true.mp mt ("WHENS", [.str "request", .str "giving", .str "taking"]) (by simp))⟩
    mc_BadSizes := glo_ok X G (d.fact 29 rfl)
    mc_BadPages := glo_ok X G (d.fact 30 rfl)
    mc_Refused := glo_ok X G (d.fact 31 rfl)
    mc_OwnError := glo_ok X G (d.fact 32 rfl)
    excC := fun i => excC_of (List.all_eq_true.mp m2 (clsN i) (match i with | 0 => by decide | 1 => by decide | 2 => by decide | _ + 3 => (by show (("OwnError" : Str)) ∈ _; decide)))
    exm := fun i j v e => (pr i j v e).1
    isi := fun i j v e => (pr i j v e).2
    fn_BadSizes := rfl
    fld_BadSizes := field_at
    e_BadSizes := err_of d 29 _ _ _ rfl (glo_ok X G (d.fact 29 rfl)) (List.all_eq_true.mp m1 ("BadSizes", "at") (by decide)) rfl rfl rfl
    fn_BadPages := rfl
    fld_BadPages := field_at
    e_BadPages := err_of d 30 _ _ _ rfl (glo_ok X G (d.fact 30 rfl)) (List.all_eq_true.mp m1 ("BadPages", "at") (by decide)) rfl rfl rfl
    fn_Refused := rfl
    fld_Refused := field_value
    e_Refused := err_of d 31 _ _ _ rfl (glo_ok X G (d.fact 31 rfl)) (List.all_eq_true.mp m1 ("Refused", "value") (by decide)) rfl rfl rfl
  }
theorem tb_of {K : PySem.W.Frag} {h base : Heap} {mg : Str → Option Value} {w : World} (c : SaysX facts defs [] tabs more w h K) (hT : ∀ p ∈ tabs.map (cT K), LamX.TabB base mg p.1 p.2) : Tb K mg (sgOf K) base := by
  have d := c.t.d
  obtain ⟨_, m2⟩ := ba c.more
  obtain ⟨_, m2⟩ := ba m2
  obtain ⟨_, m3⟩ := ba m2
  obtain ⟨_, m4⟩ := ba m3
  obtain ⟨_, m4⟩ := ba m4
  have nd : ((sgOf K).T.map (·.1)).Nodup := of_decide_eq_true m4
  obtain ⟨fd_law, F_law⟩ := def_of d 28 "law" (topS 45) rfl
  obtain ⟨c_law, k_law, t_law⟩ := tab_of F_law (show (("law", none) : Defn) ∈ tabs by decide) hT
  exact ⟨⟨fd_law, c_law, _, F_law, k_law, t_law, (by unfold sgOf; simp), fun p hp e => only_snd nd (by unfold sgOf; simp) hp e⟩⟩
abbrev row : PySem.W.OpenRow := PySem.W.OpenLaw.row PySem.Challenge.rw_whatmovesbuy_k65_amounts_and_what_counts
abbrev hk : PySem.W.Hook := hookX 4 facts defs [] tabs more
def ob (s : PySem.W.SharedT) : AlX := obsX 4 facts defs [] tabs more (HandSHeadRun.getT s)
theorem ob_eq (s : PySem.W.SharedT) : ob s = hk.obs s.abs := obsX_eq (HandSHeadRun.getT_eq s)
def loose0 : List Str := ["OwnError", "BadSizes", "BadPages", "Refused", "is_int", "is_number", "is_sequence", "need_number", "MOST_SIZES", "GREATEST_SIZE", "MOST_PAGES", "_can_be_size", "_can_be_page", "_first_wrong", "check_sizes", "check_pages", "sizes_that_count", "need_counting", "_page_places", "unit_places", "arena", "_phases", "foe_many", "WHENS", "need_when", "least_at_taking", "full_amount", "above", "verdict", "_law_box"]
def loose1 : List Str := ["_law_take", "_law_pick", "_law_sizes", "_law_pages", "_law_amount", "_law_heard"]
def loose : List Str := loose0 ++ loose1
set_option maxRecDepth 1000001 in
theorem run (w : World) : HandSHeadRun.RunEq row (PySem.W.view row.prog [45]) hk ob 4000 loose w := by
  intro os
  kernel_rfl
end Top
open PySem.Calls PySem PySem.W PyProof.Rows
theorem PySem.Challenge.cw_whatmovesbuy_k65_amounts_and_what_counts_holds : PySem.Challenge.rw_whatmovesbuy_k65_amounts_and_what_counts.Holds := by
  w_on; o_law
  refine HandSHeadRun.head_any (r := Top.row) (q := view Top.row.prog [45]) (H := Top.hk) (ob := Top.ob) (M := 4000) (loose := Top.loose) (d := HandSHeadRun.topDef Top.row.prog 45) (kwd := []) Top.ob_eq
    (by kernel_rfl) (fun s => by kernel_rfl) Top.run (by kernel_rfl) (by kernel_rfl) (by kernel_rfl) (by rfl) (by first | assumption | decide +kernel) (by decide +kernel) ⟨rfl, rfl, rfl, rfl, rfl, by decide +kernel⟩ ?hw ?hc
  case hw => w_witness2
  case hc =>
    refine Mir.walkG (l := PySem.Challenge.rw_whatmovesbuy_k65_amounts_and_what_counts) (n := 63) (k := 11) (x := "script") rfl (by decide) (by kernel_rfl) ⟨rfl, by decide, by decide⟩ fun w mg fa h Y G hmg0 => ?_
    obtain ⟨K, KX, c⟩ := Y
    have hmg : mg ("law" : PySem.Str) = some (.ref fa) := by
      have e : (HandSHeadRun.topDef Top.row.prog 45).name = ("law" : PySem.Str) := by kernel_rfl
      rw [← e]
      exact hmg0
    have T := Top.txt_of KX G c
    have efa := hmg.symm.trans T.m_law
    obtain ⟨fd, F⟩ := T.f_law
    cases efa
    refine ⟨K, Top.sgOf K, Gen.den_law, fd, Top.tabs.map (He.cT K), KX, rfl, ?_, ?_, ?_, ?_, ?_, fun ns hl _ => K65.law_true (by omega), fun base hb hg hT => ?_⟩
    · intro p hp
      have : p.1 ∈ (Top.sgOf K).T.map (·.1) := List.mem_map_of_mem hp
      have e : (Top.sgOf K).T.map (·.1) = Top.tabs.map fun r => (He.cT K r).2 := rfl
      rw [e] at this
      obtain ⟨r, hr, e2⟩ := List.mem_map.mp this
      exact ⟨_, List.mem_map_of_mem hr, e2.symm⟩
    · intro p hp
      rcases List.mem_map.mp hp with ⟨r, hr, rfl⟩
      exact c.empty r hr
    · intro p hp
      rcases List.mem_map.mp hp with ⟨r, hr, rfl⟩
      exact c.out r hr
    · intro p hp
      rcases List.mem_map.mp hp with ⟨r, hr, rfl⟩
      exact PySem.W.codeHd_of_K KX (c.hd r hr)
    · obtain ⟨oc, od, kV, doc, pm, an, cdv, ct, osl, e, lk, hcd⟩ := F.ex
      subst e
      exact fun s u => .of_eq rfl
    · obtain ⟨fd2, F2, g⟩ := Gen.ok_law (P := (PySem.Challenge.rw_whatmovesbuy_k65_amounts_and_what_counts).prog) (w := w) (base := base) T (Top.tb_of c hT)
      rw [Mir.fun_one F F2] at g
      exact g

