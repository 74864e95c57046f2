import PyProof.Rows.All
import HandS.ForMost
import HandS.NoneIn
import PyProof.Rows.RegMatchSeq
import PyProof.RulesMatchSeq
import HandS.Wide
import HandS.Style
import HandS.AnyAll
import PyProof.StrBlock2
import PyProof.GenCompD
import HandS.IsInst
import HandS.Defaults
import HandS.WordsExc
import PyProof.FString5
import HandS.Walk
import HandS.Rev
import PyProof.Rows.RegReprOcc
import HandS.ReplaceList
import HandS.CallLocal
import HandS.More
import HandS.Gcd
import KE.KMathGC
import HandS.Set
import HandS.SetFor
import HandS.Strs
import PyProof.StrWalks
import PyProof.Rows.SetFrom
import PyProof.FactsAll.subtypes_3
import HandS.Flow
import HandS.TryOnly
import HandS.ExcOwn
import HandS.WideBits
import HandS.WordsDict
import HandS.StrMore
import HandS.MapJoin
import KE.GoesNew
import KE.GoesEnum
import HandS.Replace
import HandS.ReplaceLit
import HandS.ReplaceDef
import PyProof.Rows.StrStep
import HandS.Steps
import HandS.Text
import HandS.Iter
import HandS.RaiseMore
import HandS.Conv
import HandS.HeadHook3
import HandS.HeadHook4
import HandS.HeadWalk
import Wide.All
import OpenK.AllK
import Wide.FinOn
import KE.KStateDown
import Lean
import HandS.Base
import HandS.Call
import HandS.Ends
import HandS.Words
import HandS.Head0
import HandS.Head1
import HandS.Head2
import HandS.HeadEnd
import HandS.HeadHook1
import HandS.HeadHook2
import PySem.Challenge.RW_rimprints_k58_whole_two_by_one_and_benea
import HandS.Head3
set_option Elab.async false
set_option linter.all false
set_option maxRecDepth 100000
set_option maxHeartbeats 2000000
set_option autoImplicit false
/-! # The statement «match» over the layer: values, captures, alternatives, sequences -/
namespace Kx
open PySem PySem.Spec PyProof.Rows L2

abbrev Bs := List (Str × V)
/-- a pattern's reading: what is asked of the value, and of the names that it gives (none: it does not fit) -/
abbrev TM := V → Hp → (Option Bs → Hp → Prop) → Prop
abbrev TMs := List V → Hp → (Option Bs → Hp → Prop) → Prop
def RelB : Option Bs → Option (List (Str × Value)) → Prop
  | none, none => True
  | some a, some b => KV a b
  | _, _ => False
def MP (X : Cx) (pins : List (Addr × Obj)) (σ : L2.St) (ns : List Str) (Q : Option Bs → Hp → Prop) (r : Option (List (Str × Value))) (s' : Shared) : Prop :=
  ∃ r' H', Inv X pins σ H' s' ∧ RelB r' r ∧ (∀ bs, r' = some bs → ∀ q ∈ bs, q.1 ∈ ns) ∧ Q r' H'
structure PM (X : Cx) (p : Pattern) (ns : List Str) (t : TM) : Prop where
  run : ∀ (pins : List (Addr × Obj)) (s : Shared) (σ : L2.St) (H : Hp) (v : V) (u : Value) (Q : Option Bs → Hp → Prop), Inv X pins σ H s → RelV v u → t v H Q →
    wpAny (model X.prog X.w) X.A (matchPattern p X.env u) (MP X pins σ ns Q) X.xe s
structure PMs (X : Cx) (ps : List Pattern) (ns : List Str) (t : TMs) : Prop where
  run : ∀ (pins : List (Addr × Obj)) (s : Shared) (σ : L2.St) (H : Hp) (vs : List V) (us : List Value) (Q : Option Bs → Hp → Prop), Inv X pins σ H s → Vals vs us → vs.length = ps.length → t vs H Q →
    wpAny (model X.prog X.w) X.A (matchEach ps X.env us) (MP X pins σ ns Q) X.xe s
/-- the alternatives (of no names) -/
structure PMf (X : Cx) (ps : List Pattern) (t : TM) : Prop where
  run : ∀ (pins : List (Addr × Obj)) (s : Shared) (σ : L2.St) (H : Hp) (v : V) (u : Value) (Q : Option Bs → Hp → Prop), Inv X pins σ H s → RelV v u → t v H Q →
    wpAny (model X.prog X.w) X.A (matchFirst ps X.env u) (MP X pins σ [] Q) X.xe s
section
variable {X : Cx} {pos : Pos} {p : Pattern} {ps : List Pattern} {ns ms : List Str} {t : TM} {ts : TMs}
theorem KV.app {a c : Bs} {b d : List (Str × Value)} (h : KV a b) (h' : KV c d) : KV (a ++ c) (b ++ d) := by
  unfold KV at *
  induction h with
  | nil => exact h'
  | cons r _ ih => exact .cons r ih
/-- a written text -/
def mStr (c : Str) : TM := fun v H Q => scal v (.str c) = true ∧ Q (if v = .str c then some [] else none) H
theorem pm_str {c : Str} {j : Nat} {p1 : Pos} : PM X (.MatchValue (.Constant (.str c) j p1) pos) [] (mStr c) := by
  refine ⟨fun pins s σ H v u Q I r h => ?_⟩
  obtain ⟨hs, hq⟩ := h
  refine wpAny_matchPattern_Value ?_
  refine thn ((pe_str (X := X) (x := c) (j := j) (pos := p1)).run pins s σ H (fun v H1 => v = .str c ∧ H1 = H) I ⟨rfl, rfl⟩) fun x s1 ⟨x', H1, I1, r1, e1, e2⟩ => ?_
  subst e1 e2
  refine thn ((op_eq (X := X)) pins s1 σ H1 v (.str c) u x (fun z H2 => z = .bl (decide (v = .str c)) ∧ H2 = H1) I1 r r1 ⟨hs, rfl, rfl⟩) fun c' s2 ⟨z, H2, I2, r2, e3, e4⟩ => ?_
  subst e3 e4
  cases r2
  refine wpAny_truthy_bool ?_
  by_cases hc : v = .str c
  · rw [if_pos hc] at hq
    have e : decide (v = .str c) = true := decide_eq_true hc
    rw [e, if_pos rfl]
    exact ⟨some [], _, I2, .nil, fun bs e q hq => (by cases e; cases hq), hq⟩
  · rw [if_neg hc] at hq
    have e : decide (v = .str c) = false := decide_eq_false hc
    rw [e, if_neg Bool.false_ne_true]
    exact ⟨none, _, I2, trivial, fun bs e => (by cases e), hq⟩
/-- a name -/
def mCap (x : Str) : TM := fun v H Q => Q (some [(x, v)]) H
theorem pm_cap {x : Str} : PM X (.MatchAs none (some x) pos) [x] (mCap x) := by
  refine ⟨fun pins s σ H v u Q I r h => wpAny_matchPattern_Capture ?_⟩
  exact ⟨some [(x, v)], H, I, .cons ⟨rfl, r⟩ .nil, fun bs e q hq => (by cases e; simpa using congrArg (·.1) (List.mem_singleton.mp hq)), h⟩
/-- _ -/
def mAny : TM := fun _ H Q => Q (some []) H
theorem pm_any : PM X (.MatchAs none none pos) [] mAny := by
  refine ⟨fun pins s σ H v u Q I r h => wpAny_matchPattern_Capture ?_⟩
  exact ⟨some [], H, I, .nil, fun bs e q hq => (by cases e; cases hq), h⟩
/-- p | q | .. -/
def mNone : TM := fun _ H Q => Q none H
def mOr (t u : TM) : TM := fun v H Q => t v H fun r H1 => match r with
  | some _ => Q (some []) H1
  | none => u v H1 Q
theorem pmf_nil : PMf X [] mNone := ⟨fun pins s σ H v u Q I r h => wpAny_matchFirst_nil ⟨none, H, I, trivial, fun bs e => (by cases e), h⟩⟩
theorem pmf_cons {u : TM} (h1 : PM X p [] t) (h2 : PMf X ps u) : PMf X (p :: ps) (mOr t u) := by
  refine ⟨fun pins s σ H v x Q I r h => wpAny_matchFirst_cons (thn (h1.run pins s σ H v x _ I r h) fun z s1 ⟨z', H1, I1, rz, nz, q⟩ => ?_)⟩
  cases z with
  | none =>
    cases z' with
    | none => exact h2.run pins s1 σ H1 v x Q I1 r q
    | some _ => exact rz.elim
  | some bs =>
    cases z' with
    | none => exact rz.elim
    | some bs' =>
      have e : bs' = [] := by
        cases bs' with
        | nil => rfl
        | cons a l => exact absurd (nz _ rfl a List.mem_cons_self) (by simp)
      subst e
      exact ⟨some [], H1, I1, rz, fun bs e q hq => (by cases e; cases hq), q⟩
theorem pm_or {t : TM} (h : PMf X ps t) (hn : namesOfAll (ps.take 1) = [] := by rfl) : PM X (.MatchOr ps pos) [] t := by
  refine ⟨fun pins s σ H v u Q I r hw => wpAny_matchPattern_Or (thn (h.run pins s σ H v u Q I r hw) fun z s1 ⟨z', H1, I1, rz, nz, q⟩ => ?_)⟩
  cases z with
  | none =>
    cases z' with
    | none => exact ⟨none, H1, I1, trivial, fun bs e => (by cases e), q⟩
    | some _ => exact rz.elim
  | some bs =>
    cases z' with
    | none => exact rz.elim
    | some bs' =>
      have e : bs' = [] := by
        cases bs' with
        | nil => rfl
        | cons a l => exact absurd (nz _ rfl a List.mem_cons_self) (by simp)
      subst e
      rw [hn]
      exact ⟨some [], H1, I1, .nil, fun bs e q hq => (by cases e; cases hq), q⟩
/-- the items of a sequence -/
def mNil : TMs := fun _ H Q => Q (some []) H
def mCons (t : TM) (ts : TMs) : TMs := fun vs H Q => match vs with
  | v :: vs => t v H fun r H1 => match r with
    | none => Q none H1
    | some bs => ts vs H1 fun r' H2 => match r' with
      | none => Q none H2
      | some more => Q (some (bs ++ more)) H2
  | [] => False
theorem pms_nil : PMs X [] [] mNil := by
  refine ⟨fun pins s σ H vs us Q I r hl h => ?_⟩
  exact wpAny_matchEach_nil ⟨some [], H, I, .nil, fun bs e q hq => (by cases e; cases hq), h⟩
theorem pms_cons (h1 : PM X p ns t) (h2 : PMs X ps ms ts) (hp : p.isStar = false := by rfl) : PMs X (p :: ps) (ns ++ ms) (mCons t ts) := by
  refine ⟨fun pins s σ H vs us Q I r hl h => ?_⟩
  cases r with
  | nil => exact absurd hl (by simp)
  | cons r0 rr =>
    rename_i v u vs us
    refine wpAny_matchEach_cons (thn (h1.run pins s σ H v u _ I r0 h) fun z s1 ⟨z', H1, I1, rz, nz, q⟩ => ?_) hp
    cases z with
    | none =>
      cases z' with
      | none => exact ⟨none, H1, I1, trivial, fun bs e => (by cases e), q⟩
      | some _ => exact rz.elim
    | some bs =>
      cases z' with
      | none => exact rz.elim
      | some bs' =>
        refine thn (h2.run pins s1 σ H1 vs us _ I1 rr (by simpa using hl) q) fun y s2 ⟨y', H2, I2, ry, ny, q2⟩ => ?_
        cases y with
        | none =>
          cases y' with
          | none => exact ⟨none, H2, I2, trivial, fun bs e => (by cases e), q2⟩
          | some _ => exact ry.elim
        | some cs =>
          cases y' with
          | none => exact ry.elim
          | some cs' => exact ⟨some (bs' ++ cs'), H2, I2, KV.app rz ry, fun l e q hq => by
              cases e
              rcases List.mem_append.mp hq with z | z
              · exact List.mem_append_left _ (nz _ rfl q z)
              · exact List.mem_append_right _ (ny _ rfl q z), q2⟩
/-- [p, q, ..]: of a list, a tuple by its items; of None, truths, numbers, texts: does not fit -/
def flatM : V → Bool
  | .non => true
  | .bl _ => true
  | .int _ => true
  | .str _ => true
  | _ => false
def mSeq (K : PySem.W.Frag) (n : Nat) (ts : TMs) : TM := fun v H Q => (flatM v = true ∧ Q none H) ∨ (∃ a xs, v = .ref a ∧ (SqT K H a xs ∨ SqL K H a xs) ∧ (xs.length = n → ts xs H Q) ∧ (xs.length ≠ n → Q none H))
theorem pm_seq (hc : X.calm = true) (h : PMs X ps ns ts) (hstar : ps.findIdx? (·.isStar) = none := by rfl)
    (hwild : (ps.all fun p => p.isWildcard || (p.isStar && p.names.isEmpty)) = false := by rfl) : PM X (.MatchSequence ps pos) ns (mSeq X.K ps.length ts) := by
  refine ⟨fun pins s σ H v u Q I r hw => ?_⟩
  rcases hw with ⟨hf, q⟩ | ⟨a, xs, rfl, hx, h1, h2⟩
  · have no : wpAny (model X.prog X.w) X.A (collectionFlag true u) (fun b s₁ => if b then
            wpAny (model X.prog X.w) X.A (pyLen u) (fun m s₂ => if m != (ps.length : Int) then MP X pins σ ns Q none s₂ else
              wpAny (model X.prog X.w) X.A (unpackItems u ps.length none) (fun vs s₃ => wpAny (model X.prog X.w) X.A (matchEach ps X.env vs) (MP X pins σ ns Q) X.xe s₃) X.xe s₂) X.xe s₁
          else MP X pins σ ns Q none s₁) X.xe s := by
      have fin : MP X pins σ ns Q none s := ⟨none, H, I, trivial, fun bs e => (by cases e), q⟩
      cases v with
      | non => cases r; exact wpAny_collectionFlag (T := "NoneType") rfl flag_seq_None (by rw [if_neg Bool.false_ne_true]; exact fin)
      | bl b => cases r; exact wpAny_collectionFlag (T := "bool") rfl flag_seq_bool (by rw [if_neg Bool.false_ne_true]; exact fin)
      | int i => obtain ⟨t, rfl⟩ := r; exact wpAny_collectionFlag (T := "int") rfl flag_seq_int (by rw [if_neg Bool.false_ne_true]; exact fin)
      | str z => obtain ⟨t, rfl⟩ := r; exact wpAny_collectionFlag (T := "str") rfl flag_seq_str (by rw [if_neg Bool.false_ne_true]; exact fin)
      | byt _ => cases hf
      | flt _ => cases hf
      | ref _ => cases hf
      | ty _ => cases hf
    exact wpAny_matchPattern_Sequence no hstar hwild
  · cases r
    have sz : ∀ n : Nat, n ≤ sizeLine → (n : Int) < 2 ^ 63 := fun n hn => by
      rw [sizeLine_eq] at hn
      omega
    rcases hx with hx | hx
    · obtain ⟨its, rv, tp, hz⟩ := I.tuple hx
      have hl : xs.length = its.toArray.size := rv.length.trans (by simp)
      by_cases hn : xs.length = ps.length
      · have hn' : its.toArray.size = ps.length := hl.symm.trans hn
        refine matchSeq_tuple_hit tp (sz _ (by rw [← hl]; exact hz)) hn' ?_ hstar hwild
        have tp' : IsTup ({ s with toks := s.toks + 1 + 1 } : Shared).heap a its.toArray := tp
        rw [← hn']
        refine unpackItems_tuple (I.ok.hd hc) tp' fun h' hx' => ?_
        have I1 : Inv X pins σ H { s with heap := h', toks := s.toks + 1 + 1 } := I.kept (t' := s.toks + 1 + 1) fun b o e => hx' b o (Nat.ne_of_lt (Heap.lt_size e)) e
        exact h.run pins _ σ H xs its.toArray.toList Q I1 (by simpa using rv) hn (h1 hn)
      · exact matchSeq_tuple_miss tp (sz _ (by rw [← hl]; exact hz)) (by rw [← hl]; exact hn) ⟨none, H, I.tok _, trivial, fun bs e => (by cases e), h2 hn⟩ hstar hwild
    · obtain ⟨its, rv, pl, hz⟩ := I.list hx
      have tp : s.heap.IsList a its.toArray := by
        obtain ⟨o, m, e, c, d, q⟩ := pl
        exact ⟨o, e, c, m, q⟩
      have hl : xs.length = its.toArray.size := rv.length.trans (by simp)
      by_cases hn : xs.length = ps.length
      · have hn' : its.toArray.size = ps.length := hl.symm.trans hn
        refine matchSeq_list_hit tp (sz _ (by rw [← hl]; exact hz)) hn' ?_ hstar hwild
        have tp' : ({ s with toks := s.toks + 1 + 1 } : Shared).heap.IsList a its.toArray := tp
        rw [← hn']
        refine PySem.W.kun_itemsOf (I.ok.hd hc) tp' fun h' hx' => ?_
        have I1 : Inv X pins σ H { s with heap := h', toks := s.toks + 1 + 1 } := I.kept (t' := s.toks + 1 + 1) fun b o e => hx' b o (Nat.ne_of_lt (Heap.lt_size e)) e
        exact h.run pins _ σ H xs its.toArray.toList Q I1 (by simpa using rv) hn (h1 hn)
      · exact matchSeq_list_miss tp (sz _ (by rw [← hl]; exact hz)) (by rw [← hl]; exact hn) ⟨none, H, I.tok _, trivial, fun bs e => (by cases e), h2 hn⟩ hstar hwild
/-! ### the cases -/
/-- the names that a pattern gave, stored -/
def setB (N : List Str) : Bs → L2.St → L2.St
  | [], σ => σ
  | (x, v) :: r, σ => setB N r (σ.set (N.idxOf x) (some v))
/-- a name that a case may give -/
def okName (X : Cx) (x : Str) : Prop := X.N[X.N.idxOf x]? = some x ∧ Loc X.env.scope x ∧ (X.fn x = true ∨ X.env.scope.names.lookup x = some .local)
theorem bind_ok {pins : List (Addr × Obj)} {Q : Unit → Shared → Prop} (hN : X.N.Nodup) (hn : ∀ x ∈ ns, okName X x) : ∀ (bs : Bs) (us : List (Str × Value)) (σ : L2.St) (H : Hp) (s : Shared), Inv X pins σ H s → KV bs us → (∀ q ∈ bs, q.1 ∈ ns) →
    (∀ s', Inv X pins (setB X.N bs σ) H s' → Q () s') → wpAny (model X.prog X.w) X.A (assignInOrder (us.map fun (n, _) => bindName X.env n) (us.map (·.2))) Q X.xe s
  | [], us, σ, H, s, I, r, _, k => by
    cases r
    exact wpAny_assignInOrder_none (k s I)
  | (x, v) :: bs, us, σ, H, s, I, r, hb, k => by
    cases r with
    | cons r0 rr =>
      rename_i q us
      obtain ⟨y, u⟩ := q
      obtain ⟨e, ru⟩ := r0
      have e : x = y := e
      have ru : RelV v u := ru
      subst e
      obtain ⟨o1, o2, o3⟩ := hn x (hb _ List.mem_cons_self)
      refine wpAny_assignInOrder_more (wpAny_bindName (store_ok I hN o1 o2 ru (fun s' I' => ?_) o3))
      exact bind_ok hN hn bs us _ H s' I' rr (fun q hq => hb q (List.mem_cons_of_mem _ hq)) k
/-- the cases' reading, of the value that is matched -/
abbrev TCs := V → TS
structure PCs (X : Cx) (cs : List MatchCase) (t : TCs) : Prop where
  run : ∀ (first : Bool) (pins : List (Addr × Obj)) (s : Shared) (σ : L2.St) (H : Hp) (v : V) (u : Value) (D : Ends), Inv X pins σ H s → RelV v u → t v D σ H →
    wpAny (model X.prog X.w) X.A (matchCases cs X.env u first) (SP X pins D) X.xe s
def cNil : TCs := fun _ D σ H => D.nx σ H
def cCons (N : List Str) (tp : TM) (tb : TS) (tr : TCs) : TCs := fun v D σ H => tp v H fun r H1 => match r with
  | none => tr v D σ H1
  | some bs => tb D (setB N bs σ) H1
theorem pcs_nil : PCs X [] cNil := ⟨fun first pins s σ H v u D I r h => wpAny_matchCases_nil (show SP X pins D .next s from ⟨σ, H, I, h⟩)⟩
theorem pcs_cons {body : List Stmt} {rest : List MatchCase} {tb : TS} {tr : TCs} (hN : X.N.Nodup) (hn : ∀ x ∈ ns, okName X x) (hp : PM X p ns t) (hb : PSs X body tb) (hr : PCs X rest tr) :
    PCs X (⟨p, none, body⟩ :: rest) (cCons X.N t tb tr) := by
  refine ⟨fun first pins s σ H v u D I r h => wpAny_matchCases_cons (thn (hp.run pins s σ H v u _ I r h) fun z s1 ⟨z', H1, I1, rz, nz, q⟩ => ?_)⟩
  cases z with
  | none =>
    cases z' with
    | none => exact hr.run false pins s1 σ H1 v u D I1 r q
    | some _ => exact rz.elim
  | some bs =>
    cases z' with
    | none => exact rz.elim
    | some bs' => exact bind_ok hN hn bs' bs σ H1 s1 I1 rz (nz _ rfl) fun s2 I2 => hb.run pins s2 _ H1 D I2 q
def tMatch (te : TE) (tc : TCs) : TS := fun D σ H => te σ H fun v H1 => tc v D σ H1
theorem ps_match {e : Expr} {cs : List MatchCase} {te : TE} {tc : TCs} (he : PE X e te) (hc : PCs X cs tc) : PS X (.Match e cs pos) (tMatch te tc) :=
  ⟨fun pins s σ H D I h => wpAny_Match (thn (he.run pins s σ H _ I h) fun u s1 ⟨v, H1, I1, r1, q⟩ => hc.run true pins s1 σ H1 v u D I1 r1 q)⟩
end
end Kx

set_option Elab.async false
set_option linter.all false
set_option maxRecDepth 100000
set_option maxHeartbeats 2000000
set_option autoImplicit false
/-! # Readings by cases of the values, new objects by what is known of the heap behind them -/
namespace Kx
open PySem PySem.Spec PyProof.Rows L2

/-- no table of code objects -/
def NT : HO → Bool
  | .tbl _ => false
  | _ => true
/-- all that is tracked in H stands so in H'; tables may have grown -/
structure Ext (H H' : Hp) : Prop where
  get : ∀ {a : Addr} {o : HO}, H a = some o → NT o = true → H' a = some o
  tab : ∀ {P : Addr}, GxR.TabG H P → GxR.TabG H' P
  free : ∀ {p : Addr}, H' p = none → H p = none
/-- all that is tracked in H but what stands at r -/
structure But (r : Addr) (H H' : Hp) : Prop where
  get : ∀ {a : Addr} {o : HO}, H a = some o → a ≠ r → NT o = true → H' a = some o
  tab : ∀ {P : Addr}, GxR.TabG H P → GxR.TabG H' P
  free : ∀ {p : Addr}, H' p = none → H p = none
theorem Ext.refl (H : Hp) : Ext H H := ⟨fun h _ => h, fun h => h, fun h => h⟩
theorem Ext.trans {H H1 H2 : Hp} (a : Ext H H1) (b : Ext H1 H2) : Ext H H2 := ⟨fun h n => b.get (a.get h n) n, fun h => b.tab (a.tab h), fun h => a.free (b.free h)⟩
theorem Ext.new {H : Hp} {p : Addr} {o : HO} (h : H p = none) : Ext H (upd H p o) := ⟨fun {a u} e _ => by
  rw [upd_ne (ne_of_none e h)]
  exact e, fun {P} ⟨ps, e, t⟩ => ⟨ps, by rw [upd_ne (ne_of_none e h)]; exact e, t⟩, fun {q} e => by
  by_cases hq : q = p
  · rw [hq]; exact h
  · rw [upd_ne hq] at e
    exact e⟩
theorem Ext.tabbed {H H' : Hp} {P : Addr} (h : GxR.TabG H P) (t : GxR.Tabbed P H H') : Ext H H' := ⟨fun {a u} e n => by
  by_cases ha : a = P
  · obtain ⟨ps, e2, _⟩ := h
    rw [ha, e2] at e
    cases e
    cases n
  · rw [t.2 a ha]
    exact e, fun {Q} q => by
  by_cases ha : Q = P
  · rw [ha]; exact t.1
  · obtain ⟨ps, e2, tt⟩ := q
    exact ⟨ps, by rw [t.2 Q ha]; exact e2, tt⟩, fun {q} e => by
  by_cases hq : q = P
  · obtain ⟨ps, e2, _⟩ := t.1
    rw [hq, e2] at e
    cases e
  · rw [t.2 q hq] at e
    exact e⟩
theorem Ext.but {H H' : Hp} (r : Addr) (a : Ext H H') : But r H H' := ⟨fun h _ n => a.get h n, a.tab, a.free⟩
theorem But.refl (r : Addr) (H : Hp) : But r H H := ⟨fun h _ _ => h, fun h => h, fun h => h⟩
theorem But.trans {r : Addr} {H H1 H2 : Hp} (a : But r H H1) (b : But r H1 H2) : But r H H2 := ⟨fun h n t => b.get (a.get h n t) n t, fun h => b.tab (a.tab h), fun h => a.free (b.free h)⟩
theorem But.set {H : Hp} {r : Addr} {o u : HO} (h : H r = some u) (hu : NT u = true) : But r H (upd H r o) := ⟨fun {a v} e n _ => by
  rw [upd_ne n]
  exact e, fun {P} ⟨ps, e, t⟩ => ⟨ps, by
    rw [upd_ne (fun z => by rw [z, h] at e; cases e; cases hu)]
    exact e, t⟩, fun {q} e => by
  by_cases hq : q = r
  · rw [hq, upd_same] at e
    cases e
  · rw [upd_ne hq] at e
    exact e⟩
/-- a new object: G of its address and the heap behind -/
def New (H : Hp) (o : HO) (G : Addr → Hp → Prop) : Prop := ∀ (p : Addr) (H' : Hp), H p = none → H' p = some o → Ext H H' → G p H'
theorem New.use {H : Hp} {o : HO} {G : Addr → Hp → Prop} (h : New H o G) : ∀ p, H p = none → G p (upd H p o) := fun p hp => h p _ hp upd_same (.new hp)

section
variable {X : Cx}
/-- a weaker reading -/
theorem PE.imp {e : Expr} {t u : TE} (h : PE X e t) (i : ∀ σ H Q, u σ H Q → t σ H Q) : PE X e u := ⟨fun pins s σ H Q I q => h.run pins s σ H Q I (i σ H Q q)⟩
theorem PT.imp {e : Expr} {t u : TT} (h : PT X e t) (i : ∀ σ H Q, u σ H Q → t σ H Q) : PT X e u := ⟨fun pins s σ H Q I q => h.run pins s σ H Q I (i σ H Q q)⟩
theorem PS.imp {e : Stmt} {t u : TS} (h : PS X e t) (i : ∀ D σ H, u D σ H → t D σ H) : PS X e u := ⟨fun pins s σ H D I q => h.run pins s σ H D I (i D σ H q)⟩
theorem OpR.imp {f : Value → Value → Sem Value} {r r' : R2} (h : OpR X f r) (i : ∀ x y H Q, r' x y H Q → r x y H Q) : OpR X f r' := fun pins s σ H x y v u Q I rx ry q => h pins s σ H x y v u Q I rx ry (i x y H Q q)

/-! ### operators -/
def rAddM : R2 := fun x y H Q => match x, y with
  | .int i, .int j => Q (.int (i + j)) H
  | .str a, .str b => a.length + b.length ≤ sizeLine ∧ Q (.str (a ++ b)) H
  | .ref a, .ref b => ∃ xs ys, H a = some (.lst xs) ∧ H b = some (.lst ys) ∧ xs.length + ys.length ≤ sizeLine ∧ New H (.lst (xs ++ ys)) fun p H' => Q (.ref p) H'
  | _, _ => False
theorem op_addM : OpR X (binaryOp .Add) rAddM := by
  intro pins s σ H x y v u Q I rx ry h
  cases x with
  | int i => cases y with
    | int j => exact op_add pins s σ H _ _ v u Q I rx ry ⟨i, j, rfl, rfl, h⟩
    | _ => exact h.elim
  | str i => cases y with
    | str j => exact op_add_str pins s σ H _ _ v u Q I rx ry ⟨i, j, rfl, rfl, h⟩
    | _ => exact h.elim
  | ref i => cases y with
    | ref j =>
      obtain ⟨xs, ys, h1, h2, h3, h4⟩ := h
      exact op_cat pins s σ H _ _ v u Q I rx ry ⟨i, j, xs, ys, rfl, rfl, h1, h2, h3, h4.use⟩
    | _ => exact h.elim
  | _ => exact h.elim
def rIntM (C : Int → Int → Prop) (g : Int → Int → V) : R2 := fun x y H Q => match x, y with
  | .int i, .int j => C i j ∧ Q (g i j) H
  | _, _ => False
theorem OpR.intM {f : Value → Value → Sem Value} {C : Int → Int → Prop} {g : Int → Int → V} (h : OpR X f (rI C g)) : OpR X f (rIntM C g) := OpR.imp h fun x y H Q q => by
  cases x with
  | int i => cases y with
    | int j => exact ⟨i, j, rfl, rfl, q⟩
    | _ => exact q.elim
  | _ => exact q.elim
def rInt0M (g : Int → Int → V) : R2 := fun x y H Q => match x, y with
  | .int i, .int j => Q (g i j) H
  | _, _ => False
theorem OpR.int0M {f : Value → Value → Sem Value} {g : Int → Int → V} (h : OpR X f (rI0 g)) : OpR X f (rInt0M g) := OpR.imp h fun x y H Q q => by
  cases x with
  | int i => cases y with
    | int j => exact ⟨i, j, rfl, rfl, q⟩
    | _ => exact q.elim
  | _ => exact q.elim
theorem op_subM : OpR X (binaryOp .Sub) (rInt0M fun i j => .int (i - j)) := OpR.int0M op_sub
theorem op_fdivM : OpR X (binaryOp .FloorDiv) (rIntM CDivW fun i j => .int (i / j)) := OpR.intM op_fdivW
theorem op_modM : OpR X (binaryOp .Mod) (rIntM (fun _ j => 0 < j) fun i j => .int (i % j)) := OpR.intM op_mod
theorem op_powM : OpR X (binaryOp .Pow) (rIntM CPow fun i j => .int (i ^ j.toNat)) := OpR.intM op_pow
/-- *: two ints (one small, or both not too great), a list or a text so many times -/
def rMulM : R2 := fun x y H Q => match x, y with
  | .int i, .int j => (CMul i j ∨ CMulW i j) ∧ Q (.int (i * j)) H
  | .ref l, .int k => ∃ xs, H l = some (.lst xs) ∧ -(2 ^ 63) ≤ k ∧ k < 2 ^ 63 ∧ xs.length * k.toNat ≤ sizeLine ∧ New H (.lst (List.replicate k.toNat xs).flatten) fun p H' => Q (.ref p) H'
  | .str z, .int k => 0 ≤ k ∧ z.length * k.toNat ≤ sizeLine ∧ k < 2 ^ 60 ∧ Q (.str (Txt.mul z k)) H
  | _, _ => False
theorem mulOk_of {z : Str} {k : Int} (h0 : 0 ≤ k) (h : z.length * k.toNat ≤ sizeLine) (h2 : k < 2 ^ 60) : MulOk z k := by
  have hs : (sizeLine : Nat) = 16777216 := sizeLine_eq
  refine ⟨?_, fun h1 _ => ?_, fun h1 _ => ?_⟩
  · have a : decide (k < -(2 ^ 63 : Int)) = false := decide_eq_false (by omega)
    have b : decide (k ≥ 2 ^ 63) = false := decide_eq_false (by omega)
    rw [a, b]
    rfl
  · have hz : z.length ≤ 16777216 := by
      have : z.length * 1 ≤ z.length * k.toNat := Nat.mul_le_mul_left _ (by omega)
      omega
    have hk : (0 : Int) < k := by omega
    intro q
    have q2 : (2 ^ 63 - 1) / k < (z.length : Int) := q
    have q3 := (Int.ediv_lt_iff_lt_mul hk).mp q2
    have q4 : ((z.length : Int) * k) = ((z.length * k.toNat : Nat) : Int) := by
      rw [Int.natCast_mul, Int.toNat_of_nonneg h0]
    rw [q4] at q3
    omega
  · unfold Builtin.Str.tooLong
    exact decide_eq_false (by omega)
theorem op_mulM : OpR X (binaryOp .Mult) rMulM := by
  intro pins s σ H x y v u Q I rx ry h
  cases x with
  | int i => cases y with
    | int j =>
      rcases h with ⟨h | h, q⟩
      · exact op_mul pins s σ H _ _ v u Q I rx ry ⟨i, j, rfl, rfl, h, q⟩
      · exact op_mulW pins s σ H _ _ v u Q I rx ry ⟨i, j, rfl, rfl, h, q⟩
    | _ => exact h.elim
  | ref l => cases y with
    | int k =>
      obtain ⟨xs, h1, h2, h3, h4, h5⟩ := h
      exact op_rep pins s σ H _ _ v u Q I rx ry ⟨l, k, xs, rfl, rfl, h1, h2, h3, h4, h5.use⟩
    | _ => exact h.elim
  | str z => cases y with
    | int k =>
      obtain ⟨h0, h1, h2, q⟩ := h
      obtain ⟨t, rfl⟩ := rx
      obtain ⟨t', rfl⟩ := ry
      exact SB.mul (mulOk_of h0 h1 h2) fun t' k' => ⟨.str _, H, I.tok _, ⟨_, rfl⟩, q⟩
    | _ => exact h.elim
  | _ => exact h.elim
/-! ### comparisons -/
def rCmpM (g : Int → Int → Bool) (f : List Nat → List Nat → Bool) : R2 := fun x y H Q => match x, y with
  | .int i, .int j => Q (.bl (g i j)) H
  | .str i, .str j => Q (.bl (f i.cps.toList j.cps.toList)) H
  | _, _ => False
theorem cmpM {f : Value → Value → Sem Value} {g : Int → Int → Bool} {k : List Nat → List Nat → Bool} (h : OpR X f (rI0 fun i j => .bl (g i j)))
    (h' : OpR X f (fun x y H Q => ∃ i j, x = .str i ∧ y = .str j ∧ Q (.bl (k i.cps.toList j.cps.toList)) H)) : OpR X f (rCmpM g k) := by
  intro pins s σ H x y v u Q I rx ry q
  cases x with
  | int i => cases y with
    | int j => exact h pins s σ H _ _ v u Q I rx ry ⟨i, j, rfl, rfl, q⟩
    | _ => exact q.elim
  | str i => cases y with
    | str j => exact h' pins s σ H _ _ v u Q I rx ry ⟨i, j, rfl, rfl, q⟩
    | _ => exact q.elim
  | _ => exact q.elim
theorem op_ltM : OpR X (compareOp .Lt) (rCmpM (fun i j => decide (i < j)) fun a b => decide (a < b)) := cmpM op_lt op_lt_str
theorem op_leM : OpR X (compareOp .LtE) (rCmpM (fun i j => decide (i ≤ j)) fun a b => !decide (b < a)) := cmpM op_le op_le_str
theorem op_gtM : OpR X (compareOp .Gt) (rCmpM (fun i j => decide (j < i)) fun a b => decide (b < a)) := cmpM op_gt op_gt_str
theorem op_geM : OpR X (compareOp .GtE) (rCmpM (fun i j => decide (j ≤ i)) fun a b => !decide (a < b)) := cmpM op_ge op_ge_str
/-! ### subscripts -/
def rIxM : R2 := fun x y H Q => match x, y with
  | .str z, .int i => z.length ≤ sizeLine ∧ ∃ c, atI z.cps.toList i = some c ∧ Q (.str ⟨#[c]⟩) H
  | .ref p, .int i => ∃ xs v, (H p = some (.lst xs) ∨ H p = some (.tup xs)) ∧ atI xs i = some v ∧ Q v H
  | _, _ => False
theorem ix_M : IxR X rIxM := by
  intro e1 e2 pins s σ H x y v u Q I rx ry q hsub
  cases x with
  | str z => cases y with
    | int i =>
      obtain ⟨hz, c, hc, q⟩ := q
      exact ix_str e1 e2 pins s σ H _ _ v u Q I rx ry ⟨z, i, c, rfl, rfl, hz, hc, q⟩ hsub
    | _ => exact q.elim
  | ref p => cases y with
    | int i =>
      obtain ⟨xs, w, h, hw, q⟩ := q
      rcases h with h | h
      · exact ix_list e1 e2 pins s σ H _ _ v u Q I rx ry ⟨p, xs, i, w, rfl, rfl, SqL.of h, hw, q⟩ hsub
      · exact ix_tup e1 e2 pins s σ H _ _ v u Q I rx ry ⟨p, xs, i, w, rfl, rfl, SqT.of h, hw, q⟩ hsub
    | _ => exact q.elim
  | _ => exact q.elim
def rSlM : V → Option Int → Option Int → Hp → VK → Prop := fun x lo hi H Q => match x with
  | .str z => z.length ≤ sizeLine ∧ Q (.str (cutS z lo hi)) H
  | .ref p => ∃ xs, H p = some (.lst xs) ∧ New H (.lst (cutV xs lo hi)) fun p H' => Q (.ref p) H'
  | _ => False
theorem sl_M : SlR X rSlM := by
  intro pins s σ H x v vl vu lo hi sl Q I rx hs pl pu q
  cases x with
  | str z => exact sl_str pins s σ H _ v vl vu lo hi sl Q I rx hs pl pu ⟨z, rfl, q⟩
  | ref p =>
    obtain ⟨xs, h, q⟩ := q
    exact sl_list pins s σ H _ v vl vu lo hi sl Q I rx hs pl pu ⟨p, xs, rfl, SqL.of h, q.use⟩
  | _ => exact q.elim
/-! ### displays -/
variable {es : List Expr} {ta : TA} {pos : Pos}
def tTupM (t : TA) : TE := fun σ H Q => t σ H fun xs H1 => xs.length ≤ sizeLine ∧ New H1 (.tup xs) fun p H' => Q (.ref p) H'
theorem pe_tupM {x1 : Nat} (h : PA X es ta) : PE X (.Tuple es x1 pos) (tTupM ta) := by
  refine ⟨fun pins s σ H Q I hq => ?_⟩
  refine wpAny_Tuple_spliced (thn (h.run pos pins s σ H _ I hq) fun us s1 ⟨xs, H1, I1, r, z, q⟩ => ⟨by rw [← r.length]; exact z, ?_⟩)
  have hf : H1 s1.heap.objs.size = none := I1.hok.fresh (Nat.le_refl _)
  refine ⟨.ref s1.heap.objs.size, upd H1 s1.heap.objs.size (.tup xs), I1.laid (t' := s1.toks) (fun b u e => Heap.get?_push_of_some _ e) (Nat.le_refl _) ?_, rfl, q.use _ hf⟩
  exact ⟨z, us, r, ⟨_, Heap.get?_push_size _ rfl, rfl, _, rfl⟩⟩
def tLstM (t : TA) : TE := fun σ H Q => t σ H fun xs H1 => xs.length ≤ sizeLine ∧ New H1 (.lst xs) fun p H' => Q (.ref p) H'
theorem pe_lstM (h : PA X es ta) : PE X (.List es pos) (tLstM ta) := by
  refine ⟨fun pins s σ H Q I hq => ?_⟩
  refine wpAny_List_spliced (thn (h.run pos pins s σ H _ I hq) fun us s1 ⟨xs, H1, I1, r, z, q⟩ => ⟨by rw [← r.length]; exact z, ?_⟩)
  have hf : H1 s1.heap.objs.size = none := I1.hok.fresh (Nat.le_refl _)
  refine ⟨.ref s1.heap.objs.size, upd H1 s1.heap.objs.size (.lst xs), I1.laid (t' := s1.toks) (fun b u e => Heap.get?_push_of_some _ e) (Nat.le_refl _) ?_, rfl, q.use _ hf⟩
  exact ⟨z, us, 0, r, Heap.get?_push_size _ rfl⟩
/-! ### tests and branches -/
/-- a value as a test: a truth -/
def tTru (t : TE) : TT := fun σ H Q => t σ H fun x H1 => match x with
  | .bl k => Q k H1
  | _ => False
variable {a b c : Expr} {tb te : TE} {tc tA tB : TT} {t u : TS} {r : R2} {op : CmpOp}
theorem pt_cmpM (ho : OpR X (compareOp op) r) (ha : PE X a te) (hb : PE X b tb) (hm : behindInMarks op b = false := by first | exact nobehind _ (by decide) (by decide) | rfl) : PT X (.Compare a [op] [b] pos) (tTru (tOp r te tb)) := by
  refine ⟨fun pins s σ H Q I h => ?_⟩
  refine wpAny_isTrue_Compare1 (thn (ha.run pins s σ H _ I h) fun v s1 ⟨x, H1, I1, r1, q1⟩ => thn (hb.run pins s1 σ H1 _ I1 q1) fun u s2 ⟨y, H2, I2, r2, q2⟩ =>
    thn (ho pins s2 σ H2 x y v u _ I2 r1 r2 q2) fun c s3 ⟨z, H3, I3, r3, q3⟩ => ?_) hm
  cases z with
  | bl k =>
    cases r3
    exact wpAny_truthy_bool ⟨H3, I3, q3⟩
  | _ => exact q3.elim
theorem pt_valM {e : Expr} (h : PE X e te) (he : ∀ whole, isTrue e X.env whole = (do let v ← whole; standAt e.pos; holding [v] (truthy v)) := by intro _; rfl) : PT X e (tTru te) := by
  refine ⟨fun pins s σ H Q I hw => ?_⟩
  refine isTrue_plain (thn (h.run pins s σ H _ I hw) fun v s1 ⟨x, H1, I1, r1, q1⟩ => ?_) (he _)
  cases x with
  | bl k =>
    cases r1
    exact wpAny_truthy_bool ⟨H1, I1, q1⟩
  | _ => exact q1.elim
/-- if: both ways -/
def tIfM (c : TT) (t u : TS) : TS := fun D σ H => c σ H fun b H1 => (b = true → t D σ H1) ∧ (b = false → u D σ H1)
theorem ps_ifM {sa sb : List Stmt} (hc : PT X c tc) (ha : PSs X sa t) (hb : PSs X sb u) : PS X (.If c sa sb pos) (tIfM tc t u) := by
  refine ⟨fun pins s σ H D I h => ?_⟩
  refine wpAny_If (thn (hc.run pins s σ H _ I h) fun d s1 ⟨H1, I1, q1⟩ => ?_)
  cases d with
  | true => exact ha.run pins s1 σ H1 D I1 (q1.1 rfl)
  | false => exact hb.run pins s1 σ H1 D I1 (q1.2 rfl)
def tIfEM (c : TT) (ta tb : TE) : TE := fun σ H Q => c σ H fun b H1 => (b = true → ta σ H1 Q) ∧ (b = false → tb σ H1 Q)
theorem pe_ifM (hc : PT X c tc) (ha : PE X a te) (hb : PE X b tb) : PE X (.IfExp c a b pos) (tIfEM tc te tb) := by
  refine ⟨fun pins s σ H Q I h => ?_⟩
  refine wpAny_IfExp (thn (hc.run pins s σ H _ I h) fun d s1 ⟨H1, I1, q1⟩ => ?_)
  cases d with
  | true => exact ha.run pins s1 σ H1 Q I1 (q1.1 rfl)
  | false => exact hb.run pins s1 σ H1 Q I1 (q1.2 rfl)
/-- and, or -/
def tAndM (t u : TT) : TT := fun σ H Q => t σ H fun c H1 => (c = true → u σ H1 Q) ∧ (c = false → Q false H1)
def tOrM (t u : TT) : TT := fun σ H Q => t σ H fun c H1 => (c = true → Q true H1) ∧ (c = false → u σ H1 Q)
variable {rest : List Expr}
theorem pw_andM (ha : PT X a tA) (hb : PW X (.BoolOp .And (b :: rest) pos) tB) : PW X (.BoolOp .And (a :: b :: rest) pos) (tAndM tA tB) := by
  refine ⟨fun wh pins s σ H Q I h => ?_⟩
  refine isTrue_and (thn (ha.run pins s σ H _ I h) fun c s1 ⟨H1, I1, q1⟩ => ?_)
  cases c with
  | true => exact hb.run wh pins s1 σ H1 Q I1 (q1.1 rfl)
  | false => exact ⟨H1, I1, q1.2 rfl⟩
theorem pw_orM (ha : PT X a tA) (hb : PW X (.BoolOp .Or (b :: rest) pos) tB) : PW X (.BoolOp .Or (a :: b :: rest) pos) (tOrM tA tB) := by
  refine ⟨fun wh pins s σ H Q I h => ?_⟩
  refine isTrue_or (thn (ha.run pins s σ H _ I h) fun c s1 ⟨H1, I1, q1⟩ => ?_)
  cases c with
  | true => exact ⟨H1, I1, q1.1 rfl⟩
  | false => exact hb.run wh pins s1 σ H1 Q I1 (q1.2 rfl)
/-- and, or as values of truths -/
def tAndVM (ta tb : TE) : TE := fun σ H Q => ta σ H fun x H1 => match x with
  | .bl c => (c = true → tb σ H1 Q) ∧ (c = false → Q (.bl false) H1)
  | _ => False
def tOrVM (ta tb : TE) : TE := fun σ H Q => ta σ H fun x H1 => match x with
  | .bl c => (c = true → Q (.bl true) H1) ∧ (c = false → tb σ H1 Q)
  | _ => False
theorem pe_andM (ha : PE X a te) (hb : PE X (.BoolOp .And (b :: rest) pos) tb) : PE X (.BoolOp .And (a :: b :: rest) pos) (tAndVM te tb) := by
  refine ⟨fun pins s σ H Q I h => ?_⟩
  refine BoolOp_and (thn (ha.run pins s σ H _ I h) fun v s1 ⟨x, H1, I1, r1, q1⟩ => ?_)
  cases x with
  | bl c =>
    cases r1
    refine wpAny_truthy_bool ?_
    cases c with
    | true => exact hb.run pins s1 σ H1 Q I1 (q1.1 rfl)
    | false => exact ⟨.bl false, H1, I1, rfl, q1.2 rfl⟩
  | _ => exact q1.elim
theorem pe_orM (ha : PE X a te) (hb : PE X (.BoolOp .Or (b :: rest) pos) tb) : PE X (.BoolOp .Or (a :: b :: rest) pos) (tOrVM te tb) := by
  refine ⟨fun pins s σ H Q I h => ?_⟩
  refine BoolOp_or (thn (ha.run pins s σ H _ I h) fun v s1 ⟨x, H1, I1, r1, q1⟩ => ?_)
  cases x with
  | bl c =>
    cases r1
    refine wpAny_truthy_bool ?_
    cases c with
    | false => exact hb.run pins s1 σ H1 Q I1 (q1.2 rfl)
    | true => exact ⟨.bl true, H1, I1, rfl, q1.1 rfl⟩
  | _ => exact q1.elim
def tNotVM (ta : TE) : TE := fun σ H Q => ta σ H fun x H1 => match x with
  | .bl c => Q (.bl (!c)) H1
  | _ => False
theorem pe_notM (ha : PE X a te) : PE X (.UnaryOp .Not a pos) (tNotVM te) := by
  refine ⟨fun pins s σ H Q I h => ?_⟩
  refine UnaryOp_ (thn (ha.run pins s σ H _ I h) fun v s1 ⟨x, H1, I1, r1, q1⟩ => ?_)
  cases x with
  | bl c =>
    cases r1
    exact not_of (wpAny_truthy_bool ⟨.bl (!c), H1, I1, rfl, q1⟩)
  | _ => exact q1.elim
/-! ### stores -/
/-- xs[i] = v, a tracked list -/
def rSetM : TSet := fun o i v H Q => match o, i with
  | .ref p, .int k => ∃ xs j, H p = some (.lst xs) ∧ ixN xs.length k = some j ∧ ∀ H', H' p = some (.lst (xs.set j v)) → But p H H' → Q H'
  | _, _ => False
theorem set_M : PSet X rSetM := by
  intro pins s σ H o i v vo vi u Q I ro ri rv h
  cases o with
  | ref p => cases i with
    | int k =>
      obtain ⟨xs, j, h1, h2, q⟩ := h
      exact set_list pins s σ H _ _ v vo vi u Q I ro ri rv ⟨p, xs, k, j, rfl, rfl, h1, h2, q _ upd_same (But.set h1 rfl)⟩
    | _ => exact h.elim
  | _ => exact h.elim
/-! ### built-in functions -/
def rLenM : List V → Hp → VK → Prop := fun vs H Q => match vs with
  | [.str z] => z.length ≤ sizeLine ∧ Q (.int z.length) H
  | [.ref p] => ∃ xs, (H p = some (.lst xs) ∨ H p = some (.tup xs)) ∧ Q (.int xs.length) H
  | _ => False
def rIntCM : List V → Hp → VK → Prop := fun vs H Q => match vs with
  | [.int i] => Q (.int i) H
  | [.bl k] => Q (.int (if k then 1 else 0)) H
  | _ => False
theorem call_intM : CallR X (.type "int") rIntCM := by
  intro pins s σ H vs us Q I r h
  exact call_int1 pins s σ H vs us Q I r (by
    cases vs with
    | nil => exact h.elim
    | cons v vs => cases vs with
      | cons _ _ => cases v <;> exact h.elim
      | nil => cases v with
        | int i => exact .inl ⟨i, rfl, h⟩
        | bl k => exact .inr ⟨k, rfl, h⟩
        | _ => exact h.elim)
end
end Kx
namespace Kx
open PySem PySem.Spec PyProof.Rows L2
theorem New.mk {H : Hp} {o : HO} {G : Addr → Hp → Prop} (h : ∀ (p : Addr) (H' : Hp), H p = none → H' p = some o → Ext H H' → G p H') : New H o G := h
theorem ne_tl {H : Hp} {a r : Addr} {xs ys : List V} (h : H a = some (.tup xs)) (h' : H r = some (.lst ys)) : a ≠ r := ne_of h h' (by intro z; cases z)
theorem ne_fr {H : Hp} {a r : Addr} {o : HO} (h' : H r = none) (h : H a = some o) : a ≠ r := ne_of_none h h'
section
variable {X : Cx}
theorem call_lenM : CallR X (.builtin "len") rLenM := by
  intro pins s σ H vs us Q I r h
  cases vs with
  | nil => exact h.elim
  | cons v vs => cases vs with
    | cons _ _ => cases v <;> exact h.elim
    | nil => cases v with
      | str z => exact call_len_str pins s σ H _ us Q I r ⟨z, rfl, h⟩
      | ref p =>
        obtain ⟨xs, h1, q⟩ := h
        exact call_len_seq pins s σ H _ us Q I r ⟨p, xs, rfl, h1.imp SqL.of SqT.of, q⟩
      | _ => exact h.elim
end
end Kx
namespace Kx
open PySem PySem.Spec PyProof.Rows L2
theorem atI_zero {α : Type} {x : α} {l : List α} : atI (x :: l) 0 = some x := by
  unfold atI ixN
  rw [if_pos (Int.le_refl 0), if_pos (by show (0 : Int) < ((l.length + 1 : Nat) : Int); omega)]
  rfl
theorem atI_of {α : Type} {l : List α} {i : Int} {v : α} (h0 : 0 ≤ i) (h : l[i.toNat]? = some v) : atI l i = some v := by
  have hl := (List.getElem?_eq_some_iff.mp h).1
  unfold atI ixN
  rw [if_pos h0, if_pos (by omega)]
  exact h
theorem dpAll_ints {K : PySem.W.Frag} {H : Hp} : ∀ gs : List Int, DpAll K H (gs.map V.int) (gs.map PyData.int)
  | [] => .nil
  | x :: r => .cons (.int x) (dpAll_ints r)
theorem shaped_ints : ∀ gs : List Int, SeqAt.shaped (.list (gs.map PyData.int)) = true := fun gs => by
  induction gs with
  | nil => rfl
  | cons x r ih => first | exact ih | (simp [SeqAt.shaped] at *; exact ih)
theorem But.alloc {r : Addr} {H H' H'' : Hp} (a : But r H H') (b : Ext H' H'') : But r H H'' := a.trans (b.but r)
theorem Ext.toBut {r : Addr} {H H' H'' : Hp} (b : Ext H H') (a : But r H' H'') : But r H H'' := (b.but r).trans a
end Kx
namespace Kx
open PySem PySem.Spec PyProof.Rows L2
theorem cutV_tail {x : V} {l : List V} : cutV (x :: l) (some 1) none = l := by
  unfold cutV
  have h1 : HT.sIx (x :: l).length 0 (some 1) = 1 := by
    have := HT.sIx_nat (x :: l).length 0 1
    rw [show ((1 : Nat) : Int) = 1 from rfl] at this
    rw [this]
    simp
  have h2 : HT.sIx (x :: l).length (x :: l).length none = (x :: l).length := rfl
  rw [h1, h2]
  simp
end Kx

set_option Elab.async false
set_option linter.all false
set_option maxRecDepth 100000
set_option maxHeartbeats 4000000
set_option autoImplicit false
/-! # all(.. for x in a text), the element any test that may call -/
namespace Kx
open PySem PySem.Spec PyProof.Rows L2 GxR

/-- the element is the test pb of a sign, wherever the context's base stands, a little deeper -/
def EltD (X : Cx) (scope : Scope) (x : Str) (elt : Expr) (pb : Nat → Bool) : Prop :=
  ∀ (ce : Env) (B : Around) (E : Value → Shared → Prop) (c : Nat) (t : Tok) (z : Shared) (m : Str → Option Value), ce.scope = scope → ce.globals = mainGlobals → ce.builtins = builtinsNs →
    B.handled = none → B.depth ≤ X.A.depth + 1 → B.units ≤ X.A.units + 8 → (∀ b o, X.base.get? b = some o → z.heap.get? b = some o) → z.heap.Ns ce.locals m → m x = some (.str ⟨#[c]⟩ t) →
    wpAny (model X.prog X.w) B (eval elt ce) (fun y z' => y = .bool (pb c) ∧ Keeps z z') E z

section
variable {X : Cx} {pins : List (Addr × Obj)} {σ : L2.St} {H : Hp} {s : Shared}
theorem gen_deep {c P : Addr} {elt iter : Expr} {x : Str} {px gpos : Pos} {scope : Scope} {pb : Nat → Bool} {te : TE} {k : Nat} {W : Value → Shared → Prop} {R : Str → Hp → Prop}
    (hr : Room k X.A) (TB : TabB X.base X.mg c P) (hcode : X.env.code = .ref c) (S : GenS X.env scope x) (hi : PE X iter te) (hel : X.Ok → EltD X scope x elt pb) (hs : ∀ v, genFold iter X.env v = pure v)
    (I : Inv X pins σ H s) (h : te σ H fun v H1 => ∃ a : Str, v = .str a ∧ TabG H1 P ∧ R a H1) (hQ : ∀ a H1 g z, R a H1 → Ready X pins σ H1 P a pb g z → W (.ref g) z) :
    wpAny (model X.prog X.w) X.A (eval (.GeneratorExp elt [⟨.Name x px, iter, [], 0⟩] scope gpos) X.env) W X.xe s := by
  refine wpAny_GeneratorExp_walksQD hr.hd S.co (closure_ok S.free) S.cell S.dot S.loc S.kind (by have := hr.dp; omega) (thn (hi.run pins s σ H _ I h) ?_) hs
  rintro xv s1 ⟨v, H1, I1, r1, a, rfl, ⟨ps, hP, ht⟩, q1⟩
  obtain ⟨t, rfl⟩ := _root_.id r1
  refine wpAny_pyIter_str fun o St Wk hst => ?_
  have tabAt : s1.heap.get? P = some { cls := .none, data := .fields ps } := I1.hok P _ hP
  have ltP := Heap.lt_size tabAt
  generalize hh2 : s1.heap.push o = h2
  have up : ∀ b u, s1.heap.get? b = some u → h2.get? b = some u := fun b u e => by rw [← hh2]; exact Heap.get?_push_of_some _ e
  have size2 : h2.objs.size = s1.heap.objs.size + 1 := by rw [← hh2]; exact Heap.size_push ..
  have cd : PySem.W.CodeHd h2 c P := TB.code.keeps fun b u e => up b u (I1.bk b u e)
  have lim2 : h2.NoLimit := by rw [← hh2]; exact I1.nolimit.push o
  obtain ⟨mc, hns, _⟩ := _root_.id I1.nolimit
  have csP : cStatics ≠ P := fun e => by
    obtain ⟨o', es, ep, ho, hd, _⟩ := hns
    rw [e, tabAt] at ho
    cases ho
    cases hd
  have csLt : cStatics < s1.heap.objs.size := hns.lt
  -- behind the code object's look
  have go : ∀ (code : Value) (h3 : Heap) (tk : Nat) (more : Array Value), Heap.ExtBut P h2 h3 → h2.objs.size ≤ h3.objs.size → h3.get? P = some { cls := .none, data := .fields (ps ++ more) } → TriplesOk (ps ++ more).toList →
      wpAny (model X.prog X.w) X.A (builtinsFor X.env.globals X.env.builtins) (fun bi z =>
        ∃ Ia fp wr n₀ Pf St₀ pz F, Value.ref s1.heap.objs.size = .ref Ia ∧ (∀ B : Around, B.handled = none → Walks X.prog X.w B Ia fp wr n₀ Pf St₀) ∧ St₀ 0 z.heap ∧ (∀ b ∈ fp, b < z.heap.objs.size) ∧ z.heap.NoLimit ∧ cStatics ∉ wr ∧
          (∀ hr' : Heap, (∀ b o, z.heap.get? b = some o → hr'.get? b = some o) →
            QuietGenD X.prog X.w (genEnv scope (cloFrom X.env.cells scope.names []) z.heap.objs.size code bi X.env) x [] elt (List.range z.heap.objs.size) wr Pf pz F hr' (X.A.depth + 1) (X.A.units + 8)) ∧
          (∀ g h₅ tk gs, gs.bare = true → z.heap.objs.size < g → h₅.objs.size = g + 1 → (∀ b o, z.heap.get? b = some o → h₅.get? b = some o) →
            WalksS X.prog X.w X.A.in4 g (g :: z.heap.objs.size :: List.range z.heap.objs.size) (z.heap.objs.size :: wr) (GenOnlyQ z.gens.size) (passing pz n₀ 0).length
              (fun j y => ∃ i, (passing pz n₀ 0)[j]? = some i ∧ F i y) (GenAt X.prog X.w X.A.in4 g z.gens.size z.heap.objs.size (List.range z.heap.objs.size) wr pz n₀ F) →
            GenAt X.prog X.w X.A.in4 g z.gens.size z.heap.objs.size (List.range z.heap.objs.size) wr pz n₀ F 0 { z with gens := z.gens.push gs, toks := tk, heap := h₅ } →
            W (.ref g) { z with gens := z.gens.push gs, toks := tk, heap := h₅ })) X.xe { s1 with heap := h3, toks := tk } := by
    intro code h3 tk more hx hsz hP3 ht3
    obtain ⟨bm, ob, e1, e2, e3, e4, e5, e6, e7, e8⟩ := TB.bm
    have keep3 : ∀ b u, b ≠ P → s1.heap.get? b = some u → h3.get? b = some u := fun b u hb e => hx b u hb (up b u e)
    have baseP : ∀ b u, X.base.get? b = some u → b ≠ P := fun b u e z => by
      have n := (I1.bs b u e).2
      rw [z, hP] at n
      cases n
    have nsG : h3.Ns mainGlobals X.mg := (I1.mod.glob.keeps fun b u e => up b u (I1.bk b u e)).extBut hx TB.gP
    refine wpAny_builtinsFor (m := X.mg) (by rw [I1.ok.glob]; exact nsG) e1 e2 (keep3 _ _ e4 (I1.bk _ _ e5)) e6 e7 e8 ?_
    refine ⟨s1.heap.objs.size, [s1.heap.objs.size], [s1.heap.objs.size], a.cps.size, SignAt a, St, (fun _ => true), (fun i y => ∃ cc, a.cps[i]? = some cc ∧ y = .bool (pb cc)), rfl, Wk, ?_, fun b hb => ?_, lim2.extBut hx csP, fun z => ?_, fun hr' hk' => ?_, ?_⟩
    · refine (Wk X.A hr.hd).frame _ _ _ hst fun b hb u e => hx b u (fun z => ?_) (by rw [← hh2]; exact e)
      have hb1 : b = s1.heap.objs.size := by simpa using hb
      exact absurd (hb1.symm.trans z) (Nat.ne_of_gt ltP)
    · have hb1 : b = s1.heap.objs.size := by simpa using hb
      rw [hb1]
      show s1.heap.objs.size < h3.objs.size
      omega
    · have hb1 : cStatics = s1.heap.objs.size := by simpa using z
      exact absurd hb1 (Nat.ne_of_lt csLt)
    · refine ⟨fun B E i v z m hB hD hU hv hn hm hk => ?_, fun B E i v z m hB hD hU hv hp hn hm hk => ?_⟩
      · simp only [List.forIn_nil]
        exact wpAny_pure ⟨rfl, keeps_refl _⟩
      · obtain ⟨cc, u, hcc, rfl⟩ := hv
        have kb : ∀ b o, X.base.get? b = some o → z.heap.get? b = some o := fun b o e => by
          have old := I1.bk b o e
          have l1 := Heap.lt_size old
          refine hk b (List.mem_range.mpr (Nat.lt_of_lt_of_le l1 (by show s1.heap.objs.size ≤ h3.objs.size; omega))) (fun z => ?_) o (hk' b o (keep3 b o (baseP b o e) old))
          have hb1 : b = s1.heap.objs.size := by simpa using z
          exact absurd hb1 (Nat.ne_of_lt l1)
        exact wpAny_mono (hel I1.ok _ B E cc u z m rfl I1.ok.glob rfl hB hD hU kb hn hm) (fun y s3 r => ⟨⟨cc, hcc, r.1⟩, r.2⟩) fun _ _ e => e
    · intro g h5 tk5 gs hgb hag hsz5 hk5 W5 hat
      simp only [GxR.passing_true, List.length_range] at W5
      refine hQ a H1 g _ q1 ⟨_, _, _, _, _, W5.in4_1, hat, fun j y sj Qj Ej hy hQj => ?_, fun s' hm => ?_⟩
      · obtain ⟨i, hij, cc, hcc, rfl⟩ := hy
        obtain ⟨hj, ej⟩ := List.getElem?_eq_some_iff.mp hij
        rw [List.getElem_range] at ej
        subst ej
        have e9 : a.cps.toList[j]? = some cc := by rw [Array.getElem?_toList]; exact hcc
        have hQ2 : Qj (trF pb a.cps.toList j) sj := hQj
        rw [trF_some e9] at hQ2
        exact wpAny_truthy_bool hQ2
      · have off : ∀ b u, s1.heap.get? b = some u → b ∉ h3.objs.size :: [s1.heap.objs.size] := fun b u e hb => by
          have hl := Heap.lt_size e
          have two : b = h3.objs.size ∨ b = s1.heap.objs.size := by simpa using hb
          rcases two with z | z
          · have q : h3.objs.size < s1.heap.objs.size := by rw [← z]; exact hl
            omega
          · exact absurd z (Nat.ne_of_lt hl)
        have J := inv_tab (more := more) (h' := s'.heap) (g' := s'.gens) (d' := s'.drawn) (t' := s'.toks) I1 hP (fun b u hb e => hm.heap b u (off b u e) (hk5 b u (keep3 b u hb e)))
          (hm.heap P _ (off P _ tabAt) (hk5 P _ hP3)) (AllBare.movedS (I1.bare.push hgb) hm)
        rw [sh_eta s1 s' hm.os] at J
        exact ⟨upd H1 P (.tbl (ps ++ more)), ⟨⟨ps ++ more, upd_same, ht3⟩, fun b hb => upd_ne hb⟩, J⟩
  have hP2 : h2.get? P = some { cls := .none, data := .fields ps } := up P _ tabAt
  refine ⟨lim2, ?_⟩
  cases hf : codeAmong gpos ps.toList with
  | none =>
    refine wpAny_genexprCodeX hcode (cd.code hP2 ht) (cd.tab hP2) hf fun c' h' tk hx hge hlt hco' _ htab' _ => ?_
    obtain ⟨o1, vs, f1, tf, fl, tg, inF, tx, tt, op, _, _, _, _, _, _, _, _, _, htr, _⟩ := hco'
    exact go _ h' tk _ hx (Nat.le_trans hge (Nat.le_of_lt hlt)) htab'.2 htr
  | some cv =>
    refine wpAny_genexprCode_hit hcode (cd.code hP2 ht) hf ?_
    exact go cv h2 s1.toks #[] (Heap.ExtBut.refl _ _) (Nat.le_refl _) (by rw [Array.append_empty]; exact hP2) (by rw [Array.append_empty]; exact ht)
/-- all(test for x in e) -/
def tAllD (P : Addr) (pb : Nat → Bool) (te : TE) : TE := fun σ H Q => te σ H fun v H1 => ∃ a : Str, v = .str a ∧ TabG H1 P ∧ ∀ H2, Ext H1 H2 → Q (.bl (a.cps.toList.all pb)) H2
theorem pe_allD {c P : Addr} {elt iter : Expr} {x : Str} {px p pos gpos : Pos} {scope : Scope} {pb : Nat → Bool} {te : TE} {k : Nat}
    (hr : Room k X.A) (hg : Gl X "all") (hm : X.mg "all" = none) (hb : bootBuiltins "all" = some (.builtin "all")) (TB : TabB X.base X.mg c P) (hcode : X.env.code = .ref c) (S : GenS X.env scope x) (hi : PE X iter te) (hel : X.Ok → EltD X scope x elt pb)
    (hs : ∀ v, genFold iter X.env v = pure v)
    (he : starEach [.GeneratorExp elt [⟨.Name x px, iter, [], 0⟩] scope gpos] X.env = (false, eval (.GeneratorExp elt [⟨.Name x px, iter, [], 0⟩] scope gpos) X.env) :: starEach [] X.env := by rfl) :
    PE X (.Call (.Name "all" p) [.GeneratorExp elt [⟨.Name x px, iter, [], 0⟩] scope gpos] [] pos) (tAllD P pb te) := by
  refine ⟨fun pins s σ H Q I h => wpAny_Call_Name_kw (ld_blt I hg hm hb (PyProof.Rows.callWith_builtin1 ?_ he (by rfl)))⟩
  rw [he]
  refine Calls.spliced_cons (gen_deep (R := fun a H1 => TabG H1 P ∧ ∀ H2, Ext H1 H2 → Q (.bl (a.cps.toList.all pb)) H2) hr TB hcode S hi hel hs I ?_ fun a H1 g z hR hG => Calls.spliced_nil ?_)
  · have h2 : te σ H fun v H1 => ∃ a : Str, v = .str a ∧ TabG H1 P ∧ ∀ H2, Ext H1 H2 → Q (.bl (a.cps.toList.all pb)) H2 := h
    have e : (fun (v : V) (H1 : Hp) => ∃ a : Str, v = .str a ∧ TabG H1 P ∧ TabG H1 P ∧ ∀ H2, Ext H1 H2 → Q (.bl (a.cps.toList.all pb)) H2) = fun v H1 => ∃ a : Str, v = .str a ∧ TabG H1 P ∧ ∀ H2, Ext H1 H2 → Q (.bl (a.cps.toList.all pb)) H2 := by
      funext v H1
      apply propext
      exact ⟨fun ⟨a, x, y, _, z⟩ => ⟨a, x, y, z⟩, fun ⟨a, x, y, z⟩ => ⟨a, x, y, y, z⟩⟩
    rw [e]
    exact h2
  · obtain ⟨fp, wr, G, F, St, W, hst, htr, hI⟩ := hG
    refine call_all_walkS (W.self 0 _ _ _ hst ⟨g, fp, wr, G, _, F, St, _, rfl, W, hst, htr, fun s' hmv => ?_⟩)
    obtain ⟨H2, hT, J⟩ := hI s' hmv
    refine ⟨.bl _, H2, J, rfl, ?_⟩
    rw [all_signs a pb]
    exact hR.2 H2 (Ext.tabbed hR.1 hT)
end
end Kx

set_option Elab.async false
set_option linter.all false
set_option maxRecDepth 100000
set_option maxHeartbeats 4000000
set_option autoImplicit false
/-! # Leaves: small defs of one text, run anywhere (also within a generator) -/
namespace Kx
open PySem PySem.Spec PyProof.Rows L2
/-- where a leaf runs: what the module's names hold -/
structure Wo (K : PySem.W.Frag) (mg : Str → Option Value) (h : Heap) : Prop where
  kin : K.In h
  glob : h.Ns mainGlobals mg
  blt : ∃ mb, h.Ns builtinsNs mb ∧ ∀ x : Str, x ≠ "__name__" → mb x = bootBuiltins x
  lim : h.NoLimit
theorem Wo.keep {K : PySem.W.Frag} {mg : Str → Option Value} {h h' : Heap} (o : Wo K mg h) (k : ∀ b u, h.get? b = some u → h'.get? b = some u) : Wo K mg h' :=
  ⟨o.kin.keeps k, o.glob.keeps k, let ⟨mb, a, b⟩ := o.blt; ⟨mb, a.keeps k, b⟩, o.lim.keeps k⟩
theorem Wo.of {X : Cx} (ok : X.Ok) {h : Heap} (k : ∀ b u, X.base.get? b = some u → h.get? b = some u) : Wo X.K X.mg h :=
  Wo.keep (h := X.base) ⟨ok.mod.kin, ok.mod.glob, ok.mod.blt, ok.mod.nolimit⟩ k
/-- a small letter -/
def mk (c : Nat) : Bool := decide (97 ≤ c) && decide (c ≤ 122)
def mkN (c : Nat) : Bool := mk c || c == 46
section
variable {P : Program} {w : World} {K : PySem.W.Frag} {mg : Str → Option Value} {A : Around} {E : Value → Shared → Prop} {s : Shared} {env : Env}
theorem nm_local {x : Str} {pos : Pos} {m : Str → Option Value} {v : Value} {Q : Value → Shared → Prop} (hk : env.scope.kind = .function) (hl : env.kindOf x = some .local) (hn : s.heap.Ns env.locals m) (hv : m x = some v) (h : Q v s)
    (hd : (x == ("__debug__" : Str)) = false := by decide) : wpAny (model P w) A (eval (.Name x pos) env) Q E s := wpAny_Name (wpAny_loadName_local hk hl hn hv h) hd
theorem nm_glob {x : Str} {pos : Pos} {v : Value} {Q : Value → Shared → Prop} (o : Wo K mg s.heap) (hk : env.scope.kind = .function) (hg : env.kindOf x = some .globalImplicit) (eg : env.globals = mainGlobals) (hm : mg x = some v) (h : Q v s)
    (hd : (x == ("__debug__" : Str)) = false := by decide) : wpAny (model P w) A (eval (.Name x pos) env) Q E s :=
  Calls.Name_function_global hk hg (Calls.loadGlobal_global (by rw [eg]; exact o.glob) hm h) hd
theorem nm_blt {x : Str} {pos : Pos} {v : Value} {Q : Value → Shared → Prop} (o : Wo K mg s.heap) (hk : env.scope.kind = .function) (hg : env.kindOf x = some .globalImplicit) (eg : env.globals = mainGlobals) (eb : env.builtins = builtinsNs) (hm : mg x = none) (hv : bootBuiltins x = some v) (h : Q v s)
    (hn : x ≠ "__name__" := by decide) (hd : (x == ("__debug__" : Str)) = false := by decide) : wpAny (model P w) A (eval (.Name x pos) env) Q E s := by
  obtain ⟨mb, h1, h2⟩ := o.blt
  exact Calls.Name_function_global hk hg (Calls.loadGlobal_builtin (by rw [eg]; exact o.glob) hm (by rw [eb]; exact h1) ((h2 x hn).trans hv) h) hd
end
end Kx
namespace Kx
open PySem PySem.Spec PyProof.Rows L2
section
variable {P : Program} {w : World} {K : PySem.W.Frag} {mg : Str → Option Value}
/-- a def of one sign that tells pb of it, wherever it is called -/
def Leaf (P : Program) (w : World) (K : PySem.W.Frag) (mg : Str → Option Value) (n : Nat) (f : Addr) (pb : Nat → Bool) : Prop :=
  ∀ (A : Around) (R : Result → Shared → Prop) (s : Shared) (c : Nat) (t : Tok), A.depth + n < recursionLimit → Wo K mg s.heap → (∀ s', Keeps s s' → R (.ok (.ret (.bool (pb c)))) s') → codeAny (model P w) A (.call (.ref f) ⟨[.str ⟨#[c]⟩ t], []⟩) R s
theorem keeps_of {s s' : Shared} (h : Heap) (k : Nat) (e : s' = { s with heap := h, toks := k }) (kp : ∀ b o, s.heap.get? b = some o → h.get? b = some o) : Keeps s s' := ⟨h, k, e, kp⟩
theorem Keeps.tr {a b c : Shared} (x : Keeps a b) (y : Keeps b c) : Keeps a c := by
  obtain ⟨h, k, rfl, z⟩ := x
  obtain ⟨h', k', rfl, z'⟩ := y
  exact ⟨h', k', rfl, fun b o e => z' b o (z b o e)⟩
theorem Keeps.rf (s : Shared) : Keeps s s := ⟨s.heap, s.toks, rfl, fun _ _ e => e⟩
theorem Keeps.tk {a b : Shared} (x : Keeps a b) (k : Nat) : Keeps a { b with toks := k } := by
  obtain ⟨h, k', rfl, z⟩ := x
  exact ⟨h, k, rfl, z⟩
end
end Kx
namespace Kx
open PySem PySem.Spec PyProof.Rows L2
section
variable {P : Program} {w : World} {K : PySem.W.Frag} {mg : Str → Option Value} {base : Heap} {f : Addr} {fd : FuncData} {x qual : Str} {params : Arguments} {body : List Stmt} {scope : Scope} {dvs : List V} {kws : List (Str × V)}
/-- as FunD.ok, the code object told -/
theorem okC {CX : CXT} {N ps : List Str} {k : Nat} {sp : Sp} (F : FunD K x qual params body scope dvs kws f fd) (S : FnScope N ps scope) (len : ∀ vs H Q E, sp vs H Q E → vs.length = ps.length)
    (hbody : ∀ (A : Around) (outer : List Env) (s : Shared) (H : Hp) (vs : List V) (Q : VK) (E : XK), Room k (A.deeper (envOfC qual scope s.heap.objs.size f fd.code)) → sp vs H Q E →
      ∃ t, PSs (cxOf CX P w K mg base N qual scope f fd.code A outer s H E) body t ∧ t { nx := fun _ H' => Q .non H', rt := Q } (start N vs) H) : FnOk P w K mg base CX (k + 1) f fd ps sp := by
  obtain ⟨oc, od, dV, kV, doc, pm, an, cdv, ct, osl, rfl, lk, hcd, _, _⟩ := F.ex
  exact fn_of lk hcd S len fun A outer s H vs Q E hr hsp => hbody A outer s H vs Q E hr hsp
end
section
variable {X : Cx}
/-- isinstance(x, T): of a text, an int, a truth, None; of a tracked list, tuple -/
def tyB : V → Hp → Option String := fun v H => match v with
  | .non => some "NoneType"
  | .bl _ => some "bool"
  | .int _ => some "int"
  | .str _ => some "str"
  | .ref a => match H a with
    | some (.lst _) => some "list"
    | some (.tup _) => some "tuple"
    | _ => none
  | _ => none
theorem tyB_ok {K : PySem.W.Frag} {v : V} {H : Hp} {n : String} (h : tyB v H = some n) : TyX K H v (.type n) := by
  cases v with
  | non => cases h; exact .base .non
  | bl b => cases h; exact .base (.bl b)
  | int i => cases h; exact .base (.int i)
  | str z => cases h; exact .base (.str z)
  | byt _ => cases h
  | flt _ => cases h
  | ty _ => cases h
  | ref a =>
    have h1 : (match H a with | some (HO.lst _) => some "list" | some (HO.tup _) => some "tuple" | _ => none) = some n := h
    cases e : H a with
    | none => rw [e] at h1; cases h1
    | some o =>
      rw [e] at h1
      cases o with
      | lst xs => cases h1; exact .base (.lst e)
      | tup xs => cases h1; exact .base (.tup e)
      | _ => cases h1
def rIsiM : List V → Hp → VK → Prop := fun vs H Q => match vs with
  | [x, .ty T] => ∃ n b, tyB x H = some n ∧ kitB n T = some b ∧ Q (.bl b) H
  | _ => False
theorem call_isiM : CallR X (.builtin "isinstance") rIsiM := by
  intro pins s σ H vs us Q I r h
  match vs, h with
  | [x, .ty T], ⟨n, b, h1, h2, q⟩ => exact call_isi pins s σ H _ us Q I r ⟨x, .ty T, .type n, .type T, b, rfl, .ty T, tyB_ok h1, kit_ty h2, q⟩
/-! ### calls of the module's own defs -/
/-- the def that the module's name x stands for keeps the promise sp -/
structure Cal (P : Program) (w : World) (K : PySem.W.Frag) (mg : Str → Option Value) (base : Heap) (k : Nat) (x : Str) (sp : Sp) : Prop where
  ex : ∃ (f : Addr) (fd : FuncData) (ps : List Str), FnOk P w K mg base (L2.CX P w) k f fd ps sp ∧ mg x = some (.ref f) ∧ PySem.W.keepIn K (.ref f) = true ∧ Binds K fd ps []
theorem Cal.imp {P : Program} {w : World} {K : PySem.W.Frag} {mg : Str → Option Value} {base : Heap} {k : Nat} {x : Str} {sp sp' : Sp} (c : Cal P w K mg base k x sp) (h : ∀ vs H Q E, sp' vs H Q E → sp vs H Q E) : Cal P w K mg base k x sp' := by
  obtain ⟨f, fd, ps, a, b, d, e⟩ := c.ex
  exact ⟨f, fd, ps, a.imp h, b, d, e⟩
/-- the promise at these arguments (no automation opens it) -/
structure Ca (sp : Sp) (vs : List V) (H : Hp) (Q : VK) : Prop where
  h : sp vs H Q E0
def tCal (sp : Sp) (t : TA) : TE := fun σ H Q => t σ H fun vs H1 => Ca sp vs H1 Q
variable {x : Str} {p pos : Pos} {e : Expr} {es : List Expr} {t : TA} {k j : Nat} {sp : Sp}
theorem pe_x (c : Cal X.prog X.w X.K X.mg X.base k x sp) (hr : Room j X.A) (ha : PA X (e :: es) t) (hk : k ≤ j := by decide) (hg : Gl X x := by rfl) (hdb : (x == ("__debug__" : Str)) = false := by decide)
    (he : starEach (e :: es) X.env = (false, eval e X.env) :: starEach es X.env := by rfl) (hpl : (backTo pos (starEach es X.env)).any (·.1) = false := by rfl) : PE X (.Call (.Name x p) (e :: es) [] pos) (tCal sp t) := by
  obtain ⟨f, fd, ps, F, hm, kp, b⟩ := c.ex
  refine PE.imp (pe_call F (hr.mono hk) hg hm kp b .nil passL ha hdb he hpl) fun σ H Q q => ?_
  have e : (fun (vs : List V) (H1 : Hp) => sp (vs ++ []) H1 Q E0) = fun vs H1 => Ca sp vs H1 Q := by
    funext vs H1
    rw [List.append_nil]
    exact propext ⟨fun z => ⟨z⟩, fun z => z.h⟩
  show t σ H (fun vs H1 => sp (vs ++ []) H1 Q E0)
  rw [e]
  exact q
/-- a built-in class as a value -/
theorem pe_ty {n : String} (hm : X.mg x = none) (hv : bootBuiltins x = some (.type n)) (hg : Gl X x := by rfl) (hn : x ≠ "__name__" := by decide) (hd : (x == ("__debug__" : Str)) = false := by decide) : PE X (.Name x p) (tC (.ty n)) := pe_bltn hg hm hv rfl hn hd
end
end Kx

set_option Elab.async false
set_option linter.all false
set_option maxRecDepth 100000
set_option maxHeartbeats 4000000
set_option autoImplicit false
/-! # Walks over what a value holds: comprehensions, for -/
namespace Kx
open PySem PySem.Spec PyProof.Rows L2
/-- walking v gives xs (b: a tuple) -/
def SeqV (K : PySem.W.Frag) (b : Bool) (H : Hp) (v : V) (xs : List V) : Prop := match v with
  | .ref a => match b with
    | true => SqT K H a xs
    | false => SqL K H a xs
  | .str z => b = false ∧ xs = z.cps.toList.map fun c => .str ⟨#[c]⟩
  | _ => False
theorem SqL.ext {K : PySem.W.Frag} {H H' : Hp} {a : Addr} {xs : List V} (e : Ext H H') (h : SqL K H a xs) : SqL K H' a xs := by
  rcases h with (h | ⟨o, h⟩) | h
  · exact .inl (.inl (e.get h rfl))
  · exact .inl (.inr ⟨o, e.get h rfl⟩)
  · exact .inr h
theorem SqT.ext {K : PySem.W.Frag} {H H' : Hp} {a : Addr} {xs : List V} (e : Ext H H') (h : SqT K H a xs) : SqT K H' a xs := by
  rcases h with (h | ⟨o, h⟩) | h
  · exact .inl (.inl (e.get h rfl))
  · exact .inl (.inr ⟨o, e.get h rfl⟩)
  · exact .inr h
theorem SeqV.ext {K : PySem.W.Frag} {b : Bool} {H H' : Hp} {v : V} {xs : List V} (e : Ext H H') (h : SeqV K b H v xs) : SeqV K b H' v xs := by
  cases v with
  | ref a => cases b with
    | true => exact SqT.ext e h
    | false => exact SqL.ext e h
  | str z => exact h
  | _ => exact h
theorem SeqV.lst {K : PySem.W.Frag} {H : Hp} {a : Addr} {xs : List V} (h : H a = some (.lst xs)) : SeqV K false H (.ref a) xs := .inl (.inl h)
theorem SeqV.tup {K : PySem.W.Frag} {H : Hp} {a : Addr} {xs : List V} (h : H a = some (.tup xs)) : SeqV K true H (.ref a) xs := .inl (.inl h)
/-- a statement that no automation opens -/
structure Hid (p : Prop) : Prop where
  h : p
abbrev TIA := L2.St → Hp → (Hp → List V → (Hp → Prop) → Prop) → Prop
/-- an iterable by the list of what it gives, while G holds of the heap -/
structure ItW (xs : List V) (G : Hp → Prop) (R : It → Prop) : Prop where
  of : ∀ J, Walk J xs.length G (YAt xs) → R J
def iW (wa : TIA) : TI := fun σ H R => wa σ H fun H1 xs G => ItW xs G fun J => R J H1
structure PIW (X : Cx) (tg iter : Expr) (wa : TIA) : Prop where
  pi : PI X tg iter (iW wa)
def wSeq (K : PySem.W.Frag) (te : TE) : TIA := fun σ H Q => te σ H fun v H1 => ∃ b xs, SeqV K b H1 v xs ∧ Q H1 xs fun H => SeqV K b H v xs
def wRng1 (ta : TA) : TIA := fun σ H Q => ta σ H fun vs H1 => match vs with
  | [.int n] => -4611686018427387904 ≤ n ∧ n < 4611686018427387904 ∧ Q H1 ((List.range n.toNat).map fun i : Nat => V.int (i : Int)) fun _ => True
  | _ => False
def wRng2 (ta : TA) : TIA := fun σ H Q => ta σ H fun vs H1 => match vs with
  | [.int m, .int n] => -4611686018427387904 ≤ m ∧ m < 4611686018427387904 ∧ -4611686018427387904 ≤ n ∧ n < 4611686018427387904 ∧ Q H1 ((List.range (n - m).toNat).map fun i : Nat => V.int (m + (i : Int))) fun _ => True
  | _ => False
theorem walk_str' {z : Str} : Walk (Its z) (z.cps.toList.map fun c => (.str ⟨#[c]⟩ : V)).length (fun _ => True) (YAt (z.cps.toList.map fun c => .str ⟨#[c]⟩)) := by
  have e : (z.cps.toList.map fun c => (.str ⟨#[c]⟩ : V)).length = z.cps.size := by simp
  rw [e]
  refine walk_str.mono (fun _ h => h) ?_
  rintro i H v H' hi _ ⟨rfl, c, hc, rfl⟩
  refine ⟨rfl, ?_⟩
  rw [List.getElem?_map, Array.getElem?_toList, hc]
  rfl
section
variable {X : Cx} {tg : Expr}
theorem piw_seq {e : Expr} {te : TE} (he : PE X e te) : PIW X tg e (wSeq X.K te) := by
  refine ⟨⟨fun pins s σ H R I h => ?_⟩⟩
  refine thn (he.run pins s σ H _ I h) fun v s1 ⟨x, H1, I1, r1, b, xs, hs, q⟩ => ?_
  cases x with
  | ref a =>
    cases r1
    cases b with
    | false =>
      obtain ⟨its, rv, p, hz⟩ := I1.list hs
      exact wpAny_pyIter_list p.isList (pi_one (tk := s1.toks) I1 _ (turn_list a _) ⟨_, Heap.get?_push_size _ rfl, rfl, rfl⟩ (q.of _ walk_list))
    | true =>
      obtain ⟨its, rv, p, hz⟩ := I1.tuple hs
      exact wpAny_pyIter_tuple (show s1.heap.IsTuple a its.toArray from p) (pi_one (tk := s1.toks) I1 _ (turn_tuple a _) ⟨_, Heap.get?_push_size _ rfl, rfl, rfl⟩ (q.of _ walk_tup))
  | str z =>
    obtain ⟨rfl, rfl⟩ := hs
    obtain ⟨t, rfl⟩ := r1
    have q2 := q.of _ (walk_str'.mono (fun _ _ => trivial) fun _ _ _ _ _ _ y => y)
    cases ha : z.cps.all (· < 128)
    · exact wpAny_pyIter_wide ha (pi_one (tk := s1.toks) I1 _ (turn_str _ z t "str_iterator" (.inr rfl)) ⟨_, Heap.get?_push_size _ rfl, rfl, rfl⟩ q2)
    · exact wpAny_pyIter_ascii ha (pi_one (tk := s1.toks) I1 _ (turn_str _ z t "str_ascii_iterator" (.inl rfl)) ⟨_, Heap.get?_push_size _ rfl, rfl, rfl⟩ q2)
  | _ => exact hs.elim
theorem PI.imp {e : Expr} {t u : TI} (h : PI X tg e t) (i : ∀ σ H R, u σ H R → t σ H R) : PI X tg e u := ⟨fun pins s σ H R I q => h.run pins s σ H R I (i σ H R q)⟩
theorem walk_range' {lo : Int} {n : Nat} : Walk (Itr lo n) ((List.range n).map fun i : Nat => V.int (lo + (i : Int))).length (fun _ => True) (YAt ((List.range n).map fun i : Nat => V.int (lo + (i : Int)))) := by
  have e : ((List.range n).map fun i : Nat => V.int (lo + (i : Int))).length = n := by simp
  rw [e]
  refine walk_range.mono (fun _ h => h) ?_
  rintro i H v H' hi _ ⟨rfl, rfl⟩
  refine ⟨rfl, ?_⟩
  rw [List.getElem?_map, List.getElem?_range hi]
  rfl
theorem piw_range1 {a : Expr} {ta : TA} {p pos : Pos} (hg : Gl X "range") (hm : X.mg "range" = none) (ha : PA X [a] ta) (hs : starEach [a] X.env = [(false, eval a X.env)] := by rfl) : PIW X tg (.Call (.Name "range" p) [a] [] pos) (wRng1 ta) := by
  refine ⟨⟨fun pins s σ H R I h => ?_⟩⟩
  refine wpAny_Call_Name_kw (ld_blt I hg hm boot_range (PyProof.Rows.callWith_type1 (thn (ha.run pos pins s σ H _ I h) fun us s1 ⟨vs, H1, I1, r1, q1⟩ => ?_) hs rfl))
  match vs, q1 with
  | [.int j], ⟨q1, q2, q⟩ =>
    cases r1 with
    | cons r rr =>
      cases rr
      obtain ⟨t, rfl⟩ := r
      have q := q.of (Itr 0 (j - 0).toNat) (by
        have e : ((List.range j.toNat).map fun i : Nat => V.int (i : Int)) = ((List.range (j - 0).toNat).map fun i : Nat => V.int (0 + (i : Int))) := by simp
        rw [e]
        exact walk_range')
      exact call_range_1 (range_it I1 (by omega) (by omega) (by omega) (by omega) q)
theorem piw_range2 {a b : Expr} {ta : TA} {p pos : Pos} (hg : Gl X "range") (hm : X.mg "range" = none) (ha : PA X [a, b] ta) (hs : starEach [a, b] X.env = [(false, eval a X.env), (false, eval b X.env)] := by rfl) (hs2 : starEach [b] X.env = [(false, eval b X.env)] := by rfl) :
    PIW X tg (.Call (.Name "range" p) [a, b] [] pos) (wRng2 ta) := by
  refine ⟨⟨fun pins s σ H R I h => ?_⟩⟩
  refine wpAny_Call_Name_kw (ld_blt I hg hm boot_range (PyProof.Rows.callWith_type1 (thn (ha.run pos pins s σ H _ I h) fun us s1 ⟨vs, H1, I1, r1, q1⟩ => ?_) (by rw [hs, hs2]) (by rw [hs2]; rfl)))
  match vs, q1 with
  | [.int i, .int j], ⟨q1, q2, q3, q4, q⟩ =>
    cases r1 with
    | cons r rr =>
      cases rr with
      | cons r' rr =>
        cases rr
        obtain ⟨t, rfl⟩ := r
        obtain ⟨t', rfl⟩ := r'
        exact call_range_2 (range_it I1 (by omega) (by omega) (by omega) (by omega) (q.of _ walk_range'))
end
theorem if_and {p q : Prop} (b : Bool) : (if b = true then p else q) = ((b = true → p) ∧ (b = false → q)) := by
  cases b <;> simp
/-- y is put at the end of the list at D -/
structure PutW (D : Addr) (P : Hp → Prop) (y : V) (H : Hp) : Prop where
  h : ∃ acc, H D = some (.lst acc) ∧ acc.length < sizeLine ∧ P (upd H D (.lst (acc ++ [y])))
theorem PutW.eq {D : Addr} {P : Hp → Prop} {y : V} {H : Hp} : PutW D P y H = ∃ acc, H D = some (.lst acc) ∧ acc.length < sizeLine ∧ P (upd H D (.lst (acc ++ [y]))) := propext ⟨fun h => h.h, fun h => ⟨h⟩⟩
/-- what a comprehension asks -/
structure LcW (xs : List V) (G : Hp → Prop) (g : TG) (tt : TT) (te : TE) (vs : List Nat) (σ : L2.St) (H1 : Hp) (Q : VK) : Prop where
  of : ∀ J, Walk J xs.length G (YAt xs) → ∀ D, H1 D = none → ∃ W : Nat → Nat → Hp → Prop, (∃ m, W 0 m (upd H1 D (.lst []))) ∧ ∀ i m H, W i m H →
      (J.stop i H ∧ Q (.ref D) H) ∨ (J.go i H ∧ ∃ Nx : Hp → Prop, (∀ H', Nx H' → ∃ m', m' < m ∧ W (i + 1) m' H') ∧ ∀ x H', J.yld i H x H' → g x (wipe σ vs) H' fun σ2 H2 => wipe σ2 vs = wipe σ vs ∧ tt σ2 H2 fun b H3 =>
        if b = true then te σ2 H3 fun y H4 => ∃ acc, H4 D = some (.lst acc) ∧ acc.length < sizeLine ∧ Nx (upd H4 D (.lst (acc ++ [y]))) else Nx H3)
def tLcM (wa : TIA) (g : TG) (tt : TT) (te : TE) (vs : List Nat) : TE := fun σ H Q => wa σ H fun H1 xs G => LcW xs G g tt te vs σ H1 Q
theorem pe_lcM {X : Cx} {elt tg iter : Expr} {ifs : List Expr} {scope : Scope} {own : List (Str × Nat)} {pos : Pos} {wa : TIA} {g : TG} {tt : TT} {te : TE} (hc : X.calm = true) (hN : X.N.Nodup) (hi : PIW X tg iter wa) (ok : BlkOk X.N X.env.scope scope own)
    (hg : ∀ (s : Shared) (H : Hp) (C : Addr) (cl : List (Str × Addr)) (fp : List Addr), PG (X.blk s H scope (compEnvC scope cl C X.env) fp) tg g) (ht : ∀ (s : Shared) (H : Hp) (C : Addr) (cl : List (Str × Addr)) (fp : List Addr), PTs (X.blk s H scope (compEnvC scope cl C X.env) fp) ifs tt)
    (he : ∀ (s : Shared) (H : Hp) (C : Addr) (cl : List (Str × Addr)) (fp : List Addr), PE (X.blk s H scope (compEnvC scope cl C X.env) fp) elt te) (hs : ∀ x, foldedSetIterable iter X.env x = pure x := by intro _; rfl) :
    PE X (.ListComp elt [⟨tg, iter, ifs, 0⟩] scope pos) (tLcM wa g tt te (own.map (·.2))) := by
  refine PE.imp (pe_lc hc hN hi.pi ok hg ht he hs) fun σ H Q h => ?_
  have h : wa σ H fun H1 xs G => LcW xs G g tt te (own.map (·.2)) σ H1 Q := h
  have e : (fun (H1 : Hp) (xs : List V) (G : Hp → Prop) => LcW xs G g tt te (own.map (·.2)) σ H1 Q) = fun H1 xs G => ItW xs G fun J => ∀ D, H1 D = none → ∃ W : Nat → Nat → Hp → Prop, (∃ m, W 0 m (upd H1 D (.lst []))) ∧ ∀ i m H, W i m H →
      (J.stop i H ∧ Q (.ref D) H) ∨ (J.go i H ∧ ∃ Nx : Hp → Prop, (∀ H', Nx H' → ∃ m', m' < m ∧ W (i + 1) m' H') ∧ ∀ x H', J.yld i H x H' → g x (wipe σ (own.map (·.2))) H' fun σ2 H2 => wipe σ2 (own.map (·.2)) = wipe σ (own.map (·.2)) ∧ tt σ2 H2 fun b H3 =>
        if b = true then te σ2 H3 fun y H4 => ∃ acc, H4 D = some (.lst acc) ∧ acc.length < sizeLine ∧ Nx (upd H4 D (.lst (acc ++ [y]))) else Nx H3) := by
    funext H1 xs G
    exact propext ⟨fun z => ⟨z.of⟩, fun z => ⟨z.of⟩⟩
  rw [e] at h
  exact h
/-- name = [..] on one line, the name a local -/
theorem ps_setLcM {X : Cx} {i : Nat} {y : Str} {py : Pos} {elt tg iter : Expr} {ifs : List Expr} {scope : Scope} {own : List (Str × Nat)} {pos spos : Pos} {wa : TIA} {g : TG} {tt : TT} {te : TE} (hc : X.calm = true) (hN : X.N.Nodup) (hy : X.N[i]? = some y) (hyl : X.env.scope.names.lookup y = some .local)
    (hsw : swapsWith (.ListComp elt [⟨tg, iter, ifs, 0⟩] scope pos) (some (.Name y py)) spos.line X.env = pure true) (hi : PIW X tg iter wa) (ok : BlkOk X.N X.env.scope scope own)
    (hg : ∀ (s : Shared) (H : Hp) (C : Addr) (cl : List (Str × Addr)) (fp : List Addr), PG (X.blk s H scope (compEnvC scope cl C X.env) fp) tg g) (ht : ∀ (s : Shared) (H : Hp) (C : Addr) (cl : List (Str × Addr)) (fp : List Addr), PTs (X.blk s H scope (compEnvC scope cl C X.env) fp) ifs tt)
    (he : ∀ (s : Shared) (H : Hp) (C : Addr) (cl : List (Str × Addr)) (fp : List Addr), PE (X.blk s H scope (compEnvC scope cl C X.env) fp) elt te) (hs : ∀ x, foldedSetIterable iter X.env x = pure x := by intro _; rfl) :
    PS X (.Assign [.Name y py] (.ListComp elt [⟨tg, iter, ifs, 0⟩] scope pos) spos) (tAsg (tLcM wa g tt te (own.map (·.2))) (gName i)) := by
  refine PS.imp (ps_setLc hc hN hy hyl hsw hi.pi ok hg ht he hs) fun Ds σ H h => ?_
  have h : wa σ H fun H1 xs G => LcW xs G g tt te (own.map (·.2)) σ H1 (fun x H1 => gName i x σ H1 Ds.nx) := h
  generalize hQ : (fun x H1 => gName i x σ H1 Ds.nx) = Q at h
  have e : (fun (H1 : Hp) (xs : List V) (G : Hp → Prop) => LcW xs G g tt te (own.map (·.2)) σ H1 Q) = fun H1 xs G => ItW xs G fun J => ∀ D, H1 D = none → ∃ W : Nat → Nat → Hp → Prop, (∃ m, W 0 m (upd H1 D (.lst []))) ∧ ∀ i m H, W i m H →
      (J.stop i H ∧ Q (.ref D) H) ∨ (J.go i H ∧ ∃ Nx : Hp → Prop, (∀ H', Nx H' → ∃ m', m' < m ∧ W (i + 1) m' H') ∧ ∀ x H', J.yld i H x H' → g x (wipe σ (own.map (·.2))) H' fun σ2 H2 => wipe σ2 (own.map (·.2)) = wipe σ (own.map (·.2)) ∧ tt σ2 H2 fun b H3 =>
        if b = true then te σ2 H3 fun y H4 => ∃ acc, H4 D = some (.lst acc) ∧ acc.length < sizeLine ∧ Nx (upd H4 D (.lst (acc ++ [y]))) else Nx H3) := by
    funext H1 xs G
    exact propext ⟨fun z => ⟨z.of⟩, fun z => ⟨z.of⟩⟩
  rw [e] at h
  rw [← hQ] at h
  exact h
structure ForW (xs : List V) (G : Hp → Prop) (g : TG) (tb : TS) (Ds : Ends) (σ : L2.St) (H1 : Hp) : Prop where
  of : ∀ J, Walk J xs.length G (YAt xs) → ∃ W : Nat → Nat → L2.St → Hp → Prop, (∃ m, W 0 m σ H1) ∧ ∀ i m σ H, W i m σ H →
      (J.stop i H ∧ Ds.nx σ H) ∨ (J.go i H ∧ ∃ N : L2.St → Hp → Prop, (∀ σ' H', N σ' H' → ∃ m', m' < m ∧ W (i + 1) m' σ' H') ∧ ∀ x H', J.yld i H x H' → g x σ H' fun σ2 H2 => tb { Ds with nx := N, ct := N, bk := Ds.nx } σ2 H2)
def tForM (wa : TIA) (g : TG) (tb : TS) : TS := fun D σ H => wa σ H fun H1 xs G => ForW xs G g tb D σ H1
theorem ps_forM {X : Cx} {tg iter : Expr} {body : List Stmt} {wa : TIA} {g : TG} {tb : TS} {pos : Pos} (hp : PassesOwn (model X.prog X.w) X.A X.env X.xe) (hc : X.calm = true) (hi : PIW X tg iter wa) (hg : PG X tg g) (hb : PSs X body tb)
    (hs : ∀ x, foldedSetIterable iter X.env x = pure x := by intro _; rfl) : PS X (.For tg iter body [] pos) (tForM wa g tb) := by
  refine PS.imp (ps_for hp hc hi.pi hg hb hs) fun D σ H h => ?_
  have h : wa σ H fun H1 xs G => ForW xs G g tb D σ H1 := h
  have e : (fun (H1 : Hp) (xs : List V) (G : Hp → Prop) => ForW xs G g tb D σ H1) = fun H1 xs G => ItW xs G fun J => ∃ W : Nat → Nat → L2.St → Hp → Prop, (∃ m, W 0 m σ H1) ∧ ∀ i m σ H, W i m σ H →
      (J.stop i H ∧ D.nx σ H) ∨ (J.go i H ∧ ∃ N : L2.St → Hp → Prop, (∀ σ' H', N σ' H' → ∃ m', m' < m ∧ W (i + 1) m' σ' H') ∧ ∀ x H', J.yld i H x H' → g x σ H' fun σ2 H2 => tb { D with nx := N, ct := N, bk := D.nx } σ2 H2) := by
    funext H1 xs G
    exact propext ⟨fun z => ⟨z.of⟩, fun z => ⟨z.of⟩⟩
  rw [e] at h
  exact h
section
variable {xs : List V} {G : Hp → Prop} {g : TG} {tt : TT} {te : TE} {vs : List Nat} {σ : L2.St} {H1 : Hp} {Q : VK} {tb : TS} {Ds : Ends}
/-- a comprehension: Pv by the new list's place, the turn, the heap -/
theorem lcA (Pv : Addr → Nat → Hp → Prop) (h0 : ∀ D, H1 D = none → Pv D 0 (upd H1 D (.lst []))) (hG : ∀ D i H, H1 D = none → i ≤ xs.length → Pv D i H → G H)
    (hs : ∀ D i x H, H1 D = none → xs[i]? = some x → Pv D i H → g x (wipe σ vs) H fun σ2 H2 => wipe σ2 vs = wipe σ vs ∧ tt σ2 H2 fun b H3 =>
      (b = true → te σ2 H3 fun y H4 => PutW D (Pv D (i + 1)) y H4) ∧ (b = false → Pv D (i + 1) H3)) (hd : ∀ D H, H1 D = none → Pv D xs.length H → Q (.ref D) H) :
    LcW xs G g tt te vs σ H1 Q := by
  refine ⟨fun J wk D hD => ?_⟩
  refine lc_it wk (Pv D) (h0 D hD) (fun i H hi p => hG D i H hD hi p) (fun i x H H' hi p y => ?_) (fun H p => hd D H hD p)
  obtain ⟨rfl, hx⟩ := y
  have h2 := hs D i x _ hD hx p
  simp only [if_and]
  simp only [PutW.eq] at h2
  exact h2
/-- a for -/
theorem forA (Pv : Nat → L2.St → Hp → Prop) (h0 : Pv 0 σ H1) (hG : ∀ i σ H, i ≤ xs.length → Pv i σ H → G H)
    (hs : ∀ i x σ H, xs[i]? = some x → Pv i σ H → g x σ H fun σ2 H2 => tb { Ds with nx := Pv (i + 1), ct := Pv (i + 1), bk := Ds.nx } σ2 H2) (hd : ∀ σ H, Pv xs.length σ H → Ds.nx σ H) :
    ForW xs G g tb Ds σ H1 := by
  refine ⟨fun J wk => ?_⟩
  exact for_it wk Pv h0 hG (fun i x σ H H' hi p y => by
    obtain ⟨rfl, hx⟩ := y
    exact hs i x σ _ hx p) hd
end
/-- the list that grows at D, all else as it was in H1, but what stands at the places in rs -/
structure Gath (rs : Addr → Prop) (H1 : Hp) (D : Addr) (ys : List V) (H : Hp) : Prop where
  at_ : H D = some (.lst ys)
  get : ∀ {a : Addr} {o : HO}, H1 a = some o → ¬ rs a → NT o = true → H a = some o
  tab : ∀ {P : Addr}, GxR.TabG H1 P → GxR.TabG H P
  free : ∀ {p : Addr}, H p = none → H1 p = none
section
variable {rs : Addr → Prop} {H1 H H4 : Hp} {D : Addr} {ys : List V} {y : V}
theorem Gath.start (h : H1 D = none) : Gath rs H1 D [] (upd H1 D (.lst [])) := ⟨upd_same, fun e _ n => (Ext.new h).get e n, (Ext.new h).tab, (Ext.new h).free⟩
theorem Gath.ext (g : Gath (fun _ => False) H1 D ys H) : Ext H1 H := ⟨fun e n => g.get e id n, g.tab, g.free⟩
theorem Gath.but {r : Addr} (g : Gath (fun a => a = r) H1 D ys H) : But r H1 H := ⟨fun e n t => g.get e n t, g.tab, g.free⟩
theorem Gath.skip (g : Gath rs H1 D ys H) (e : Ext H H4) : Gath rs H1 D ys H4 := ⟨e.get g.at_ rfl, fun h n t => e.get (g.get h n t) t, fun h => e.tab (g.tab h), fun h => g.free (e.free h)⟩
theorem Gath.skipB {r : Addr} (g : Gath rs H1 D ys H) (e : But r H H4) (hr : rs r) (hD : D ≠ r) : Gath rs H1 D ys H4 := ⟨e.get g.at_ hD rfl, fun h n t => e.get (g.get h n t) (fun z => n (z ▸ hr)) t, fun h => e.tab (g.tab h), fun h => g.free (e.free h)⟩
theorem Gath.put (h : H1 D = none) (g : Gath rs H1 D ys H) : Gath rs H1 D (ys ++ [y]) (upd H D (.lst (ys ++ [y]))) := ⟨upd_same, fun {a o} e n t => by
  rw [upd_ne (fun z => by rw [z, h] at e; cases e)]
  exact g.get e n t, fun {P} t => by
  obtain ⟨ps, e, t2⟩ := g.tab t
  exact ⟨ps, by rw [upd_ne (fun z => by rw [z, g.at_] at e; cases e)]; exact e, t2⟩, fun {p} e => by
  by_cases hp : p = D
  · rw [hp]; exact h
  · rw [upd_ne hp] at e
    exact g.free e⟩
theorem Gath.add (h : H1 D = none) (g : Gath rs H1 D ys H) (hl : ys.length < sizeLine) {Pq : Hp → Prop} (hq : ∀ H', Gath rs H1 D (ys ++ [y]) H' → (∀ b, b ≠ D → H' b = H b) → Pq H') : PutW D Pq y H :=
  ⟨ys, g.at_, hl, hq _ (g.put h) fun b hb => upd_ne hb⟩
end
theorem wipe1 (σ : L2.St) (i : Nat) (x : Option V) : wipe ((wipe σ [i]).set i x) [i] = wipe σ [i] := by
  show (((σ.set i none).set i x).set i none) = σ.set i none
  rw [List.set_set, List.set_set]
theorem take_succ_of {α : Type} {xs : List α} {i : Nat} {x : α} (h : xs[i]? = some x) : xs.take (i + 1) = xs.take i ++ [x] := by
  rw [List.take_add_one, h]
  rfl
def tWhileM (c : TT) (tb : TS) : TS := fun D σ H => ∃ W : Nat → L2.St → Hp → Prop, (∃ m, W m σ H) ∧ ∀ m σ H, W m σ H →
  c σ H fun b H1 => (b = true → ∃ N : L2.St → Hp → Prop, (∀ σ' H', N σ' H' → ∃ m', m' < m ∧ W m' σ' H') ∧ tb { D with nx := N, ct := N, bk := D.nx } σ H1) ∧ (b = false → D.nx σ H1)
theorem ps_whileM {X : Cx} {c : Expr} {body : List Stmt} {tc : TT} {tb : TS} {pos : Pos} (hp : PassesOwn (model X.prog X.w) X.A X.env X.xe) (hc : PT X c tc) (hb : PSs X body tb) : PS X (.While c body [] pos) (tWhileM tc tb) := by
  refine PS.imp (ps_while hp hc hb) fun D σ H h => ?_
  obtain ⟨W, h0, h1⟩ := h
  refine ⟨W, h0, fun m σ H w => ?_⟩
  have e : ∀ {p q : Prop} (b : Bool), (if b = true then p else q) = ((b = true → p) ∧ (b = false → q)) := fun {p q} b => by
    cases b <;> simp
  have h2 := h1 m σ H w
  simp only [e]
  exact h2
theorem cutV_all {xs : List V} {n : Int} (h : (xs.length : Int) ≤ n) : cutV xs none (some n) = xs := by
  unfold cutV
  obtain ⟨k, rfl⟩ : ∃ k : Nat, n = (k : Int) := ⟨n.toNat, by omega⟩
  have h1 : HT.sIx xs.length xs.length (some (k : Int)) = min k xs.length := HT.sIx_nat _ _ _
  have h2 : HT.sIx xs.length 0 none = 0 := rfl
  rw [h1, h2, List.drop_zero]
  exact List.take_of_length_le (by omega)
theorem cdivS {i j : Int} (h : 0 < j) (hb : j < 2 ^ 200) : CDivW i j := wide_div (b := 200) h (by omega) (by decide) (by decide)
end Kx

set_option Elab.async false
set_option linter.all false
set_option maxRecDepth 100000
set_option maxHeartbeats 4000000
set_option autoImplicit false
/-! # Texts by the lists of their signs -/
namespace Kx
open PySem PySem.Spec PyProof.Rows L2
/-- the signs -/
abbrev cs (z : Str) : List Nat := z.cps.toList
theorem cs_len (z : Str) : z.length = (cs z).length := by simp [Str.length, cs]
theorem cs_mk (l : List Nat) : cs ⟨l.toArray⟩ = l := by simp [cs]
theorem cs_inj {a b : Str} (h : cs a = cs b) : a = b := by
  obtain ⟨⟨a⟩⟩ := a
  obtain ⟨⟨b⟩⟩ := b
  have h : a = b := h
  rw [h]
theorem cs_append (a b : Str) : cs (a ++ b) = cs a ++ cs b := by
  show (a.cps ++ b.cps).toList = _
  rw [Array.toList_append]
theorem cnt_count (c : Nat) : ∀ l : List Nat, PyProof.Rows.cnt c l = (l.count c : Int)
  | [] => rfl
  | n :: r => by
    rw [cnt_cons, cnt_count c r, List.count_cons]
    by_cases h : n = c
    · rw [if_pos h, h]
      simp
      omega
    · rw [if_neg h]
      simp [h]
theorem count1 (x : Str) (c : Nat) : Txt.count x ⟨#[c]⟩ = ((cs x).count c : Int) := by
  rw [count_cnt, cnt_count]
theorem glueL1 : ∀ l : List Str, (StrLaws.glueL [] l) = (l.map cs).flatten
  | [] => rfl
  | p :: r => by
    show [] ++ (p.cps.toList ++ StrLaws.glueL [] r) = _
    rw [glueL1 r]
    rfl
theorem join0 (l : List Str) : cs (Txt.join Str.empty l) = (l.map cs).flatten := by
  cases l with
  | nil => rfl
  | cons p r =>
    show (PySem.Builtin.Str.glued Str.empty (p :: r)).cps.toList = _
    rw [StrLaws.glued_list]
    show p.cps.toList ++ StrLaws.glueL [] r = _
    rw [glueL1]
    rfl
theorem join1 (l : List Nat) : Txt.join Str.empty (l.map fun c => (⟨#[c]⟩ : Str)) = ⟨l.toArray⟩ := by
  apply cs_inj
  rw [join0, cs_mk, List.map_map]
  induction l with
  | nil => rfl
  | cons c r ih =>
    rw [List.map_cons, List.flatten_cons, ih]
    rfl
theorem fold_cat (l : List (Array Nat)) : ∀ acc : Array Nat, (l.foldl (· ++ ·) acc).toList = acc.toList ++ (l.map Array.toList).flatten := by
  induction l with
  | nil => intro acc; simp
  | cons a r ih => intro acc; rw [List.foldl_cons, ih]; simp
theorem mul_cs (x : Str) (k : Int) : cs (Txt.mul x k) = (List.replicate k.toNat (cs x)).flatten := by
  unfold Txt.mul
  by_cases h1 : k < 1
  · rw [if_pos h1, show k.toNat = 0 by omega]
    rfl
  · rw [if_neg h1]
    by_cases h2 : (k == 1 || x.length == 0) = true
    · rw [if_pos h2]
      rw [Bool.or_eq_true] at h2
      rcases h2 with h2 | h2
      · have : k = 1 := by simpa using h2
        subst this
        simp
      · have : x.length = 0 := by simpa using h2
        have e : cs x = [] := by
          rw [cs_len] at this
          exact List.length_eq_zero_iff.mp this
        rw [e]
        simp
    · rw [if_neg h2]
      show (List.foldl (fun a b => a ++ b) #[] (List.replicate k.toNat x.cps)).toList = _
      rw [fold_cat]
      simp [cs]
theorem cut_cs (z : Str) {a b : Nat} (hab : a ≤ b) : cs (cutS z (some a) (some b)) = ((cs z).drop a).take (b - a) := by
  unfold cutS
  rw [cs_mk, HT.sIx_nat, HT.sIx_nat, cs_len]
  apply List.ext_getElem?
  intro i
  simp only [List.getElem?_take, List.getElem?_drop]
  by_cases h : a + i < (cs z).length
  · by_cases h2 : i < b - a
    · rw [if_pos (by omega), if_pos h2]
      congr 1
      omega
    · rw [if_neg (by omega), if_neg h2]
  · have e1 : (cs z)[a + i]? = none := List.getElem?_eq_none (by omega)
    have e2 : (cs z)[min a (cs z).length + i]? = none := List.getElem?_eq_none (by omega)
    rw [e1, e2]
    simp
theorem cut_to (z : Str) (b : Nat) : cs (cutS z none (some b)) = (cs z).take b := by
  unfold cutS
  rw [cs_mk, HT.sIx_nat, HT.sIx_none, cs_len, Nat.sub_zero, List.drop_zero]
  apply List.ext_getElem?
  intro i
  simp only [List.getElem?_take]
  by_cases h : i < (cs z).length
  · by_cases h2 : i < b
    · rw [if_pos (by omega), if_pos h2]
    · rw [if_neg (by omega), if_neg h2]
  · have e1 : (cs z)[i]? = none := List.getElem?_eq_none (by omega)
    rw [e1]
    simp
theorem cut_from (z : Str) (a : Nat) : cs (cutS z (some a) none) = (cs z).drop a := by
  unfold cutS
  rw [cs_mk, HT.sIx_nat, HT.sIx_none, cs_len]
  apply List.ext_getElem?
  intro i
  simp only [List.getElem?_take, List.getElem?_drop]
  by_cases h : a + i < (cs z).length
  · rw [if_pos (by omega)]
    congr 1
    omega
  · have e1 : (cs z)[a + i]? = none := List.getElem?_eq_none (by omega)
    have e2 : (cs z)[min a (cs z).length + i]? = none := List.getElem?_eq_none (by omega)
    rw [e1, e2]
    simp
/-! ### methods of texts, by cases -/
section
variable {X : Cx}
def rJoinM (K : PySem.W.Frag) : V → List V → Hp → VK → Prop := fun x xs H Q => match x, xs with
  | .str a, [.ref p] => ∃ ys : List Str, (SqL K H p (ys.map V.str) ∨ SqT K H p (ys.map V.str)) ∧ (ys.map (·.length)).sum + ys.length * a.length ≤ 16777216 ∧ Q (.str (Txt.join a ys)) H
  | _, _ => False
theorem mt_joinM : MtR X "str.join" (rJoinM X.K) := by
  intro pins s σ H x xs v us Q I rx rv h
  match x, xs, h with
  | .str a, [.ref p], h =>
    obtain ⟨ys, h1, h2, q⟩ := h
    exact mt_join pins s σ H _ _ v us Q I rx rv ⟨a, p, ys, rfl, rfl, h1, h2, q⟩
def rCountM : V → List V → Hp → VK → Prop := fun x xs H Q => match x, xs with
  | .str a, [.str b] => Q (.int (Txt.count a b)) H
  | _, _ => False
theorem mt_countM : MtR X "str.count" rCountM := by
  intro pins s σ H x xs v us Q I rx rv h
  match x, xs, h with
  | .str a, [.str b], h => exact mt_count pins s σ H _ _ v us Q I rx rv ⟨a, b, rfl, rfl, h⟩
end
end Kx

set_option Elab.async false
set_option linter.all false
set_option maxRecDepth 100000
set_option maxHeartbeats 4000000
set_option autoImplicit false
/-! # Calls of a local that holds one of several defs; a module's dict; isinstance of two classes; attributes that are set two at once -/
namespace Kx
open PySem PySem.Spec PyProof.Rows L2
/-- a def at f, by its promise -/
structure HeldC (P : Program) (w : World) (K : PySem.W.Frag) (mg : Str → Option Value) (base : Heap) (k : Nat) (f : Addr) (sp : Sp) : Prop where
  ex : ∃ (fd : FuncData) (ps : List Str), FnOk P w K mg base (L2.CX P w) k f fd ps sp ∧ PySem.W.keepIn K (.ref f) = true ∧ Binds K fd ps []
theorem HeldC.imp {P : Program} {w : World} {K : PySem.W.Frag} {mg : Str → Option Value} {base : Heap} {k : Nat} {f : Addr} {sp sp' : Sp} (c : HeldC P w K mg base k f sp) (h : ∀ vs H Q E, sp' vs H Q E → sp vs H Q E) : HeldC P w K mg base k f sp' := by
  obtain ⟨fd, ps, a, d, e⟩ := c.ex
  exact ⟨fd, ps, a.imp h, d, e⟩
def tCalL (i : Nat) (S : Addr → Sp → Prop) (t : TA) : TE := fun σ H Q => ∃ f, σ[i]? = some (some (.ref f)) ∧ ∃ sp, S f sp ∧ t σ H fun vs H1 => Ca sp vs H1 Q
section
variable {X : Cx} {k j i : Nat} {x : Str} {p pos : Pos} {e : Expr} {es : List Expr} {t : TA}
theorem pe_callF {S : Addr → Sp → Prop} (A : ∀ f sp, S f sp → HeldC X.prog X.w X.K X.mg X.base k f sp) (hr : Room j X.A) (ha : PA X (e :: es) t) (hN : X.N[i]? = some x) (hv : Vis X.env.scope x) (hk : k ≤ j := by decide)
    (hdb : (x == ("__debug__" : Str)) = false := by decide) (hcd : (x == ("__classdict__" : Str)) = false := by decide)
    (he : starEach (e :: es) X.env = (false, eval e X.env) :: starEach es X.env := by rfl) (hpl : (backTo pos (starEach es X.env)).any (·.1) = false := by rfl) : PE X (.Call (.Name x p) (e :: es) [] pos) (tCalL i S t) := by
  refine ⟨fun pins s σ H Q I h => ?_⟩
  obtain ⟨f, hs, sp, hS, ht⟩ := h
  obtain ⟨fd, ps, F, hk2, hb⟩ := (A f sp hS).ex
  refine (pe_callL (i := i) (f := f) (sp := sp) (dvs := []) (E := E0) F (hr.mono hk) hN hv hk2 hb .nil passL ha hdb hcd he hpl).run pins s σ H Q I ⟨hs, ?_⟩
  have e0 : (fun (vs : List V) (H1 : Hp) => sp (vs ++ []) H1 Q E0) = fun vs H1 => Ca sp vs H1 Q := by
    funext vs H1
    rw [List.append_nil]
    exact propext ⟨fun z => ⟨z⟩, fun z => z.h⟩
  rw [e0]
  exact ht
/-- an item of a module's dict, by its text -/
def rIxK (K : PySem.W.Frag) (w : World) : R2 := fun x y H Q => match x, y with
  | .ref p, .str z => ∃ v, KDct K w p z v ∧ Q v H
  | _, _ => False
theorem ix_K : IxR X (rIxK X.K X.w) := by
  intro e1 e2 pins s σ H x y v u Q I rx ry q hsub
  cases x with
  | ref p => cases y with
    | str z =>
      obtain ⟨r, h, q⟩ := q
      exact ix_kdict e1 e2 pins s σ H _ _ v u Q I rx ry ⟨p, z, r, rfl, rfl, h, q⟩ hsub
    | _ => exact q.elim
  | _ => exact q.elim
/-- isinstance(x, (A, B)) -/
def rIsi2 : List V → Hp → VK → Prop := fun vs H Q => match vs with
  | [x, .ref tp] => ∃ n A B b, tyB x H = some n ∧ H tp = some (.tup [.ty A, .ty B]) ∧ (∃ c, kitB n A = some c ∧ ∃ d, kitB n B = some d ∧ b = (c || d)) ∧ Q (.bl b) H
  | _ => False
theorem call_isi2 : CallR X (.builtin "isinstance") rIsi2 := by
  intro pins s σ H vs us Q I r h
  match vs, h with
  | [x, .ref tp], ⟨n, A, B, b, h1, h2, ⟨c, h3, d, h4, h5⟩, q⟩ =>
    refine call_isiT pins s σ H _ us Q I r ⟨x, tp, [.ty A, .ty B], .type n, [.type A, .type B], b, rfl, h2, .cons (.ty A) (.cons (.ty B) .nil), tyB_ok h1, ?_, q⟩
    refine kitAny_cons (kit_ty h3) (fun hc => ?_) (fun hc => by rw [h5, hc]; rfl)
    refine kitAny_cons (kit_ty h4) (fun hd => ?_) (fun hd => by rw [h5, hd, Bool.or_true])
    rw [h5, hc, hd]
    rfl
end
theorem tyB_lst {H : Hp} {a : Addr} {xs : List V} (h : H a = some (.lst xs)) : tyB (.ref a) H = some "list" := by
  show (match H a with | some (HO.lst _) => some "list" | some (HO.tup _) => some "tuple" | _ => none) = _
  rw [h]
theorem tyB_tup {H : Hp} {a : Addr} {xs : List V} (h : H a = some (.tup xs)) : tyB (.ref a) H = some "tuple" := by
  show (match H a with | some (HO.lst _) => some "list" | some (HO.tup _) => some "tuple" | _ => none) = _
  rw [h]
def rAppM : V → List V → Hp → VK → Prop := fun x xs H Q => match x, xs with
  | .ref l, [v] => ∃ ys, H l = some (.lst ys) ∧ ys.length < sizeLine ∧ ∀ H', H' l = some (.lst (ys ++ [v])) → But l H H' → Q .non H'
  | _, _ => False
theorem mt_appendM {X : Cx} : MtM X "list.append" rAppM := by
  intro pins s σ H x xs v us Q I rx rv h
  match x, xs, h with
  | .ref l, [y], ⟨ys, h1, h2, q⟩ =>
    exact mt_append pins s σ H _ _ v us Q I rx rv ⟨l, ys, y, rfl, rfl, h1, h2, q _ upd_same (But.set h1 rfl)⟩
theorem tyV_lst {K : PySem.W.Frag} {H : Hp} {a : Addr} {xs : List V} (h : H a = some (.lst xs)) : tyV K "list" (.ref a) H := .inl ⟨rfl, xs, SqL.of h⟩
end Kx

set_option Elab.async false
set_option linter.all false
set_option maxRecDepth 100000
set_option maxHeartbeats 4000000
set_option autoImplicit false
/-! # Cases of a match over a list or a tuple whose first item is a text -/
namespace Kx
open PySem PySem.Spec PyProof.Rows L2
/-- a list or a tuple -/
def RowAt (H : Hp) (a : Addr) (xs : List V) : Prop := H a = some (.lst xs) ∨ H a = some (.tup xs)
section
variable {K : PySem.W.Frag} {N : List Str} {n : Nat} {ts : TMs} {tb : TS} {tr : TCs} {H : Hp} {a : Addr} {xs vs : List V} {D : Ends} {σ : L2.St} {s c c1 c2 c3 : Str} {Q : Option Bs → Hp → Prop}
theorem mSeq_row (h : RowAt H a xs) (h1 : xs.length = n → ts xs H Q) (h2 : xs.length ≠ n → Q none H) : mSeq K n ts (.ref a) H Q :=
  .inr ⟨a, xs, rfl, h.elim (fun z => .inr (SqL.of z)) (fun z => .inl (SqT.of z)), h1, h2⟩
theorem case_len (h : RowAt H a xs) (hl : xs.length ≠ n) (q : tr (.ref a) D σ H) : cCons N (mSeq K n ts) tb tr (.ref a) D σ H :=
  mSeq_row h (fun z => absurd z hl) fun _ => q
theorem str_ne (h : s ≠ c) : ¬ (V.str s = V.str c) := fun z => h (by injection z)
theorem case_str (h : RowAt H a (.str s :: vs)) (hs : s ≠ c) (q : tr (.ref a) D σ H) : cCons N (mSeq K n (mCons (mStr c) ts)) tb tr (.ref a) D σ H := by
  refine mSeq_row h (fun _ => ?_) fun _ => q
  refine ⟨rfl, ?_⟩
  rw [if_neg (str_ne hs)]
  exact q
/-- what a case does with what its pattern gave -/
def qN (N : List Str) (tb : TS) (tr : TCs) (a : Addr) (D : Ends) (σ : L2.St) : Option Bs → Hp → Prop := fun r H1 => match r with
  | none => tr (.ref a) D σ H1
  | some bs => tb D (setB N bs σ) H1
def qC (ts : TMs) (vs : List V) (Qn : Option Bs → Hp → Prop) : Option Bs → Hp → Prop := fun r H1 => match r with
  | none => Qn none H1
  | some bs => ts vs H1 fun r' H2 => match r' with
    | none => Qn none H2
    | some more => Qn (some (bs ++ more)) H2
theorem qC_nil {ts : TMs} {vs : List V} {Qn : Option Bs → Hp → Prop} {H : Hp} (q : ts vs H Qn) : qC ts vs Qn (some []) H := by
  have e : (fun (r' : Option Bs) (H2 : Hp) => match r' with
    | none => Qn none H2
    | some more => Qn (some (([] : Bs) ++ more)) H2) = Qn := by
    funext r H2
    cases r <;> rfl
  show ts vs H (fun (r' : Option Bs) (H2 : Hp) => match r' with
    | none => Qn none H2
    | some more => Qn (some (([] : Bs) ++ more)) H2)
  rw [e]
  exact q
theorem case_hit (h : RowAt H a (.str c :: vs)) (hl : vs.length + 1 = n) (q : ts vs H (qN N tb tr a D σ)) : cCons N (mSeq K n (mCons (mStr c) ts)) tb tr (.ref a) D σ H := by
  refine mSeq_row h (fun _ => ?_) fun z => absurd hl z
  show mStr c (.str c) H (qC ts vs (qN N tb tr a D σ))
  refine ⟨rfl, ?_⟩
  rw [if_pos rfl]
  exact qC_nil q
theorem or3_hit {Q : Option Bs → Hp → Prop} (h : s = c1 ∨ s = c2 ∨ s = c3) (q : Q (some []) H) : mOr (mStr c1) (mOr (mStr c2) (mOr (mStr c3) mNone)) (.str s) H Q := by
  by_cases h1 : s = c1
  · refine ⟨rfl, ?_⟩
    rw [if_pos (by rw [h1])]
    exact q
  · refine ⟨rfl, ?_⟩
    rw [if_neg (str_ne h1)]
    by_cases h2 : s = c2
    · refine ⟨rfl, ?_⟩
      rw [if_pos (by rw [h2])]
      exact q
    · refine ⟨rfl, ?_⟩
      rw [if_neg (str_ne h2)]
      have h3 : s = c3 := by
        rcases h with h | h | h
        · exact absurd h h1
        · exact absurd h h2
        · exact h
      refine ⟨rfl, ?_⟩
      rw [if_pos (by rw [h3])]
      exact q
theorem or3_miss {Q : Option Bs → Hp → Prop} (h1 : s ≠ c1) (h2 : s ≠ c2) (h3 : s ≠ c3) (q : Q none H) : mOr (mStr c1) (mOr (mStr c2) (mOr (mStr c3) mNone)) (.str s) H Q := by
  refine ⟨rfl, ?_⟩
  rw [if_neg (str_ne h1)]
  refine ⟨rfl, ?_⟩
  rw [if_neg (str_ne h2)]
  refine ⟨rfl, ?_⟩
  rw [if_neg (str_ne h3)]
  exact q
theorem case_or3 (h : RowAt H a (.str s :: vs)) (h1 : s ≠ c1) (h2 : s ≠ c2) (h3 : s ≠ c3) (q : tr (.ref a) D σ H) : cCons N (mSeq K n (mCons (mOr (mStr c1) (mOr (mStr c2) (mOr (mStr c3) mNone))) ts)) tb tr (.ref a) D σ H := by
  refine mSeq_row h (fun _ => ?_) fun _ => q
  exact or3_miss (Q := qC ts vs (qN N tb tr a D σ)) h1 h2 h3 q
theorem case_hit3 (h : RowAt H a (.str s :: vs)) (hl : vs.length + 1 = n) (hs : s = c1 ∨ s = c2 ∨ s = c3) (q : ts vs H (qN N tb tr a D σ)) :
    cCons N (mSeq K n (mCons (mOr (mStr c1) (mOr (mStr c2) (mOr (mStr c3) mNone))) ts)) tb tr (.ref a) D σ H := by
  refine mSeq_row h (fun _ => ?_) fun z => absurd hl z
  show mOr (mStr c1) (mOr (mStr c2) (mOr (mStr c3) mNone)) (.str s) H (qC ts vs (qN N tb tr a D σ))
  exact or3_hit hs (qC_nil q)
end
section
variable {K : PySem.W.Frag} {N : List Str} {n : Nat} {ts : TMs} {tb : TS} {tr : TCs} {H : Hp} {a : Addr} {xs vs : List V} {D : Ends} {σ : L2.St} {s c c1 c2 : Str} {v : V}
theorem or2_hit {Q : Option Bs → Hp → Prop} (h : s = c1 ∨ s = c2) (q : Q (some []) H) : mOr (mStr c1) (mOr (mStr c2) mNone) (.str s) H Q := by
  by_cases h1 : s = c1
  · refine ⟨rfl, ?_⟩
    rw [if_pos (by rw [h1])]
    exact q
  · refine ⟨rfl, ?_⟩
    rw [if_neg (str_ne h1)]
    have h2 : s = c2 := h.resolve_left h1
    refine ⟨rfl, ?_⟩
    rw [if_pos (by rw [h2])]
    exact q
theorem or2_miss {Q : Option Bs → Hp → Prop} (h1 : s ≠ c1) (h2 : s ≠ c2) (q : Q none H) : mOr (mStr c1) (mOr (mStr c2) mNone) (.str s) H Q := by
  refine ⟨rfl, ?_⟩
  rw [if_neg (str_ne h1)]
  refine ⟨rfl, ?_⟩
  rw [if_neg (str_ne h2)]
  exact q
theorem case_or2 (h : RowAt H a (.str s :: vs)) (h1 : s ≠ c1) (h2 : s ≠ c2) (q : tr (.ref a) D σ H) : cCons N (mSeq K n (mCons (mOr (mStr c1) (mOr (mStr c2) mNone)) ts)) tb tr (.ref a) D σ H := by
  refine mSeq_row h (fun _ => ?_) fun _ => q
  exact or2_miss (Q := qC ts vs (qN N tb tr a D σ)) h1 h2 q
theorem case_hit2 (h : RowAt H a (.str s :: vs)) (hl : vs.length + 1 = n) (hs : s = c1 ∨ s = c2) (q : ts vs H (qN N tb tr a D σ)) :
    cCons N (mSeq K n (mCons (mOr (mStr c1) (mOr (mStr c2) mNone)) ts)) tb tr (.ref a) D σ H := by
  refine mSeq_row h (fun _ => ?_) fun z => absurd hl z
  show mOr (mStr c1) (mOr (mStr c2) mNone) (.str s) H (qC ts vs (qN N tb tr a D σ))
  exact or2_hit hs (qC_nil q)
theorem case_any (h : RowAt H a (v :: vs)) (hl : vs.length + 1 = n) (q : ts vs H (qN N tb tr a D σ)) : cCons N (mSeq K n (mCons mAny ts)) tb tr (.ref a) D σ H := by
  refine mSeq_row h (fun _ => ?_) fun z => absurd hl z
  show mAny v H (qC ts vs (qN N tb tr a D σ))
  exact qC_nil q
end
theorem okn_by {X : Cx} {N ns : List Str} {sc : Scope} (hN : X.N = N) (hs : X.env.scope = sc) (h : (ns.all fun x => decide (N[N.idxOf x]? = some x) && decide (sc.names.lookup x = some .local)) = true) : ∀ x ∈ ns, okName X x := by
  intro x hx
  have := List.all_eq_true.mp h x hx
  simp only [Bool.and_eq_true, decide_eq_true_eq] at this
  refine ⟨by rw [hN]; exact this.1, .inl (by rw [hs]; exact this.2), .inr (by rw [hs]; exact this.2)⟩
end Kx

set_option Elab.async false
set_option linter.all false
set_option maxRecDepth 100000
set_option maxHeartbeats 4000000
set_option autoImplicit false
/-! # Instances: attributes set, targets, making -/
namespace Kx
open PySem PySem.Spec PyProof.Rows L2
/-- after an attribute of the instance at a was set -/
structure Put (H : Hp) (a : Addr) (C dx : Addr) (fs : List (Str × V)) (G : Hp → Prop) : Prop where
  h : ∀ H', H' a = some (.ins C dx fs) → But a H H' → G H'
theorem Put.mk' {H : Hp} {a C dx : Addr} {fs : List (Str × V)} {G : Hp → Prop} (h : ∀ H', H' a = some (.ins C dx fs) → But a H H' → G H') : Put H a C dx fs G := ⟨h⟩
def sFldM (K : PySem.W.Frag) (ta tv : TE) (f : Str) : TS := fun D σ H => tv σ H fun y H1 => ta σ H1 fun x H2 => ∃ a C dx fs, x = .ref a ∧ H2 a = some (.ins C dx fs) ∧ Cls K C ∧ NoAttr K C f ∧ fs.length < 1000 ∧ Put H2 a C dx (putF f y fs) fun H' => D.nx σ H'
section
variable {X : Cx} {o e value : Expr} {f : Str} {pos pos' tpos : Pos} {ta tv : TE}
theorem ps_fldM (ha : PE X o ta) (hv : PE X value tv) (hs : swapsWith value (some (.Attribute o f pos')) pos.line X.env = pure false) : PS X (.Assign [.Attribute o f pos'] value pos) (sFldM X.K ta tv f) := by
  refine ⟨fun pins s σ H D I h => ?_⟩
  refine plainObj_wpAny_Assign_Attribute (thn (hv.run pins s σ H _ I h) fun u s1 ⟨y, H1, I1, ry, q⟩ => thn (ha.run pins s1 σ H1 _ I1 q) fun ov s2 ⟨x, H2, I2, rx, a, C, dx, fs, ex, ea, c, n, l, q2⟩ => ?_) hs
  subst ex
  obtain rfl : ov = Value.ref a := rx
  exact setattr_ok I2 ea c n l ry fun s3 I3 => ⟨σ, _, I3, q2.h _ upd_same (But.set ea rfl)⟩
def gFldM (K : PySem.W.Frag) (ta : TE) (f : Str) : TG := fun y σ H1 Q => ta σ H1 fun x H2 => ∃ a C dx fs, x = .ref a ∧ H2 a = some (.ins C dx fs) ∧ Cls K C ∧ NoAttr K C f ∧ fs.length < 1000 ∧ Put H2 a C dx (putF f y fs) fun H' => Q σ H'
theorem pg_fldM (ha : PE X o ta) : PG X (.Attribute o f pos) (gFldM X.K ta f) := by
  refine ⟨fun pins s σ H v u Q I r h => ?_⟩
  rw [assign_Attribute]
  refine wpAny_bind (wpAny_holding (thn (ha.run pins s σ H _ I h) fun ov s1 ⟨x, H1, I1, r1, a, C, dx, fs, ex, ea, c, n, l, q2⟩ => ?_))
  subst ex
  obtain rfl : ov = Value.ref a := r1
  refine wpAny_bind (wpAny_standAt (wpAny_bind (wpAny_holding (setattr_ok I1 ea c n l r fun s3 I3 => ?_))))
  exact wpAny_release ⟨σ, _, I3, q2.h _ upd_same (But.set ea rfl)⟩
end
/-- a class of the program, by the promise of its __init__ -/
structure CalM (P : Program) (w : World) (K : PySem.W.Frag) (mg : Str → Option Value) (base : Heap) (k : Nat) (x : Str) (C : Addr) (sp : Sp) : Prop where
  ex : ∃ (f : Addr) (fd : FuncData) (ps : List Str), FnOk P w K mg base (L2.CX P w) k f fd ps sp ∧ mg x = some (.ref C) ∧ Mk K C f ∧ Binds K fd ps []
/-- a new instance -/
structure Made (sp : Sp) (C : Addr) (vs : List V) (H : Hp) (Q : VK) : Prop where
  h : ∀ (x dx : Addr) (H' : Hp), H x = none → H' x = some (.ins C dx []) → Ext H H' → Ca sp (.ref x :: vs) H' fun v H2 => v = .non ∧ Q (.ref x) H2
theorem Made.mk' {sp : Sp} {C : Addr} {vs : List V} {H : Hp} {Q : VK} (h : ∀ (x dx : Addr) (H' : Hp), H x = none → H' x = some (.ins C dx []) → Ext H H' → Ca sp (.ref x :: vs) H' fun v H2 => v = .non ∧ Q (.ref x) H2) : Made sp C vs H Q := ⟨h⟩
def tMakeM (C : Addr) (sp : Sp) (t : TA) : TE := fun σ H Q => t σ H fun vs H1 => Made sp C vs H1 Q
section
variable {X : Cx} {k j : Nat} {C : Addr} {sp : Sp} {x : Str} {p pos : Pos} {e : Expr} {es : List Expr} {t : TA}
theorem pe_makeM (c : CalM X.prog X.w X.K X.mg X.base k x C sp) (hr : Room j X.A) (ha : PA X (e :: es) t) (hk : k + 1 ≤ j := by decide) (hg : Gl X x := by rfl) (hdb : (x == ("__debug__" : Str)) = false := by decide)
    (he : starEach (e :: es) X.env = (false, eval e X.env) :: starEach es X.env := by rfl) (hpl : (backTo pos (starEach es X.env)).any (·.1) = false := by rfl) : PE X (.Call (.Name x p) (e :: es) [] pos) (tMakeM C sp t) := by
  obtain ⟨f, fd, ps, F, hm, M, b⟩ := c.ex
  refine ⟨fun pins s σ H Q I h => ?_⟩
  refine wpAny_Call_Name_kw (ld_glob I hg hm ?_ hdb)
  refine PySem.W.callWith_K (h₀ := X.base) I.ok.mod.kin M.kp (thn (ha.run pos pins s σ H _ I h) fun us s1 ⟨vs, H1, I1, r, q⟩ => ⟨I1.kIn, ?_⟩) he hpl
  refine run_make (E := E0) (dvs := []) M F (hr.mono hk) b .nil passL I1 r fun x dx h1 h2 h3 => ?_
  have h4 : upd H1 dx (.own x) x = none := by rw [upd_ne (Ne.symm h3)]; exact h1
  rw [List.append_nil]
  exact (q.h x dx _ h1 upd_same ((Ext.new h2).trans (Ext.new h4))).h
end
def rSumM : List V → Hp → VK → Prop := fun vs H Q => match vs with
  | [.ref a] => ∃ ns : List Int, H a = some (.lst (ns.map V.int)) ∧ Q (.int ns.sum) H
  | _ => False
theorem cr_sumM {X : Cx} (hc : X.calm = true) : CallR X (.builtin "sum") rSumM := by
  intro pins s σ H vs us Q I r h
  match vs, h with
  | [.ref a], ⟨ns, h1, q⟩ => exact cr_sum hc pins s σ H _ us Q I r ⟨a, ns, rfl, SqL.of h1, q⟩
theorem pe_fldM {X : Cx} {e : Expr} {f : Str} {pos : Pos} {ta : TE} (he : PE X e ta) (hb : attributeBase e f X.env (eval e X.env) = eval e X.env := by rfl) : PE X (.Attribute e f pos) (tFld X.K ta f) := pe_fld he hb
theorem plen {fs : List (Str × V)} {n : Nat} (h : fs.length = n) (hn : n < 1000) : fs.length < 1000 := by rw [h]; exact hn
end Kx

set_option Elab.async false
set_option linter.all false
set_option maxRecDepth 100000
set_option maxHeartbeats 4000000
set_option autoImplicit false
/-! # gcd, lcm -/
namespace Kx
open PySem PySem.Spec PyProof.Rows L2
section
variable {X : Cx}
def rGcdM : List V → Hp → VK → Prop := fun vs H Q => match vs with
  | [.int a, .int b] => Q (.int ((Nat.gcd a.natAbs b.natAbs : Nat) : Int)) H
  | _ => False
theorem cr_gcdM : CallR X (.builtin "math.gcd") rGcdM := by
  intro pins s σ H vs us Q I r h
  match vs, h with
  | [.int a, .int b], q => exact cr_gcd pins s σ H _ us Q I r ⟨a, b, rfl, q⟩
def rLcmM : List V → Hp → VK → Prop := fun vs H Q => match vs with
  | [.int a, .int b] => a.natAbs < 18446744073709551616 ∧ b.natAbs < 18446744073709551616 ∧ Q (.int ((Nat.lcm a.natAbs b.natAbs : Nat) : Int)) H
  | _ => False
theorem cr_lcmM : CallR X (.builtin "math.lcm") rLcmM := by
  intro pins s σ H vs us Q I r h
  match vs, h with
  | [.int a, .int b], ⟨h1, h2, q⟩ =>
    obtain ⟨t, u, rfl⟩ := Vals.int2 r
    exact PySem.W.mc_lcm h1 h2 fun _ => ⟨.int _, H, I.tok _, ⟨_, rfl⟩, q⟩
end
end Kx

set_option Elab.async false
set_option linter.all false
set_option maxRecDepth 100000
set_option maxHeartbeats 4000000
set_option autoImplicit false
/-! # sorted(set(text)) -/
namespace Kx
open PySem PySem.Spec PyProof.Rows L2
/-- the text of an entry -/
def kT (e : Int × Value) : Str := match e.2 with
  | .str k _ => k
  | _ => Str.empty
def gT (w : World) (e : Int × Value) : Prop := ∃ (k : Str) (u : Tok), e = (hashStr w k, Value.str k u)
/-- the entries are the texts of l, no more than n -/
structure TxF (w : World) (es : Array (Int × Value)) (t : SetTable) (l : List Str) (n : Nat) : Prop where
  el : ∀ e ∈ es.toList, gT w e
  nd : (es.toList.map kT).Nodup
  mem : ∀ k, k ∈ l ↔ k ∈ es.toList.map kT
  few : es.size ≤ n
  big : n < scanBound
  fit : t.fits es.size = true
  ris : Ris t.place.toList
  led : w.params.followText "set-order" = true ∨ t.led = true
structure TxS (w : World) (h : Heap) (a : Addr) (l : List Str) (n : Nat) : Prop where
  ex : ∃ (o : Obj) (es : Array (Int × Value)) (ep : Nat) (t : SetTable), h.get? a = some o ∧ o.ExactSet ∧ o.data = .set es ep t ∧ TxF w es t l n
section
variable {P : Program} {w : World} {A : Around} {E : Value → Shared → Prop} {s : Shared} {a : Addr} {l : List Str} {n : Nat} {es es' : Array (Int × Value)} {t t' : SetTable}
theorem TxS.keep {h h' : Heap} (S : TxS w h a l n) (k : ∀ o, h.get? a = some o → h'.get? a = some o) : TxS w h' a l n := by
  obtain ⟨o, es, ep, t, ho, r⟩ := S.ex
  exact ⟨⟨o, es, ep, t, k o ho, r⟩⟩
theorem TxS.alike {h : Heap} {l' : List Str} (S : TxS w h a l n) (e : ∀ k, k ∈ l' ↔ k ∈ l) : TxS w h a l' n := by
  obtain ⟨o, es, ep, t, ho, hx, hd, F⟩ := S.ex
  exact ⟨⟨o, es, ep, t, ho, hx, hd, F.el, F.nd, fun k => (e k).trans (F.mem k), F.few, F.big, F.fit, F.ris, F.led⟩⟩
theorem TxF.more {n' : Nat} (F : TxF w es t l n) (hn : n ≤ n') (hb : n' < scanBound) : TxF w es t l n' := ⟨F.el, F.nd, F.mem, Nat.le_trans F.few hn, hb, F.fit, F.ris, F.led⟩
theorem TxF.moved (F : TxF w es t l n) (p : es'.toList.Perm es.toList) (hf : t'.fits es'.size = true) (hr : Ris t'.place.toList) (hl : t'.led = t.led) : TxF w es' t' l n where
  el := fun e he => F.el e (p.mem_iff.mp he)
  nd := (p.map kT).nodup_iff.mpr F.nd
  mem := fun k => (F.mem k).trans (p.map kT).mem_iff.symm
  few := by
    have e : es'.size = es.size := by rw [← Array.length_toList, p.length_eq, Array.length_toList]
    rw [e]; exact F.few
  big := F.big
  fit := hf
  ris := hr
  led := F.led.imp id fun z => by rw [hl]; exact z
theorem gT_is {e : Int × Value} (g : gT w e) (k : Str) : (PySem.strKind P w).is k e.2 = true ↔ kT e = k := by
  obtain ⟨j, u, rfl⟩ := g
  show Value.isStrOf k (.str j u) = true ↔ j = k
  simp [Value.isStrOf]
theorem gT_elems (g : ∀ e ∈ es.toList, gT w e) : ElemsOf (PySem.strKind P w) es.toList := fun e he => by
  obtain ⟨k, u, rfl⟩ := g e he
  refine ⟨⟨k, ?_, rfl⟩, rfl⟩
  show Value.isStrOf k (.str k u) = true
  simp [Value.isStrOf]
theorem put_get {h : Heap} {o : Obj} {ep : Nat} (ho : h.get? a = some o) (hd : o.data = .set es ep t) : (h.update a (Obj.putSet es' t')).get? a = some { o with data := .set es' (ep + 1) t' } := by
  have e := putSet_of es' t' hd
  have := Heap.get?_update_self (Obj.putSet es' t') ho (by rw [e]; rfl)
  rw [e] at this
  exact this
/-- the entries are written, the table laid anew where it is full -/
theorem write_tx {g : Bool → Sem Unit} (hg : ∀ (b : Bool) (s1 : Shared) (Q' : Unit → Shared → Prop), Q' () s1 → wpAny (model P w) A (g b) Q' E s1) {o : Obj} {ep : Nat} (ho : s.heap.get? a = some o) (hx : o.ExactSet) (hd : o.data = .set es ep t)
    (F : TxF w es' t' l n) {wd : Bool} {R : Option Bool → Shared → Prop} (hR : ∀ h', Heap.SameBut a s.heap h' → TxS w h' a l n → R (some true) { s with heap := h' }) :
    wpAny (model P w) A (do
        storeSet a es' t'
        if (!wd && t'.tooFull) = true then do
            g (relayAll t' es' (SetTable.grown es'.size)).2.2
            storeSet a (relayAll t' es' (SetTable.grown es'.size)).1 (relayAll t' es' (SetTable.grown es'.size)).2.1
            pure (some true)
          else pure (some true)) R E s := by
  have lo : es'.size < scanBound := Nat.lt_of_le_of_lt F.few F.big
  refine wpAny_bind (wpAny_storeSet_of ho hd ?_ (fits_of_scanBound lo))
  have at1 := put_get (es' := es') (t' := t') ho hd
  have sb := Heap.SameBut.update s.heap a (Obj.putSet es' t')
  split
  · have F2 := F.moved (relayAll_perm t' es' (SetTable.grown es'.size)) (relayAll_fits t' es' (SetTable.grown es'.size)) (relayAll_ris t' es' (SetTable.grown es'.size)) (relayAll_led t' es' (SetTable.grown es'.size))
    generalize relayAll t' es' (SetTable.grown es'.size) = Z at F2 ⊢
    obtain ⟨es2, t2, gv⟩ := Z
    refine wpAny_bind (hg _ _ _ ?_)
    refine wpAny_bind (wpAny_storeSet_of at1 rfl ?_ (fits_of_scanBound (Nat.lt_of_le_of_lt F2.few F2.big)))
    exact wpAny_pure (hR _ (sb.trans (Heap.SameBut.update _ a _)) ⟨⟨_, es2, _, t2, put_get at1 rfl, hx, rfl, F2⟩⟩)
  · exact wpAny_pure (hR _ sb ⟨⟨_, es', _, t', at1, hx, rfl, F⟩⟩)
theorem add_tx {k : Str} {u : Tok} {Q : Bool → Shared → Prop} (S : TxS w s.heap a l n) (room : n + 1 < scanBound) (hQ : ∀ h' b, Heap.SameBut a s.heap h' → TxS w h' a (k :: l) (n + 1) → Q b { s with heap := h' }) :
    wpAny (model P w) A (setAddHashed a (.str k u) (hashStr w k)) Q E s := by
  obtain ⟨o, es, ep, t, ho, hx, hd, F⟩ := S.ex
  have isk : (PySem.strKind P w).is k (.str k u) = true := by
    show Value.isStrOf k (.str k u) = true
    simp [Value.isStrOf]
  have els : ElemsOf (PySem.strKind P w) es.toList := gT_elems F.el
  unfold setAddHashed setAddHashedIn
  refine wpAny_holding (wpAny_bind (wpAny_setState_of ho hd F.fit ?_))
  dsimp only
  rw [byScan_of rfl (Nat.lt_of_le_of_lt F.few F.big) els]
  simp only [↓reduceIte]
  unfold setAddByScan
  refine wpAny_bind ?_
  refine wpAny_bind (wpAny_rule ?_)
  refine wpAny_bind (wpAny_setScan_of isk ho hd F.fit els ?_)
  cases hf : List.findIdx? (fun e => (PySem.strKind P w).is k e.2) es.toList with
  | some j =>
    dsimp only
    obtain ⟨hj, pj, _⟩ := List.findIdx?_eq_some_iff_getElem.mp hf
    have hk : k ∈ es.toList.map kT := List.mem_map.mpr ⟨_, List.getElem_mem hj, (gT_is (P := P) (F.el _ (List.getElem_mem hj)) k).mp pj⟩
    refine wpAny_pure (wpAny_pure (hQ s.heap _ (Heap.SameBut.refl a s.heap) ⟨⟨o, es, ep, t, ho, hx, hd, F.el, F.nd, fun i => ?_, Nat.le_succ_of_le F.few, room, F.fit, F.ris, F.led⟩⟩))
    rw [List.mem_cons, F.mem i]
    exact ⟨fun z => z.elim (fun e => e ▸ hk) id, .inr⟩
  | none =>
    dsimp only
    have nk : k ∉ es.toList.map kT := fun z => by
      obtain ⟨e, he, q⟩ := List.mem_map.mp z
      have c := List.findIdx?_eq_none_iff.mp hf e he
      rw [(gT_is (P := P) (F.el e he) k).mpr q] at c
      cases c
    have gw : ∀ (b : Bool) {s1 : Shared} {Q' : Unit → Shared → Prop}, Q' () s1 → wpAny (model P w) A (match b with | true => rule "set.scan.the-table-gave-way" | false => pure ()) Q' E s1 :=
      fun b s1 Q' q => by cases b <;> first | exact wpAny_pure q | exact wpAny_rule q
    have F1 : TxF w (layNew t es (hashStr w k) (.str k u)).1 (layNew t es (hashStr w k) (.str k u)).2.1 (k :: l) (n + 1) := by
      have pm := layNew_perm t es (hashStr w k) (.str k u)
      rw [Array.toList_push] at pm
      have pc := pm.trans (List.perm_append_singleton (hashStr w k, Value.str k u) es.toList)
      have pk := pc.map kT
      rw [List.map_cons] at pk
      have ek : kT (hashStr w k, Value.str k u) = k := rfl
      rw [ek] at pk
      refine ⟨fun e he => ?_, pk.nodup_iff.mpr (List.nodup_cons.mpr ⟨nk, F.nd⟩), fun i => ?_, ?_, room, layNew_fits .., layNew_ris _ _ _ _ F.ris, F.led.imp id fun z => by rw [layNew_led]; exact z⟩
      · rcases List.mem_cons.mp (pc.mem_iff.mp he) with z | z
        · exact ⟨k, u, z⟩
        · exact F.el e z
      · rw [pk.mem_iff, List.mem_cons, List.mem_cons, F.mem i]
      · rw [← Array.length_toList, pc.length_eq, List.length_cons, Array.length_toList]
        exact Nat.succ_le_succ F.few
    generalize layNew t es (hashStr w k) (.str k u) = Z at F1 ⊢
    obtain ⟨es1, t1, wd, gave⟩ := Z
    dsimp only at F1 ⊢
    have F1' : TxF w es1 { t1 with plain := false } (k :: l) (n + 1) := ⟨F1.el, F1.nd, F1.mem, F1.few, F1.big, SetTable.fits_plain_off F1.fit, F1.ris, F1.led⟩
    refine wpAny_bind (gw _ ?_)
    split
    · refine wpAny_bind ?_
      rw [hashByValue_scannable 8 (x := Value.str k u) rfl]
      refine wpAny_pure ?_
      refine write_tx (l := k :: l) (n := n + 1) ?_ ho hx hd (by first | exact F1' | (split <;> first | exact F1 | exact F1')) ?_
      · intro b s1 Q' q
        cases b <;> first | exact wpAny_pure q | exact wpAny_rule q
      · intro h' sb r
        dsimp only
        exact wpAny_pure (hQ h' _ sb r)
    · refine wpAny_bind (wpAny_pure ?_)
      simp only [↓reduceIte]
      refine write_tx (l := k :: l) (n := n + 1) ?_ ho hx hd F1 ?_
      · intro b s1 Q' q
        cases b <;> first | exact wpAny_pure q | exact wpAny_rule q
      · intro h' sb r
        dsimp only
        exact wpAny_pure (hQ h' _ sb r)
def sg (c : Nat) : Str := ⟨#[c]⟩
/-- all signs of a text are put in -/
theorem fill_tx {I : Addr} {x : Str} {St : Nat → Heap → Prop} {R : Result → Shared → Prop} (W : Walks P w A.in1 I [I] [I] x.cps.size (SignAt x) St) (aI : a ≠ I) (room : x.cps.size + 1 < scanBound) :
    ∀ (m i : Nat) (s : Shared), x.cps.size - i = m → i ≤ x.cps.size → St i s.heap → TxS w s.heap a (((cs x).take i).map sg) i →
      (∀ h' tk, (∀ b o, b ≠ a → b ≠ I → s.heap.get? b = some o → h'.get? b = some o) → TxS w h' a ((cs x).map sg) x.cps.size → R (.ok (.ret .none)) { s with heap := h', toks := tk }) →
      codeAny (model P w) A (.builtin "set.update.loop" ⟨[.ref a, .ref I], []⟩) R s
  | 0, i, s, hm, hi, hst, hS, hR => by
    have e : i = x.cps.size := by omega
    subst e
    refine codeAny_builtin PyProof.Rows.F.entry_set_update_loop ?_
    rw [Around.under_plainId PyProof.Rows.F.plain_set_update_loop _]
    show wpAny _ A.in1 (pyNext (.ref I) >>= _) _ _ s
    refine wpAny_bind (W.done s _ _ hst fun h' tk hk => ?_)
    show wpAny _ A.in1 (ret Value.none) _ _ _
    have et : (cs x).take x.cps.size = cs x := List.take_of_length_le (by simp [cs])
    rw [et] at hS
    exact wpAny_pure (hR h' tk (fun b o _ bI q => hk b o (by simpa using bI) q) (hS.keep fun o q => hk a o (by simpa using aI) q))
  | m + 1, i, s, hm, hi, hst, hS, hR => by
    have hlt : i < x.cps.size := by omega
    refine codeAny_builtin PyProof.Rows.F.entry_set_update_loop ?_
    rw [Around.under_plainId PyProof.Rows.F.plain_set_update_loop _]
    show wpAny _ A.in1 (pyNext (.ref I) >>= _) _ _ s
    refine wpAny_bind (W.item i s _ _ hlt hst fun v h1 tk1 hv st1 k1 => ?_)
    obtain ⟨c, u, hc, rfl⟩ := hv
    have S1 : TxS w h1 a (((cs x).take i).map sg) i := hS.keep fun o q => k1 a o (by simpa using aI) q
    show wpAny _ A.in1 (holding [Value.str (sg c) u] (setAdd a (.str (sg c) u)) >>= _) _ _ _
    refine wpAny_bind (wpAny_holding ?_)
    unfold setAdd
    refine wpAny_holding ?_
    refine wpAny_bind ((PySem.strKind P w).pyHash (k := sg c) (by show Value.isStrOf (sg c) (.str (sg c) u) = true; simp [Value.isStrOf]) ?_)
    refine add_tx (s := { s with heap := h1, toks := tk1 + 1 }) S1 (by omega) fun h2 b sb S2 => ?_
    have S3 : TxS w h2 a (((cs x).take (i + 1)).map sg) (i + 1) := S2.alike fun k => by
      have hx : (cs x)[i]? = some c := by simpa [cs] using hc
      rw [List.take_add_one, hx, List.map_append, List.mem_append, List.mem_cons]
      simp only [Option.toList, List.map_cons, List.map_nil, List.mem_singleton]
      exact Or.comm
    refine wpAny_pure ⟨plainId_quiet PyProof.Rows.F.plain_set_update_loop _, fill_tx W aI room m (i + 1) _ (by omega) hlt (W.frame _ h1 _ st1 fun b hb o q => ?_) S3 fun h3 tk3 k3 S4 => ?_⟩
    · have hbI : b = I := by simpa using hb
      rw [hbI] at q ⊢
      exact (sb.2 I (Ne.symm aI)).trans q
    · exact hR h3 tk3 (fun b o ba bI q => k3 b o ba bI ((sb.2 b ba).trans (k1 b o (by simpa using bI) q))) S4
end
end Kx

set_option Elab.async false
set_option linter.all false
set_option maxRecDepth 100000
set_option maxHeartbeats 4000000
set_option autoImplicit false
/-! # sorted(set(text)): the calls -/
namespace Kx
open PySem PySem.Spec PyProof.Rows L2
section
variable {P : Program} {w : World} {A : Around} {E : Value → Shared → Prop} {s : Shared}
/-- the empty set -/
def emp (w : World) : Obj := { cls := .type "set", dict := none, data := .set #[] 0 (.fresh 0 0 (!w.params.followText "set-order")) }
theorem emp_tx {h : Heap} {a : Addr} {l : List Str} (ho : h.get? a = some (emp w)) (hl : ∀ k, k ∉ l) : TxS w h a l 0 :=
  ⟨⟨emp w, #[], 0, _, ho, ⟨rfl, rfl, rfl⟩, rfl, fun e he => by simp at he, by simp, fun k => by simp [hl k], Nat.le_refl _, by decide, by rfl, List.Pairwise.nil, by
    show _ ∨ (!w.params.followText "set-order") = true
    cases w.params.followText "set-order"
    · exact .inr rfl
    · exact .inl rfl⟩⟩
theorem set_of_text {x : Str} {t : Tok} {Q : Value → Shared → Prop} (hh : A.handled = none) (room : x.cps.size + 1 < scanBound)
    (hQ : ∀ (h' : Heap) (tk : Nat), TxS w h' s.heap.objs.size ((cs x).map sg) x.cps.size → (∀ b o, s.heap.get? b = some o → h'.get? b = some o) → Q (.ref s.heap.objs.size) { s with heap := h', toks := tk }) :
    wpAny (model P w) A (call (.type "set") [.str x t]) Q E s := by
  obtain ⟨c, tl, hmro⟩ := F.called_set.mro
  have hmade := F.called_set.made
  have hsub := F.called_set.sub
  refine wpAny_call (codeAny_of_tree ?_)
  show wpAny _ _ (callAny (.type "set") _) _ _ _
  refine wpAny_pure ⟨Code.quiet_builtin _ (by decide +kernel), codeAny_builtin F.entry_type_call ?_⟩
  rw [Around.under_plain (weight_type_call_type "set" [.str x t] []) rfl]
  have nt := F.called_set.notType
  have cc := F.called_set.canCreate
  have tc := F.typeCall_set_1 (.str x t)
  repeat (any_goals (first | assumption | wp_step))
  refine codeAny_mono (code_set_led1 (.str x t) (E := E) (Q₁ := fun obj s1 => obj = .ref s.heap.objs.size ∧ s1 = { s with heap := s.heap.push (emp w) }) ⟨rfl, rfl⟩) fun r s1 hr => ?_
  cases r with
  | error e => exact hr
  | ok fl =>
    cases fl with
    | ret obj =>
      obtain ⟨rfl, rfl⟩ := hr
      have at0 : (s.heap.push (emp w)).get? s.heap.objs.size = some (emp w) := Heap.get?_push_size _ rfl
      have ty0 : Shared.TypeIs { s with heap := s.heap.push (emp w) } (.ref s.heap.objs.size) "set" := ⟨_, at0, rfl⟩
      have il := F.called_set.init.lookup
      have ib := F.called_set.init.bind (.ref s.heap.objs.size)
      repeat (any_goals (first | assumption | wp_step))
      refine codeAny_mono (codeAny_call_builtin (R := wants (fun r s2 => r = .none ∧ ∃ h' tk, s2 = { s with heap := h', toks := tk } ∧ TxS w h' s.heap.objs.size ((cs x).map sg) x.cps.size ∧ (∀ b o, s.heap.get? b = some o → h'.get? b = some o)) E) F.called_set.init.plain F.entry_set_init (check_set_init_1 ty0 ?_)) fun r2 s2 hr2 => ?_
      · have q1 := F.sub_str_set
        have q2 := F.sub_str_frozenset
        have ne : (Value.type "str" == Value.type "dict") = false := by decide
        have ts : Shared.TypeIs { s with heap := s.heap.push (emp w) } (.str x t) "str" := typeIs_str _ _ _
        unfold Builtin.«set.__init__» noKeywords Builtin.Frozenset.updateFrom
        generalize hPI : pyIter = PI
        wp_walk
        subst hPI
        refine wpAny_pyIter_str fun o St hW hst => ?_
        have z1 : (s.heap.push (emp w)).objs.size = s.heap.objs.size + 1 := Heap.size_push ..
        have aI : s.heap.objs.size ≠ (s.heap.push (emp w)).objs.size := by rw [z1]; omega
        refine wpAny_bind (wpAny_runValue ?_)
        refine fill_tx (hW _ (by simp [hh])) aI room x.cps.size 0 _ (by omega) (Nat.zero_le _) hst (emp_tx (Heap.get?_push_of_some _ at0) (fun k => by simp)) fun h' tk k S => ?_
        show wpAny _ _ _ _ _ _
        refine wpAny_pure ?_
        show wpAny _ _ (ret Value.none) _ _ _
        refine wpAny_pure ⟨rfl, h', tk, rfl, S, fun b o e => ?_⟩
        have b0 : b < s.heap.objs.size := Heap.lt_size e
        exact k b o (Nat.ne_of_lt b0) (by rw [z1]; exact Nat.ne_of_lt (Nat.lt_succ_of_lt b0)) (Heap.get?_push_of_some _ (Heap.get?_push_of_some _ e))
      · cases r2 with
        | error e => exact hr2
        | ok fl2 =>
          cases fl2 with
          | ret r =>
            obtain ⟨rfl, h', tk, rfl, S, k⟩ := hr2
            repeat (any_goals (first | assumption | wp_step))
            exact hQ _ _ S k
          | _ => exact hr2.elim
    | _ => exact hr.elim
/-! ### order -/
theorem nodup_le {α : Type} [DecidableEq α] : ∀ {l m : List α}, l.Nodup → (∀ x ∈ l, x ∈ m) → l.length ≤ m.length
  | [], m, _, _ => Nat.zero_le _
  | x :: l, m, h, k => by
    obtain ⟨h1, h2⟩ := List.nodup_cons.mp h
    have hx := k x List.mem_cons_self
    have := nodup_le (l := l) (m := m.erase x) h2 fun y hy => (List.mem_erase_of_ne (fun (e : y = x) => h1 (by rw [← e]; exact hy))).mpr (k y (List.mem_cons_of_mem _ hy))
    rw [List.length_erase_of_mem hx] at this
    have hp : 0 < m.length := List.length_pos_of_mem hx
    rw [List.length_cons]
    omega
/-- the signs of a text, each once, in order -/
def sgn (l : List Nat) : List Nat := (List.range (l.foldr Nat.max 0 + 1)).filter fun c => l.contains c
theorem max_ge : ∀ {l : List Nat} {c : Nat}, c ∈ l → c ≤ l.foldr Nat.max 0
  | d :: r, c, h => by
    rw [List.foldr_cons]
    rcases List.mem_cons.mp h with z | z
    · rw [z]; exact Nat.le_max_left _ _
    · exact Nat.le_trans (max_ge z) (Nat.le_max_right _ _)
theorem sgn_mem {l : List Nat} {c : Nat} : c ∈ sgn l ↔ c ∈ l := by
  unfold sgn
  rw [List.mem_filter, List.mem_range]
  constructor
  · intro h; simpa using h.2
  · intro h; exact ⟨Nat.lt_succ_of_le (max_ge h), by simpa using h⟩
theorem sgn_lt (l : List Nat) : (sgn l).Pairwise (· < ·) := List.Pairwise.filter _ List.pairwise_lt_range
theorem lt_uniq : ∀ {l m : List Nat}, l.Pairwise (· < ·) → m.Pairwise (· < ·) → (∀ c, c ∈ l ↔ c ∈ m) → l = m
  | [], [], _, _, _ => rfl
  | [], y :: m, _, _, h => by have := (h y).mpr List.mem_cons_self; cases this
  | x :: l, [], _, _, h => by have := (h x).mp List.mem_cons_self; cases this
  | x :: l, y :: m, hl, hm, h => by
    obtain ⟨l1, l2⟩ := List.pairwise_cons.mp hl
    obtain ⟨m1, m2⟩ := List.pairwise_cons.mp hm
    have e : x = y := by
      have a := (h x).mp List.mem_cons_self
      have b := (h y).mpr List.mem_cons_self
      rcases List.mem_cons.mp a with a | a
      · exact a
      · rcases List.mem_cons.mp b with b | b
        · exact b.symm
        · have := m1 x a; have := l1 y b; omega
    subst e
    rw [lt_uniq l2 m2 fun c => ?_]
    constructor
    · intro hc
      have := l1 c hc
      rcases List.mem_cons.mp ((h c).mp (List.mem_cons_of_mem _ hc)) with z | z
      · omega
      · exact z
    · intro hc
      have := m1 c hc
      rcases List.mem_cons.mp ((h c).mpr (List.mem_cons_of_mem _ hc)) with z | z
      · omega
      · exact z
theorem sg_inj {a b : Nat} (h : sg a = sg b) : a = b := by
  have := congrArg cs h
  simpa [cs, sg] using this
theorem rising_le : ∀ (ds : List Nat) (p : Nat), risingS (sg p) (ds.map sg) = true → (p :: ds).Pairwise (· ≤ ·)
  | [], p, _ => by simp
  | d :: r, p, h => by
    rw [List.map_cons, risingS, Bool.and_eq_true] at h
    have ih := rising_le r d h.2
    have pd : p ≤ d := by
      have := h.1
      simp only [sg, ltCps, Bool.not_eq_true', Bool.or_eq_false_iff, decide_eq_false_iff_not] at this
      omega
    refine List.pairwise_cons.mpr ⟨fun y hy => ?_, ih⟩
    rcases List.mem_cons.mp hy with z | z
    · rw [z]; exact pd
    · exact Nat.le_trans pd ((List.pairwise_cons.mp ih).1 y z)
theorem sorted_sgn {ys : List Str} {l : List Nat} (hs : sortedS ys = true) (nd : ys.Nodup) (hm : ∀ k, k ∈ ys ↔ k ∈ l.map sg) : ys = (sgn l).map sg := by
  obtain ⟨ds, rfl⟩ : ∃ ds : List Nat, ys = ds.map sg := by
    have : ∀ ys : List Str, (∀ k ∈ ys, ∃ c, k = sg c) → ∃ ds : List Nat, ys = ds.map sg := fun ys => by
      induction ys with
      | nil => exact fun _ => ⟨[], rfl⟩
      | cons y r ih =>
        intro h
        obtain ⟨c, rfl⟩ := h y List.mem_cons_self
        obtain ⟨ds, rfl⟩ := ih fun k hk => h k (List.mem_cons_of_mem _ hk)
        exact ⟨c :: ds, rfl⟩
    refine this ys fun k hk => ?_
    obtain ⟨c, _, rfl⟩ := List.mem_map.mp ((hm k).mp hk)
    exact ⟨c, rfl⟩
  have le : ds.Pairwise (· ≤ ·) := by
    cases ds with
    | nil => exact List.Pairwise.nil
    | cons d r => exact rising_le r d hs
  have nd' : ds.Nodup := by
    rw [List.Nodup, List.pairwise_map] at nd
    exact nd.imp fun h e => h (by rw [e])
  have lt : ds.Pairwise (· < ·) := by
    have := List.Pairwise.and le nd'
    exact this.imp fun h => by have h1 := h.1; have h2 := h.2; omega
  have mem : ∀ c, c ∈ ds ↔ c ∈ sgn l := fun c => by
    rw [sgn_mem]
    have := hm (sg c)
    rw [List.mem_map, List.mem_map] at this
    constructor
    · intro h
      obtain ⟨d, hd, e⟩ := this.mp ⟨c, h, rfl⟩
      exact sg_inj e ▸ hd
    · intro h
      obtain ⟨d, hd, e⟩ := this.mpr ⟨c, h, rfl⟩
      exact sg_inj e ▸ hd
  rw [lt_uniq lt (sgn_lt l) mem]
/-! ### sorted -/
theorem strs_vals : ∀ (vs : List Value), (∀ v ∈ vs, ∃ k u, v = Value.str k u) → StrsAre vs (vs.map fun v => kT (0, v))
  | [], _ => .nil
  | v :: vs, h => by
    obtain ⟨k, u, rfl⟩ := h v List.mem_cons_self
    exact .cons k u (strs_vals vs fun x hx => h x (List.mem_cons_of_mem _ hx))
theorem sorted_tx {a : Addr} {x : List Nat} {n : Nat} {Q : Value → Shared → Prop} (S : TxS w s.heap a (x.map sg) n) (hh : A.handled = none) (h64 : (sgn x).length < 64)
    (hQ : ∀ (s' : Shared) (p : Addr) (its : List Value) (c : Nat), (∀ b o, s.heap.get? b = some o → s'.heap.get? b = some o) → s'.gens = s.gens → s'.os = s.os → s.heap.objs.size ≤ p → s'.heap.get? p = some (seqObj "list" its.toArray c) → StrsAre its ((sgn x).map sg) → Q (.ref p) s') :
    wpAny (model P w) A (call (.builtin "sorted") [.ref a]) Q E s := by
  obtain ⟨o, es, ep, t, ho, hx, hd, F⟩ := S.ex
  refine Calls.call_function_entry kind_sorted plain_sorted entry_sorted (args_sorted1 _) ?_
  unfold Builtin.«sorted»
  refine wpAny_bind (m := checkCount "sorted" 1 1 _) (wpAny_pure ?_)
  refine wpAny_bind (collect_set (A := A.in1) hh ⟨o, ho, hx.1, hd⟩ F.fit (Nat.lt_of_le_of_lt F.few F.big) F.ris F.led fun s1 vs k1 z1 g1 o1 pm => ?_)
  have vs_str : ∀ v ∈ vs, ∃ k u, v = Value.str k u := fun v hv => by
    obtain ⟨e, he, rfl⟩ := List.mem_map.mp (pm.mem_iff.mp hv)
    obtain ⟨k, u, rfl⟩ := F.el e he
    exact ⟨k, u, rfl⟩
  have ar := strs_vals vs vs_str
  have pk : (vs.map fun v => kT (0, v)).Perm (es.toList.map kT) := by
    have q := pm.map fun v => kT (0, v)
    rw [List.map_map] at q
    exact q
  have few : vs.length < 64 := by
    have e1 : vs.length = (es.toList.map kT).length := by rw [← pk.length_eq, List.length_map]
    have e2 := nodup_le F.nd (m := (sgn x).map sg) fun k hk => by
      obtain ⟨c, hc, rfl⟩ := List.mem_map.mp ((F.mem k).mpr hk)
      exact List.mem_map.mpr ⟨c, sgn_mem.mpr hc, rfl⟩
    rw [List.length_map (as := sgn x)] at e2
    omega
  refine wpAny_bind (wpAny_newList ?_ (by rw [sizeLine_eq]; omega))
  have at1 : (s1.heap.push (seqObj "list" vs.toArray 0)).get? s1.heap.objs.size = some (seqObj "list" vs.toArray 0) := Heap.get?_push_size _ rfl
  refine wpAny_bind (wpAny_holding (wpAny_call_entry slot_list_sort ⟨_, at1, rfl⟩ entry_list_sort
    (list_sort_treeK strKind_oneLt at1 ar.keysOf (fun v1 v2 rest e => keyKind_strs (by rw [← e]; exact ar)) few fun st hp hs => ?_) (args_list_sort _)))
  obtain ⟨ys, y1, y2, y3⟩ := sorted_out_str ar hp hs
  obtain ⟨c, hc⟩ := sortedHeap_at (vs := vs) (out := (arrOf st).map (·.2)) at1
  have py := y2.trans pk
  have ey : ys = (sgn x).map sg := sorted_sgn y3 (py.nodup_iff.mpr F.nd) fun k => by rw [py.mem_iff]; exact (F.mem k).symm
  rw [ey] at y1
  refine ⟨.none, rfl, wpAny_pure ⟨_, rfl, hQ _ s1.heap.objs.size ((arrOf st).map (·.2)).toList c (fun b u e => ?_) g1 o1 z1 (by rw [Array.toArray_toList]; exact hc) y1⟩⟩
  have q := k1 b u e
  have lt := Heap.lt_size q
  show (sortedHeap (s1.heap.push (seqObj "list" vs.toArray 0)) s1.heap.objs.size vs ((arrOf st).map (·.2))).get? b = some u
  rw [sortedHeap_old (Nat.ne_of_lt lt) (by rw [Heap.size_push]; exact Nat.lt_succ_of_lt lt)]
  exact Heap.get?_push_of_some _ q
end
/-! ### the expression -/
def tSorted (ta : TE) : TE := fun σ H Q => ta σ H fun v H1 => ∃ z : Str, v = .str z ∧ z.cps.size + 1 < 4096 ∧ (sgn (cs z)).length < 64 ∧ New H1 (.lst (((sgn (cs z)).map sg).map V.str)) fun p H2 => Q (.ref p) H2
theorem pe_sortedSet {X : Cx} {a : Expr} {ta : TE} {p p2 q pos : Pos} (hc : X.calm = true) (hg : Gl X "sorted") (hm : X.mg "sorted" = none) (hg2 : Gl X "set") (hm2 : X.mg "set" = none) (ha : PE X a ta)
    (na : starEach [a] X.env = (false, eval a X.env) :: starEach [] X.env := by rfl) : PE X (.Call (.Name "sorted" p) [.Call (.Name "set" p2) [a] [] q] [] pos) (tSorted ta) := by
  refine ⟨fun pins s σ H Q I h => ?_⟩
  refine Call_ (ld_blt I hg hm boot_sorted ?_)
  refine PyProof.Rows.callWith_builtin1 (PyProof.Rows.args_cons ?_ rfl) rfl rfl
  refine Call_ (ld_blt I hg2 hm2 boot_set ?_)
  refine PyProof.Rows.callWith_type1 (PyProof.Rows.args_cons (thn (ha.run pins s σ H _ I h) fun v s1 ⟨x, H1, I1, r1, q1⟩ => PyProof.Rows.args_nil ?_) na) na rfl
  obtain ⟨z, rfl, room, h64, q1⟩ := q1
  obtain ⟨t, rfl⟩ := r1
  refine set_of_text (I1.ok.hd hc) room fun h' tk S k => PyProof.Rows.args_nil ?_
  have I2 : Inv X pins σ H1 { s1 with heap := h', toks := tk } := I1.kept fun b o e => k b o e
  have hd0 := I1.ok.hd hc
  obtain ⟨s2, es2, S2⟩ : ∃ s2 : Shared, s2 = { s1 with heap := h', toks := tk } ∧ TxS X.w s2.heap s1.heap.objs.size ((cs z).map sg) z.cps.size := ⟨_, rfl, S⟩
  rw [← es2] at I2 ⊢
  refine sorted_tx S2 hd0 h64 fun s' p its c k2 g2 o2 hp at2 ar => ?_
  have hz : (((sgn (cs z)).map sg).map V.str).length ≤ sizeLine := by rw [List.length_map, List.length_map, sizeLine_eq]; omega
  have hn : H1 p = none := I2.hok.fresh hp
  have J : Inv X pins σ (upd H1 p (.lst (((sgn (cs z)).map sg).map V.str))) { s2 with heap := s'.heap, gens := s'.gens, drawn := s'.drawn, toks := s'.toks } :=
    I2.call (ch := []) (Un.laid k2 hp hn) (I2.hok.laid k2 hp ⟨hz, its, c, vals_of_strs ar, at2⟩) (by rw [g2]; exact I2.bare) (fun _ z => nomatch z)
  have e : s' = { s2 with heap := s'.heap, gens := s'.gens, drawn := s'.drawn, toks := s'.toks } := by
    cases s'
    cases s2
    cases o2
    rfl
  rw [e]
  exact ⟨.ref p, _, J, rfl, q1.use p hn⟩
end Kx

set_option Elab.async false
set_option linter.all false
set_option maxRecDepth 100000
set_option maxHeartbeats 4000000
set_option autoImplicit false
/-! # Deep values, their heap, results; how a heap of the layer bears them -/
namespace Dn
open PySem PySem.Spec PyProof.Rows L2 Kx

/-- a value, tuples as trees -/
inductive D where
  | non | bl (b : Bool) | int (i : Int) | str (l : List Nat) | tup (xs : List D) | ref (n : Nat) | fn (x : Str) | ty (n : String) | exc (c : Str)
/-- what may change: by its number -/
inductive Ob where
  | lst (xs : List D) | ro (xs : List D) | dct (kvs : List (Key × D)) | ins (C : Str) (fs : List (Str × D))
abbrev Hd := List Ob
abbrev Gm := List (Option D)
/-- a result -/
inductive R (α : Type) where
  | ok (a : α) (S : Hd) | exc (c : Str) (S : Hd) | stuck
inductive RS where
  | nx (Γ : Gm) (S : Hd) | rt (d : D) (S : Hd) | bk (Γ : Gm) (S : Hd) | ct (Γ : Gm) (S : Hd) | exc (c : Str) (Γ : Gm) (S : Hd) | stuck
def R.bind {α β : Type} (r : R α) (f : α → Hd → R β) : R β := match r with
  | .ok a S => f a S
  | .exc c S => .exc c S
  | .stuck => .stuck
/-- an expression's meaning, a list of arguments', a block's -/
abbrev CM (α : Type) := Gm → Hd → R α
abbrev CE := CM D
abbrev CA := CM (List D)
abbrev CT := CM Bool
abbrev CS := Gm → Hd → RS
def R.bindS {α : Type} (r : R α) (Γ : Gm) (f : α → Hd → RS) : RS := match r with
  | .ok a S => f a S
  | .exc c S => .exc c Γ S
  | .stuck => .stuck
def RS.then (r : RS) (f : Gm → Hd → RS) : RS := match r with
  | .nx Γ S => f Γ S
  | r => r
/-- the defs of the text, by name -/
abbrev Calls := Str → List D → Hd → R D

mutual
/-- v is d -/
inductive Rep (mg : Str → Option Value) (ρ : List Addr) (H : Hp) : V → D → Prop
  | non : Rep mg ρ H .non .non
  | bl (b : Bool) : Rep mg ρ H (.bl b) (.bl b)
  | int (i : Int) : Rep mg ρ H (.int i) (.int i)
  | str {z : Str} {l : List Nat} (h : z.cps.toList = l) : Rep mg ρ H (.str z) (.str l)
  | tup {a : Addr} {xs : List V} {ds : List D} (h : H a = some (.tup xs)) (r : Reps mg ρ H xs ds) : Rep mg ρ H (.ref a) (.tup ds)
  | ref {a : Addr} {n : Nat} (h : ρ[n]? = some a) : Rep mg ρ H (.ref a) (.ref n)
  | fn {a : Addr} {x : Str} (h : mg x = some (.ref a)) : Rep mg ρ H (.ref a) (.fn x)
  | ty (n : String) : Rep mg ρ H (.ty n) (.ty n)
inductive Reps (mg : Str → Option Value) (ρ : List Addr) (H : Hp) : List V → List D → Prop
  | nil : Reps mg ρ H [] []
  | cons {v : V} {d : D} {vs : List V} {ds : List D} (h : Rep mg ρ H v d) (t : Reps mg ρ H vs ds) : Reps mg ρ H (v :: vs) (d :: ds)
end

/-- what stands beside the numbered objects stays; those get more -/
structure Grow (ρ : List Addr) (H : Hp) (ρ' : List Addr) (H' : Hp) : Prop where
  pre : ρ <+: ρ'
  get : ∀ {a : Addr} {o : HO}, H a = some o → a ∉ ρ → NT o = true → H' a = some o
  tab : ∀ {P : Addr}, GxR.TabG H P → GxR.TabG H' P
  new : ∀ {a : Addr}, a ∈ ρ' → a ∉ ρ → H a = none
  free : ∀ {p : Addr}, H' p = none → H p = none
theorem Grow.refl (ρ : List Addr) (H : Hp) : Grow ρ H ρ H := ⟨List.prefix_refl _, fun h _ _ => h, fun h => h, fun h n => absurd h n, fun h => h⟩
theorem Grow.trans {ρ ρ1 ρ2 : List Addr} {H H1 H2 : Hp} (a : Grow ρ H ρ1 H1) (b : Grow ρ1 H1 ρ2 H2) : Grow ρ H ρ2 H2 where
  pre := a.pre.trans b.pre
  get := fun {x o} h n t => b.get (a.get h n t) (fun m => by
    have := a.new m n
    rw [h] at this; cases this) t
  tab := fun h => b.tab (a.tab h)
  new := fun {x} h n => by
    by_cases m : x ∈ ρ1
    · exact a.new m n
    · exact a.free (b.new h m)
  free := fun h => a.free (b.free h)
theorem Grow.ext {ρ : List Addr} {H H' : Hp} (e : Ext H H') : Grow ρ H ρ H' := ⟨List.prefix_refl _, fun h _ t => e.get h t, e.tab, fun h n => absurd h n, e.free⟩

section
variable {mg : Str → Option Value} {ρ ρ' : List Addr} {H H' : Hp}
theorem pre_get {α : Type} {l l' : List α} (h : l <+: l') {n : Nat} {x : α} (e : l[n]? = some x) : l'[n]? = some x := by
  obtain ⟨t, rfl⟩ := h
  rw [List.getElem?_append_left (List.getElem?_eq_some_iff.mp e).1]
  exact e
mutual
/-- what is borne stays borne -/
theorem Rep.keep {v : V} {d : D} (pre : ρ <+: ρ') (tu : ∀ a xs, H a = some (.tup xs) → H' a = some (.tup xs)) (r : Rep mg ρ H v d) : Rep mg ρ' H' v d := by
  cases r with
  | non => exact .non
  | bl b => exact .bl b
  | int i => exact .int i
  | str h => exact .str h
  | tup h rs => exact .tup (tu _ _ h) (Reps.keep pre tu rs)
  | ref h => exact .ref (pre_get pre h)
  | fn h => exact .fn h
  | ty n => exact .ty n
theorem Reps.keep {vs : List V} {ds : List D} (pre : ρ <+: ρ') (tu : ∀ a xs, H a = some (.tup xs) → H' a = some (.tup xs)) (r : Reps mg ρ H vs ds) : Reps mg ρ' H' vs ds := by
  cases r with
  | nil => exact .nil
  | cons h t => exact .cons (Rep.keep pre tu h) (Reps.keep pre tu t)
end
theorem Reps.length : ∀ {vs : List V} {ds : List D}, Reps mg ρ H vs ds → vs.length = ds.length
  | _, _, .nil => rfl
  | _, _, .cons _ t => congrArg (· + 1) t.length
theorem Reps.one {vs : List V} {d : D} (r : Reps mg ρ H vs [d]) : ∃ v, vs = [v] ∧ Rep mg ρ H v d := by
  cases r with
  | cons h t => cases t; exact ⟨_, rfl, h⟩
theorem Reps.two {vs : List V} {d d' : D} (r : Reps mg ρ H vs [d, d']) : ∃ v v', vs = [v, v'] ∧ Rep mg ρ H v d ∧ Rep mg ρ H v' d' := by
  cases r with
  | cons h t => obtain ⟨v, rfl, h'⟩ := t.one; exact ⟨_, _, rfl, h, h'⟩
theorem Reps.three {vs : List V} {d d' d'' : D} (r : Reps mg ρ H vs [d, d', d'']) : ∃ v v' v'', vs = [v, v', v''] ∧ Rep mg ρ H v d ∧ Rep mg ρ H v' d' ∧ Rep mg ρ H v'' d'' := by
  cases r with
  | cons h t => obtain ⟨v, v', rfl, h', h''⟩ := t.two; exact ⟨_, _, _, rfl, h, h', h''⟩
theorem Reps.get : ∀ {vs : List V} {ds : List D} {i : Nat} {d : D}, Reps mg ρ H vs ds → ds[i]? = some d → ∃ v, vs[i]? = some v ∧ Rep mg ρ H v d
  | _, _, _, _, .nil, e => by simp at e
  | _, _, 0, _, .cons h _, e => ⟨_, rfl, by simp at e; exact e ▸ h⟩
  | _, _, i + 1, _, .cons _ t, e => by
    obtain ⟨v, e1, r⟩ := Reps.get (i := i) t (by simpa using e)
    exact ⟨v, by simpa using e1, r⟩
theorem Reps.getV : ∀ {vs : List V} {ds : List D} {i : Nat} {v : V}, Reps mg ρ H vs ds → vs[i]? = some v → ∃ d, ds[i]? = some d ∧ Rep mg ρ H v d
  | _, _, _, _, .nil, e => by simp at e
  | _, _, 0, _, .cons h _, e => ⟨_, rfl, by simp at e; exact e ▸ h⟩
  | _, _, i + 1, _, .cons _ t, e => by
    obtain ⟨v, e1, r⟩ := Reps.getV (i := i) t (by simpa using e)
    exact ⟨v, by simpa using e1, r⟩
theorem Reps.append : ∀ {vs ws : List V} {ds es : List D}, Reps mg ρ H vs ds → Reps mg ρ H ws es → Reps mg ρ H (vs ++ ws) (ds ++ es)
  | _, _, _, _, .nil, s => s
  | _, _, _, _, .cons h t, s => .cons h (t.append s)
theorem Reps.take : ∀ {vs : List V} {ds : List D} (n : Nat), Reps mg ρ H vs ds → Reps mg ρ H (vs.take n) (ds.take n)
  | _, _, 0, _ => .nil
  | _, _, _ + 1, .nil => .nil
  | _, _, n + 1, .cons h t => .cons h (t.take n)
theorem Reps.drop : ∀ {vs : List V} {ds : List D} (n : Nat), Reps mg ρ H vs ds → Reps mg ρ H (vs.drop n) (ds.drop n)
  | _, _, 0, r => r
  | _, _, _ + 1, .nil => .nil
  | _, _, n + 1, .cons _ t => t.drop n
theorem Reps.set : ∀ {vs : List V} {ds : List D} {v : V} {d : D} (n : Nat), Rep mg ρ H v d → Reps mg ρ H vs ds → Reps mg ρ H (vs.set n v) (ds.set n d)
  | _, _, _, _, _, _, .nil => .nil
  | _, _, _, _, 0, r, .cons _ t => .cons r t
  | _, _, _, _, n + 1, r, .cons h t => .cons h (t.set n r)
theorem Reps.rev {vs : List V} {ds : List D} (r : Reps mg ρ H vs ds) : Reps mg ρ H vs.reverse ds.reverse := by
  induction vs generalizing ds with
  | nil => cases r; exact .nil
  | cons v vs ih => cases r with
    | cons h t => rw [List.reverse_cons, List.reverse_cons]; exact (ih t).append (.cons h .nil)
theorem Reps.erase : ∀ {vs : List V} {ds : List D} (n : Nat), Reps mg ρ H vs ds → Reps mg ρ H (vs.eraseIdx n) (ds.eraseIdx n)
  | _, _, _, .nil => .nil
  | _, _, 0, .cons _ t => t
  | _, _, n + 1, .cons h t => .cons h (t.erase n)
theorem Reps.dropLast {vs : List V} {ds : List D} (r : Reps mg ρ H vs ds) : Reps mg ρ H vs.dropLast ds.dropLast := by
  rw [List.dropLast_eq_take, List.dropLast_eq_take, r.length]; exact r.take _
theorem Reps.rep {vs : List V} {ds : List D} (r : Reps mg ρ H vs ds) : ∀ k : Nat, Reps mg ρ H (List.replicate k vs).flatten (List.replicate k ds).flatten
  | 0 => .nil
  | k + 1 => by rw [List.replicate_succ, List.replicate_succ, List.flatten_cons, List.flatten_cons]; exact r.append (Reps.rep r k)
theorem Grow.tup {a : Addr} {xs : List V} (g : Grow ρ H ρ' H') (nr : ∀ a xs, H a = some (.tup xs) → a ∉ ρ) (h : H a = some (.tup xs)) : H' a = some (.tup xs) := g.get h (nr a xs h) rfl
end

/-- what stands at a -/
inductive ObR (mg : Str → Option Value) (ρ : List Addr) (H : Hp) (a : Addr) : Ob → Prop
  | lst {xs : List V} {ds : List D} (h : H a = some (.lst xs)) (r : Reps mg ρ H xs ds) : ObR mg ρ H a (.lst ds)
  | ro {o : Obj} {xs : List V} {ds : List D} (h : H a = some (.frz o (.lst xs))) (r : Reps mg ρ H xs ds) : ObR mg ρ H a (.ro ds)
  | dct {kvs : List (Key × V)} {kds : List (Key × D)} (h : H a = some (.dK kvs)) (k : kvs.map (·.1) = kds.map (·.1)) (r : Reps mg ρ H (kvs.map (·.2)) (kds.map (·.2))) : ObR mg ρ H a (.dct kds)
  | ins {C : Str} {c dx : Addr} {fs : List (Str × V)} {fd : List (Str × D)} (h : H a = some (.ins c dx fs)) (hc : mg C = some (.ref c)) (k : fs.map (·.1) = fd.map (·.1)) (r : Reps mg ρ H (fs.map (·.2)) (fd.map (·.2))) : ObR mg ρ H a (.ins C fd)
theorem ObR.notup {mg : Str → Option Value} {ρ : List Addr} {H : Hp} {a : Addr} {o : Ob} (h : ObR mg ρ H a o) : ∀ xs, H a ≠ some (.tup xs) := fun xs e => by
  cases h with
  | lst h _ => rw [e] at h; cases h
  | ro h _ => rw [e] at h; cases h
  | dct h _ _ => rw [e] at h; cases h
  | ins h _ _ _ => rw [e] at h; cases h
theorem ObR.some {mg : Str → Option Value} {ρ : List Addr} {H : Hp} {a : Addr} {o : Ob} (h : ObR mg ρ H a o) : H a ≠ none := fun e => by
  cases h with
  | lst h _ => rw [e] at h; cases h
  | ro h _ => rw [e] at h; cases h
  | dct h _ _ => rw [e] at h; cases h
  | ins h _ _ _ => rw [e] at h; cases h
theorem ObR.nt {mg : Str → Option Value} {ρ : List Addr} {H : Hp} {a : Addr} {o : Ob} (h : ObR mg ρ H a o) : ∀ ps, H a ≠ Option.some (.tbl ps) := fun xs e => by
  cases h with
  | lst h _ => rw [e] at h; cases h
  | ro h _ => rw [e] at h; cases h
  | dct h _ _ => rw [e] at h; cases h
  | ins h _ _ _ => rw [e] at h; cases h
/-- the objects by their numbers -/
structure Sim (mg : Str → Option Value) (Tb : List Addr) (ρ : List Addr) (S : Hd) (H : Hp) : Prop where
  len : ρ.length = S.length
  nd : ρ.Nodup
  ob : ∀ (n : Nat) (o : Ob), S[n]? = some o → ∃ a, ρ[n]? = some a ∧ ObR mg ρ H a o
  tb : ∀ P ∈ Tb, GxR.TabG H P
section
variable {mg : Str → Option Value} {Tb : List Addr} {ρ ρ' : List Addr} {S : Hd} {H H' : Hp}
theorem Sim.at_ (s : Sim mg Tb ρ S H) {n : Nat} {a : Addr} (h : ρ[n]? = some a) : ∃ o, S[n]? = some o ∧ ObR mg ρ H a o := by
  have hl := (List.getElem?_eq_some_iff.mp h).1
  rw [s.len] at hl
  obtain ⟨b, e, r⟩ := s.ob n _ (List.getElem?_eq_getElem hl)
  rw [h] at e; cases e
  exact ⟨_, List.getElem?_eq_getElem hl, r⟩
theorem Sim.mem (s : Sim mg Tb ρ S H) {a : Addr} (h : a ∈ ρ) : ∃ (n : Nat) (o : Ob), ρ[n]? = some a ∧ S[n]? = some o ∧ ObR mg ρ H a o := by
  obtain ⟨n, hn, e⟩ := List.getElem_of_mem h
  have e' : ρ[n]? = some a := by rw [List.getElem?_eq_getElem hn, e]
  obtain ⟨o, h1, h2⟩ := s.at_ e'
  exact ⟨n, o, e', h1, h2⟩
theorem Sim.notup (s : Sim mg Tb ρ S H) : ∀ a xs, H a = some (.tup xs) → a ∉ ρ := fun a xs e m => by
  obtain ⟨n, o, _, _, r⟩ := s.mem m
  exact r.notup xs e
theorem Sim.there (s : Sim mg Tb ρ S H) {a : Addr} (h : a ∈ ρ) : H a ≠ none := by
  obtain ⟨n, o, _, _, r⟩ := s.mem h
  exact r.some
theorem Sim.rep (s : Sim mg Tb ρ S H) (g : Grow ρ H ρ' H') {v : V} {d : D} (r : Rep mg ρ H v d) : Rep mg ρ' H' v d := r.keep g.pre fun a xs e => g.tup s.notup e
theorem Sim.reps (s : Sim mg Tb ρ S H) (g : Grow ρ H ρ' H') {v : List V} {d : List D} (r : Reps mg ρ H v d) : Reps mg ρ' H' v d := r.keep g.pre fun a xs e => g.tup s.notup e
/-- the values of a def's names -/
structure EnvR (mg : Str → Option Value) (ρ : List Addr) (H : Hp) (Γ : Gm) (σ : L2.St) : Prop where
  len : Γ.length = σ.length
  at_ : ∀ (i : Nat) (d : D), Γ[i]? = some (some d) → ∃ v, σ[i]? = some (some v) ∧ Rep mg ρ H v d
theorem Sim.env (s : Sim mg Tb ρ S H) (g : Grow ρ H ρ' H') {Γ : Gm} {σ : L2.St} (e : EnvR mg ρ H Γ σ) : EnvR mg ρ' H' Γ σ := ⟨e.len, fun i d h => by
  obtain ⟨v, h1, h2⟩ := e.at_ i d h
  exact ⟨v, h1, s.rep g h2⟩⟩
theorem EnvR.set {Γ : Gm} {σ : L2.St} {v : V} {d : D} (e : EnvR mg ρ H Γ σ) (i : Nat) (r : Rep mg ρ H v d) : EnvR mg ρ H (Γ.set i (some d)) (σ.set i (some v)) := ⟨by rw [List.length_set, List.length_set, e.len], fun j d' h => by
  by_cases hj : i = j
  · subst hj
    rw [List.getElem?_set] at h
    simp only [if_true] at h
    split at h
    · rename_i hl
      cases h
      exact ⟨v, by rw [List.getElem?_set_self (by rw [← e.len]; exact hl)], r⟩
    · cases h
  · rw [List.getElem?_set_ne hj] at h
    obtain ⟨v', h1, h2⟩ := e.at_ j d' h
    exact ⟨v', by rw [List.getElem?_set_ne hj]; exact h1, h2⟩⟩
theorem EnvR.unset {Γ : Gm} {σ : L2.St} (e : EnvR mg ρ H Γ σ) (i : Nat) (x : Option V) : EnvR mg ρ H (Γ.set i none) (σ.set i x) := ⟨by rw [List.length_set, List.length_set, e.len], fun j d' h => by
  by_cases hj : i = j
  · subst hj
    rw [List.getElem?_set] at h
    simp only [if_true] at h
    split at h <;> cases h
  · rw [List.getElem?_set_ne hj] at h
    obtain ⟨v', h1, h2⟩ := e.at_ j d' h
    exact ⟨v', by rw [List.getElem?_set_ne hj]; exact h1, h2⟩⟩
def wipeD (Γ : Gm) (vs : List Nat) : Gm := vs.foldl (fun Γ i => Γ.set i none) Γ
/-- a new object gets the next number -/
theorem Sim.push (s : Sim mg Tb ρ S H) {a : Addr} {o : Ob} (hn : a ∉ ρ) (ho : ObR mg ρ H a o) : Sim mg Tb (ρ ++ [a]) (S ++ [o]) H := by
  have pre : ρ <+: ρ ++ [a] := List.prefix_append _ _
  have kp : ∀ {b : Addr} {q : Ob}, ObR mg ρ H b q → ObR mg (ρ ++ [a]) H b q := fun {b q} r => by
    cases r with
    | lst h r => exact .lst h (r.keep pre fun _ _ e => e)
    | ro h r => exact .ro h (r.keep pre fun _ _ e => e)
    | dct h k r => exact .dct h k (r.keep pre fun _ _ e => e)
    | ins h c k r => exact .ins h c k (r.keep pre fun _ _ e => e)
  refine ⟨by simp [s.len], ?_, fun n q e => ?_, s.tb⟩
  · rw [List.nodup_append]
    refine ⟨s.nd, by simp, fun x hx y hy => ?_⟩
    cases List.mem_singleton.mp hy
    exact fun z => hn (z ▸ hx)
  · by_cases hl : n < S.length
    · rw [List.getElem?_append_left hl] at e
      obtain ⟨b, h1, h2⟩ := s.ob n q e
      exact ⟨b, pre_get pre h1, kp h2⟩
    · rw [List.getElem?_append_right (by omega)] at e
      have : n = S.length := by
        have := (List.getElem?_eq_some_iff.mp e).1
        simp at this
        omega
      subst this
      simp at e
      subst e
      exact ⟨a, by rw [← s.len]; simp, kp ho⟩
/-- the heap is another one, all numbered objects as they were -/
theorem Sim.move (s : Sim mg Tb ρ S H) (h : ∀ a ∈ ρ, H' a = H a) (tu : ∀ a xs, H a = some (.tup xs) → H' a = some (.tup xs)) (tb : ∀ P, GxR.TabG H P → GxR.TabG H' P) : Sim mg Tb ρ S H' := by
  refine ⟨s.len, s.nd, fun n o e => ?_, fun P hP => tb P (s.tb P hP)⟩
  obtain ⟨a, h1, h2⟩ := s.ob n o e
  have ha := h a (List.mem_of_getElem? h1)
  refine ⟨a, h1, ?_⟩
  cases h2 with
  | lst h r => exact .lst (ha.trans h) (r.keep (List.prefix_refl _) tu)
  | ro h r => exact .ro (ha.trans h) (r.keep (List.prefix_refl _) tu)
  | dct h k r => exact .dct (ha.trans h) k (r.keep (List.prefix_refl _) tu)
  | ins h c k r => exact .ins (ha.trans h) c k (r.keep (List.prefix_refl _) tu)
theorem Sim.fresh (s : Sim mg Tb ρ S H) {p : Addr} (h : H p = none) : p ∉ ρ := fun m => s.there m h
/-- something is laid that has no number -/
theorem Sim.lay (s : Sim mg Tb ρ S H) {p : Addr} {o : HO} (h : H p = none) : Sim mg Tb ρ S (upd H p o) :=
  s.move (fun a m => upd_ne fun z => s.fresh h (z ▸ m)) (fun a xs e => (Ext.new h).get e rfl) fun P t => (Ext.new h).tab t
theorem grow_lay {p : Addr} {o : HO} (h : H p = none) : Grow ρ H ρ (upd H p o) := Grow.ext (Ext.new h)
theorem grow_push (s : Sim mg Tb ρ S H) {p : Addr} {o : HO} (h : H p = none) : Grow ρ H (ρ ++ [p]) (upd H p o) :=
  ⟨List.prefix_append _ _, fun e _ t => (Ext.new h).get e t, fun t => (Ext.new h).tab t, fun {a} m n => by
    rcases List.mem_append.mp m with m | m
    · exact absurd m n
    · cases List.mem_singleton.mp m
      exact h, (Ext.new h).free⟩
/-- the object with the number n is another one -/
theorem Sim.write (s : Sim mg Tb ρ S H) {n : Nat} {a : Addr} {u : HO} {o : Ob} (hn : ρ[n]? = some a) (nt : NT u = true) (ho : ∀ H', H' a = some u → (∀ b xs, H b = some (.tup xs) → H' b = some (.tup xs)) → ObR mg ρ H' a o) : Sim mg Tb ρ (S.set n o) (upd H a u) ∧ Grow ρ H ρ (upd H a u) := by
  have hl : n < S.length := by
    rw [← s.len]
    exact (List.getElem?_eq_some_iff.mp hn).1
  obtain ⟨o', _, r'⟩ := s.at_ hn
  have ma : a ∈ ρ := List.mem_of_getElem? hn
  have tu : ∀ b xs, H b = some (.tup xs) → upd H a u b = some (.tup xs) := fun b xs e => by
    have nb : b ≠ a := fun z => s.notup b xs e (by rw [z]; exact ma)
    rw [upd_ne nb]
    exact e
  have tb : ∀ P, GxR.TabG H P → GxR.TabG (upd H a u) P := fun P ⟨ps, e, t⟩ => ⟨ps, by
    have nb : P ≠ a := fun z => r'.nt ps (by rw [← z]; exact e)
    rw [upd_ne nb]
    exact e, t⟩
  refine ⟨⟨by simp [s.len], s.nd, fun m q e => ?_, fun P hP => tb P (s.tb P hP)⟩, List.prefix_refl _, fun {b q} e nb _ => by
    have nb2 : b ≠ a := fun z => nb (by rw [z]; exact ma)
    rw [upd_ne nb2]; exact e, fun {P} t => tb P t, fun h k => absurd h k, fun {p} e => ?_⟩
  · by_cases hm : n = m
    · subst hm
      rw [List.getElem?_set_self hl] at e
      cases e
      exact ⟨a, hn, ho _ upd_same tu⟩
    · rw [List.getElem?_set_ne hm] at e
      obtain ⟨b, h1, h2⟩ := s.ob m q e
      have nb : b ≠ a := fun z => by
        subst z
        have i1 := List.getElem?_eq_some_iff.mp hn
        have i2 := List.getElem?_eq_some_iff.mp h1
        exact hm ((List.getElem_inj s.nd).mp (i1.2.trans i2.2.symm))
      refine ⟨b, h1, ?_⟩
      cases h2 with
      | lst h r => exact .lst (by rw [upd_ne nb]; exact h) (r.keep (List.prefix_refl _) tu)
      | ro h r => exact .ro (by rw [upd_ne nb]; exact h) (r.keep (List.prefix_refl _) tu)
      | dct h k r => exact .dct (by rw [upd_ne nb]; exact h) k (r.keep (List.prefix_refl _) tu)
      | ins h c k r => exact .ins (by rw [upd_ne nb]; exact h) c k (r.keep (List.prefix_refl _) tu)
  · by_cases hp : p = a
    · subst hp; rw [upd_same] at e; cases e
    · rw [upd_ne hp] at e; exact e
end

/-! ### what is asked of a context -/
structure Gc where
  P : Program
  w : World
  K : PySem.W.Frag
  mg : Str → Option Value
  base : Heap
  Tb : List Addr
  k : Nat
  call : Calls
  /-- the def's code object, where it is told -/
  ucd : Bool
  cd : Value
/-- within a def's body (top) or a comprehension's block; not within an except suite (calm) -/
structure Md where
  calm : Bool
  top : Bool
structure Cz (G : Gc) (N : List Str) (cm : Md) (sc : Scope) (X : Cx) (W : WX) : Prop where
  hprog : X.prog = G.P
  hw : X.w = G.w
  hK : X.K = G.K
  hmg : X.mg = G.mg
  hbase : X.base = G.base
  hN : X.N = N
  nd : N.Nodup
  hsc : X.env.scope = sc
  tk : Takes X W
  calm : X.calm = cm.calm
  hfn : cm.top = true → ∀ x, X.fn x = true
  kind : X.env.scope.kind = .function
  room : cm.calm = true → Room (2 * G.k + 1) X.A
  units : X.A.units + 64 < cLine
  hcd : G.ucd = true → X.env.code = G.cd
  pass : PassesOwn (model X.prog X.w) X.A X.env X.xe

/-- the end of an expression -/
def Fin (G : Gc) {α β : Type} (rel : List Addr → Hp → β → α → Prop) (W : WX) (σ : L2.St) (Q : β → Hp → Prop) (ρ : List Addr) (H : Hp) : R α → Prop
  | .ok d S => ∀ ρ' H' v, Grow ρ H ρ' H' → Sim G.mg G.Tb ρ' S H' → rel ρ' H' v d → Q v H'
  | .exc c S => ∀ ρ' H' C, Grow ρ H ρ' H' → Sim G.mg G.Tb ρ' S H' → G.mg c = some (.ref C) → W (.ref C) none σ H'
  | .stuck => False
def tG (G : Gc) {α β : Type} (rel : List Addr → Hp → β → α → Prop) (W : WX) (m : CM α) (σ : L2.St) (H : Hp) (Q : β → Hp → Prop) : Prop :=
  ∃ ρ Γ S, Sim G.mg G.Tb ρ S H ∧ EnvR G.mg ρ H Γ σ ∧ Fin G rel W σ Q ρ H (m Γ S)
abbrev rE (G : Gc) (ρ : List Addr) (H : Hp) (v : V) (d : D) : Prop := Rep G.mg ρ H v d
abbrev rA (G : Gc) (ρ : List Addr) (H : Hp) (v : List V) (d : List D) : Prop := Reps G.mg ρ H v d
abbrev rT (_ : List Addr) (_ : Hp) (b d : Bool) : Prop := b = d
abbrev tE (G : Gc) (W : WX) (m : CE) : TE := tG G (rE G) W m
abbrev tA (G : Gc) (W : WX) (m : CA) : TA := tG G (rA G) W m
abbrev tT (G : Gc) (W : WX) (m : CT) : TT := tG G rT W m
section
variable {G : Gc} {α β γ δ : Type} {relA : List Addr → Hp → β → α → Prop} {relC : List Addr → Hp → δ → γ → Prop} {W : WX} {σ : L2.St} {Q : δ → Hp → Prop} {ρ ρ' : List Addr} {H H' : Hp}
theorem Fin.grow {r : R γ} (g : Grow ρ H ρ' H') (f : Fin G relC W σ Q ρ H r) : Fin G relC W σ Q ρ' H' r := by
  cases r with
  | ok d S => exact fun ρ2 H2 v g2 s r => f ρ2 H2 v (g.trans g2) s r
  | exc c S => exact fun ρ2 H2 C g2 s r => f ρ2 H2 C (g.trans g2) s r
  | stuck => exact f
theorem Fin.here {d : γ} {S : Hd} {v : δ} (f : Fin G relC W σ Q ρ H (.ok d S)) (s : Sim G.mg G.Tb ρ S H) (r : relC ρ H v d) : Q v H := f ρ H v (Grow.refl _ _) s r
theorem Fin.out {r : R α} {f : α → Hd → R γ} {k : β → Hp → Prop} (g : Fin G relC W σ Q ρ H (r.bind f))
    (h : ∀ a S1 ρ1 H1 x, Grow ρ H ρ1 H1 → Sim G.mg G.Tb ρ1 S1 H1 → relA ρ1 H1 x a → Fin G relC W σ Q ρ1 H1 (f a S1) → k x H1) : Fin G relA W σ k ρ H r := by
  cases r with
  | ok a S1 => exact fun ρ1 H1 x g1 s1 r => h a S1 ρ1 H1 x g1 s1 r (Fin.grow g1 g)
  | exc c S1 => exact g
  | stuck => exact g
/-- one thing, then another -/
theorem Fin.step {m : CM α} {f : α → Hd → R γ} {Γ : Gm} {S : Hd} {k : β → Hp → Prop} (s : Sim G.mg G.Tb ρ S H) (e : EnvR G.mg ρ H Γ σ) (g : Fin G relC W σ Q ρ H ((m Γ S).bind f))
    (h : ∀ a S1 ρ1 H1 x, Grow ρ H ρ1 H1 → Sim G.mg G.Tb ρ1 S1 H1 → EnvR G.mg ρ1 H1 Γ σ → relA ρ1 H1 x a → Fin G relC W σ Q ρ1 H1 (f a S1) → k x H1) : tG G relA W m σ H k := by
  refine ⟨ρ, Γ, S, s, e, ?_⟩
  cases hm : m Γ S with
  | ok a S1 =>
    rw [hm] at g
    exact fun ρ1 H1 x g1 s1 r => h a S1 ρ1 H1 x g1 s1 (s.env g1 e) r (Fin.grow g1 g)
  | exc c S1 =>
    rw [hm] at g
    exact g
  | stuck =>
    rw [hm] at g
    exact g
end

/-! ### the judgements -/
/-- e means m -/
def RE (G : Gc) (N : List Str) (cm : Md) (sc : Scope) (e : Expr) (m : CE) : Prop := ∀ X W, Cz G N cm sc X W → PE X e (tE G W m)
def RT (G : Gc) (N : List Str) (cm : Md) (sc : Scope) (e : Expr) (m : CT) : Prop := ∀ X W, Cz G N cm sc X W → PT X e (tT G W m)
def RW (G : Gc) (N : List Str) (cm : Md) (sc : Scope) (e : Expr) (m : CT) : Prop := ∀ X W, Cz G N cm sc X W → PW X e (tT G W m)
def RA (G : Gc) (N : List Str) (cm : Md) (sc : Scope) (es : List Expr) (m : CA) : Prop := ∀ X W, Cz G N cm sc X W → PA X es (tA G W m)
/-- the end of a statement -/
def FinS (G : Gc) (W : WX) (Dn : Ends) (ρ : List Addr) (H : Hp) : RS → Prop
  | .nx Γ S => ∀ ρ' H' σ', Grow ρ H ρ' H' → Sim G.mg G.Tb ρ' S H' → EnvR G.mg ρ' H' Γ σ' → Dn.nx σ' H'
  | .bk Γ S => ∀ ρ' H' σ', Grow ρ H ρ' H' → Sim G.mg G.Tb ρ' S H' → EnvR G.mg ρ' H' Γ σ' → Dn.bk σ' H'
  | .ct Γ S => ∀ ρ' H' σ', Grow ρ H ρ' H' → Sim G.mg G.Tb ρ' S H' → EnvR G.mg ρ' H' Γ σ' → Dn.ct σ' H'
  | .rt d S => ∀ ρ' H' v, Grow ρ H ρ' H' → Sim G.mg G.Tb ρ' S H' → Rep G.mg ρ' H' v d → Dn.rt v H'
  | .exc c Γ S => ∀ ρ' H' σ' C, Grow ρ H ρ' H' → Sim G.mg G.Tb ρ' S H' → EnvR G.mg ρ' H' Γ σ' → G.mg c = some (.ref C) → W (.ref C) none σ' H'
  | .stuck => False
def tS (G : Gc) (W : WX) (m : CS) : TS := fun Dn σ H => ∃ ρ Γ S, Sim G.mg G.Tb ρ S H ∧ EnvR G.mg ρ H Γ σ ∧ FinS G W Dn ρ H (m Γ S)
def RSt (G : Gc) (N : List Str) (cm : Md) (sc : Scope) (st : Stmt) (m : CS) : Prop := ∀ X W, Cz G N cm sc X W → PS X st (tS G W m)
def RSs (G : Gc) (N : List Str) (cm : Md) (sc : Scope) (st : List Stmt) (m : CS) : Prop := ∀ X W, Cz G N cm sc X W → PSs X st (tS G W m)
section
variable {G : Gc} {W : WX} {Dn : Ends} {ρ ρ' : List Addr} {H H' : Hp} {σ : L2.St} {α β : Type} {relA : List Addr → Hp → β → α → Prop}
theorem FinS.grow {r : RS} (g : Grow ρ H ρ' H') (f : FinS G W Dn ρ H r) : FinS G W Dn ρ' H' r := by
  cases r with
  | nx Γ S => exact fun ρ2 H2 v g2 s r => f ρ2 H2 v (g.trans g2) s r
  | bk Γ S => exact fun ρ2 H2 v g2 s r => f ρ2 H2 v (g.trans g2) s r
  | ct Γ S => exact fun ρ2 H2 v g2 s r => f ρ2 H2 v (g.trans g2) s r
  | rt d S => exact fun ρ2 H2 v g2 s r => f ρ2 H2 v (g.trans g2) s r
  | exc c Γ S => exact fun ρ2 H2 v C g2 s r => f ρ2 H2 v C (g.trans g2) s r
  | stuck => exact f
/-- an expression ahead of what a statement does -/
theorem FinS.step {m : CM α} {f : α → Hd → RS} {Γ : Gm} {S : Hd} {k : β → Hp → Prop} (s : Sim G.mg G.Tb ρ S H) (e : EnvR G.mg ρ H Γ σ) (g : FinS G W Dn ρ H ((m Γ S).bindS Γ f))
    (h : ∀ a S1 ρ1 H1 x, Grow ρ H ρ1 H1 → Sim G.mg G.Tb ρ1 S1 H1 → EnvR G.mg ρ1 H1 Γ σ → relA ρ1 H1 x a → FinS G W Dn ρ1 H1 (f a S1) → k x H1) : tG G relA W m σ H k := by
  refine ⟨ρ, Γ, S, s, e, ?_⟩
  cases hm : m Γ S with
  | ok a S1 =>
    rw [hm] at g
    exact fun ρ1 H1 x g1 s1 r => h a S1 ρ1 H1 x g1 s1 (s.env g1 e) r (FinS.grow g1 g)
  | exc c S1 =>
    rw [hm] at g
    exact fun ρ1 H1 C g1 s1 hc => g ρ1 H1 σ C g1 s1 (s.env g1 e) hc
  | stuck =>
    rw [hm] at g
    exact g
end
end Dn

set_option Elab.async false
set_option linter.all false
set_option maxRecDepth 100000
set_option maxHeartbeats 4000000
set_option autoImplicit false
/-! # Expressions -/
namespace Dn
open PySem PySem.Spec PyProof.Rows L2 Kx

def visB (sc : Scope) (x : Str) : Bool := match sc.names.lookup x with
  | some .local => true
  | some .cell => true
  | some .free => true
  | _ => false
theorem vis_of {sc : Scope} {x : Str} (h : visB sc x = true) : Vis sc x := by
  unfold visB at h
  unfold Vis
  split at h <;> simp_all
def glB (sc : Scope) (x : Str) : Bool := decide (sc.names.lookup x = some .globalImplicit) && !(x == ("__debug__" : Str)) && !(x == ("__name__" : Str))
def alloc (o : Ob) (S : Hd) : R D := .ok (.ref S.length) (S ++ [o])
/-- a list, by its number -/
def lstAt (S : Hd) (n : Nat) : Option (List D) := match S[n]? with
  | some (.lst xs) => some xs
  | some (.ro xs) => some xs
  | _ => none
def seqAt (S : Hd) : D → Option (List D)
  | .ref n => lstAt S n
  | .tup xs => some xs
  | _ => none

section
variable {G : Gc} {N : List Str} {cm : Md} {sc : Scope} {pos p : Pos} {ρ : List Addr} {S : Hd} {H : Hp}
theorem Sim.ltAt (s : Sim G.mg G.Tb ρ S H) {n : Nat} {a : Addr} {xs : List D} (hn : ρ[n]? = some a) (h : S[n]? = some (.lst xs)) : ∃ vs, H a = some (.lst vs) ∧ Reps G.mg ρ H vs xs := by
  obtain ⟨b, e, r⟩ := s.ob n _ h
  rw [hn] at e; cases e
  cases r with
  | lst h r => exact ⟨_, h, r⟩
theorem Sim.dcAt (s : Sim G.mg G.Tb ρ S H) {n : Nat} {a : Addr} {xs : List (Key × D)} (hn : ρ[n]? = some a) (h : S[n]? = some (.dct xs)) : ∃ vs, H a = some (.dK vs) ∧ vs.map (·.1) = xs.map (·.1) ∧ Reps G.mg ρ H (vs.map (·.2)) (xs.map (·.2)) := by
  obtain ⟨b, e, r⟩ := s.ob n _ h
  rw [hn] at e; cases e
  cases r with
  | dct h k r => exact ⟨_, h, k, r⟩
theorem Sim.inAt (s : Sim G.mg G.Tb ρ S H) {n : Nat} {a : Addr} {C : Str} {xs : List (Str × D)} (hn : ρ[n]? = some a) (h : S[n]? = some (.ins C xs)) : ∃ c dx vs, G.mg C = some (.ref c) ∧ H a = some (.ins c dx vs) ∧ vs.map (·.1) = xs.map (·.1) ∧ Reps G.mg ρ H (vs.map (·.2)) (xs.map (·.2)) := by
  obtain ⟨b, e, r⟩ := s.ob n _ h
  rw [hn] at e; cases e
  cases r with
  | ins h c k r => exact ⟨_, _, _, c, h, k, r⟩
theorem Sim.lsAt (s : Sim G.mg G.Tb ρ S H) {n : Nat} {a : Addr} {xs : List D} (hn : ρ[n]? = some a) (h : lstAt S n = some xs) : ∃ vs, SqL G.K H a vs ∧ Reps G.mg ρ H vs xs := by
  unfold lstAt at h
  cases e : S[n]? with
  | none => rw [e] at h; cases h
  | some o =>
    rw [e] at h
    obtain ⟨b, e1, r⟩ := s.ob n _ e
    rw [hn] at e1; cases e1
    cases r with
    | lst h1 r => cases h; exact ⟨_, SqL.of h1, r⟩
    | ro h1 r => cases h; exact ⟨_, .inl (.inr ⟨_, h1⟩), r⟩
    | dct h1 _ r => cases h
    | ins h1 _ _ r => cases h
theorem Sim.sqAt (s : Sim G.mg G.Tb ρ S H) {v : V} {d : D} {xs : List D} (r : Rep G.mg ρ H v d) (h : seqAt S d = some xs) : ∃ a vs, v = .ref a ∧ (SqL G.K H a vs ∨ SqT G.K H a vs) ∧ Reps G.mg ρ H vs xs := by
  cases r with
  | ref hn =>
    obtain ⟨vs, h1, h2⟩ := s.lsAt hn h
    exact ⟨_, vs, rfl, .inl h1, h2⟩
  | tup h1 h2 =>
    cases h
    exact ⟨_, _, rfl, .inr (SqT.of h1), h2⟩
  | _ => cases h
/-! ### names, constants -/
def cVar (i : Nat) : CE := fun Γ S => match Γ[i]? with
  | some (some d) => .ok d S
  | _ => .stuck
def cC (d : D) : CE := fun _ S => .ok d S
theorem re_var {i : Nat} {x : Str} (hN : N[i]? = some x) (hv : visB sc x = true) (hd : ((x == ("__debug__" : Str)) || (x == ("__classdict__" : Str))) = false := by decide) : RE G N cm sc (.Name x pos) (cVar i) := fun X W c => by
  have h2 := Bool.or_eq_false_iff.mp hd
  refine PE.imp (pe_var (i := i) (by rw [c.hN]; exact hN) (by rw [c.hsc]; exact vis_of hv) h2.1 h2.2) fun σ H Q h => ?_
  obtain ⟨ρ, Γ, S, s, e, f⟩ := h
  unfold cVar at f
  cases hΓ : Γ[i]? with
  | none => rw [hΓ] at f; exact f.elim
  | some o => cases o with
    | none => rw [hΓ] at f; exact f.elim
    | some d =>
      rw [hΓ] at f
      obtain ⟨v, h1, h2⟩ := e.at_ i d hΓ
      exact ⟨v, h1, f.here s h2⟩
theorem re_c {e : Expr} {v : V} {d : D} (h : ∀ X, X.mg = G.mg → X.env.scope = sc → PE X e (tC v)) (r : ∀ ρ H, Rep G.mg ρ H v d) : RE G N cm sc e (cC d) := fun X W c => by
  refine PE.imp (h X c.hmg c.hsc) fun σ H Q h => ?_
  obtain ⟨ρ, Γ, S, s, e, f⟩ := h
  exact f.here s (r ρ H)
theorem re_int {i : Int} {j : Nat} : RE G N cm sc (.Constant (.int i) j pos) (cC (.int i)) := re_c (fun _ _ _ => pe_int) fun _ _ => .int i
theorem re_bl {i : Bool} {j : Nat} : RE G N cm sc (.Constant (.bool i) j pos) (cC (.bl i)) := re_c (fun _ _ _ => pe_bl) fun _ _ => .bl i
theorem re_non {j : Nat} : RE G N cm sc (.Constant .none j pos) (cC .non) := re_c (fun _ _ _ => pe_non) fun _ _ => .non
theorem re_str {x : Str} {l : List Nat} {j : Nat} (h : x.cps.toList = l) : RE G N cm sc (.Constant (.str x) j pos) (cC (.str l)) := re_c (fun _ _ _ => pe_str) fun _ _ => .str h
/-- a def as a value -/
theorem re_fn {x : Str} (hm : ∃ a, G.mg x = some (.ref a)) (hg : glB sc x = true) : RE G N cm sc (.Name x pos) (cC (.fn x)) := by
  obtain ⟨a, hm⟩ := hm
  unfold glB at hg
  simp only [Bool.and_eq_true, decide_eq_true_eq, Bool.not_eq_true'] at hg
  exact re_c (fun X h1 h2 => pe_glob (v := .ref a) (by unfold Gl Env.kindOf; rw [h2]; exact hg.1.1) (by rw [h1]; exact hm) rfl hg.1.2) fun _ _ => .fn hm
/-- a module's number -/
theorem re_gi {x : Str} {i : Int} (hm : ∃ t, G.mg x = some (.int i t)) (hg : glB sc x = true) : RE G N cm sc (.Name x pos) (cC (.int i)) := by
  obtain ⟨a, hm⟩ := hm
  unfold glB at hg
  simp only [Bool.and_eq_true, decide_eq_true_eq, Bool.not_eq_true'] at hg
  exact re_c (fun X h1 h2 => pe_glob (v := .int i) (by unfold Gl Env.kindOf; rw [h2]; exact hg.1.1) (by rw [h1]; exact hm) ⟨a, rfl⟩ hg.1.2) fun _ _ => .int i
/-- a built-in class -/
theorem re_ty {x : Str} {n : String} (hm : G.mg x = none) (hv : bootBuiltins x = some (.type n)) (hg : glB sc x = true) : RE G N cm sc (.Name x pos) (cC (.ty n)) := by
  unfold glB at hg
  simp only [Bool.and_eq_true, decide_eq_true_eq, Bool.not_eq_true'] at hg
  exact re_c (fun X h1 h2 => pe_bltn (v := .ty n) (by unfold Gl Env.kindOf; rw [h2]; exact hg.1.1) (by rw [h1]; exact hm) hv rfl (by simpa using hg.2) hg.1.2) fun _ _ => .ty n

/-! ### operators -/
def cOp1 (f : D → Hd → R D) (a : CE) : CE := fun Γ S => (a Γ S).bind f
def cOp2 (f : D → D → Hd → R D) (a b : CE) : CE := fun Γ S => (a Γ S).bind fun x S1 => (b Γ S1).bind fun y S2 => f x y S2
/-- an operator by values -/
def OpA (G : Gc) (r : R2) (f : D → D → Hd → R D) : Prop := ∀ ρ S H x y a b W σ Q, Sim G.mg G.Tb ρ S H → Rep G.mg ρ H x a → Rep G.mg ρ H y b → Fin G (rE G) W σ Q ρ H (f a b S) → r x y H Q
def OpA1 (G : Gc) (r : V → Hp → VK → Prop) (f : D → Hd → R D) : Prop := ∀ ρ S H x a W σ Q, Sim G.mg G.Tb ρ S H → Rep G.mg ρ H x a → Fin G (rE G) W σ Q ρ H (f a S) → r x H Q
theorem two_i {r : R2} {f : D → D → Hd → R D} (h : OpA G r f) {W : WX} {ma mb : CE} {σ : L2.St} {H : Hp} {Q : VK} (h0 : tE G W (cOp2 f ma mb) σ H Q) : tOp r (tE G W ma) (tE G W mb) σ H Q := by
  obtain ⟨ρ, Γ, S, s, e, g⟩ := h0
  refine Fin.step s e g fun a S1 ρ1 H1 x g1 s1 e1 ra ga => ?_
  refine Fin.step s1 e1 ga fun b S2 ρ2 H2 y g2 s2 e2 rb gb => ?_
  exact h _ _ _ _ _ _ _ _ _ _ s2 (s1.rep g2 ra) rb gb
theorem two {r : R2} {f : D → D → Hd → R D} (h : OpA G r f) {X : Cx} {W : WX} {e : Expr} {ma mb : CE} (he : PE X e (tOp r (tE G W ma) (tE G W mb))) : PE X e (tE G W (cOp2 f ma mb)) := PE.imp he fun σ H Q h0 => two_i h h0
theorem one {r : V → Hp → VK → Prop} {f : D → Hd → R D} (h : OpA1 G r f) {X : Cx} {W : WX} {e : Expr} {ma : CE} (he : PE X e (tUn r (tE G W ma))) : PE X e (tE G W (cOp1 f ma)) := by
  refine PE.imp he fun σ H Q h0 => ?_
  obtain ⟨ρ, Γ, S, s, e, g⟩ := h0
  refine Fin.step s e g fun a S1 ρ1 H1 x g1 s1 e1 ra ga => ?_
  exact h _ _ _ _ _ _ _ _ s1 ra ga
theorem re_bin {op : Operator} {r : Cx → R2} {f : D → D → Hd → R D} {e1 e2 : Expr} {m1 m2 : CE} (ho : ∀ X W, Cz G N cm sc X W → OpR X (binaryOp op) (r X) ∧ OpA G (r X) f) (h1 : RE G N cm sc e1 m1) (h2 : RE G N cm sc e2 m2) : RE G N cm sc (.BinOp e1 op e2 pos) (cOp2 f m1 m2) := fun X W c =>
  two (ho X W c).2 (pe_op (ho X W c).1 (h1 X W c) (h2 X W c))
theorem OpA.or {r r' : R2} {f f' : D → D → Hd → R D} {pd : D → D → Bool} (h : OpA G r f) (h' : OpA G r' f') : OpA G (fun x y H Q => r x y H Q ∨ r' x y H Q) (fun a b S => if pd a b then f a b S else f' a b S) := fun ρ S H x y a b W σ Q s ra rb g => by
  cases hp : pd a b with
  | true => exact .inl (h ρ S H x y a b W σ Q s ra rb (by simpa [hp] using g))
  | false => exact .inr (h' ρ S H x y a b W σ Q s ra rb (by simpa [hp] using g))

/-- a new list, tuple: what the layer's rule asks -/
theorem Fin.newL {W : WX} {σ : L2.St} {Q : VK} {ds : List D} {vs : List V} (s : Sim G.mg G.Tb ρ S H) (r : Reps G.mg ρ H vs ds) (f : Fin G (rE G) W σ Q ρ H (alloc (.lst ds) S)) : New H (.lst vs) fun p H' => Q (.ref p) H' := fun p H' hp hq he => by
  have hn := s.fresh hp
  have g : Grow ρ H (ρ ++ [p]) H' := ⟨List.prefix_append _ _, fun e _ t => he.get e t, he.tab, fun {a} m n => by
    rcases List.mem_append.mp m with m | m
    · exact absurd m n
    · cases List.mem_singleton.mp m
      exact hp, he.free⟩
  have s' : Sim G.mg G.Tb ρ S H' := by
    refine ⟨s.len, s.nd, fun n o e => ?_, fun P hP => he.tab (s.tb P hP)⟩
    obtain ⟨a, h1, h2⟩ := s.ob n o e
    have tu : ∀ a xs, H a = some (.tup xs) → H' a = some (.tup xs) := fun a xs e => he.get e rfl
    refine ⟨a, h1, ?_⟩
    cases h2 with
    | lst h r => exact .lst (he.get h rfl) (r.keep (List.prefix_refl _) tu)
    | ro h r => exact .ro (he.get h rfl) (r.keep (List.prefix_refl _) tu)
    | dct h k r => exact .dct (he.get h rfl) k (r.keep (List.prefix_refl _) tu)
    | ins h c k r => exact .ins (he.get h rfl) c k (r.keep (List.prefix_refl _) tu)
  refine f (ρ ++ [p]) H' (.ref p) g (s'.push hn (.lst hq (r.keep (List.prefix_refl _) fun a xs e => he.get e rfl))) (.ref ?_)
  rw [← s.len]
  simp
theorem Sim.ext (s : Sim G.mg G.Tb ρ S H) {H' : Hp} (he : Ext H H') : Sim G.mg G.Tb ρ S H' := by
  refine ⟨s.len, s.nd, fun n o e => ?_, fun P hP => he.tab (s.tb P hP)⟩
  obtain ⟨a, h1, h2⟩ := s.ob n o e
  have tu : ∀ a xs, H a = some (.tup xs) → H' a = some (.tup xs) := fun a xs e => he.get e rfl
  refine ⟨a, h1, ?_⟩
  cases h2 with
  | lst h r => exact .lst (he.get h rfl) (r.keep (List.prefix_refl _) tu)
  | ro h r => exact .ro (he.get h rfl) (r.keep (List.prefix_refl _) tu)
  | dct h k r => exact .dct (he.get h rfl) k (r.keep (List.prefix_refl _) tu)
  | ins h c k r => exact .ins (he.get h rfl) c k (r.keep (List.prefix_refl _) tu)
theorem Fin.newT {W : WX} {σ : L2.St} {Q : VK} {ds : List D} {vs : List V} (s : Sim G.mg G.Tb ρ S H) (r : Reps G.mg ρ H vs ds) (f : Fin G (rE G) W σ Q ρ H (.ok (.tup ds) S)) : New H (.tup vs) fun p H' => Q (.ref p) H' := fun p H' hp hq he =>
  f ρ H' (.ref p) (Grow.ext he) (s.ext he) (.tup hq (r.keep (List.prefix_refl _) fun a xs e => he.get e rfl))
theorem New.of {o : HO} {Q : Addr → Hp → Prop} (h : New H o Q) : ∀ p, H p = none → Q p (upd H p o) := h.use

def dL (z : Str) : List Nat := z.cps.toList
theorem len_dL (z : Str) : z.length = (dL z).length := by simp [dL, Str.length]
theorem ap_dL (a b : Str) : (a ++ b).cps.toList = a.cps.toList ++ b.cps.toList := cs_append a b
/-- + -/
def addD : D → D → Hd → R D
  | .int i, .int j, S => .ok (.int (i + j)) S
  | .str a, .str b, S => if a.length + b.length ≤ 16777216 then .ok (.str (a ++ b)) S else .stuck
  | .ref n, .ref m, S => match S[n]?, S[m]? with
    | some (.lst xs), some (.lst ys) => if xs.length + ys.length ≤ 16777216 then alloc (.lst (xs ++ ys)) S else .stuck
    | _, _ => .stuck
  | .tup xs, .tup ys, S => if xs.isEmpty then .stuck else if xs.length + ys.length ≤ 16777216 then .ok (.tup (xs ++ ys)) S else .stuck
  | _, _, _ => .stuck
end
end Dn

set_option Elab.async false
set_option linter.all false
set_option maxRecDepth 100000
set_option maxHeartbeats 4000000
set_option autoImplicit false
/-! # Operators, comparisons, tests -/
namespace Dn
open PySem PySem.Spec PyProof.Rows L2 Kx
section
variable {G : Gc} {N : List Str} {cm : Md} {sc : Scope} {pos p : Pos} {ρ : List Addr} {S : Hd} {H : Hp}
theorem sz : (sizeLine : Nat) = 16777216 := sizeLine_eq
theorem opA_add : OpA G (fun x y H Q => rAddM x y H Q ∨ rCatT G.K x y H Q) addD := by
  intro ρ S H x y a b W σ Q s ra rb g
  cases ra with
  | int i => cases rb with
    | int j => exact .inl (g.here s (.int _))
    | _ => exact g.elim
  | str h => cases rb with
    | str h' =>
      rename_i z l z' l'
      dsimp only [addD] at g
      split at g
      · rename_i hl
        refine .inl ⟨by rw [len_dL, len_dL, sz, dL, dL, h, h']; exact hl, g.here s (.str ?_)⟩
        rw [ap_dL, h, h']
      · exact g.elim
    | _ => exact g.elim
  | ref hn => cases rb with
    | ref hm =>
      rename_i a n b m
      dsimp only [addD] at g
      split at g
      · rename_i xs ys e1 e2
        split at g
        · rename_i hl
          obtain ⟨vs, h1, r1⟩ := s.ltAt hn e1
          obtain ⟨ws, h2, r2⟩ := s.ltAt hm e2
          refine .inl ⟨vs, ws, h1, h2, by rw [r1.length, r2.length, sz]; exact hl, Fin.newL s (r1.append r2) g⟩
        · exact g.elim
      · exact g.elim
    | _ => exact g.elim
  | tup h r => cases rb with
    | tup h' r' =>
      rename_i a vs ds b ws es
      dsimp only [addD] at g
      split at g
      · exact g.elim
      · rename_i hne
        split at g
        · rename_i hl
          refine .inr ⟨_, _, vs, ws, rfl, rfl, SqT.of h, SqT.of h', ?_, by rw [r.length, r'.length, sz]; exact hl, fun e => ?_, fun e => ?_⟩
          · rintro rfl
            cases r
            exact hne rfl
          · subst e
            cases r'
            rw [List.append_nil] at g
            exact g.here s (.tup h r)
          · exact New.of (Fin.newT s (r.append r') g)
        · exact g.elim
    | _ => exact g.elim
  | _ => first | exact g.elim | (cases rb <;> exact g.elim)
theorem re_add {e1 e2 : Expr} {m1 m2 : CE} (h1 : RE G N cm sc e1 m1) (h2 : RE G N cm sc e2 m2) : RE G N cm sc (.BinOp e1 .Add e2 pos) (cOp2 addD m1 m2) :=
  re_bin (r := fun X x y H Q => rAddM x y H Q ∨ rCatT X.K x y H Q) (fun X W c => ⟨OpR.or op_addM op_catT, by rw [c.hK]; exact opA_add⟩) h1 h2
def subD : D → D → Hd → R D
  | .int i, .int j, S => .ok (.int (i - j)) S
  | _, _, _ => .stuck
theorem re_sub {e1 e2 : Expr} {m1 m2 : CE} (h1 : RE G N cm sc e1 m1) (h2 : RE G N cm sc e2 m2) : RE G N cm sc (.BinOp e1 .Sub e2 pos) (cOp2 subD m1 m2) :=
  re_bin (fun X W c => ⟨op_subM, by
    intro ρ S H x y a b W σ Q s ra rb g
    cases ra with
    | int i => cases rb with
      | int j => exact g.here s (.int _)
      | _ => exact g.elim
    | _ => first | exact g.elim | (cases rb <;> exact g.elim)⟩) h1 h2
def mulOk (i j : Int) : Bool := decide (i.natAbs < 18446744073709551616) || decide (j.natAbs < 18446744073709551616) || decide (i.natAbs.log2 + j.natAbs.log2 < 1000000)
def mulD : D → D → Hd → R D
  | .int i, .int j, S => if mulOk i j then .ok (.int (i * j)) S else .stuck
  | .str a, .int k, S => if 0 ≤ k ∧ a.length * k.toNat ≤ 16777216 ∧ k < 1152921504606846976 then .ok (.str (List.replicate k.toNat a).flatten) S else .stuck
  | .ref n, .int k, S => match S[n]? with
    | some (.lst xs) => if 0 ≤ k ∧ xs.length * k.toNat ≤ 16777216 ∧ k < 1152921504606846976 then alloc (.lst (List.replicate k.toNat xs).flatten) S else .stuck
    | _ => .stuck
  | _, _, _ => .stuck
theorem re_mul {e1 e2 : Expr} {m1 m2 : CE} (h1 : RE G N cm sc e1 m1) (h2 : RE G N cm sc e2 m2) : RE G N cm sc (.BinOp e1 .Mult e2 pos) (cOp2 mulD m1 m2) :=
  re_bin (fun X W c => ⟨op_mulM, by
    intro ρ S H x y a b W σ Q s ra rb g
    cases ra with
    | int i => cases rb with
      | int j =>
        dsimp only [mulD] at g
        split at g
        · rename_i hk
          refine ⟨?_, g.here s (.int _)⟩
          unfold mulOk at hk
          simp only [Bool.or_eq_true, decide_eq_true_eq] at hk
          rcases hk with (hk | hk) | hk
          · exact .inl (.inl (by omega))
          · exact .inl (.inr (by omega))
          · exact .inr hk
        · exact g.elim
      | _ => exact g.elim
    | str h => cases rb with
      | int k =>
        dsimp only [mulD] at g
        split at g
        · rename_i z l hk
          refine ⟨hk.1, by rw [len_dL, sz, dL, h]; exact hk.2.1, by omega, g.here s (.str ?_)⟩
          rw [← h]
          exact mul_cs z k
        · exact g.elim
      | _ => exact g.elim
    | ref hn => cases rb with
      | int k =>
        dsimp only [mulD] at g
        split at g
        · rename_i xs e1
          split at g
          · rename_i hk
            obtain ⟨vs, h1, r1⟩ := s.ltAt hn e1
            refine ⟨vs, h1, by omega, by omega, by rw [r1.length, sz]; exact hk.2.1, Fin.newL s (r1.rep _) g⟩
          · exact g.elim
        · exact g.elim
      | _ => exact g.elim
    | _ => first | exact g.elim | (cases rb <;> exact g.elim)⟩) h1 h2
def fdivD : D → D → Hd → R D
  | .int i, .int j, S => if 0 < j ∧ j.natAbs.log2 < 9000 then .ok (.int (i / j)) S else .stuck
  | _, _, _ => .stuck
theorem re_fdiv {e1 e2 : Expr} {m1 m2 : CE} (h1 : RE G N cm sc e1 m1) (h2 : RE G N cm sc e2 m2) : RE G N cm sc (.BinOp e1 .FloorDiv e2 pos) (cOp2 fdivD m1 m2) :=
  re_bin (fun X W c => ⟨op_fdivM, by
    intro ρ S H x y a b W σ Q s ra rb g
    cases ra with
    | int i => cases rb with
      | int j =>
        dsimp only [fdivD] at g
        split at g
        · rename_i hk
          exact ⟨hk, g.here s (.int _)⟩
        · exact g.elim
      | _ => exact g.elim
    | _ => first | exact g.elim | (cases rb <;> exact g.elim)⟩) h1 h2
def modD : D → D → Hd → R D
  | .int i, .int j, S => if 0 < j then .ok (.int (i % j)) S else .stuck
  | _, _, _ => .stuck
theorem re_mod {e1 e2 : Expr} {m1 m2 : CE} (h1 : RE G N cm sc e1 m1) (h2 : RE G N cm sc e2 m2) : RE G N cm sc (.BinOp e1 .Mod e2 pos) (cOp2 modD m1 m2) :=
  re_bin (fun X W c => ⟨op_modM, by
    intro ρ S H x y a b W σ Q s ra rb g
    cases ra with
    | int i => cases rb with
      | int j =>
        dsimp only [modD] at g
        split at g
        · rename_i hk
          exact ⟨hk, g.here s (.int _)⟩
        · exact g.elim
      | _ => exact g.elim
    | _ => first | exact g.elim | (cases rb <;> exact g.elim)⟩) h1 h2
def powD : D → D → Hd → R D
  | .int i, .int j, S => if 0 ≤ j ∧ j ≤ 1000000 ∧ i.natAbs < 18446744073709551616 then .ok (.int (i ^ j.toNat)) S else .stuck
  | _, _, _ => .stuck
theorem re_pow {e1 e2 : Expr} {m1 m2 : CE} (h1 : RE G N cm sc e1 m1) (h2 : RE G N cm sc e2 m2) : RE G N cm sc (.BinOp e1 .Pow e2 pos) (cOp2 powD m1 m2) :=
  re_bin (fun X W c => ⟨op_powM, by
    intro ρ S H x y a b W σ Q s ra rb g
    cases ra with
    | int i => cases rb with
      | int j =>
        dsimp only [powD] at g
        split at g
        · rename_i hk
          exact ⟨⟨hk.1, hk.2.1, hk.2.2⟩, g.here s (.int _)⟩
        · exact g.elim
      | _ => exact g.elim
    | _ => first | exact g.elim | (cases rb <;> exact g.elim)⟩) h1 h2
def negD : D → Hd → R D
  | .int i, S => .ok (.int (-i)) S
  | _, _ => .stuck
theorem re_neg {e1 : Expr} {m1 : CE} (h1 : RE G N cm sc e1 m1) : RE G N cm sc (.UnaryOp .USub e1 pos) (cOp1 negD m1) := fun X W c => by
  refine one (r := rU fun i => .int (-i)) ?_ (pe_un un_neg (h1 X W c))
  intro ρ S H x a W σ Q s ra g
  cases ra with
  | int i => exact ⟨i, rfl, g.here s (.int _)⟩
  | _ => exact g.elim
/-! ### comparisons -/
/-- a comparison's operator -/
def OpC (G : Gc) (N : List Str) (cm : Md) (sc : Scope) (op : CmpOp) (f : D → D → Hd → R D) : Prop := ∃ r : Cx → R2, ∀ X W, Cz G N cm sc X W → OpR X (compareOp op) (r X) ∧ OpA G (r X) f
mutual
/-- data, read off the heap -/
def pdD (S : Hd) : Nat → D → Option PyData
  | 0, _ => none
  | _ + 1, .non => some .none
  | _ + 1, .bl b => some (.bool b)
  | _ + 1, .int i => some (.int i)
  | _ + 1, .str l => some (.str ⟨l.toArray⟩)
  | k + 1, .tup xs => (pdL S k xs).map .tuple
  | k + 1, .ref n => match lstAt S n with
    | some xs => (pdL S k xs).map .list
    | none => none
  | _ + 1, _ => none
def pdL (S : Hd) : Nat → List D → Option (List PyData)
  | 0, _ => none
  | _ + 1, [] => some []
  | k + 1, x :: xs => match pdD S k x, pdL S k xs with
    | some a, some as => some (a :: as)
    | _, _ => none
end
mutual
theorem pd_ok (s : Sim G.mg G.Tb ρ S H) : ∀ (k : Nat) (d : D) (v : V) (e : PyData), Rep G.mg ρ H v d → pdD S k d = some e → Dp G.K H v e
  | 0, d, _, _, _, h => by unfold pdD at h; cases h
  | k + 1, d, v, e, r, h => by
    cases r with
    | non => unfold pdD at h; cases h; exact .non
    | bl b => unfold pdD at h; cases h; exact .bl b
    | int b => unfold pdD at h; cases h; exact .int b
    | str hz => unfold pdD at h; cases h; rw [← hz]; exact .str _
    | tup ha r =>
      unfold pdD at h
      rename_i a xs ds
      cases h1 : pdL S k ds with
      | none => rw [h1] at h; cases h
      | some es => rw [h1] at h; cases h; exact .tup (SqT.of ha) (pds_ok s k ds xs es r h1)
    | ref hn =>
      unfold pdD at h
      rename_i a n
      cases h1 : lstAt S n with
      | none => rw [h1] at h; cases h
      | some ds =>
        rw [h1] at h
        obtain ⟨vs, h2, r2⟩ := s.lsAt hn h1
        cases h3 : pdL S k ds with
        | none => simp only [h3] at h; cases h
        | some es => simp only [h3] at h; cases h; exact .lst h2 (pds_ok s k ds vs es r2 h3)
    | fn _ => unfold pdD at h; cases h
    | ty _ => unfold pdD at h; cases h
theorem pds_ok (s : Sim G.mg G.Tb ρ S H) : ∀ (k : Nat) (d : List D) (v : List V) (e : List PyData), Reps G.mg ρ H v d → pdL S k d = some e → DpAll G.K H v e
  | 0, d, _, _, _, h => by unfold pdL at h; cases h
  | k + 1, d, v, e, r, h => by
    cases r with
    | nil => unfold pdL at h; cases h; exact .nil
    | cons r1 r2 =>
      unfold pdL at h
      split at h
      · rename_i a as h1 h2
        cases h
        exact .cons (pd_ok s k _ _ _ r1 h1) (pds_ok s k _ _ _ r2 h2)
      · cases h
end
/-- scalars -/
def scE : D → D → Option Bool
  | .non, .non => some true | .non, .int _ => some false | .int _, .non => some false | .non, .bl _ => some false | .bl _, .non => some false | .non, .str _ => some false | .str _, .non => some false
  | .int i, .int j => some (decide (i = j)) | .bl a, .bl b => some (a == b) | .str a, .str b => some (decide (a = b))
  | .int _, .str _ => some false | .str _, .int _ => some false | .bl _, .str _ => some false | .str _, .bl _ => some false
  | _, _ => none
theorem scE_ok {x y : V} {a b : D} {k : Bool} (ra : Rep G.mg ρ H x a) (rb : Rep G.mg ρ H y b) (h : scE a b = some k) : scal x y = true ∧ decide (x = y) = k := by
  cases ra with
  | non => cases rb <;> first | (cases h; exact ⟨rfl, rfl⟩) | cases h
  | int i => cases rb <;> first | (cases h; exact ⟨rfl, rfl⟩) | (cases h; exact ⟨rfl, by simp⟩) | cases h
  | bl i => cases rb <;> first | (cases h; exact ⟨rfl, rfl⟩) | (rename_i b; dsimp only [scE] at h; cases h; exact ⟨rfl, by cases i <;> cases b <;> rfl⟩) | cases h
  | str hz => cases rb with
    | str hz' =>
      rename_i z l z' l'
      dsimp only [scE] at h
      cases h
      refine ⟨rfl, ?_⟩
      subst hz hz'
      by_cases e : z = z'
      · subst e; simp
      · rw [decide_eq_false (fun q => e (V.str.inj q)), decide_eq_false (fun q => e (cs_inj q))]
    | non => cases h; exact ⟨rfl, rfl⟩
    | int i => cases h; exact ⟨rfl, rfl⟩
    | bl i => cases h; exact ⟨rfl, rfl⟩
    | _ => cases h
  | _ => cases rb <;> cases h
def eqD (neg : Bool) : D → D → Hd → R D := fun a b S => match scE a b with
  | some k => .ok (.bl (xor neg k)) S
  | none => match pdD S 64 a, pdD S 64 b with
    | some d, some e => if SeqAt.shaped d && SeqAt.shaped e then .ok (.bl (xor neg (PyData.eqv d e))) S else .stuck
    | _, _ => .stuck
theorem oc_eq : OpC G N cm sc .Eq (eqD false) :=
  ⟨fun X x y H Q => rEq x y H Q ∨ rEqD X.K x y H Q, fun X W c => ⟨OpR.or op_eq (op_eqD c.units), by
    intro ρ S H x y a b W σ Q s ra rb g
    unfold eqD at g
    split at g
    · rename_i k hk
      obtain ⟨h1, h2⟩ := scE_ok ra rb hk
      refine .inl ⟨h1, ?_⟩
      rw [h2]
      exact g.here s (by rw [Bool.false_xor]; exact .bl k)
    · split at g
      · rename_i d e hd he
        split at g
        · rename_i hs
          rw [Bool.and_eq_true] at hs
          exact .inr ⟨d, e, by rw [c.hK]; exact pd_ok s _ _ _ _ ra hd, by rw [c.hK]; exact pd_ok s _ _ _ _ rb he, hs.1, hs.2, g.here s (by rw [Bool.false_xor]; exact .bl _)⟩
        · exact g.elim
      · exact g.elim⟩⟩
theorem oc_ne : OpC G N cm sc .NotEq (eqD true) :=
  ⟨fun X x y H Q => rNe x y H Q ∨ rNeD X.K x y H Q, fun X W c => ⟨OpR.or op_ne (op_neD c.units), by
    intro ρ S H x y a b W σ Q s ra rb g
    unfold eqD at g
    split at g
    · rename_i k hk
      obtain ⟨h1, h2⟩ := scE_ok ra rb hk
      refine .inl ⟨h1, ?_⟩
      rw [h2]
      exact g.here s (by rw [Bool.true_xor]; exact .bl _)
    · split at g
      · rename_i d e hd he
        split at g
        · rename_i hs
          rw [Bool.and_eq_true] at hs
          exact .inr ⟨d, e, by rw [c.hK]; exact pd_ok s _ _ _ _ ra hd, by rw [c.hK]; exact pd_ok s _ _ _ _ rb he, hs.1, hs.2, g.here s (by rw [Bool.true_xor]; exact .bl _)⟩
        · exact g.elim
      · exact g.elim⟩⟩
/-- an order: of ints, of texts -/
def cmpD (g : Int → Int → Bool) (f : List Nat → List Nat → Bool) : D → D → Hd → R D
  | .int i, .int j, S => .ok (.bl (g i j)) S
  | .str i, .str j, S => .ok (.bl (f i j)) S
  | _, _, _ => .stuck
def ltD : D → D → Hd → R D := cmpD (fun i j => decide (i < j)) fun a b => decide (a < b)
def leD : D → D → Hd → R D := cmpD (fun i j => decide (i ≤ j)) fun a b => !decide (b < a)
def gtD : D → D → Hd → R D := cmpD (fun i j => decide (j < i)) fun a b => decide (b < a)
def geD : D → D → Hd → R D := cmpD (fun i j => decide (j ≤ i)) fun a b => !decide (a < b)
theorem opA_cmp {g : Int → Int → Bool} {f : List Nat → List Nat → Bool} : OpA G (rCmpM g f) (cmpD g f) := by
  intro ρ S H x y a b W σ Q s ra rb g
  cases ra with
  | int i => cases rb with
    | int j => exact g.here s (.bl _)
    | _ => exact g.elim
  | str h => cases rb with
    | str h' =>
      subst h h'
      exact g.here s (.bl _)
    | _ => exact g.elim
  | _ => first | exact g.elim | (cases rb <;> exact g.elim)
theorem oc_lt : OpC G N cm sc .Lt ltD :=
  ⟨fun _ => rCmpM _ _, fun X W c => ⟨op_ltM, opA_cmp⟩⟩
theorem oc_le : OpC G N cm sc .LtE leD :=
  ⟨fun _ => rCmpM _ _, fun X W c => ⟨op_leM, opA_cmp⟩⟩
theorem oc_gt : OpC G N cm sc .Gt gtD :=
  ⟨fun _ => rCmpM _ _, fun X W c => ⟨op_gtM, opA_cmp⟩⟩
theorem oc_ge : OpC G N cm sc .GtE geD :=
  ⟨fun _ => rCmpM _ _, fun X W c => ⟨op_geM, opA_cmp⟩⟩
def isNon : D → Bool
  | .non => true
  | _ => false
/-- is None -/
def isNonD (neg : Bool) : D → D → Hd → R D
  | a, .non, S => .ok (.bl (xor neg (isNon a))) S
  | _, _, _ => .stuck
theorem isN_ok {x : V} {a : D} (ra : Rep G.mg ρ H x a) : decide (x = .non) = isNon a := by cases ra <;> rfl
theorem oc_is : OpC G N cm sc .Is (isNonD false) :=
  ⟨fun _ x y H Q => y = .non ∧ Q (.bl (decide (x = .non))) H, fun X W c => ⟨op_isN, by
    intro ρ S H x y a b W σ Q s ra rb g
    cases rb with
    | non =>
      refine ⟨rfl, ?_⟩
      rw [isN_ok ra]
      exact g.here s (by rw [Bool.false_xor]; exact .bl _)
    | _ => exact g.elim⟩⟩
theorem oc_isnot : OpC G N cm sc .IsNot (isNonD true) :=
  ⟨fun _ x y H Q => y = .non ∧ Q (.bl (!decide (x = .non))) H, fun X W c => ⟨op_notN, by
    intro ρ S H x y a b W σ Q s ra rb g
    cases rb with
    | non =>
      refine ⟨rfl, ?_⟩
      rw [isN_ok ra]
      exact g.here s (by rw [Bool.true_xor]; exact .bl _)
    | _ => exact g.elim⟩⟩
end
end Dn

set_option Elab.async false
set_option linter.all false
set_option maxRecDepth 100000
set_option maxHeartbeats 4000000
set_option autoImplicit false
/-! # Comparisons as values and tests, and, or, not, subscripts, displays -/
namespace Dn
open PySem PySem.Spec PyProof.Rows L2 Kx
section
variable {G : Gc} {N : List Str} {cm : Md} {sc : Scope} {pos p p2 : Pos} {ρ : List Addr} {S : Hd} {H : Hp} {op op' : CmpOp} {f f' : D → D → Hd → R D} {e e1 e2 e3 : Expr} {m m1 m2 m3 : CE} {es : List Expr} {ma : CA}
theorem re_cmp (h : OpC G N cm sc op f) (h1 : RE G N cm sc e1 m1) (h2 : RE G N cm sc e2 m2) (hm : behindInMarks op e2 = false) : RE G N cm sc (.Compare e1 [op] [e2] pos) (cOp2 f m1 m2) := fun X W c => by
  obtain ⟨r, h⟩ := h
  exact two (h X W c).2 (pe_cmpR (h X W c).1 (h1 X W c) (h2 X W c) hm)
/-- a truth -/
def truB : D → Hd → R Bool
  | .bl b, S => .ok b S
  | _, _ => .stuck
def cTruB (m : CE) : CT := fun Γ S => (m Γ S).bind truB
theorem tru_i {t : TE} {W : WX} {σ : L2.St} {H : Hp} {Q : Bool → Hp → Prop} (i : ∀ Q, tE G W m σ H Q → t σ H Q) (h : tT G W (cTruB m) σ H Q) : tTru t σ H Q := by
  refine i _ ?_
  obtain ⟨ρ, Γ, S, s, e, g⟩ := h
  refine Fin.step s e g fun a S1 ρ1 H1 x g1 s1 e1 ra ga => ?_
  cases ra with
  | bl b => exact ga.here s1 rfl
  | _ => exact ga.elim
theorem rt_cmp (h : OpC G N cm sc op f) (h1 : RE G N cm sc e1 m1) (h2 : RE G N cm sc e2 m2) (hm : behindInMarks op e2 = false) : RT G N cm sc (.Compare e1 [op] [e2] pos) (cTruB (cOp2 f m1 m2)) := fun X W c => by
  obtain ⟨r, h⟩ := h
  exact PT.imp (pt_cmpM (h X W c).1 (h1 X W c) (h2 X W c) hm) fun σ H Q q => tru_i (fun Q => two_i (h X W c).2) q
/-- a op b op' c -/
def cChain (f f' : D → D → Hd → R D) (m1 m2 m3 : CE) : CE := fun Γ S => (m1 Γ S).bind fun a S1 => (m2 Γ S1).bind fun b S2 => (f a b S2).bind fun k S3 => match k with
  | .bl true => (m3 Γ S3).bind fun d S4 => f' b d S4
  | .bl false => .ok (.bl false) S3
  | _ => .stuck
theorem chain_i {r r' : R2} (h : OpA G r f) (h' : OpA G r' f') {W : WX} {σ : L2.St} {H : Hp} {Q : VK} (h0 : tE G W (cChain f f' m1 m2 m3) σ H Q) : tChain r r' (tE G W m1) (tE G W m2) (tE G W m3) σ H Q := by
  obtain ⟨ρ, Γ, S, s, e, g⟩ := h0
  refine Fin.step s e g fun a S1 ρ1 H1 x g1 s1 e1 ra ga => ?_
  refine Fin.step s1 e1 ga fun b S2 ρ2 H2 y g2 s2 e2 rb gb => ?_
  refine h _ _ _ _ _ _ _ W σ _ s2 (s1.rep g2 ra) rb (Fin.out gb fun k S3 ρ3 H3 z g3 s3 rk gk => ?_)
  cases rk with
  | bl k =>
    refine ⟨k, rfl, ?_⟩
    cases k with
    | true =>
      rw [if_pos rfl]
      refine Fin.step s3 (s2.env g3 e2) gk fun d S4 ρ4 H4 w' g4 s4 e4 rd gd => ?_
      exact h' _ _ _ _ _ _ _ _ _ _ s4 (s3.rep g4 (s2.rep g3 rb)) rd gd
    | false =>
      rw [if_neg Bool.false_ne_true]
      exact gk.here s3 (.bl _)
  | _ => exact gk.elim
theorem re_chain (h : OpC G N cm sc op f) (h' : OpC G N cm sc op' f') (h1 : RE G N cm sc e1 m1) (h2 : RE G N cm sc e2 m2) (h3 : RE G N cm sc e3 m3) (hm : lastMarks [op, op'] [e2, e3] = false := by with_unfolding_all rfl) : RE G N cm sc (.Compare e1 [op, op'] [e2, e3] pos) (cChain f f' m1 m2 m3) := fun X W c => by
  obtain ⟨r, h⟩ := h
  obtain ⟨r', h'⟩ := h'
  exact PE.imp (pe_chain (h X W c).1 (h' X W c).1 (h1 X W c) (h2 X W c) (h3 X W c) hm) fun σ H Q q => chain_i (h X W c).2 (h' X W c).2 q
theorem rt_chain (h : OpC G N cm sc op f) (h' : OpC G N cm sc op' f') (h1 : RE G N cm sc e1 m1) (h2 : RE G N cm sc e2 m2) (h3 : RE G N cm sc e3 m3) (hm : lastMarks [op, op'] [e2, e3] = false := by with_unfolding_all rfl) : RT G N cm sc (.Compare e1 [op, op'] [e2, e3] pos) (cTruB (cChain f f' m1 m2 m3)) := fun X W c => by
  obtain ⟨r, h⟩ := h
  obtain ⟨r', h'⟩ := h'
  refine PT.imp (pt_chain (h X W c).1 (h' X W c).1 (h1 X W c) (h2 X W c) (h3 X W c) hm) fun σ H Q q => ?_
  refine chain_i (h X W c).2 (h' X W c).2 ?_
  obtain ⟨ρ, Γ, S, s, e, g⟩ := q
  refine ⟨ρ, Γ, S, s, e, Fin.out g fun a S1 ρ1 H1 x g1 s1 ra ga => ?_⟩
  cases ra with
  | bl b => exact ⟨b, rfl, ga.here s1 rfl⟩
  | _ => exact ga.elim
/-- any value as a test -/
def truD (d : D) (S : Hd) : R Bool := match d with
  | .non => .ok false S
  | .bl b => .ok b S
  | .int i => .ok (i != 0) S
  | .str l => if l.length ≤ 16777216 then .ok (!l.isEmpty) S else .stuck
  | .tup xs => .ok (!xs.isEmpty) S
  | .ref n => match S[n]? with
    | some (.lst xs) => .ok (!xs.isEmpty) S
    | some (.ro xs) => .ok (!xs.isEmpty) S
    | some (.dct xs) => .ok (!xs.isEmpty) S
    | _ => .stuck
  | _ => .stuck
def cTru (m : CE) : CT := fun Γ S => (m Γ S).bind truD
theorem reps_empty {mg : Str → Option Value} {ρ : List Addr} {H : Hp} {vs : List V} {ds : List D} (r : Reps mg ρ H vs ds) : vs.isEmpty = ds.isEmpty := by cases r <;> rfl
theorem tru_ok' {x : V} {d : D} {W : WX} {σ : L2.St} {Q : Bool → Hp → Prop} (s : Sim G.mg G.Tb ρ S H) (r : Rep G.mg ρ H x d) (g : Fin G rT W σ Q ρ H (truD d S)) : ∃ k, TruV G.K x H k ∧ Q k H := by
  cases r with
  | non => exact ⟨_, rfl, g.here s rfl⟩
  | bl b => exact ⟨_, rfl, g.here s rfl⟩
  | int i => exact ⟨_, rfl, g.here s rfl⟩
  | str h =>
    rename_i z l
    dsimp only [truD] at g
    split at g
    · rename_i hl
      refine ⟨!l.isEmpty, ⟨by rw [len_dL, dL, h, sz]; exact hl, ?_⟩, g.here s rfl⟩
      rw [len_dL, dL, h]
      cases l <;> simp
      omega
    · exact g.elim
  | tup h r => exact ⟨_, .inr (.inl ⟨_, SqT.of h, by rw [reps_empty r]⟩), g.here s rfl⟩
  | ref hn =>
    dsimp only [truD] at g
    split at g
    · rename_i xs h
      obtain ⟨vs, h1, h2⟩ := s.lsAt hn (show lstAt _ _ = some xs by unfold lstAt; rw [h])
      exact ⟨_, .inl ⟨_, h1, by rw [reps_empty h2]⟩, g.here s rfl⟩
    · rename_i xs h
      obtain ⟨vs, h1, h2⟩ := s.lsAt hn (show lstAt _ _ = some xs by unfold lstAt; rw [h])
      exact ⟨_, .inl ⟨_, h1, by rw [reps_empty h2]⟩, g.here s rfl⟩
    · rename_i xs h
      obtain ⟨vs, h1, h2, h3⟩ := s.dcAt hn h
      refine ⟨_, .inr (.inr ⟨_, h1, rfl⟩), ?_⟩
      have e : vs.isEmpty = xs.isEmpty := by
        have := congrArg List.length h2
        simp at this
        cases vs <;> cases xs <;> simp_all
      rw [e]
      exact g.here s rfl
    · exact g.elim
  | _ => exact g.elim
theorem rt_tru (h : RE G N cm sc e m) (he : ∀ X : Cx, ∀ whole, isTrue e X.env whole = (do let v ← whole; standAt e.pos; holding [v] (truthy v)) := by intro _ _; rfl) : RT G N cm sc e (cTru m) := fun X W c => by
  refine PT.imp (pt_truth (h X W c) (he X)) fun σ H Q q => ?_
  obtain ⟨ρ, Γ, S, s, e, g⟩ := q
  refine Fin.step s e g fun a S1 ρ1 H1 x g1 s1 e1 ra ga => ?_
  rw [c.hK]
  exact tru_ok' s1 ra ga
def cNotT (t : CT) : CT := fun Γ S => (t Γ S).bind fun b S1 => .ok (!b) S1
def cAndT (t u : CT) : CT := fun Γ S => (t Γ S).bind fun b S1 => if b then u Γ S1 else .ok false S1
def cOrT (t u : CT) : CT := fun Γ S => (t Γ S).bind fun b S1 => if b then .ok true S1 else u Γ S1
variable {t u : CT}
theorem rt_not (h : RT G N cm sc e t) : RT G N cm sc (.UnaryOp .Not e pos) (cNotT t) := fun X W c => by
  refine PT.imp (pt_not (h X W c)) fun σ H Q q => ?_
  obtain ⟨ρ, Γ, S, s, e, g⟩ := q
  refine Fin.step s e g fun a S1 ρ1 H1 x g1 s1 e1 ra ga => ?_
  have ra : x = a := ra
  subst ra
  exact ga.here s1 rfl
theorem rt_w (h : RW G N cm sc e t) : RT G N cm sc e t := fun X W c => (h X W c).pt
theorem rw_and1 (h : RT G N cm sc e t) : RW G N cm sc (.BoolOp .And [e] pos) t := fun X W c => pw_and1 (h X W c)
theorem rw_or1 (h : RT G N cm sc e t) : RW G N cm sc (.BoolOp .Or [e] pos) t := fun X W c => pw_or1 (h X W c)
theorem rw_and {rest : List Expr} (h : RT G N cm sc e t) (h' : RW G N cm sc (.BoolOp .And (e2 :: rest) pos) u) : RW G N cm sc (.BoolOp .And (e :: e2 :: rest) pos) (cAndT t u) := fun X W c => by
  have hh := pw_andM (h X W c) (h' X W c)
  refine ⟨fun wh pins s σ H Q I q => hh.run wh pins s σ H Q I ?_⟩
  obtain ⟨ρ, Γ, S, s, e, g⟩ := q
  refine Fin.step s e g fun a S1 ρ1 H1 x g1 s1 e1 ra ga => ?_
  have ra : x = a := ra
  subst ra
  refine ⟨fun hx => ⟨ρ1, Γ, S1, s1, e1, ?_⟩, fun hx => ?_⟩
  · subst hx; simpa using ga
  · subst hx; simp only [Bool.false_eq_true, if_false] at ga; exact ga.here s1 rfl
theorem rw_or {rest : List Expr} (h : RT G N cm sc e t) (h' : RW G N cm sc (.BoolOp .Or (e2 :: rest) pos) u) : RW G N cm sc (.BoolOp .Or (e :: e2 :: rest) pos) (cOrT t u) := fun X W c => by
  have hh := pw_orM (h X W c) (h' X W c)
  refine ⟨fun wh pins s σ H Q I q => hh.run wh pins s σ H Q I ?_⟩
  obtain ⟨ρ, Γ, S, s, e, g⟩ := q
  refine Fin.step s e g fun a S1 ρ1 H1 x g1 s1 e1 ra ga => ?_
  have ra : x = a := ra
  subst ra
  refine ⟨fun hx => ?_, fun hx => ⟨ρ1, Γ, S1, s1, e1, ?_⟩⟩
  · subst hx; simp only [if_true] at ga; exact ga.here s1 rfl
  · subst hx; simpa using ga
/-- and, or, not of truths as values -/
def cAnd (a b : CE) : CE := fun Γ S => (a Γ S).bind fun x S1 => match x with
  | .bl true => b Γ S1
  | .bl false => .ok (.bl false) S1
  | _ => .stuck
def cOr (a b : CE) : CE := fun Γ S => (a Γ S).bind fun x S1 => match x with
  | .bl true => .ok (.bl true) S1
  | .bl false => b Γ S1
  | _ => .stuck
def cNot (a : CE) : CE := fun Γ S => (a Γ S).bind fun x S1 => (truD x S1).bind fun b S2 => .ok (.bl (!b)) S2
theorem re_one {o : BoolOp} (h : RE G N cm sc e m) : RE G N cm sc (.BoolOp o [e] pos) m := fun X W c => pe_one (h X W c)
theorem re_and {rest : List Expr} (h : RE G N cm sc e1 m1) (h' : RE G N cm sc (.BoolOp .And (e2 :: rest) pos) m2) : RE G N cm sc (.BoolOp .And (e1 :: e2 :: rest) pos) (cAnd m1 m2) := fun X W c => by
  refine PE.imp (pe_andM (h X W c) (h' X W c)) fun σ H Q q => ?_
  obtain ⟨ρ, Γ, S, s, e, g⟩ := q
  refine Fin.step s e g fun a S1 ρ1 H1 x g1 s1 e1 ra ga => ?_
  cases ra with
  | bl b => exact ⟨fun hb => by subst hb; exact ⟨ρ1, Γ, S1, s1, e1, ga⟩, fun hb => by subst hb; exact ga.here s1 (.bl _)⟩
  | _ => exact ga.elim
theorem re_or {rest : List Expr} (h : RE G N cm sc e1 m1) (h' : RE G N cm sc (.BoolOp .Or (e2 :: rest) pos) m2) : RE G N cm sc (.BoolOp .Or (e1 :: e2 :: rest) pos) (cOr m1 m2) := fun X W c => by
  refine PE.imp (pe_orM (h X W c) (h' X W c)) fun σ H Q q => ?_
  obtain ⟨ρ, Γ, S, s, e, g⟩ := q
  refine Fin.step s e g fun a S1 ρ1 H1 x g1 s1 e1 ra ga => ?_
  cases ra with
  | bl b => exact ⟨fun hb => by subst hb; exact ga.here s1 (.bl _), fun hb => by subst hb; exact ⟨ρ1, Γ, S1, s1, e1, ga⟩⟩
  | _ => exact ga.elim
theorem re_not (h : RE G N cm sc e m) : RE G N cm sc (.UnaryOp .Not e pos) (cNot m) := fun X W c => by
  refine PE.imp (pe_notT (h X W c)) fun σ H Q q => ?_
  obtain ⟨ρ, Γ, S, s, e, g⟩ := q
  refine Fin.step s e g fun a S1 ρ1 H1 x g1 s1 e1 ra ga => ?_
  rw [c.hK]
  refine tru_ok' (W := W) (σ := σ) s1 ra (Fin.out ga fun b S2 ρ2 H2 y g2 s2 rb gb => ?_)
  have rb : y = b := rb
  subst rb
  exact gb.here s2 (.bl _)
def cIf (t : CT) (a b : CE) : CE := fun Γ S => (t Γ S).bind fun c S1 => if c then a Γ S1 else b Γ S1
theorem re_if (h : RT G N cm sc e t) (h1 : RE G N cm sc e1 m1) (h2 : RE G N cm sc e2 m2) : RE G N cm sc (.IfExp e e1 e2 pos) (cIf t m1 m2) := fun X W c => by
  refine PE.imp (pe_ifM (h X W c) (h1 X W c) (h2 X W c)) fun σ H Q q => ?_
  obtain ⟨ρ, Γ, S, s, e, g⟩ := q
  refine Fin.step s e g fun a S1 ρ1 H1 x g1 s1 e1 ra ga => ?_
  have ra : x = a := ra
  subst ra
  refine ⟨fun hx => ⟨ρ1, Γ, S1, s1, e1, ?_⟩, fun hx => ⟨ρ1, Γ, S1, s1, e1, ?_⟩⟩
  · subst hx; simpa using ga
  · subst hx; simpa using ga
/-! ### subscripts -/
def ixD : D → D → Hd → R D
  | .str l, .int i, S => if l.length ≤ 16777216 then match atI l i with
    | some c => .ok (.str [c]) S
    | none => .stuck else .stuck
  | .tup xs, .int i, S => match atI xs i with
    | some d => .ok d S
    | none => .stuck
  | .ref n, .int i, S => match lstAt S n with
    | some xs => match atI xs i with
      | some d => .ok d S
      | none => .stuck
    | none => .stuck
  | _, _, _ => .stuck
theorem atI_rep {vs : List V} {ds : List D} {i : Int} {d : D} (r : Reps G.mg ρ H vs ds) (h : atI ds i = some d) : ∃ v, atI vs i = some v ∧ Rep G.mg ρ H v d := by
  unfold atI at h ⊢
  rw [r.length]
  cases e : ixN ds.length i with
  | none => rw [e] at h; cases h
  | some j => rw [e] at h; exact r.get h
theorem re_ix (h1 : RE G N cm sc e1 m1) (h2 : RE G N cm sc e2 m2) (hs : ∀ o i, subscripted e2 false o i = operate [o, i] (getItem o i) := by intro _ _; rfl) : RE G N cm sc (.Subscript e1 e2 pos) (cOp2 ixD m1 m2) := fun X W c => by
  refine two (r := fun x y H Q => rIxM x y H Q ∨ (∃ p xs i v, x = .ref p ∧ y = .int i ∧ SqL G.K H p xs ∧ atI xs i = some v ∧ Q v H)) ?_ (pe_ix (r := fun x y H Q => rIxM x y H Q ∨ (∃ p xs i v, x = .ref p ∧ y = .int i ∧ SqL G.K H p xs ∧ atI xs i = some v ∧ Q v H)) ?_ (h1 X W c) (h2 X W c) hs)
  · intro ρ S H x y a b W σ Q s ra rb g
    cases ra with
    | str h => cases rb with
      | int i =>
        rename_i z l
        dsimp only [ixD] at g
        split at g
        · rename_i hl
          split at g
          · rename_i c hc
            refine .inl ⟨by rw [len_dL, dL, h, sz]; exact hl, c, by rw [h]; exact hc, g.here s (.str rfl)⟩
          · exact g.elim
        · exact g.elim
      | _ => exact g.elim
    | tup h r => cases rb with
      | int i =>
        dsimp only [ixD] at g
        split at g
        · rename_i d hd
          obtain ⟨v, h3, h4⟩ := atI_rep r hd
          exact .inl ⟨_, v, .inr h, h3, g.here s h4⟩
        · exact g.elim
      | _ => exact g.elim
    | ref hn => cases rb with
      | int i =>
        dsimp only [ixD] at g
        split at g
        · rename_i xs hx
          split at g
          · rename_i d hd
            obtain ⟨vs, h1, r1⟩ := s.lsAt hn hx
            obtain ⟨v, h3, h4⟩ := atI_rep r1 hd
            exact .inr ⟨_, vs, i, v, rfl, rfl, h1, h3, g.here s h4⟩
          · exact g.elim
        · exact g.elim
      | _ => exact g.elim
    | _ => first | exact g.elim | (cases rb <;> exact g.elim)
  · intro e1 e2 pins s σ H x y v u Q I rx ry q hsub
    rcases q with q | q
    · exact ix_M e1 e2 pins s σ H x y v u Q I rx ry q hsub
    · exact ix_list e1 e2 pins s σ H x y v u Q I rx ry (by unfold rIxL; rw [c.hK]; exact q) hsub
/-- a slice -/
def sIx' (n d : Nat) : Option Int → Nat := HT.sIx n d
def cutL {α : Type} (xs : List α) (lo hi : Option Int) : List α := (xs.drop (HT.sIx xs.length 0 lo)).take (HT.sIx xs.length xs.length hi - HT.sIx xs.length 0 lo)
def slD (lo hi : Option Int) : D → Hd → R D
  | .str l, S => if l.length ≤ 16777216 then .ok (.str (cutL l lo hi)) S else .stuck
  | .tup xs, S => if HT.sIx xs.length 0 lo = 0 ∧ HT.sIx xs.length xs.length hi = xs.length then .stuck else .ok (.tup (cutL xs lo hi)) S
  | .ref n, S => match lstAt S n with
    | some xs => alloc (.lst (cutL xs lo hi)) S
    | none => .stuck
  | _, _ => .stuck
abbrev CO := CM (Option Int)
def RO (G : Gc) (N : List Str) (cm : Md) (sc : Scope) (e : Option Expr) (m : CO) : Prop := ∀ X W, Cz G N cm sc X W → PO X e (tG G (fun _ _ a b => a = b) W m)
def cNoPart : CO := fun _ S => .ok none S
def cPart (m : CE) : CO := fun Γ S => (m Γ S).bind fun d S1 => match d with
  | .int i => .ok (some i) S1
  | _ => .stuck
theorem PO.imp {X : Cx} {e : Option Expr} {t u : TO} (h : PO X e t) (i : ∀ σ H Q, u σ H Q → t σ H Q) : PO X e u := ⟨fun pins s σ H Q I q => h.run pins s σ H Q I (i σ H Q q)⟩
theorem ro_none : RO G N cm sc none cNoPart := fun X W c => PO.imp po_none fun σ H Q q => by
  obtain ⟨ρ, Γ, S, s, e, g⟩ := q
  exact g.here s rfl
theorem ro_some (h : RE G N cm sc e m) : RO G N cm sc (some e) (cPart m) := fun X W c => PO.imp (po_some (h X W c)) fun σ H Q q => by
  obtain ⟨ρ, Γ, S, s, e, g⟩ := q
  refine Fin.step s e g fun a S1 ρ1 H1 x g1 s1 e1 ra ga => ?_
  cases ra with
  | int i => exact ⟨i, rfl, ga.here s1 rfl⟩
  | _ => exact ga.elim
def cSl (m : CE) (lo hi : CO) : CE := fun Γ S => (m Γ S).bind fun d S1 => (lo Γ S1).bind fun l S2 => (hi Γ S2).bind fun u S3 => slD l u d S3
theorem Reps.cut {vs : List V} {ds : List D} (r : Reps G.mg ρ H vs ds) (lo hi : Option Int) : Reps G.mg ρ H (cutV vs lo hi) (cutL ds lo hi) := by
  unfold cutV cutL
  rw [r.length]
  exact (r.drop _).take _
theorem re_sl {lo hi : Option Expr} {ml mh : CO} (h : RE G N cm sc e m) (hl : RO G N cm sc lo ml) (hh : RO G N cm sc hi mh) : RE G N cm sc (.Subscript e (.Slice lo hi none p2) pos) (cSl m ml mh) := fun X W c => by
  refine PE.imp (pe_slice (SlR.or (SlR.or sl_str sl_tup) sl_list) (h X W c) (hl X W c) (hh X W c)) fun σ H Q q => ?_
  obtain ⟨ρ, Γ, S, s, e, g⟩ := q
  refine Fin.step s e g fun a S1 ρ1 H1 x g1 s1 e1 ra ga => ?_
  refine Fin.step s1 e1 ga fun l S2 ρ2 H2 y g2 s2 e2 rl gb => ?_
  have rl : y = l := rl
  subst rl
  refine Fin.step s2 e2 gb fun u S3 ρ3 H3 z g3 s3 e3 ru gc => ?_
  have ru : z = u := ru
  subst ru
  have ra := s2.rep g3 (s1.rep g2 ra)
  rw [c.hK]
  cases ra with
  | str h =>
    rename_i w l
    dsimp only [slD] at gc
    split at gc
    · rename_i hl
      refine .inl (.inl ⟨w, rfl, by rw [len_dL, dL, h, sz]; exact hl, gc.here s3 (.str ?_)⟩)
      subst h
      unfold cutS cutL
      rw [len_dL]
      rfl
    · exact gc.elim
  | tup h r =>
    rename_i a vs ds
    dsimp only [slD] at gc
    split at gc
    · exact gc.elim
    · rename_i hw
      refine .inl (.inr ⟨a, vs, rfl, SqT.of h, by rw [r.length]; exact hw, New.of (Fin.newT s3 (r.cut _ _) gc)⟩)
  | ref hn =>
    dsimp only [slD] at gc
    split at gc
    · rename_i xs hx
      obtain ⟨vs, h1, r1⟩ := s3.lsAt hn hx
      exact .inr ⟨_, vs, rfl, h1, New.of (Fin.newL s3 (r1.cut _ _) gc)⟩
    · exact gc.elim
  | _ => exact gc.elim
/-! ### displays -/
def cNilA : CA := fun _ S => .ok [] S
def cConsA (m : CE) (ms : CA) : CA := fun Γ S => (m Γ S).bind fun d S1 => (ms Γ S1).bind fun ds S2 => .ok (d :: ds) S2
theorem PA.imp {X : Cx} {es : List Expr} {t u : TA} (h : PA X es t) (i : ∀ σ H Q, u σ H Q → t σ H Q) : PA X es u := ⟨fun pos pins s σ H Q I q => h.run pos pins s σ H Q I (i σ H Q q)⟩
theorem ra_nil : RA G N cm sc [] cNilA := fun X W c => PA.imp pa_nil fun σ H Q q => by
  obtain ⟨ρ, Γ, S, s, e, g⟩ := q
  exact g.here s .nil
theorem ra_cons (h : RE G N cm sc e m) (h' : RA G N cm sc es ma) (hs : ∀ X : Cx, starEach (e :: es) X.env = (false, eval e X.env) :: starEach es X.env := by intro _; rfl) : RA G N cm sc (e :: es) (cConsA m ma) := fun X W c => by
  refine PA.imp (pa_cons (h X W c) (h' X W c) (hs X)) fun σ H Q q => ?_
  obtain ⟨ρ, Γ, S, s, e, g⟩ := q
  refine Fin.step s e g fun a S1 ρ1 H1 x g1 s1 e1 ra ga => ?_
  refine Fin.step s1 e1 ga fun l S2 ρ2 H2 y g2 s2 e2 rl gb => ?_
  exact gb.here s2 (.cons (s1.rep g2 ra) rl)
def cTup (ms : CA) : CE := fun Γ S => (ms Γ S).bind fun ds S1 => if ds.length ≤ 16777216 then .ok (.tup ds) S1 else .stuck
def cLst (ms : CA) : CE := fun Γ S => (ms Γ S).bind fun ds S1 => if ds.length ≤ 16777216 then alloc (.lst ds) S1 else .stuck
theorem re_tup {k : Nat} (h : RA G N cm sc es ma) : RE G N cm sc (.Tuple es k pos) (cTup ma) := fun X W c => by
  refine PE.imp (pe_tupM (h X W c)) fun σ H Q q => ?_
  obtain ⟨ρ, Γ, S, s, e, g⟩ := q
  refine Fin.step s e g fun ds S1 ρ1 H1 x g1 s1 e1 ra ga => ?_
  split at ga
  · rename_i hl
    exact ⟨by rw [ra.length, sz]; exact hl, Fin.newT s1 ra ga⟩
  · exact ga.elim
theorem re_lst (h : RA G N cm sc es ma) : RE G N cm sc (.List es pos) (cLst ma) := fun X W c => by
  refine PE.imp (pe_lstM (h X W c)) fun σ H Q q => ?_
  obtain ⟨ρ, Γ, S, s, e, g⟩ := q
  refine Fin.step s e g fun ds S1 ρ1 H1 x g1 s1 e1 ra ga => ?_
  split at ga
  · rename_i hl
    exact ⟨by rw [ra.length, sz]; exact hl, Fin.newL s1 ra ga⟩
  · exact ga.elim
end
end Dn

set_option Elab.async false
set_option linter.all false
set_option maxRecDepth 100000
set_option maxHeartbeats 4000000
set_option autoImplicit false
/-! # Statements, targets, loops, comprehensions -/
namespace Dn
open PySem PySem.Spec PyProof.Rows L2 Kx
section
variable {G : Gc} {N : List Str} {cm : Md} {sc : Scope} {pos p p2 : Pos} {ρ : List Addr} {S : Hd} {H : Hp} {e e1 e2 : Expr} {m m1 m2 : CE} {es : List Expr} {ma : CA} {st : Stmt} {sts a b : List Stmt} {c c1 c2 : CS} {t : CT}
/-! ### blocks -/
def cNil : CS := fun Γ S => .nx Γ S
def cSeq (a b : CS) : CS := fun Γ S => (a Γ S).then b
theorem rss_nil : RSs G N cm sc [] cNil := fun X W h => ⟨fun pins s σ H D I q => by
  obtain ⟨ρ, Γ, S, sm, e, g⟩ := q
  exact pss_nil.run pins s σ H D I (g ρ H σ (Grow.refl _ _) sm e)⟩
theorem rss_one (h : RSt G N cm sc st c) : RSs G N cm sc [st] c := fun X W k => pss_one (h X W k)
theorem PSs.imp {X : Cx} {st : List Stmt} {t u : TS} (h : PSs X st t) (i : ∀ D σ H, u D σ H → t D σ H) : PSs X st u := ⟨fun pins s σ H D I q => h.run pins s σ H D I (i D σ H q)⟩
theorem FinS.thn {W : WX} {Dn : Ends} {r : RS} {f : Gm → Hd → RS} {N' : L2.St → Hp → Prop} (g : FinS G W Dn ρ H (r.then f)) (h : ∀ Γ S ρ' H' σ', Grow ρ H ρ' H' → Sim G.mg G.Tb ρ' S H' → EnvR G.mg ρ' H' Γ σ' → FinS G W Dn ρ' H' (f Γ S) → N' σ' H') : FinS G W { Dn with nx := N' } ρ H r := by
  cases r with
  | nx Γ S => exact fun ρ' H' σ' g1 s1 e1 => h Γ S ρ' H' σ' g1 s1 e1 (FinS.grow g1 g)
  | rt d S => exact g
  | bk Γ S => exact g
  | ct Γ S => exact g
  | exc c Γ S => exact g
  | stuck => exact g
theorem rss_cons (h : RSt G N cm sc st c1) (h' : RSs G N cm sc sts c2) : RSs G N cm sc (st :: sts) (cSeq c1 c2) := fun X W k => by
  refine PSs.imp (pss_cons (h X W k) (h' X W k)) fun D σ H q => ?_
  obtain ⟨ρ, Γ, S, sm, e, g⟩ := q
  exact ⟨ρ, Γ, S, sm, e, FinS.thn g fun Γ' S' ρ' H' σ' g1 s1 e1 g2 => ⟨ρ', Γ', S', s1, e1, g2⟩⟩
/-! ### plain statements -/
def cBk : CS := fun Γ S => .bk Γ S
def cCt : CS := fun Γ S => .ct Γ S
def cRet (m : CE) : CS := fun Γ S => (m Γ S).bindS Γ fun d S1 => .rt d S1
def cRetN : CS := fun _ S => .rt .non S
def cExp (m : CE) : CS := fun Γ S => (m Γ S).bindS Γ fun _ S1 => .nx Γ S1
def cIfS (t : CT) (a b : CS) : CS := fun Γ S => (t Γ S).bindS Γ fun k S1 => if k then a Γ S1 else b Γ S1
theorem rs_pass : RSt G N cm sc (.Pass pos) cNil := fun X W h => PS.imp ps_pass fun D σ H q => by
  obtain ⟨ρ, Γ, S, sm, e, g⟩ := q
  exact g ρ H σ (Grow.refl _ _) sm e
theorem rs_bk : RSt G N cm sc (.Break pos) cBk := fun X W h => PS.imp ps_break fun D σ H q => by
  obtain ⟨ρ, Γ, S, sm, e, g⟩ := q
  exact g ρ H σ (Grow.refl _ _) sm e
theorem rs_ct : RSt G N cm sc (.Continue pos) cCt := fun X W h => PS.imp ps_continue fun D σ H q => by
  obtain ⟨ρ, Γ, S, sm, e, g⟩ := q
  exact g ρ H σ (Grow.refl _ _) sm e
theorem rs_ret (h : RE G N cm sc e m) : RSt G N cm sc (.Return (some e) pos) (cRet m) := fun X W k => PS.imp (ps_ret (h X W k)) fun D σ H q => by
  obtain ⟨ρ, Γ, S, sm, e, g⟩ := q
  exact FinS.step sm e g fun d S1 ρ1 H1 x g1 s1 e1 r1 ga => ga ρ1 H1 x (Grow.refl _ _) s1 r1
theorem rs_retN : RSt G N cm sc (.Return none pos) cRetN := fun X W k => PS.imp ps_retN fun D σ H q => by
  obtain ⟨ρ, Γ, S, sm, e, g⟩ := q
  exact g ρ H .non (Grow.refl _ _) sm .non
theorem rs_exp (h : RE G N cm sc e m) (hs : ∀ env, env.scope = sc → swapsWith e none pos.line env = pure false := by intro _ _; rfl) : RSt G N cm sc (.Expr e pos) (cExp m) := fun X W k => PS.imp (ps_expr (h X W k) (hs _ k.hsc)) fun D σ H q => by
  obtain ⟨ρ, Γ, S, sm, e, g⟩ := q
  exact FinS.step sm e g fun d S1 ρ1 H1 x g1 s1 e1 r1 ga => ga ρ1 H1 σ (Grow.refl _ _) s1 e1
theorem rs_if (h : RT G N cm sc e t) (h1 : RSs G N cm sc a c1) (h2 : RSs G N cm sc b c2) : RSt G N cm sc (.If e a b pos) (cIfS t c1 c2) := fun X W k => by
  refine PS.imp (ps_ifM (h X W k) (h1 X W k) (h2 X W k)) fun D σ H q => ?_
  obtain ⟨ρ, Γ, S, sm, e, g⟩ := q
  refine FinS.step sm e g fun d S1 ρ1 H1 x g1 s1 e1 r1 ga => ?_
  have r1 : x = d := r1
  subst r1
  refine ⟨fun hx => ⟨ρ1, Γ, S1, s1, e1, ?_⟩, fun hx => ⟨ρ1, Γ, S1, s1, e1, ?_⟩⟩
  · subst hx; simpa using ga
  · subst hx; simpa using ga
/-! ### targets -/
abbrev CG := D → CS
abbrev CGs := List D → CS
/-- alike but at the places ws -/
def Agree (ws : List Nat) (σ σ' : L2.St) : Prop := σ'.length = σ.length ∧ ∀ i, i ∉ ws → σ'[i]? = σ[i]?
theorem Agree.refl (ws : List Nat) (σ : L2.St) : Agree ws σ σ := ⟨rfl, fun _ _ => rfl⟩
theorem Agree.set (i : Nat) (v : Option V) (σ : L2.St) : Agree [i] σ (σ.set i v) := ⟨by simp, fun j hj => List.getElem?_set_ne (fun z => hj (by simp [z]))⟩
theorem Agree.trans {ws ws' : List Nat} {σ σ1 σ2 : L2.St} (a : Agree ws σ σ1) (b : Agree ws' σ1 σ2) : Agree (ws ++ ws') σ σ2 := ⟨b.1.trans a.1, fun i hi => (b.2 i fun z => hi (List.mem_append_right _ z)).trans (a.2 i fun z => hi (List.mem_append_left _ z))⟩
def tGd (G : Gc) (W : WX) (ws : List Nat) (g : CG) : TG := fun v σ H Q => ∃ ρ Γ S d, Sim G.mg G.Tb ρ S H ∧ EnvR G.mg ρ H Γ σ ∧ Rep G.mg ρ H v d ∧ FinS G W { nx := fun σ' H' => Agree ws σ σ' → Q σ' H', rt := fun _ _ => False } ρ H (g d Γ S)
def tGds (G : Gc) (W : WX) (ws : List Nat) (g : CGs) : TGs := fun v σ H Q => ∃ ρ Γ S d, Sim G.mg G.Tb ρ S H ∧ EnvR G.mg ρ H Γ σ ∧ Reps G.mg ρ H v d ∧ FinS G W { nx := fun σ' H' => Agree ws σ σ' → Q σ' H', rt := fun _ _ => False } ρ H (g d Γ S)
def RG (G : Gc) (N : List Str) (cm : Md) (sc : Scope) (e : Expr) (ws : List Nat) (g : CG) : Prop := ∀ X W, Cz G N cm sc X W → PG X e (tGd G W ws g)
def RGs (G : Gc) (N : List Str) (cm : Md) (sc : Scope) (e : List Expr) (ws : List Nat) (g : CGs) : Prop := ∀ X W, Cz G N cm sc X W → PGs X e (tGds G W ws g)
theorem PG.imp {X : Cx} {e : Expr} {t u : TG} (h : PG X e t) (i : ∀ v σ H Q, u v σ H Q → t v σ H Q) : PG X e u := ⟨fun pins s σ H v u Q I r q => h.run pins s σ H v u Q I r (i v σ H Q q)⟩
theorem PG.or {X : Cx} {e : Expr} {t u : TG} (h : PG X e t) (h' : PG X e u) : PG X e (fun v σ H Q => t v σ H Q ∨ u v σ H Q) := ⟨fun pins s σ H v u Q I r q => q.elim (h.run pins s σ H v _ Q I r) (h'.run pins s σ H v _ Q I r)⟩
theorem PGs.imp {X : Cx} {e : List Expr} {t u : TGs} (h : PGs X e t) (i : ∀ v σ H Q, u v σ H Q → t v σ H Q) : PGs X e u := ⟨fun pins s σ H v u Q I r q => h.run pins s σ H v u Q I r (i v σ H Q q)⟩
def locB (cm : Md) (sc : Scope) (x : Str) : Bool := match sc.names.lookup x with
  | some .local => true
  | some .cell => cm.top
  | _ => false
theorem loc_of {X : Cx} {W : WX} {x : Str} (k : Cz G N cm sc X W) (h : locB cm sc x = true) : L2.Loc X.env.scope x ∧ (X.fn x = true ∨ X.env.scope.names.lookup x = some .local) := by
  unfold locB at h
  rw [k.hsc]
  unfold L2.Loc
  split at h
  · rename_i e; exact ⟨.inl e, .inr e⟩
  · rename_i e; exact ⟨.inr e, .inl (k.hfn h x)⟩
  · cases h
def gN (i : Nat) : CG := fun d Γ S => .nx (Γ.set i (some d)) S
theorem rg_name {i : Nat} {x : Str} (hN : N[i]? = some x) (hl : locB cm sc x = true) : RG G N cm sc (.Name x pos) [i] (gN i) := fun X W k => by
  obtain ⟨h1, h2⟩ := loc_of k hl
  refine PG.imp (pg_name (i := i) (by rw [k.hN]; exact k.nd) (by rw [k.hN]; exact hN) h1 h2) fun v σ H Q q => ?_
  obtain ⟨ρ, Γ, S, d, sm, e, r, g⟩ := q
  exact g ρ H _ (Grow.refl _ _) sm (e.set i r) (Agree.set _ _ _)
theorem FinS.nxm {W : WX} {n n' : L2.St → Hp → Prop} {ρ : List Addr} {H : Hp} {r : RS} (g : FinS G W { nx := n, rt := fun _ _ => False } ρ H r) (h : ∀ σ H, n σ H → n' σ H) : FinS G W { nx := n', rt := fun _ _ => False } ρ H r := by
  cases r with
  | nx Γ S => exact fun ρ' H' σ' a b c => h _ _ (g ρ' H' σ' a b c)
  | exc c Γ S => exact g
  | rt d S => exact g
  | bk Γ S => exact g
  | ct Γ S => exact g
  | stuck => exact g
def gNilG : CGs := fun ds Γ S => match ds with
  | [] => .nx Γ S
  | _ => .stuck
def gConsG (g : CG) (gs : CGs) : CGs := fun ds Γ S => match ds with
  | d :: ds => (g d Γ S).then (gs ds)
  | _ => .stuck
theorem rgs_nil : RGs G N cm sc [] [] gNilG := fun X W k => by
  refine PGs.imp pgs_nil fun v σ H Q q => ?_
  obtain ⟨ρ, Γ, S, d, sm, e, r, g⟩ := q
  cases r with
  | nil => exact ⟨rfl, g ρ H _ (Grow.refl _ _) sm e (Agree.refl _ _)⟩
  | cons _ _ => exact g.elim
theorem rgs_cons {g : CG} {gs : CGs} {ws ws' : List Nat} (h : RG G N cm sc e ws g) (h' : RGs G N cm sc es ws' gs) (hs : ∀ X : Cx, (assignEach (e :: es) X.env).map (·.2) = assign e X.env :: (assignEach es X.env).map (·.2) := by intro _; rfl) : RGs G N cm sc (e :: es) (ws ++ ws') (gConsG g gs) := fun X W k => by
  refine PGs.imp (pgs_cons (h X W k) (h' X W k) (hs X)) fun v σ H Q q => ?_
  obtain ⟨ρ, Γ, S, d, sm, e, r, g⟩ := q
  cases r with
  | nil => exact g.elim
  | cons r1 r2 =>
    refine ⟨_, _, rfl, ρ, Γ, S, _, sm, e, r1, FinS.thn g fun Γ' S' ρ' H' σ' g1 s1 e1 g2 ha => ⟨ρ', Γ', S', _, s1, e1, sm.reps g1 r2, FinS.nxm g2 fun σ2 H2 h hb => h (ha.trans hb)⟩⟩
/-- (a, b, ..) = a tuple, a list -/
def gTupG (n : Nat) (gs : CGs) : CG := fun d Γ S => match seqAt S d with
  | some ds => if ds.length = n then gs ds Γ S else .stuck
  | none => .stuck
theorem rg_tup {gs : CGs} {n k : Nat} {ws : List Nat} (hc : cm.calm = true) (h : RGs G N cm sc es ws gs) (hn : ∀ X : Cx, (assignEach es X.env).length = n := by intro _; rfl) (hst : ∀ X : Cx, (assignEach es X.env).findIdx? (·.1) = none := by intro _; rfl) : RG G N cm sc (.Tuple es k pos) ws (gTupG n gs) := fun X W c => by
  refine PG.imp (PG.or (pg_tup (c.calm.trans hc) (h X W c) (hn X) (hst X)) (pg_lst (c.calm.trans hc) (h X W c) (hn X) (hst X))) fun v σ H Q q => ?_
  obtain ⟨ρ, Γ, S, d, sm, e, r, g⟩ := q
  unfold gTupG at g
  split at g
  · rename_i ds hd
    split at g
    · rename_i hl
      obtain ⟨a, vs, rfl, ha, rs⟩ := sm.sqAt r hd
      rw [c.hK]
      rcases ha with ha | ha
      · exact .inr ⟨a, vs, rfl, ha, by rw [rs.length]; exact hl, ρ, Γ, S, ds, sm, e, rs, g⟩
      · exact .inl ⟨a, vs, rfl, ha, by rw [rs.length]; exact hl, ρ, Γ, S, ds, sm, e, rs, g⟩
    · exact g.elim
  · exact g.elim
/-- a target only goes on, or raises -/
def RS.tgt : RS → RS
  | .nx Γ S => .nx Γ S
  | .exc c Γ S => .exc c Γ S
  | _ => .stuck
theorem FinS.tgt {W : WX} {Dn : Ends} {r : RS} {A : L2.St → Prop} (g : FinS G W Dn ρ H r.tgt) : FinS G W { nx := fun σ' H' => A σ' → Dn.nx σ' H', rt := fun _ _ => False } ρ H r := by
  cases r with
  | nx _ _ => exact fun ρ' H' σ' a b c _ => g ρ' H' σ' a b c
  | exc _ _ _ => exact g
  | _ => exact g.elim
def cAsgT (m : CE) (g : CG) : CS := fun Γ S => (m Γ S).bindS Γ fun d S1 => (g d Γ S1).tgt
theorem rs_asg {tg : Expr} {g : CG} {ws : List Nat} (h : RE G N cm sc e m) (hg : RG G N cm sc tg ws g) (hs : ∀ env, env.scope = sc → swapsWithSole [tg] e pos.line env = pure false := by intro _ _; rfl) (hw : ∀ env, env.scope = sc → swappedStores [tg] e env = pure none := by intro _ _; rfl)
    (h1 : ∀ X : Cx, (assignEach [tg] X.env).map (·.2) = [assign tg X.env] := by intro _; rfl) : RSt G N cm sc (.Assign [tg] e pos) (cAsgT m g) := fun X W c => by
  refine PS.imp (ps_asg (h X W c) (hg X W c) (hs _ c.hsc) (hw _ c.hsc) (h1 X)) fun D σ H q => ?_
  obtain ⟨ρ, Γ, S, sm, e, g⟩ := q
  refine FinS.step sm e g fun d S1 ρ1 H1 x g1 s1 e1 r1 ga => ?_
  exact ⟨ρ1, Γ, S1, d, s1, e1, r1, FinS.tgt ga⟩
/-- name = .. -/
def cSet (i : Nat) (m : CE) : CS := fun Γ S => (m Γ S).bindS Γ fun d S1 => .nx (Γ.set i (some d)) S1
theorem rs_set {i : Nat} {x : Str} {pos' : Pos} (hN : N[i]? = some x) (hl : locB cm sc x = true) (h : RE G N cm sc e m) (hs : ∀ env, env.scope = sc → swapsWith e (some (.Name x pos')) pos.line env = pure false := by intro _ _; rfl) : RSt G N cm sc (.Assign [.Name x pos'] e pos) (cSet i m) := fun X W c => by
  obtain ⟨h1, h2⟩ := loc_of c hl
  refine PS.imp (ps_set (i := i) (by rw [c.hN]; exact c.nd) (by rw [c.hN]; exact hN) h1 (h X W c) (hs _ c.hsc) h2) fun D σ H q => ?_
  obtain ⟨ρ, Γ, S, sm, e, g⟩ := q
  refine FinS.step sm e g fun d S1 ρ1 H1 x g1 s1 e1 r1 ga => ?_
  exact ga ρ1 H1 _ (Grow.refl _ _) s1 (e1.set i r1)
/-- a, b = .., .. -/
def cPar (i j : Nat) (ms : CA) : CS := fun Γ S => (ms Γ S).bindS Γ fun ds S1 => match ds with
  | [d, d'] => .nx ((Γ.set i (some d)).set j (some d')) S1
  | _ => .stuck
theorem rs_par {i j : Nat} {x y : Str} {px py pt : Pos} {kt k2 : Nat} {pt2 : Pos} (hc : cm.calm = true) (hi : N[i]? = some x) (hj : N[j]? = some y) (hij : i ≠ j) (hx : sc.names.lookup x = some .local) (hy : sc.names.lookup y = some .local) (h : RA G N cm sc [e1, e2] ma)
    (hw : ∀ env, env.scope = sc → swappedStores [.Tuple [.Name x px, .Name y py] kt pt] (.Tuple [e1, e2] k2 pt2) env = pure (some [x, y])) (hs : ∀ env, env.scope = sc → swapsWithSole [.Tuple [.Name x px, .Name y py] kt pt] (.Tuple [e1, e2] k2 pt2) pos.line env = pure false := by intro _ _; rfl) :
    RSt G N cm sc (.Assign [.Tuple [.Name x px, .Name y py] kt pt] (.Tuple [e1, e2] k2 pt2) pos) (cPar i j ma) := fun X W c => by
  refine PS.imp (ps_par (i := i) (j := j) (c.calm.trans hc) (by rw [c.hN]; exact c.nd) (by rw [c.hN]; exact hi) (by rw [c.hN]; exact hj) hij (by rw [c.hsc]; exact hx) (by rw [c.hsc]; exact hy) (h X W c) (hw _ c.hsc) (hs _ c.hsc)) fun D σ H q => ?_
  obtain ⟨ρ, Γ, S, sm, e, g⟩ := q
  refine FinS.step sm e g fun d S1 ρ1 H1 x g1 s1 e1 r1 ga => ?_
  match r1, ga with
  | .cons q1 (.cons q2 .nil), ga => exact ⟨_, _, rfl, ga ρ1 H1 _ (Grow.refl _ _) s1 ((e1.set i q1).set j q2)⟩
  | .nil, ga => exact ga.elim
  | .cons _ .nil, ga => exact ga.elim
  | .cons _ (.cons _ (.cons _ _)), ga => exact ga.elim
/-! ### stores to items and attributes -/
def setIx (d : D) : D → D → Gm → Hd → RS := fun o i Γ S => match o, i with
  | .ref n, .int k => match S[n]? with
    | some (.lst xs) => match ixN xs.length k with
      | some j => .nx Γ (S.set n (.lst (xs.set j d)))
      | none => .stuck
    | _ => .stuck
  | _, _ => .stuck
def gSubG (mo mi : CE) : CG := fun d Γ S => (mo Γ S).bindS Γ fun o S1 => (mi Γ S1).bindS Γ fun i S2 => setIx d o i Γ S2
theorem rg_sub (h1 : RE G N cm sc e1 m1) (h2 : RE G N cm sc e2 m2) (ha : ∀ (X : Cx) v, assign (.Subscript e1 e2 pos) X.env v = (do
      let ov ← holding [v] (eval e1 X.env)
      let iv ← holding [v, ov] (eval e2 X.env)
      standAt pos
      holding [v, ov, iv] (setItem ov iv v)
      release [v, ov, iv] []) := by intro _ _; rfl) : RG G N cm sc (.Subscript e1 e2 pos) [] (gSubG m1 m2) := fun X W c => by
  refine PG.imp (pg_sub (h1 X W c) (h2 X W c) set_list (ha X)) fun v σ H Q q => ?_
  obtain ⟨ρ, Γ, S, d, sm, e, r, g⟩ := q
  refine FinS.step sm e g fun o S1 ρ1 H1 x g1 s1 e1 r1 ga => ?_
  refine FinS.step s1 e1 ga fun i S2 ρ2 H2 y g2 s2 e2 r2 gb => ?_
  have r1 := s1.rep g2 r1
  have r := s1.rep g2 (sm.rep g1 r)
  cases r1 with
  | ref hn => cases r2 with
    | int k =>
      dsimp only [setIx] at gb
      split at gb
      · rename_i xs hx
        split at gb
        · rename_i j hj
          obtain ⟨vs, h1, rs⟩ := s2.ltAt hn hx
          have hw := s2.write (u := .lst (vs.set j v)) (o := .lst (xs.set j d)) hn rfl fun H' q1 tu => .lst q1 ((rs.set j r).keep (List.prefix_refl _) tu)
          exact ⟨_, vs, k, j, rfl, rfl, h1, by rw [rs.length]; exact hj, gb ρ2 _ σ hw.2 hw.1 (s2.env hw.2 e2) (Agree.refl _ _)⟩
        · exact gb.elim
      · exact gb.elim
    | _ => exact gb.elim
  | _ => first | exact gb.elim | (cases r2 <;> exact gb.elim)
/-- an attribute's place -/
def putD (f : Str) (d : D) : List (Str × D) → List (Str × D)
  | [] => [(f, d)]
  | (g, x) :: r => if g = f then (g, d) :: r else (g, x) :: putD f d r
def setAt (f : Str) (d : D) : D → Gm → Hd → RS := fun o Γ S => match o with
  | .ref n => match S[n]? with
    | some (.ins C fs) => if fs.length < 1000 then .nx Γ (S.set n (.ins C (putD f d fs))) else .stuck
    | _ => .stuck
  | _ => .stuck
theorem put_rep {ρ : List Addr} {H : Hp} {f : Str} {v : V} {d : D} (r : Rep G.mg ρ H v d) : ∀ {fs : List (Str × V)} {fd : List (Str × D)}, fs.map (·.1) = fd.map (·.1) → Reps G.mg ρ H (fs.map (·.2)) (fd.map (·.2)) →
    (putF f v fs).map (·.1) = (putD f d fd).map (·.1) ∧ Reps G.mg ρ H ((putF f v fs).map (·.2)) ((putD f d fd).map (·.2))
  | [], [], _, _ => ⟨rfl, .cons r .nil⟩
  | [], _ :: _, h, _ => by cases h
  | _ :: _, [], h, _ => by cases h
  | (g, x) :: fs, (g', x') :: fd, h, rs => by
    simp only [List.map_cons, List.cons.injEq] at h
    obtain ⟨h1, h2⟩ := h
    subst h1
    cases rs with
    | cons r1 r2 =>
      unfold putF putD
      by_cases e : g = f
      · rw [if_pos e, if_pos e]
        exact ⟨by simp [h2], .cons r r2⟩
      · rw [if_neg e, if_neg e]
        obtain ⟨h3, h4⟩ := put_rep r h2 r2
        exact ⟨by simp [h3], .cons r1 h4⟩
/-- the class C, its attributes by name -/
structure ClA (G : Gc) (C f : Str) : Prop where
  ok : ∀ c, G.mg C = some (.ref c) → Cls G.K c ∧ NoAttr G.K c f
/-- o.f, o an instance of one of the classes -/
def getAt (Cs : List Str) (f : Str) : D → Hd → R D := fun o S => match o with
  | .ref n => match S[n]? with
    | some (.ins C fs) => if Cs.contains C then match fs.lookup f with
      | some d => .ok d S
      | none => .stuck else .stuck
    | _ => .stuck
  | _ => .stuck
theorem look_rep {ρ : List Addr} {H : Hp} {f : Str} {d : D} : ∀ {fs : List (Str × V)} {fd : List (Str × D)}, fs.map (·.1) = fd.map (·.1) → Reps G.mg ρ H (fs.map (·.2)) (fd.map (·.2)) → fd.lookup f = some d → ∃ v, fs.lookup f = some v ∧ Rep G.mg ρ H v d
  | [], [], _, _, h => by cases h
  | [], _ :: _, h, _, _ => by cases h
  | _ :: _, [], h, _, _ => by cases h
  | (g, x) :: fs, (g', x') :: fd, h, rs, hl => by
    simp only [List.map_cons, List.cons.injEq] at h
    obtain ⟨h1, h2⟩ := h
    subst h1
    cases rs with
    | cons r1 r2 =>
      rw [List.lookup_cons] at hl ⊢
      cases e : f == g with
      | true => rw [e] at hl; cases hl; exact ⟨x, by simp, r1⟩
      | false => rw [e] at hl; exact look_rep h2 r2 hl
theorem re_attr {Cs : List Str} {f : Str} (hC : ∀ C ∈ Cs, ClA G C f) (h : RE G N cm sc e m) (hb : ∀ X : Cx, attributeBase e f X.env (eval e X.env) = eval e X.env := by intro _; rfl) : RE G N cm sc (.Attribute e f pos) (cOp1 (getAt Cs f) m) := fun X W c => by
  refine PE.imp (pe_fld (h X W c) (hb X)) fun σ H Q q => ?_
  obtain ⟨ρ, Γ, S, sm, e, g⟩ := q
  refine Fin.step sm e g fun o S1 ρ1 H1 x g1 s1 e1 r1 ga => ?_
  cases r1 with
  | ref hn =>
    dsimp only [getAt] at ga
    split at ga
    · rename_i C fs hx
      split at ga
      · rename_i hm
        split at ga
        · rename_i d hd
          obtain ⟨cc, dx, vs, hc, h1, h2, h3⟩ := s1.inAt hn hx
          obtain ⟨v, h4, h5⟩ := look_rep h2 h3 hd
          have hk := (hC C (List.contains_iff_mem.mp hm)).ok cc hc
          rw [c.hK]
          exact ⟨_, cc, dx, vs, v, rfl, h1, hk.1, hk.2, h4, ga.here s1 h5⟩
        · exact ga.elim
      · exact ga.elim
    · exact ga.elim
  | _ => exact ga.elim
def setAtC (Cs : List Str) (f : Str) (d : D) : D → Gm → Hd → RS := fun o Γ S => match o with
  | .ref n => match S[n]? with
    | some (.ins C fs) => if Cs.contains C && decide (fs.length < 1000) then .nx Γ (S.set n (.ins C (putD f d fs))) else .stuck
    | _ => .stuck
  | _ => .stuck
theorem Sim.writeB {ρ : List Addr} {S : Hd} {H H' : Hp} (s : Sim G.mg G.Tb ρ S H) {n : Nat} {a : Addr} {o : Ob} (hn : ρ[n]? = some a) (hb : But a H H') (ho : (∀ b xs, H b = some (.tup xs) → H' b = some (.tup xs)) → ObR G.mg ρ H' a o) : Sim G.mg G.Tb ρ (S.set n o) H' ∧ Grow ρ H ρ H' := by
  have hl : n < S.length := by
    rw [← s.len]
    exact (List.getElem?_eq_some_iff.mp hn).1
  have ma : a ∈ ρ := List.mem_of_getElem? hn
  have tu : ∀ b xs, H b = some (.tup xs) → H' b = some (.tup xs) := fun b xs e => hb.get e (fun z => s.notup b xs e (by rw [z]; exact ma)) rfl
  refine ⟨⟨by simp [s.len], s.nd, fun m q e => ?_, fun P hP => hb.tab (s.tb P hP)⟩, List.prefix_refl _, fun {b q} e nb t => hb.get e (fun z => nb (by rw [z]; exact ma)) t, fun {P} t => hb.tab t, fun h k => absurd h k, fun {p} e => hb.free e⟩
  by_cases hm : n = m
  · subst hm
    rw [List.getElem?_set_self hl] at e
    cases e
    exact ⟨a, hn, ho tu⟩
  · rw [List.getElem?_set_ne hm] at e
    obtain ⟨b, h1, h2⟩ := s.ob m q e
    have nb : b ≠ a := fun z => by
      subst z
      have i1 := List.getElem?_eq_some_iff.mp hn
      have i2 := List.getElem?_eq_some_iff.mp h1
      exact hm ((List.getElem_inj s.nd).mp (i1.2.trans i2.2.symm))
    refine ⟨b, h1, ?_⟩
    cases h2 with
    | lst h r => exact .lst (hb.get h nb rfl) (r.keep (List.prefix_refl _) tu)
    | ro h r => exact .ro (hb.get h nb rfl) (r.keep (List.prefix_refl _) tu)
    | dct h k r => exact .dct (hb.get h nb rfl) k (r.keep (List.prefix_refl _) tu)
    | ins h c k r => exact .ins (hb.get h nb rfl) c k (r.keep (List.prefix_refl _) tu)
theorem set_at {Cs : List Str} {f : Str} (hC : ∀ C ∈ Cs, ClA G C f) {ρ : List Addr} {S : Hd} {H : Hp} {x y : V} {o d : D} {Γ : Gm} {σ : L2.St} {W : WX} {Dn : Ends} (sm : Sim G.mg G.Tb ρ S H) (e : EnvR G.mg ρ H Γ σ) (rx : Rep G.mg ρ H x o) (ry : Rep G.mg ρ H y d) (g : FinS G W Dn ρ H (setAtC Cs f d o Γ S)) :
    ∃ a C dx fs, x = .ref a ∧ H a = some (.ins C dx fs) ∧ Cls G.K C ∧ NoAttr G.K C f ∧ fs.length < 1000 ∧ Put H a C dx (putF f y fs) fun H' => Dn.nx σ H' := by
  cases rx with
  | ref hn =>
    dsimp only [setAtC] at g
    split at g
    · rename_i C fs hx
      split at g
      · rename_i hm
        rw [Bool.and_eq_true, decide_eq_true_eq] at hm
        obtain ⟨cc, dx, vs, hc, h1, h2, h3⟩ := sm.inAt hn hx
        have hk := (hC C (List.contains_iff_mem.mp hm.1)).ok cc hc
        obtain ⟨h4, h5⟩ := put_rep (f := f) ry h2 h3
        refine ⟨_, cc, dx, vs, rfl, h1, hk.1, hk.2, ?_, ⟨fun H' q1 hb => ?_⟩⟩
        · have := congrArg List.length h2
          simp at this
          omega
        · have hw := sm.writeB (o := .ins C (putD f d fs)) hn hb fun tu => .ins q1 hc h4 (h5.keep (List.prefix_refl _) tu)
          exact g ρ _ σ hw.2 hw.1 (sm.env hw.2 e)
      · exact g.elim
    · exact g.elim
  | _ => exact g.elim
def cSetAt (Cs : List Str) (f : Str) (mo mv : CE) : CS := fun Γ S => (mv Γ S).bindS Γ fun d S1 => (mo Γ S1).bindS Γ fun o S2 => setAtC Cs f d o Γ S2
theorem rs_attr {Cs : List Str} {f : Str} {pos' : Pos} (hC : ∀ C ∈ Cs, ClA G C f) (h1 : RE G N cm sc e1 m1) (h2 : RE G N cm sc e2 m2) (hs : ∀ env, env.scope = sc → swapsWith e2 (some (.Attribute e1 f pos')) pos.line env = pure false := by intro _ _; rfl) : RSt G N cm sc (.Assign [.Attribute e1 f pos'] e2 pos) (cSetAt Cs f m1 m2) := fun X W c => by
  refine PS.imp (ps_fldM (h1 X W c) (h2 X W c) (hs _ c.hsc)) fun D σ H q => ?_
  obtain ⟨ρ, Γ, S, sm, e, g⟩ := q
  refine FinS.step sm e g fun d S1 ρ1 H1 y g1 s1 e1 r1 ga => ?_
  refine FinS.step s1 e1 ga fun o S2 ρ2 H2 x g2 s2 e2 r2 gb => ?_
  rw [c.hK]
  exact set_at hC s2 e2 r2 (s1.rep g2 r1) gb
def gAttrG (Cs : List Str) (f : Str) (mo : CE) : CG := fun d Γ S => (mo Γ S).bindS Γ fun o S1 => setAtC Cs f d o Γ S1
theorem rg_attr {Cs : List Str} {f : Str} (hC : ∀ C ∈ Cs, ClA G C f) (h : RE G N cm sc e m) : RG G N cm sc (.Attribute e f pos) [] (gAttrG Cs f m) := fun X W c => by
  refine PG.imp (pg_fldM (h X W c)) fun v σ H Q q => ?_
  obtain ⟨ρ, Γ, S, d, sm, e, r, g⟩ := q
  refine FinS.step sm e g fun o S1 ρ1 H1 x g1 s1 e1 r1 ga => ?_
  rw [c.hK]
  have hh := set_at (Dn := { nx := fun σ' H' => Agree [] σ σ' → Q σ' H', rt := fun _ _ => False }) hC s1 e1 r1 (sm.rep g1 r) ga
  obtain ⟨a, C, dx, fs, h1, h2, h3, h4, h5, h6⟩ := hh
  exact ⟨a, C, dx, fs, h1, h2, h3, h4, h5, ⟨fun H' q1 q2 => h6.h H' q1 q2 (Agree.refl _ _)⟩⟩
end
end Dn

set_option Elab.async false
set_option linter.all false
set_option maxRecDepth 100000
set_option maxHeartbeats 4000000
set_option autoImplicit false
/-! # Walks, for, while, comprehensions -/
namespace Dn
open PySem PySem.Spec PyProof.Rows L2 Kx
/-- what is walked -/
inductive Bs where
  | items (ds : List D) | lst (n : Nat)
inductive Src where
  | base (b : Bs) | enum (b : Bs) | zip (a b : Bs)
def cont (S : Hd) : Bs → Option (List D)
  | .items ds => some ds
  | .lst n => lstAt S n
/-- the i-th: none: no such walk; some none: the end -/
def nextS (S : Hd) (i : Nat) : Src → Option (Option D)
  | .base b => match cont S b with
    | some ds => some ds[i]?
    | none => none
  | .enum b => match cont S b with
    | some ds => match ds[i]? with
      | some d => some (some (.tup [.int i, d]))
      | none => if i = ds.length then some none else none
    | none => none
  | .zip a b => match cont S a, cont S b with
    | some ds, some es => match ds[i]?, es[i]? with
      | some d, some e => some (some (.tup [d, e]))
      | _, _ => if i ≤ ds.length ∧ i ≤ es.length then some none else none
    | _, _ => none
section
variable {G : Gc} {N : List Str} {cm : Md} {sc : Scope} {pos p p2 tpos : Pos} {ρ : List Addr} {S : Hd} {H : Hp} {e e1 e2 tg iter : Expr} {m m1 m2 : CE} {es : List Expr} {ma : CA} {st : Stmt} {sts a b : List Stmt} {c c1 c2 : CS} {t : CT} {g : CG} {m₀ : CM Src} {ws : List Nat}
/-- the layer's walk J is this one -/
def ItR (G : Gc) (ρ0 : List Addr) (H0 : Hp) (J : It) (src : Src) : Prop := ∀ ρ S H, Grow ρ0 H0 ρ H → Sim G.mg G.Tb ρ S H → ∀ i,
  (nextS S i src = some none → J.stop i H) ∧ ∀ d, nextS S i src = some (some d) → J.go i H ∧ ∀ x H', J.yld i H x H' → Grow ρ H ρ H' ∧ Sim G.mg G.Tb ρ S H' ∧ Rep G.mg ρ H' x d
abbrev CI := CM Src
abbrev tI (G : Gc) (W : WX) (m : CI) : TI := tG G (ItR G) W m
def RI (G : Gc) (N : List Str) (cm : Md) (sc : Scope) (tg iter : Expr) (m : CI) : Prop := ∀ X W, Cz G N cm sc X W → PI X tg iter (tI G W m)
theorem ItR.of_sqL {n : Nat} {a : Addr} (hn : ρ[n]? = some a) : ItR G ρ H (Itl G.K a) (.base (.lst n)) := fun ρ' S' H' g s i => by
  have hn' := pre_get g.pre hn
  refine ⟨fun h => ?_, fun d h => ?_⟩
  · simp only [nextS, cont] at h
    split at h
    · rename_i xs hx
      obtain ⟨vs, h1, r⟩ := s.lsAt hn' hx
      simp only [Option.some.injEq, List.getElem?_eq_none_iff] at h
      exact ⟨vs, h1, by rw [r.length]; exact h⟩
    · cases h
  · simp only [nextS, cont] at h
    split at h
    · rename_i xs hx
      obtain ⟨vs, h1, r⟩ := s.lsAt hn' hx
      simp only [Option.some.injEq] at h
      obtain ⟨v, hv, rv⟩ := r.get h
      refine ⟨⟨vs, v, h1, hv⟩, fun x H2 y => ?_⟩
      obtain ⟨rfl, y⟩ := y
      have e := y vs h1
      rw [hv] at e
      cases e
      exact ⟨Grow.refl _ _, s, rv⟩
    · cases h
theorem ItR.of_tup {a : Addr} {vs : List V} {ds : List D} (s0 : Sim G.mg G.Tb ρ S H) (h : H a = some (.tup vs)) (r : Reps G.mg ρ H vs ds) : ItR G ρ H (Itt G.K a) (.base (.items ds)) := fun ρ' S' H' g s i => by
  have h' := g.tup s0.notup h
  have r' := s0.reps g r
  refine ⟨fun h => ?_, fun d h => ?_⟩
  · simp only [nextS, cont, Option.some.injEq, List.getElem?_eq_none_iff] at h
    exact ⟨vs, SqT.of h', by rw [r'.length]; exact h⟩
  · simp only [nextS, cont, Option.some.injEq] at h
    obtain ⟨v, hv, rv⟩ := r'.get h
    refine ⟨⟨vs, v, SqT.of h', hv⟩, fun x H2 y => ?_⟩
    obtain ⟨rfl, y⟩ := y
    have e := y vs (SqT.of h')
    rw [hv] at e
    cases e
    exact ⟨Grow.refl _ _, s, rv⟩
def chD (l : List Nat) : List D := l.map fun c => .str [c]
theorem ItR.of_str {z : Str} {l : List Nat} (h : z.cps.toList = l) : ItR G ρ H (Its z) (.base (.items (chD l))) := fun ρ' S' H' g s i => by
  subst h
  refine ⟨fun h => ?_, fun d h => ?_⟩
  · simp only [nextS, cont, chD, Option.some.injEq, List.getElem?_eq_none_iff, List.length_map, Array.length_toList] at h
    exact h
  · simp only [nextS, cont, chD, Option.some.injEq, List.getElem?_map, Option.map_eq_some_iff] at h
    obtain ⟨c, hc, rfl⟩ := h
    rw [Array.getElem?_toList] at hc
    refine ⟨(Array.getElem?_eq_some_iff.mp hc).1, fun x H2 y => ?_⟩
    obtain ⟨rfl, c', hc', rfl⟩ := y
    rw [hc] at hc'
    cases hc'
    exact ⟨Grow.refl _ _, s, .str rfl⟩
/-- any value -/
def srcD : D → Hd → R Src
  | .str l, S => .ok (.base (.items (chD l))) S
  | .tup ds, S => .ok (.base (.items ds)) S
  | .ref n, S => match lstAt S n with
    | some _ => .ok (.base (.lst n)) S
    | none => .stuck
  | _, _ => .stuck
def cSrc (m : CE) : CI := fun Γ S => (m Γ S).bind srcD
theorem ri_seq (h : RE G N cm sc e m) : RI G N cm sc tg e (cSrc m) := fun X W c => by
  refine ⟨fun pins s σ H R I h0 => ?_⟩
  obtain ⟨ρ, Γ, S, sm, en, g⟩ := h0
  have hh := (h X W c).run pins s σ H (fun v H1 => match v with
    | .ref a => ((∃ xs, SqL X.K H1 a xs) ∧ R (Itl X.K a) H1) ∨ ((∃ xs, SqT X.K H1 a xs) ∧ R (Itt X.K a) H1)
    | .str z => R (Its z) H1
    | _ => False) I (Fin.step sm en g fun d S1 ρ1 H1 x g1 s1 e1 r1 ga => by
      rw [c.hK]
      cases r1 with
      | str hz => exact ga.here s1 (ItR.of_str hz)
      | tup ha r => exact .inr ⟨⟨_, SqT.of ha⟩, ga.here s1 (ItR.of_tup s1 ha r)⟩
      | ref hn =>
        dsimp only [srcD] at ga
        split at ga
        · rename_i xs hx
          obtain ⟨vs, h1, r⟩ := s1.lsAt hn hx
          exact .inl ⟨⟨vs, h1⟩, ga.here s1 (ItR.of_sqL hn)⟩
        · exact ga.elim
      | _ => exact ga.elim)
  refine thn hh fun v s1 ⟨x, H1, I1, r1, q⟩ => ?_
  cases x with
  | ref a =>
    cases r1
    rcases q with ⟨⟨xs, hs⟩, q⟩ | ⟨⟨xs, hs⟩, q⟩
    · obtain ⟨its, rv, p, hz⟩ := I1.list hs
      exact wpAny_pyIter_list p.isList (pi_one (tk := s1.toks) I1 _ (turn_list a _) ⟨_, Heap.get?_push_size _ rfl, rfl, rfl⟩ q)
    · obtain ⟨its, rv, p, hz⟩ := I1.tuple hs
      exact wpAny_pyIter_tuple (show s1.heap.IsTuple a its.toArray from p) (pi_one (tk := s1.toks) I1 _ (turn_tuple a _) ⟨_, Heap.get?_push_size _ rfl, rfl, rfl⟩ q)
  | str z =>
    obtain ⟨t, rfl⟩ := r1
    cases ha : z.cps.all (· < 128)
    · exact wpAny_pyIter_wide ha (pi_one (tk := s1.toks) I1 _ (turn_str _ z t "str_iterator" (.inr rfl)) ⟨_, Heap.get?_push_size _ rfl, rfl, rfl⟩ q)
    · exact wpAny_pyIter_ascii ha (pi_one (tk := s1.toks) I1 _ (turn_str _ z t "str_ascii_iterator" (.inl rfl)) ⟨_, Heap.get?_push_size _ rfl, rfl, rfl⟩ q)
  | _ => exact q.elim
/-! ### ranges -/
def rngL (lo : Int) (n : Nat) : List D := (List.range n).map fun i : Nat => .int (lo + (i : Int))
def smI (i : Int) : Bool := decide (-4611686018427387904 ≤ i) && decide (i < 4611686018427387904)
def cRng1 (ma : CA) : CI := fun Γ S => (ma Γ S).bind fun ds S1 => match ds with
  | [.int j] => if smI j then .ok (.base (.items (rngL 0 j.toNat))) S1 else .stuck
  | _ => .stuck
def cRng2 (ma : CA) : CI := fun Γ S => (ma Γ S).bind fun ds S1 => match ds with
  | [.int i, .int j] => if smI i && smI j then .ok (.base (.items (rngL i (j - i).toNat))) S1 else .stuck
  | _ => .stuck
theorem ItR.of_rng {lo : Int} {n : Nat} : ItR G ρ H (Itr lo n) (.base (.items (rngL lo n))) := fun ρ' S' H' g s i => by
  refine ⟨fun h => ?_, fun d h => ?_⟩
  · simp only [nextS, cont, rngL, Option.some.injEq, List.getElem?_eq_none_iff, List.length_map, List.length_range] at h
    exact h
  · simp only [nextS, cont, rngL, Option.some.injEq, List.getElem?_map, Option.map_eq_some_iff] at h
    obtain ⟨c, hc, rfl⟩ := h
    have hi := (List.getElem?_eq_some_iff.mp hc).1
    rw [List.length_range] at hi
    rw [List.getElem?_range hi] at hc
    cases hc
    exact ⟨hi, fun x H2 y => by
      obtain ⟨rfl, rfl⟩ := y
      exact ⟨Grow.refl _ _, s, .int _⟩⟩
theorem glB_of {X : Cx} {W : WX} {x : Str} (k : Cz G N cm sc X W) (h : glB sc x = true) : Gl X x ∧ (x == ("__debug__" : Str)) = false ∧ x ≠ "__name__" := by
  unfold glB at h
  simp only [Bool.and_eq_true, decide_eq_true_eq, Bool.not_eq_true'] at h
  refine ⟨?_, h.1.2, by simpa using h.2⟩
  unfold Gl Env.kindOf
  rw [k.hsc]
  exact h.1.1
theorem ri_rng1 (hg : glB sc "range" = true) (hm : G.mg "range" = none) (ha : RA G N cm sc [e] ma) (hs : ∀ X : Cx, starEach [e] X.env = [(false, eval e X.env)] := by intro _; rfl) : RI G N cm sc tg (.Call (.Name "range" p) [e] [] pos) (cRng1 ma) := fun X W c => by
  refine ⟨fun pins s σ H R I h0 => ?_⟩
  obtain ⟨ρ, Γ, S, sm, en, g⟩ := h0
  refine (pi_range1 (glB_of c hg).1 (by rw [c.hmg]; exact hm) (ha X W c) (hs X)).run pins s σ H R I ?_
  refine Fin.step sm en g fun ds S1 ρ1 H1 x g1 s1 e1 r1 ga => ?_
  split at ga
  · rename_i j
    obtain ⟨v, rfl, rv⟩ := r1.one
    cases rv
    split at ga
    · rename_i hj
      unfold smI at hj
      simp only [Bool.and_eq_true, decide_eq_true_eq] at hj
      have q := ga.here s1 (ItR.of_rng (lo := 0) (n := j.toNat))
      exact ⟨j, rfl, by omega, by omega, by simpa using q⟩
    · exact ga.elim
  · exact ga.elim
theorem ri_rng2 (hg : glB sc "range" = true) (hm : G.mg "range" = none) (ha : RA G N cm sc [e1, e2] ma) (hs : ∀ X : Cx, starEach [e1, e2] X.env = [(false, eval e1 X.env), (false, eval e2 X.env)] := by intro _; rfl) (hs2 : ∀ X : Cx, starEach [e2] X.env = [(false, eval e2 X.env)] := by intro _; rfl) : RI G N cm sc tg (.Call (.Name "range" p) [e1, e2] [] pos) (cRng2 ma) := fun X W c => by
  refine ⟨fun pins s σ H R I h0 => ?_⟩
  obtain ⟨ρ, Γ, S, sm, en, g⟩ := h0
  refine (pi_range2 (glB_of c hg).1 (by rw [c.hmg]; exact hm) (ha X W c) (hs X) (hs2 X)).run pins s σ H R I ?_
  refine Fin.step sm en g fun ds S1 ρ1 H1 x g1 s1 e1 r1 ga => ?_
  split at ga
  · rename_i i j
    obtain ⟨v, v', rfl, rv, rv'⟩ := r1.two
    cases rv
    cases rv'
    split at ga
    · rename_i hj
      unfold smI at hj
      simp only [Bool.and_eq_true, decide_eq_true_eq] at hj
      have q := ga.here s1 (ItR.of_rng (lo := i) (n := (j - i).toNat))
      exact ⟨i, j, rfl, by omega, q⟩
    · exact ga.elim
  · exact ga.elim
/-! ### for -/
def forL (src : Src) (g : CG) (b : CS) : Nat → Nat → Gm → Hd → RS
  | 0, _, _, _ => .stuck
  | k + 1, i, Γ, S => match nextS S i src with
    | none => .stuck
    | some none => .nx Γ S
    | some (some d) => (g d Γ S).tgt.then fun Γ1 S1 => match b Γ1 S1 with
      | .nx Γ2 S2 => forL src g b k (i + 1) Γ2 S2
      | .ct Γ2 S2 => forL src g b k (i + 1) Γ2 S2
      | .bk Γ2 S2 => .nx Γ2 S2
      | r => r
def forFuel : Nat := 16777300
def cFor (it : CI) (g : CG) (b : CS) : CS := fun Γ S => (it Γ S).bindS Γ fun src S1 => forL src g b forFuel 0 Γ S1
theorem FinS.body {W : WX} {Dn : Ends} {r : RS} {f : Gm → Hd → RS} {N' : L2.St → Hp → Prop} {k : RS → RS} (hk : ∀ r, k r = match r with | .nx Γ2 S2 => f Γ2 S2 | .ct Γ2 S2 => f Γ2 S2 | .bk Γ2 S2 => .nx Γ2 S2 | r => r) (g : FinS G W Dn ρ H (k r))
    (h : ∀ Γ S ρ' H' σ', Grow ρ H ρ' H' → Sim G.mg G.Tb ρ' S H' → EnvR G.mg ρ' H' Γ σ' → FinS G W Dn ρ' H' (f Γ S) → N' σ' H') : FinS G W { Dn with nx := N', ct := N', bk := Dn.nx } ρ H r := by
  rw [hk] at g
  cases r with
  | nx Γ S => exact fun ρ' H' σ' g1 s1 e1 => h Γ S ρ' H' σ' g1 s1 e1 (FinS.grow g1 g)
  | rt d S => exact g
  | bk Γ S => exact g
  | ct Γ S => exact fun ρ' H' σ' g1 s1 e1 => h Γ S ρ' H' σ' g1 s1 e1 (FinS.grow g1 g)
  | exc c Γ S => exact g
  | stuck => exact g
theorem FinS.tgt_then {W : WX} {Dn : Ends} {r : RS} {f : Gm → Hd → RS} {A : L2.St → Prop} {N' : L2.St → Hp → Prop} (g : FinS G W Dn ρ H (r.tgt.then f)) (h : ∀ Γ S ρ' H' σ', Grow ρ H ρ' H' → Sim G.mg G.Tb ρ' S H' → EnvR G.mg ρ' H' Γ σ' → FinS G W Dn ρ' H' (f Γ S) → A σ' → N' σ' H') : FinS G W { nx := fun σ' H' => A σ' → N' σ' H', rt := fun _ _ => False } ρ H r := by
  cases r with
  | nx Γ S => exact fun ρ' H' σ' g1 s1 e1 => h Γ S ρ' H' σ' g1 s1 e1 (FinS.grow g1 g)
  | exc c Γ S => exact g
  | _ => exact g.elim
theorem rs_for (hc : cm.calm = true) (hi : RI G N cm sc tg iter m₀) (hg : RG G N cm sc tg ws g) (hb : RSs G N cm sc b c1) (hs : ∀ (X : Cx) x, foldedSetIterable iter X.env x = pure x := by intro _ _; rfl) : RSt G N cm sc (.For tg iter b [] pos) (cFor m₀ g c1) := fun X W c => by
  refine PS.imp (ps_for c.pass (c.calm.trans hc) (hi X W c) (hg X W c) (hb X W c) (hs X)) fun D σ H q => ?_
  obtain ⟨ρ, Γ, S, sm, e, q⟩ := q
  refine FinS.step sm e q fun src S1 ρ1 H1 J g1 s1 e1 hJ ga => ?_
  refine ⟨fun i k σ H => ∃ ρ' Γ S, Grow ρ1 H1 ρ' H ∧ Sim G.mg G.Tb ρ' S H ∧ EnvR G.mg ρ' H Γ σ ∧ FinS G W D ρ' H (forL src g c1 k i Γ S), ⟨forFuel, ρ1, Γ, S1, Grow.refl _ _, s1, e1, ga⟩, ?_⟩
  rintro i k σ2 H2 ⟨ρ2, Γ2, S2, g2, s2, e2, q2⟩
  cases k with
  | zero => exact q2.elim
  | succ k =>
    unfold forL at q2
    split at q2
    · exact q2.elim
    · rename_i hn
      exact .inl ⟨(hJ ρ2 S2 H2 g2 s2 i).1 hn, q2 ρ2 H2 σ2 (Grow.refl _ _) s2 e2⟩
    · rename_i d hn
      obtain ⟨h1, h2⟩ := (hJ ρ2 S2 H2 g2 s2 i).2 d hn
      refine .inr ⟨h1, fun σ' H' => ∃ m', m' < k + 1 ∧ ∃ ρ' Γ S, Grow ρ1 H1 ρ' H' ∧ Sim G.mg G.Tb ρ' S H' ∧ EnvR G.mg ρ' H' Γ σ' ∧ FinS G W D ρ' H' (forL src g c1 m' (i + 1) Γ S), fun σ' H' h => h, fun x H3 y => ?_⟩
      obtain ⟨g3, s3, r3⟩ := h2 x H3 y
      refine ⟨ρ2, Γ2, S2, d, s3, s2.env g3 e2, r3, FinS.tgt_then (FinS.grow g3 q2) fun Γ4 S4 ρ4 H4 σ4 g4 s4 e4 q4 _ => ?_⟩
      refine ⟨ρ4, Γ4, S4, s4, e4, FinS.body (f := fun Γ S => forL src g c1 k (i + 1) Γ S) (k := fun r => match r with | .nx Γ2 S2 => forL src g c1 k (i + 1) Γ2 S2 | .ct Γ2 S2 => forL src g c1 k (i + 1) Γ2 S2 | .bk Γ2 S2 => .nx Γ2 S2 | r => r) (fun r => by cases r <;> rfl) q4 fun Γ5 S5 ρ5 H5 σ5 g5 s5 e5 q5 => ?_⟩
      exact ⟨k, Nat.lt_succ_self _, ρ5, Γ5, S5, (((g2.trans g3).trans g4).trans g5), s5, e5, q5⟩
/-! ### while -/
def whileL (t : CT) (b : CS) : Nat → Gm → Hd → RS
  | 0, _, _ => .stuck
  | k + 1, Γ, S => (t Γ S).bindS Γ fun x S1 => if x then match b Γ S1 with
      | .nx Γ2 S2 => whileL t b k Γ2 S2
      | .ct Γ2 S2 => whileL t b k Γ2 S2
      | .bk Γ2 S2 => .nx Γ2 S2
      | r => r
    else .nx Γ S1
def whileFuel : Nat := 1000000000
def cWhile (t : CT) (b : CS) : CS := fun Γ S => whileL t b whileFuel Γ S
theorem rs_while (ht : RT G N cm sc e t) (hb : RSs G N cm sc b c1) : RSt G N cm sc (.While e b [] pos) (cWhile t c1) := fun X W c => by
  refine PS.imp (ps_whileM c.pass (ht X W c) (hb X W c)) fun D σ H q => ?_
  obtain ⟨ρ, Γ, S, sm, en, q⟩ := q
  refine ⟨fun k σ H => ∃ ρ' Γ S, Sim G.mg G.Tb ρ' S H ∧ EnvR G.mg ρ' H Γ σ ∧ FinS G W D ρ' H (whileL t c1 k Γ S), ⟨whileFuel, ρ, Γ, S, sm, en, q⟩, ?_⟩
  rintro k σ2 H2 ⟨ρ2, Γ2, S2, s2, e2, q2⟩
  cases k with
  | zero => exact q2.elim
  | succ k =>
    unfold whileL at q2
    refine FinS.step s2 e2 q2 fun x S3 ρ3 H3 y g3 s3 e3 r3 q3 => ?_
    have r3 : y = x := r3
    subst r3
    refine ⟨fun hy => ⟨fun σ' H' => ∃ m', m' < k + 1 ∧ ∃ ρ' Γ S, Sim G.mg G.Tb ρ' S H' ∧ EnvR G.mg ρ' H' Γ σ' ∧ FinS G W D ρ' H' (whileL t c1 m' Γ S), fun σ' H' h => h, ?_⟩, fun hy => ?_⟩
    · subst hy
      simp only [if_true] at q3
      refine ⟨ρ3, Γ2, S3, s3, e3, FinS.body (f := fun Γ S => whileL t c1 k Γ S) (k := fun r => match r with | .nx Γ2 S2 => whileL t c1 k Γ2 S2 | .ct Γ2 S2 => whileL t c1 k Γ2 S2 | .bk Γ2 S2 => .nx Γ2 S2 | r => r) (fun r => by cases r <;> rfl) q3 fun Γ5 S5 ρ5 H5 σ5 g5 s5 e5 q5 => ?_⟩
      exact ⟨k, Nat.lt_succ_self _, ρ5, Γ5, S5, s5, e5, q5⟩
    · subst hy
      simp only [Bool.false_eq_true, if_false] at q3
      exact q3 ρ3 H3 σ2 (Grow.refl _ _) s3 e3
end
end Dn

set_option Elab.async false
set_option linter.all false
set_option maxRecDepth 100000
set_option maxHeartbeats 4000000
set_option autoImplicit false
/-! # List comprehensions -/
namespace Dn
open PySem PySem.Spec PyProof.Rows L2 Kx
def relabelS (scope sc : Scope) : Scope :=
  { scope with names := scope.names.map fun (n, k) => if (k == .free && sc.kind == .function && sc.names.lookup n == some .cell) then (n, .cell) else (n, k) }
def R.noexc {α : Type} : R α → R α
  | .exc _ _ => .stuck
  | r => r
/-- the turns of a comprehension -/
def lcL (src : Src) (g : CG) (t : CT) (m : CE) (Γ : Gm) : Nat → Nat → List D → Hd → R (List D)
  | 0, _, _, _ => .stuck
  | k + 1, i, acc, S => match nextS S i src with
    | none => .stuck
    | some none => .ok acc S
    | some (some d) => match g d Γ S with
      | .nx Γ1 S1 => (t Γ1 S1).noexc.bind fun b S2 => if b then (m Γ1 S2).noexc.bind fun y S3 => if acc.length < 16777216 then lcL src g t m Γ k (i + 1) (acc ++ [y]) S3 else .stuck
        else lcL src g t m Γ k (i + 1) acc S2
      | _ => .stuck
def cYes : CT := fun _ S => .ok true S
def cLc (it : CI) (g : CG) (t : CT) (m : CE) (vs : List Nat) : CE := fun Γ S => (it Γ S).bind fun src S1 => (lcL src g t m (wipeD Γ vs) forFuel 0 [] S1).bind fun ds S2 => alloc (.lst ds) S2
def RTs (G : Gc) (N : List Str) (cm : Md) (sc : Scope) (es : List Expr) (m : CT) : Prop := ∀ X W, Cz G N cm sc X W → PTs X es (tT G W m)
section
variable {G : Gc} {N : List Str} {cm : Md} {sc : Scope} {pos p p2 tpos : Pos} {ρ : List Addr} {S : Hd} {H : Hp} {e e1 e2 tg iter elt : Expr} {m m1 m2 : CE} {t : CT} {g : CG} {it : CI} {ws : List Nat} {ifs : List Expr} {scope : Scope} {own : List (Str × Nat)}
theorem PTs.imp {X : Cx} {es : List Expr} {t u : TT} (h : PTs X es t) (i : ∀ σ H Q, u σ H Q → t σ H Q) : PTs X es u := ⟨fun pins s σ H Q I q => h.run pins s σ H Q I (i σ H Q q)⟩
theorem rts_nil : RTs G N cm sc [] cYes := fun X W c => PTs.imp pts_nil fun σ H Q q => by
  obtain ⟨ρ, Γ, S, s, e, g⟩ := q
  exact g.here s rfl
theorem rts_one (h : RT G N cm sc e t) : RTs G N cm sc [e] t := fun X W c => pts_one (h X W c)
theorem wipe_eq : ∀ (Γ : Gm) (vs : List Nat), wipeD Γ vs = vs.foldl (fun Γ i => Γ.set i none) Γ := fun _ _ => rfl
theorem set_comm' (σ : L2.St) (i j : Nat) : (σ.set i none).set j none = (σ.set j none).set i none := by
  by_cases h : i = j
  · subst h; rfl
  · exact List.set_comm _ _ h
theorem wipe_cons (σ : L2.St) (v : Nat) : ∀ vs : List Nat, wipe (σ.set v none) vs = wipe σ (v :: vs)
  | [] => rfl
  | w :: vs => by
    show (wipe (σ.set v none) vs).set w none = _
    rw [wipe_cons σ v vs]
    show ((wipe σ vs).set v none).set w none = ((wipe σ vs).set w none).set v none
    exact set_comm' _ _ _
theorem EnvR.wipe {Γ : Gm} {σ : L2.St} : ∀ (vs : List Nat) {Γ : Gm} {σ : L2.St}, EnvR G.mg ρ H Γ σ → EnvR G.mg ρ H (wipeD Γ vs) (L2.wipe σ vs)
  | [], _, _, e => e
  | v :: vs, Γ, σ, e => by
    rw [← wipe_cons]
    exact EnvR.wipe (Γ := Γ) (σ := σ) vs (e.unset v none)
theorem wipe_get (σ : L2.St) (i : Nat) : ∀ vs : List Nat, (L2.wipe σ vs)[i]? = if i ∈ vs then (if i < σ.length then some none else none) else σ[i]?
  | [] => by simp [L2.wipe]
  | v :: vs => by
    unfold L2.wipe
    by_cases h : v = i
    · subst h
      rw [List.getElem?_set]
      simp [wipe_length]
    · rw [List.getElem?_set_ne h, wipe_get σ i vs]
      have : i ≠ v := fun z => h z.symm
      simp [this]
theorem Agree.wipe {ws vs : List Nat} {σ σ2 : L2.St} (a : Agree ws (L2.wipe σ vs) σ2) (h : ws.all (fun i => vs.contains i) = true) : L2.wipe σ2 vs = L2.wipe σ vs := by
  have hl : σ2.length = σ.length := by rw [a.1, wipe_length]
  apply List.ext_getElem?
  intro i
  rw [wipe_get, wipe_get]
  by_cases hi : i ∈ vs
  · rw [if_pos hi, if_pos hi, hl]
  · rw [if_neg hi, if_neg hi]
    have hw : i ∉ ws := fun z => by
      have := List.all_eq_true.mp h i z
      exact hi (List.contains_iff_mem.mp this)
    rw [a.2 i hw, wipe_get, if_neg hi]
theorem Fin.noexc {α β : Type} {rel : List Addr → Hp → β → α → Prop} {W : WX} {σ : L2.St} {Q : β → Hp → Prop} {r : R α} (f : Fin G rel W σ Q ρ H r.noexc) : ∀ W' σ', Fin G rel W' σ' Q ρ H r := fun W' σ' => by
  cases r with
  | ok a S => exact f
  | exc c S => exact f.elim
  | stuck => exact f
theorem noexc_bind {α γ β δ : Type} {relC : List Addr → Hp → δ → γ → Prop} {relA : List Addr → Hp → β → α → Prop} {W W' : WX} {σ σ' : L2.St} {Q : δ → Hp → Prop} {r : R α} {f : α → Hd → R γ} {k : β → Hp → Prop} (g : Fin G relC W σ Q ρ H (r.noexc.bind f))
    (h : ∀ a S1 ρ1 H1 x, Grow ρ H ρ1 H1 → Sim G.mg G.Tb ρ1 S1 H1 → relA ρ1 H1 x a → Fin G relC W σ Q ρ1 H1 (f a S1) → k x H1) : Fin G relA W' σ' k ρ H r := (Fin.out g h).noexc W' σ'
theorem Cz.blk {X : Cx} {W : WX} (c : Cz G N cm sc X W) (hc : cm.calm = true) (hk : scope.kind = .function) (s : Shared) (H : Hp) (C : Addr) (cl : List (Str × Addr)) (fp : List Addr) : Cz G N ⟨true, false⟩ (relabelS scope sc) (X.blk s H scope (compEnvC scope cl C X.env) fp) (fun _ _ _ _ => False) where
  hprog := c.hprog
  hw := c.hw
  hK := c.hK
  hmg := c.hmg
  hbase := c.hbase
  hN := c.hN
  nd := c.nd
  hsc := by
    show relabel scope X.env = relabelS scope sc
    rw [← c.hsc]
    rfl
  tk := takes0
  calm := c.calm.trans hc
  hfn := fun h => by cases h
  kind := hk
  room := fun _ => c.room hc
  units := c.units
  hcd := c.hcd
  pass := PassesOwn.never
/-- the reading of a comprehension -/
theorem lc_i {X : Cx} {W : WX} {σ : L2.St} {Q : VK} (hw : ws.all (fun i => (own.map (·.2)).contains i) = true) (h0 : tE G W (cLc it g t m (own.map (·.2))) σ H Q) :
    tLc (tI G W it) (tGd G (fun _ _ _ _ => False) ws g) (tT G (fun _ _ _ _ => False) t) (tE G (fun _ _ _ _ => False) m) (own.map (·.2)) σ H Q := by
  obtain ⟨ρ, Γ, S, sm, en, q⟩ := h0
  generalize hvs : own.map (·.2) = vs at *
  refine Fin.step sm en q fun src S1 ρ1 H1 J g1 s1 e1 hJ ga => ?_
  intro D hD
  have nD := s1.fresh hD
  have s1' : Sim G.mg G.Tb ρ1 S1 (upd H1 D (.lst [])) := s1.lay hD
  have g1' : Grow ρ1 H1 ρ1 (upd H1 D (.lst [])) := grow_lay hD
  have e1' : EnvR G.mg ρ1 (upd H1 D (.lst [])) (wipeD Γ vs) (L2.wipe σ vs) := EnvR.wipe (Γ := Γ) (σ := σ) vs (s1.env g1' e1)
  refine ⟨fun i k H => ∃ ρ' S av ad, Grow ρ1 H1 ρ' H ∧ Sim G.mg G.Tb ρ' S H ∧ EnvR G.mg ρ' H (wipeD Γ vs) (L2.wipe σ vs) ∧ D ∉ ρ' ∧ H D = some (.lst av) ∧ Reps G.mg ρ' H av ad ∧
    Fin G (rE G) W σ Q ρ1 H1 ((lcL src g t m (wipeD Γ vs) k i ad S).bind fun ds S2 => alloc (.lst ds) S2), ⟨forFuel, ρ1, S1, [], [], g1', s1', e1', nD, upd_same, .nil, ga⟩, ?_⟩
  rintro i k H2 ⟨ρ2, S2, av, ad, g2, s2, e2, n2, hD2, r2, q2⟩
  cases k with
  | zero => exact q2.elim
  | succ k =>
    unfold lcL at q2
    split at q2
    · exact q2.elim
    · rename_i hn
      refine .inl ⟨(hJ ρ2 S2 H2 g2 s2 i).1 hn, ?_⟩
      refine q2 (ρ2 ++ [D]) H2 (.ref D) ⟨g2.pre.trans (List.prefix_append _ _), g2.get, g2.tab, fun {a} m n => ?_, g2.free⟩ (s2.push n2 (.lst hD2 r2)) (.ref ?_)
      · rcases List.mem_append.mp m with m | m
        · exact g2.new m n
        · cases List.mem_singleton.mp m
          exact hD
      · rw [← s2.len]
        simp
    · rename_i d hn
      obtain ⟨h1, h2⟩ := (hJ ρ2 S2 H2 g2 s2 i).2 d hn
      refine .inr ⟨h1, fun H' => ∃ m', m' < k + 1 ∧ ∃ ρ' S av ad, Grow ρ1 H1 ρ' H' ∧ Sim G.mg G.Tb ρ' S H' ∧ EnvR G.mg ρ' H' (wipeD Γ vs) (L2.wipe σ vs) ∧ D ∉ ρ' ∧ H' D = some (.lst av) ∧ Reps G.mg ρ' H' av ad ∧
        Fin G (rE G) W σ Q ρ1 H1 ((lcL src g t m (wipeD Γ vs) m' (i + 1) ad S).bind fun ds S2 => alloc (.lst ds) S2), fun H' h => h, fun x H3 y => ?_⟩
      obtain ⟨g3, s3, r3⟩ := h2 x H3 y
      have keepD : ∀ {ρ ρ' : List Addr} {H H' : Hp} {av : List V}, Grow ρ H ρ' H' → D ∉ ρ → H D = some (.lst av) → D ∉ ρ' ∧ H' D = some (.lst av) := fun {ρ ρ' H H' av} g n h => by
        refine ⟨fun m => ?_, g.get h n rfl⟩
        have := g.new m n
        rw [h] at this
        cases this
      obtain ⟨n3, hD3⟩ := keepD g3 n2 hD2
      split at q2
      · rename_i Γ4 S4 hg
        refine ⟨ρ2, wipeD Γ vs, S2, d, s3, s2.env g3 e2, r3, ?_⟩
        rw [hg]
        intro ρ4 H4 σ4 g4 s4 e4 ag
        obtain ⟨n4, hD4⟩ := keepD g4 n3 hD3
        refine ⟨ag.wipe hw, ρ4, Γ4, S4, s4, e4, ?_⟩
        have rr : Reps G.mg ρ4 H4 av ad := s3.reps g4 (s2.reps g3 r2)
        have eb : EnvR G.mg ρ4 H4 (wipeD Γ vs) (L2.wipe σ vs) := s3.env g4 (s2.env g3 e2)
        have gg := (g2.trans g3).trans g4
        cases ht : t Γ4 S4 with
        | stuck => rw [ht] at q2; exact q2.elim
        | exc c S5 => rw [ht] at q2; exact q2.elim
        | ok bb S5 =>
          rw [ht] at q2
          have q2 : Fin G (rE G) W σ Q ρ1 H1 ((if bb = true then (m Γ4 S5).noexc.bind fun y S3 => if ad.length < 16777216 then lcL src g t m (wipeD Γ vs) k (i + 1) (ad ++ [y]) S3 else .stuck
            else lcL src g t m (wipeD Γ vs) k (i + 1) ad S5).bind fun ds S2 => alloc (.lst ds) S2) := q2
          intro ρ5 H5 b5 g5 s5 hb5
          obtain ⟨n5, hD5⟩ := keepD g5 n4 hD4
          have hb5 : b5 = bb := hb5
          subst hb5
          have gg5 := gg.trans g5
          cases b5 with
          | false =>
            simp only [Bool.false_eq_true, if_false] at q2 ⊢
            exact ⟨k, Nat.lt_succ_self _, ρ5, S5, av, ad, gg5, s5, s4.env g5 eb, n5, hD5, s4.reps g5 rr, q2⟩
          | true =>
            simp only [if_true] at q2 ⊢
            refine ⟨ρ5, Γ4, S5, s5, s4.env g5 e4, ?_⟩
            cases hm : m Γ4 S5 with
            | stuck => rw [hm] at q2; exact q2.elim
            | exc c S6 => rw [hm] at q2; exact q2.elim
            | ok yd S6 =>
              rw [hm] at q2
              have q2 : Fin G (rE G) W σ Q ρ1 H1 ((if ad.length < 16777216 then lcL src g t m (wipeD Γ vs) k (i + 1) (ad ++ [yd]) S6 else .stuck).bind fun ds S2 => alloc (.lst ds) S2) := q2
              intro ρ6 H6 yv g6 s6 ry
              obtain ⟨n6, hD6⟩ := keepD g6 n5 hD5
              have gg6 := gg5.trans g6
              have r6 : Reps G.mg ρ6 H6 av ad := s5.reps g6 (s4.reps g5 rr)
              have eb6 : EnvR G.mg ρ6 H6 (wipeD Γ vs) (L2.wipe σ vs) := s5.env g6 (s4.env g5 eb)
              by_cases hl : ad.length < 16777216
              · rw [if_pos hl] at q2
                have tu : ∀ a xs, H6 a = some (.tup xs) → upd H6 D (.lst (av ++ [yv])) a = some (.tup xs) := fun a xs h => by
                  have na : a ≠ D := fun z => by rw [z, hD6] at h; cases h
                  rw [upd_ne na]; exact h
                have tb : ∀ P, GxR.TabG H6 P → GxR.TabG (upd H6 D (.lst (av ++ [yv]))) P := fun P ⟨ps, h, t⟩ => by
                  have na : P ≠ D := fun z => by rw [z, hD6] at h; cases h
                  exact ⟨ps, by rw [upd_ne na]; exact h, t⟩
                refine ⟨av, hD6, by rw [r6.length, sz]; exact hl, k, Nat.lt_succ_self _, ρ6, S6, av ++ [yv], ad ++ [yd], ⟨gg6.pre, fun {a o} h n t => ?_, fun {P} t => tb P (gg6.tab t), gg6.new, fun {p} h => ?_⟩, s6.move (fun a ma => upd_ne fun z => n6 (z ▸ ma)) tu tb, ⟨eb6.len, fun j d hj => ?_⟩, n6, upd_same, ?_, q2⟩
                · have na : a ≠ D := fun z => by rw [z, hD] at h; cases h
                  rw [upd_ne na]
                  exact gg6.get h n t
                · by_cases hp : p = D
                  · rw [hp, upd_same] at h; cases h
                  · rw [upd_ne hp] at h
                    exact gg6.free h
                · obtain ⟨v, h1, h2⟩ := eb6.at_ j d hj
                  exact ⟨v, h1, h2.keep (List.prefix_refl _) tu⟩
                · exact (r6.append (.cons ry .nil)).keep (List.prefix_refl _) tu
              · rw [if_neg hl] at q2
                exact q2.elim
      · exact q2.elim
theorem re_lc (hc : cm.calm = true) (hi : RI G N cm sc tg iter it) (ok : blkC N sc scope own = true) (hg : RG G N ⟨true, false⟩ (relabelS scope sc) tg ws g) (ht : RTs G N ⟨true, false⟩ (relabelS scope sc) ifs t) (he : RE G N ⟨true, false⟩ (relabelS scope sc) elt m)
    (hw : ws.all (fun i => (own.map (·.2)).contains i) = true) (hs : ∀ (X : Cx) x, foldedSetIterable iter X.env x = pure x := by intro _ _; rfl) : RE G N cm sc (.ListComp elt [⟨tg, iter, ifs, 0⟩] scope pos) (cLc it g t m (own.map (·.2))) := fun X W c => by
  have okB := blkOk_by ok
  refine PE.imp (pe_lc (own := own) (c.calm.trans hc) (by rw [c.hN]; exact c.nd) (hi X W c) (by rw [c.hN, c.hsc]; exact okB) (fun s H C cl fp => hg _ _ (c.blk hc okB.kind s H C cl fp)) (fun s H C cl fp => ht _ _ (c.blk hc okB.kind s H C cl fp)) (fun s H C cl fp => he _ _ (c.blk hc okB.kind s H C cl fp)) (hs X)) fun σ H Q q => lc_i (X := X) hw q
/-- name = [..] on one line, the name a local -/
theorem rs_setLc {i : Nat} {y : Str} {py spos : Pos} (hc : cm.calm = true) (hy : N[i]? = some y) (hyl : sc.names.lookup y = some .local) (hsw : ∀ env, env.scope = sc → env.scope.kind = .function → swapsWith (.ListComp elt [⟨tg, iter, ifs, 0⟩] scope pos) (some (.Name y py)) spos.line env = pure true)
    (hi : RI G N cm sc tg iter it) (ok : blkC N sc scope own = true) (hg : RG G N ⟨true, false⟩ (relabelS scope sc) tg ws g) (ht : RTs G N ⟨true, false⟩ (relabelS scope sc) ifs t) (he : RE G N ⟨true, false⟩ (relabelS scope sc) elt m)
    (hw : ws.all (fun i => (own.map (·.2)).contains i) = true) (hs : ∀ (X : Cx) x, foldedSetIterable iter X.env x = pure x := by intro _ _; rfl) : RSt G N cm sc (.Assign [.Name y py] (.ListComp elt [⟨tg, iter, ifs, 0⟩] scope pos) spos) (cSet i (cLc it g t m (own.map (·.2)))) := fun X W c => by
  have okB := blkOk_by ok
  refine PS.imp (ps_setLc (i := i) (own := own) (c.calm.trans hc) (by rw [c.hN]; exact c.nd) (by rw [c.hN]; exact hy) (by rw [c.hsc]; exact hyl) (hsw _ c.hsc c.kind) (hi X W c) (by rw [c.hN, c.hsc]; exact okB) (fun s H C cl fp => hg _ _ (c.blk hc okB.kind s H C cl fp)) (fun s H C cl fp => ht _ _ (c.blk hc okB.kind s H C cl fp)) (fun s H C cl fp => he _ _ (c.blk hc okB.kind s H C cl fp)) (hs X)) fun Dn σ H q => ?_
  refine lc_i (X := X) (W := W) hw ?_
  obtain ⟨ρ, Γ, S, sm, en, q⟩ := q
  exact FinS.step sm en q fun d S1 ρ1 H1 x g1 s1 e1 r1 ga => ga ρ1 H1 _ (Grow.refl _ _) s1 (e1.set i r1)
end
end Dn

set_option Elab.async false
set_option linter.all false
set_option maxRecDepth 100000
set_option maxHeartbeats 4000000
set_option autoImplicit false
/-! # Calls of the text's defs, a def's body, instances, raise -/
namespace Dn
open PySem PySem.Spec PyProof.Rows L2 Kx
/-- a def's promise: it is m, of n arguments -/
def spD (G : Gc) (n : Nat) (m : List D → Hd → R D) : Sp := fun vs H Q E => vs.length = n ∧ ∃ ρ S ds, Sim G.mg G.Tb ρ S H ∧ Reps G.mg ρ H vs ds ∧ Fin G (rE G) (fun c d _ H => E c d H) ([] : L2.St) Q ρ H (m ds S)
/-- the def x may be called -/
def CalD (G : Gc) (n : Nat) (x : Str) : Prop := Cal G.P G.w G.K G.mg G.base (2 * G.k) x (spD G n (G.call x))
def RS.ret : RS → R D
  | .nx _ S => .ok .non S
  | .rt d S => .ok d S
  | .exc c _ S => .exc c S
  | _ => .stuck
/-- a def of nP parameters, nN names, by its body -/
def mkFn (nN nP : Nat) (c : CS) : List D → Hd → R D := fun ds S => if ds.length = nP then (c (ds.map some ++ List.replicate (nN - nP) none) S).ret else .stuck
section
variable {G : Gc} {N : List Str} {cm : Md} {sc : Scope} {pos p p2 tpos : Pos} {ρ : List Addr} {S : Hd} {H : Hp} {e e1 e2 : Expr} {m m1 m2 : CE} {es : List Expr} {ma : CA} {x : Str}
/-- the callee runs, what it lets out is ours -/
theorem run_fnW {X : Cx} {W : WX} {k : Nat} {f : Addr} {fd : FuncData} {ps : List Str} {sp : Sp} {pins : List (Addr × Obj)} {σ : L2.St} {H : Hp} {s : Shared} {Q : VK} {us : List Value} {vs : List V} (tk : Takes X W) (F : FnOk X.prog X.w X.K X.mg X.base (L2.CX X.prog X.w) k f fd ps sp) (hr : Room k X.A) (hb : Binds X.K fd ps [])
    (I : Inv X pins σ H s) (r : Vals vs us) (h : sp vs H Q (fun c d H' => W c d σ H')) : wpAny (model X.prog X.w) X.A (call (.ref f) us) (EP X pins σ Q) X.xe s := by
  have hl : us.length = ps.length := by rw [← r.length]; exact F.len _ _ _ _ h
  have hb' := hb s us I.kIn (by rw [List.append_nil]; exact hl)
  rw [List.append_nil] at hb'
  refine wpAny_call (codeAny_mono (F.run X.A X.stack s H ⟨us, []⟩ us vs Q _ hr I.env0 hb' r h) fun r s' hq => ?_)
  cases r with
  | error e => exact tk e s' (XE.of_call I (fun cls d H' h => h) hq)
  | ok fl =>
    cases fl with
    | ret u => exact I.after hq
    | next => exact False.elim hq
    | brk => exact False.elim hq
    | cont => exact False.elim hq
def cCall (call : Calls) (x : Str) (ms : CA) : CE := fun Γ S => (ms Γ S).bind fun ds S1 => call x ds S1
theorem call_i {W : WX} {σ : L2.St} {Q : VK} {n : Nat} {ds : List D} {vs : List V} (hl : ds.length = n) (sm : Sim G.mg G.Tb ρ S H) (r : Reps G.mg ρ H vs ds) (g : Fin G (rE G) W σ Q ρ H (G.call x ds S)) : spD G n (G.call x) vs H Q (fun c d H' => W c d σ H') := by
  refine ⟨by rw [r.length, hl], ρ, S, ds, sm, r, ?_⟩
  cases hh : G.call x ds S with
  | ok a S1 => rw [hh] at g; exact g
  | exc c S1 => rw [hh] at g; exact g
  | stuck => rw [hh] at g; exact g
/-- the number of arguments -/
def cArgs (n : Nat) (ms : CA) : CA := fun Γ S => (ms Γ S).bind fun ds S1 => if ds.length = n then .ok ds S1 else .stuck
theorem ra_len (h : RA G N cm sc es ma) {n : Nat} (hn : es.length = n) : RA G N cm sc es (cArgs n ma) := fun X W c => by
  refine PA.imp (h X W c) fun σ H Q q => ?_
  obtain ⟨ρ, Γ, S, s, e, g⟩ := q
  refine Fin.step s e g fun ds S1 ρ1 H1 x g1 s1 e1 r1 ga => ?_
  split at ga
  · exact ga.here s1 r1
  · exact ga.elim
theorem re_call {n : Nat} (C : CalD G n x) (hc : cm.calm = true) (hg : glB sc x = true) (ha : RA G N cm sc (e :: es) ma) (he : ∀ X : Cx, starEach (e :: es) X.env = (false, eval e X.env) :: starEach es X.env := by intro _; rfl) (hpl : ∀ X : Cx, (backTo pos (starEach es X.env)).any (·.1) = false := by intro _; rfl) :
    RE G N cm sc (.Call (.Name x p) (e :: es) [] pos) (cCall G.call x (cArgs n ma)) := fun X W c => by
  obtain ⟨f, fd, ps, F, hm, kp, b⟩ := C.ex
  obtain ⟨g1, g2, g3⟩ := glB_of c hg
  refine ⟨fun pins s σ H Q I q => ?_⟩
  refine wpAny_Call_Name_kw (ld_glob I g1 (by rw [c.hmg]; exact hm) ?_ g2)
  refine PySem.W.callWith_K (h₀ := X.base) I.ok.mod.kin (by rw [c.hK]; exact kp) (thn ((ha X W c).run pos pins s σ H (fun vs H1 => spD G n (G.call x) vs H1 Q (fun c d H' => W c d σ H')) I ?_) fun us s1 ⟨vs, H1, I1, r, q⟩ => ⟨I1.kIn, ?_⟩) (he X) (hpl X)
  · obtain ⟨ρ, Γ, S, sm, en, q⟩ := q
    unfold cCall cArgs at q
    refine Fin.step sm en (m := ma) (f := fun ds S1 => (if ds.length = n then R.ok ds S1 else .stuck).bind fun ds S1 => G.call x ds S1) (by
      cases h : ma Γ S with
      | ok ds S1 => rw [h] at q; exact q
      | exc c S1 => rw [h] at q; exact q
      | stuck => rw [h] at q; exact q) fun ds S1 ρ1 H1 v g1 s1 e1 r1 ga => ?_
    by_cases hl : ds.length = n
    · rw [if_pos hl] at ga
      exact call_i hl s1 r1 ga
    · rw [if_neg hl] at ga
      exact ga.elim
  · have F' : FnOk X.prog X.w X.K X.mg X.base (L2.CX X.prog X.w) (2 * G.k) f fd ps (spD G n (G.call x)) := by rw [c.hprog, c.hw, c.hK, c.hmg, c.hbase]; exact F
    exact run_fnW c.tk F' ((c.room hc).mono (by omega)) (by rw [c.hK]; exact b) I1 r q
/-- a call of what a local holds: one of several defs -/
def cCallV (call : Calls) (i : Nat) (xs : List Str) (ms : CA) : CE := fun Γ S => match Γ[i]? with
  | some (some (.fn x)) => if xs.contains x then (ms Γ S).bind fun ds S1 => call x ds S1 else .stuck
  | _ => .stuck
theorem re_callV {n i : Nat} {y : Str} {xs : List Str} (C : ∀ x ∈ xs, CalD G n x) (hc : cm.calm = true) (hN : N[i]? = some y) (hv : visB sc y = true) (ha : RA G N cm sc (e :: es) ma) (hd : ((y == ("__debug__" : Str)) || (y == ("__classdict__" : Str))) = false := by decide) (he : ∀ X : Cx, starEach (e :: es) X.env = (false, eval e X.env) :: starEach es X.env := by intro _; rfl) (hpl : ∀ X : Cx, (backTo pos (starEach es X.env)).any (·.1) = false := by intro _; rfl) :
    RE G N cm sc (.Call (.Name y p) (e :: es) [] pos) (cCallV G.call i xs (cArgs n ma)) := fun X W c => by
  refine ⟨fun pins s σ H Q I q => ?_⟩
  obtain ⟨ρ, Γ, S, sm, en, q⟩ := q
  unfold cCallV at q
  split at q
  · rename_i x hx
    split at q
    · rename_i hm
      have hm := List.contains_iff_mem.mp hm
      obtain ⟨f, fd, ps, F, hmg, kp, b⟩ := (C x hm).ex
      obtain ⟨v, h1, h2⟩ := en.at_ i _ hx
      have h2' : Dn.Rep G.mg ρ H v (.fn x) := h2
      cases h2' with
      | fn hfx =>
        rename_i a
        have haf : a = f := by rw [hmg] at hfx; cases hfx; rfl
        subst haf
        have h3 := Bool.or_eq_false_iff.mp hd
        refine wpAny_Call_Name_kw (thn ((pe_var (pos := p) (by rw [c.hN]; exact hN) (by rw [c.hsc]; exact vis_of hv) h3.1 h3.2).run pins s σ H (fun v H1 => v = .ref a ∧ H1 = H) I ⟨.ref a, h1, rfl, rfl⟩) fun u s1 ⟨v, H1, I1, r1, q1⟩ => ?_)
        obtain ⟨rfl, rfl⟩ := q1
        cases r1
        refine PySem.W.callWith_K (h₀ := X.base) I.ok.mod.kin (by rw [c.hK]; exact kp) (thn ((ha X W c).run pos pins s1 σ _ (fun vs H1 => spD G n (G.call x) vs H1 Q (fun c d H' => W c d σ H')) I1 ?_) fun us s1 ⟨vs, H1, I1, r, q⟩ => ⟨I1.kIn, ?_⟩) (he X) (hpl X)
        · unfold cArgs at q
          refine Fin.step sm en (m := ma) (f := fun ds S1 => (if ds.length = n then R.ok ds S1 else .stuck).bind fun ds S1 => G.call x ds S1) (by
            cases h : ma Γ S with
            | ok ds S1 => rw [h] at q; exact q
            | exc c S1 => rw [h] at q; exact q
            | stuck => rw [h] at q; exact q) fun ds S1 ρ1 H1 v g1 s1 e1 r1 ga => ?_
          by_cases hl : ds.length = n
          · rw [if_pos hl] at ga
            exact call_i hl s1 r1 ga
          · rw [if_neg hl] at ga
            exact ga.elim
        · have F' : FnOk X.prog X.w X.K X.mg X.base (L2.CX X.prog X.w) (2 * G.k) a fd ps (spD G n (G.call x)) := by rw [c.hprog, c.hw, c.hK, c.hmg, c.hbase]; exact F
          exact run_fnW c.tk F' ((c.room hc).mono (by omega)) (by rw [c.hK]; exact b) I1 r q
    · exact q.elim
  · exact q.elim
/-! ### instances -/
/-- the class C may be made by its __init__ (the def y of the table, n arguments without self); Room: one level below -/
structure MakD (G : Gc) (n : Nat) (C y : Str) : Prop where
  ex : ∃ (cl f : Addr) (fd : FuncData) (ps : List Str), FnOk G.P G.w G.K G.mg G.base (L2.CX G.P G.w) (2 * G.k) f fd ps (spD G (n + 1) (G.call y)) ∧ G.mg C = some (.ref cl) ∧ Mk G.K cl f ∧ Binds G.K fd ps []
def cMake (call : Calls) (C y : Str) (ms : CA) : CE := fun Γ S => (ms Γ S).bind fun ds S1 => (call y (.ref S1.length :: ds) (S1 ++ [.ins C []])).bind fun d S2 => match d with
  | .non => .ok (.ref S1.length) S2
  | _ => .stuck
theorem run_makeW {X : Cx} {W : WX} {k : Nat} {C f : Addr} {fd : FuncData} {ps : List Str} {sp : Sp} {pins : List (Addr × Obj)} {σ : L2.St} {H : Hp} {s : Shared} {Q : VK} {us : List Value} {vs : List V} (tk : Takes X W) (M : Mk X.K C f) (F : FnOk X.prog X.w X.K X.mg X.base (L2.CX X.prog X.w) k f fd ps sp) (hr : Room (k + 1) X.A) (hb : Binds X.K fd ps [])
    (I : Inv X pins σ H s) (r : Vals vs us)
    (h : ∀ x dx, H x = none → H dx = none → dx ≠ x → sp (.ref x :: vs) (upd (upd H dx (.own x)) x (.ins C dx [])) (fun v H2 => v = .non ∧ Q (.ref x) H2) (fun c d H' => W c d σ H')) :
    wpAny (model X.prog X.w) X.A (call (.ref C) us) (EP X pins σ Q) X.xe s := by
  have hq := h (s.heap.objs.size + 1) s.heap.objs.size (I.hok.fresh (Nat.le_succ _)) (I.hok.fresh (Nat.le_refl _)) (Nat.ne_of_lt (Nat.lt_succ_self _))
  have I2 := Inv.made (C := C) I
  have r2 : Vals (V.ref (s.heap.objs.size + 1) :: vs) (Value.ref (s.heap.objs.size + 1) :: us) := .cons rfl r
  have hl : (Value.ref (s.heap.objs.size + 1) :: us).length = ps.length := by
    have e := r2.length
    rw [F.len _ _ _ _ hq] at e
    exact e.symm
  have hb' := hb _ (Value.ref (s.heap.objs.size + 1) :: us) I2.kIn (by rw [List.append_nil]; exact hl)
  rw [List.append_nil] at hb'
  refine wpAny_call (make_map (f := f) I.kIn M.makes M.init (beq_iff_eq.mp M.fn) (codeAny_mono (F.run _ X.stack _ _ ⟨Value.ref (s.heap.objs.size + 1) :: us, []⟩ (Value.ref (s.heap.objs.size + 1) :: us) _ _ _ (hr.make C us [])
    (I2.env0.make C us []) hb' r2 hq) fun r s' hq' => ?_))
  cases r with
  | error e => exact tk e s' (XE.of_call I2 (fun cls d H' h => h) hq')
  | ok fl =>
    cases fl with
    | ret u =>
      obtain ⟨v, H', I3, rv, ev, q3⟩ := I2.after hq'
      subst ev
      exact ⟨rv, ⟨V.ref (s.heap.objs.size + 1), H', I3, rfl, q3⟩⟩
    | next => exact False.elim hq'
    | brk => exact False.elim hq'
    | cont => exact False.elim hq'
theorem re_make {n : Nat} {y : Str} (C : MakD G n x y) (hc : cm.calm = true) (hg : glB sc x = true) (ha : RA G N cm sc (e :: es) ma) (he : ∀ X : Cx, starEach (e :: es) X.env = (false, eval e X.env) :: starEach es X.env := by intro _; rfl) (hpl : ∀ X : Cx, (backTo pos (starEach es X.env)).any (·.1) = false := by intro _; rfl) :
    RE G N cm sc (.Call (.Name x p) (e :: es) [] pos) (cMake G.call x y (cArgs n ma)) := fun X W c => by
  obtain ⟨cl, f, fd, ps, F, hm, M, b⟩ := C.ex
  obtain ⟨g1, g2, g3⟩ := glB_of c hg
  refine ⟨fun pins s σ H Q I q => ?_⟩
  refine wpAny_Call_Name_kw (ld_glob I g1 (by rw [c.hmg]; exact hm) ?_ g2)
  refine PySem.W.callWith_K (h₀ := X.base) I.ok.mod.kin (by rw [c.hK]; exact M.kp) (thn ((ha X W c).run pos pins s σ H (fun vs H1 => ∀ x dx, H1 x = none → H1 dx = none → dx ≠ x → spD G (n + 1) (G.call y) (.ref x :: vs) (upd (upd H1 dx (.own x)) x (.ins cl dx [])) (fun v H2 => v = .non ∧ Q (.ref x) H2) (fun c d H' => W c d σ H')) I ?_) fun us s1 ⟨vs, H1, I1, r, q⟩ => ⟨I1.kIn, ?_⟩) (he X) (hpl X)
  · obtain ⟨ρ, Γ, S, sm, en, q⟩ := q
    unfold cMake cArgs at q
    refine Fin.step sm en (m := ma) (f := fun ds S1 => (if ds.length = n then R.ok ds S1 else .stuck).bind fun ds S1 => (G.call y (.ref S1.length :: ds) (S1 ++ [.ins x []])).bind fun d S2 => match d with
      | .non => R.ok (D.ref S1.length) S2
      | _ => R.stuck) (by
      cases h : ma Γ S with
      | ok ds S1 => rw [h] at q; exact q
      | exc c S1 => rw [h] at q; exact q
      | stuck => rw [h] at q; exact q) fun ds S1 ρ1 H1 v g1 s1 e1 r1 ga => ?_
    by_cases hl : ds.length = n
    · rw [if_pos hl] at ga
      intro a dx ha hdx hne
      have h4 : upd H1 dx (.own a) a = none := by rw [upd_ne (Ne.symm hne)]; exact ha
      have ex := (Ext.new (o := .own a) hdx).trans (Ext.new (o := .ins cl dx []) h4)
      have s2 : Sim G.mg G.Tb ρ1 S1 (upd (upd H1 dx (.own a)) a (.ins cl dx [])) := s1.ext ex
      have na := s1.fresh ha
      have s3 := s2.push (o := .ins x []) na (.ins upd_same hm rfl .nil)
      have g3 : Grow ρ1 H1 (ρ1 ++ [a]) (upd (upd H1 dx (.own a)) a (.ins cl dx [])) := ⟨List.prefix_append _ _, fun e _ t => ex.get e t, ex.tab, fun {b} m n => by
        rcases List.mem_append.mp m with m | m
        · exact absurd m n
        · cases List.mem_singleton.mp m
          exact ha, ex.free⟩
      have hn : (ρ1 ++ [a])[S1.length]? = some a := by rw [← s1.len]; simp
      refine ⟨by rw [List.length_cons, r1.length, hl], ρ1 ++ [a], S1 ++ [Ob.ins x []], D.ref S1.length :: ds, s3, Reps.cons (Rep.ref hn) (s1.reps g3 r1), ?_⟩
      have ga := Fin.grow g3 ga
      have ga : Fin G (rE G) W σ Q (ρ1 ++ [a]) (upd (upd H1 dx (.own a)) a (.ins cl dx [])) ((G.call y (D.ref S1.length :: ds) (S1 ++ [Ob.ins x []])).bind fun d S2 => match d with
        | .non => R.ok (D.ref S1.length) S2
        | _ => R.stuck) := ga
      cases hh : G.call y (.ref S1.length :: ds) (S1 ++ [.ins x []]) with
      | ok d S2 =>
        rw [hh] at ga
        intro ρ' H' v g' s' r'
        cases r' with
        | non => exact ⟨rfl, ga ρ' H' (.ref a) g' s' (.ref (pre_get g'.pre hn))⟩
        | _ => exact ga.elim
      | exc c S2 => rw [hh] at ga; exact ga
      | stuck => rw [hh] at ga; exact ga
    · rw [if_neg hl] at ga
      exact ga.elim
  · have F' : FnOk X.prog X.w X.K X.mg X.base (L2.CX X.prog X.w) (2 * G.k) f fd ps (spD G (n + 1) (G.call y)) := by rw [c.hprog, c.hw, c.hK, c.hmg, c.hbase]; exact F
    exact run_makeW c.tk (by rw [c.hK]; exact M) F' (c.room hc) (by rw [c.hK]; exact b) I1 r q
/-! ### a def's body -/
theorem start_env {mg : Str → Option Value} {nN : Nat} {vs : List V} {ds : List D} (r : Reps mg ρ H vs ds) (hN : N.length = nN) (hP : ds.length ≤ nN) : EnvR mg ρ H (ds.map some ++ List.replicate (nN - ds.length) none) (L2.start N vs) := by
  unfold L2.start
  refine ⟨by simp [r.length, hN], fun i d h => ?_⟩
  by_cases hi : i < ds.length
  · rw [List.getElem?_append_left (by simpa using hi), List.getElem?_map] at h
    cases e : ds[i]? with
    | none => rw [e] at h; cases h
    | some d' =>
      rw [e] at h
      cases h
      obtain ⟨v, h1, h2⟩ := r.get e
      refine ⟨v, ?_, h2⟩
      have hv : i < vs.length := by rw [r.length]; exact hi
      rw [List.getElem?_append_left (by simpa using hv), List.getElem?_map, h1]
      rfl
  · rw [List.getElem?_append_right (by simp; omega), List.getElem?_replicate] at h
    split at h <;> cases h
/-- a def keeps the promise of its body's meaning, one level higher -/
theorem fn_ok {P : Program} {w : World} {x qual : Str} {params : Arguments} {body : List Stmt} {scope : Scope} {f : Addr} {fd : FuncData} {ps : List Str} {c : CS} {dvs : List V} {kws : List (Str × V)} (F : FunD G.K x qual params body scope dvs kws f fd) (Sc : FnScope N ps scope)
    (hb : RSs G N ⟨true, true⟩ scope body c) (hcd : G.ucd = true → fd.code = G.cd := by intro h; cases h) : FnOk G.P G.w G.K G.mg G.base (L2.CX G.P G.w) (2 * (G.k + 1)) f fd ps (spD G ps.length (mkFn N.length ps.length c)) := by
  refine okC (k := 2 * G.k + 1) F Sc (fun vs H Q E h => h.1) fun A outer s H vs Q E hr h => ?_
  obtain ⟨hl, ρ, S, ds, sm, r, g⟩ := h
  have hd : ds.length = ps.length := by rw [← r.length, hl]
  have hpl : ps.length ≤ N.length := by have := congrArg List.length Sc.pre; rw [List.length_take] at this; omega
  refine ⟨_, hb _ (fun cls d _ H => E cls d H) ⟨rfl, rfl, rfl, rfl, rfl, rfl, Sc.nd, rfl, takes_of rfl rfl rfl rfl, rfl, fun _ _ => rfl, Sc.kind, fun _ => hr, ?_, hcd, passes_of rfl⟩, ?_⟩
  · have := hr.un
    show (A.deeper (envOfC qual scope s.heap.objs.size f fd.code)).units + 64 < cLine
    omega
  · unfold mkFn at g
    rw [if_pos hd] at g
    refine ⟨ρ, ds.map some ++ List.replicate (N.length - ps.length) none, S, sm, by rw [← hd]; exact start_env r rfl (by omega), ?_⟩
    cases hc : c (ds.map some ++ List.replicate (N.length - ps.length) none) S with
    | nx Γ S' => rw [hc] at g; exact fun ρ' H' σ' g1 s1 e1 => g ρ' H' .non g1 s1 .non
    | rt d S' => rw [hc] at g; exact g
    | bk Γ S' => rw [hc] at g; exact g.elim
    | ct Γ S' => rw [hc] at g; exact g.elim
    | exc c Γ S' => rw [hc] at g; exact fun ρ' H' σ' C g1 s1 e1 hC => g ρ' H' C g1 s1 hC
    | stuck => rw [hc] at g; exact g.elim
/-! ### raise -/
/-- an own exception class without anything of its own -/
structure ExcD (G : Gc) (x : Str) : Prop where
  ex : ∃ (C : Addr) (bmB : List Value) (B newId initId : String), ExcBaseFacts B newId initId bmB ∧ PySem.W.excIn G.K C bmB newId = true ∧ G.mg x = some (.ref C) ∧ PySem.W.keepIn G.K (.ref C) = true ∧ PySem.W.subIn G.K (.ref C) (.type "BaseException") = some true ∧ PySem.W.typeIn G.K (.ref C) = some (.type "type")
def cRaise (x : Str) : CS := fun Γ S => .exc x Γ S
theorem rs_raise {msg : Str} {j : Nat} (C : ExcD G x) (hc : cm.calm = true) (hg : glB sc x = true) : RSt G N cm sc (.Raise (some (.Call (.Name x p) [.Constant (.str msg) j p2] [] pos)) none tpos) (cRaise x) := fun X W c => by
  obtain ⟨cl, bmB, B, n1, n2, F, q, hm, kp, h1, h2⟩ := C.ex
  obtain ⟨g1, g2, g3⟩ := glB_of c hg
  refine PS.imp (ps_raise (c.calm.trans hc) c.tk (pmk_own F (by rw [c.hK]; exact q) (by rw [c.hmg]; exact hm) (by rw [c.hK]; exact kp) (raises_own (by rw [c.hK]; exact h1) (by rw [c.hK]; exact h2)) g1 g2)) fun D σ H q => ?_
  obtain ⟨ρ, Γ, S, sm, en, q⟩ := q
  exact q ρ H σ cl (Grow.refl _ _) sm en hm
end
end Dn

set_option Elab.async false
set_option linter.all false
set_option maxRecDepth 100000
set_option maxHeartbeats 4000000
set_option autoImplicit false
/-! # Built-in functions and methods -/
namespace Dn
open PySem PySem.Spec PyProof.Rows L2 Kx
/-- a built-in call, a method, by values -/
def CallA (G : Gc) (r : List V → Hp → VK → Prop) (f : List D → Hd → R D) : Prop := ∀ ρ S H vs ds W σ Q, Sim G.mg G.Tb ρ S H → Reps G.mg ρ H vs ds → Fin G (rE G) W σ Q ρ H (f ds S) → r vs H Q
def MtA (G : Gc) (r : V → List V → Hp → VK → Prop) (f : D → List D → Hd → R D) : Prop := ∀ ρ S H v vs d ds W σ Q, Sim G.mg G.Tb ρ S H → Rep G.mg ρ H v d → Reps G.mg ρ H vs ds → Fin G (rE G) W σ Q ρ H (f d ds S) → r v vs H Q
def cBlt (f : List D → Hd → R D) (ms : CA) : CE := fun Γ S => (ms Γ S).bind f
def cMt (T : String) (ty : D → Hd → Bool) (f : D → List D → Hd → R D) (m : CE) (ms : CA) : CE := fun Γ S => (m Γ S).bind fun d S1 => if ty d S1 then (ms Γ S1).bind fun ds S2 => f d ds S2 else .stuck
section
variable {G : Gc} {N : List Str} {cm : Md} {sc : Scope} {pos p p2 apos : Pos} {ρ : List Addr} {S : Hd} {H : Hp} {e e1 e2 : Expr} {m m1 m2 : CE} {es : List Expr} {ma : CA} {x : Str} {id T : String} {r : Cx → List V → Hp → VK → Prop} {f : List D → Hd → R D}
/-- a built-in function -/
def BltD (G : Gc) (N : List Str) (cm : Md) (sc : Scope) (x : Str) (f : List D → Hd → R D) : Prop := ∃ (id : String) (r : Cx → List V → Hp → VK → Prop), bootBuiltins x = some (.builtin id) ∧ ∀ X W, Cz G N cm sc X W → CallR X (.builtin id) (r X) ∧ CallA G (r X) f
def BtyD (G : Gc) (N : List Str) (cm : Md) (sc : Scope) (x : Str) (f : List D → Hd → R D) : Prop := ∃ (id : String) (r : Cx → List V → Hp → VK → Prop), bootBuiltins x = some (.type id) ∧ ∀ X W, Cz G N cm sc X W → CallR X (.type id) (r X) ∧ CallA G (r X) f
theorem callA_i {r : List V → Hp → VK → Prop} {W : WX} {σ : L2.St} {Q : VK} (h : CallA G r f) (q : tE G W (cBlt f ma) σ H Q) : (fun σ H Q => tA G W ma σ H fun vs H1 => r vs H1 Q) σ H Q := by
  obtain ⟨ρ, Γ, S, sm, en, q⟩ := q
  exact Fin.step sm en q fun ds S1 ρ1 H1 v g1 s1 e1 r1 ga => h _ _ _ _ _ _ _ _ s1 r1 ga
theorem re_blt (B : BltD G N cm sc x f) (hm : G.mg x = none) (hg : glB sc x = true) (ha : RA G N cm sc (e :: es) ma) (he : ∀ X : Cx, starEach (e :: es) X.env = (false, eval e X.env) :: starEach es X.env := by intro _; rfl) (hpl : ∀ X : Cx, (backTo pos (starEach es X.env)).any (·.1) = false := by intro _; rfl) :
    RE G N cm sc (.Call (.Name x p) (e :: es) [] pos) (cBlt f ma) := fun X W c => by
  obtain ⟨id, r, hb, B⟩ := B
  obtain ⟨g1, g2, g3⟩ := glB_of c hg
  exact PE.imp (pe_callB (B X W c).1 g1 (by rw [c.hmg]; exact hm) hb (ha X W c) g3 g2 (he X) (hpl X)) fun σ H Q q => callA_i (B X W c).2 q
theorem re_bty (B : BtyD G N cm sc x f) (hm : G.mg x = none) (hg : glB sc x = true) (ha : RA G N cm sc (e :: es) ma) (he : ∀ X : Cx, starEach (e :: es) X.env = (false, eval e X.env) :: starEach es X.env := by intro _; rfl) (hpl : ∀ X : Cx, (backTo pos (starEach es X.env)).any (·.1) = false := by intro _; rfl) :
    RE G N cm sc (.Call (.Name x p) (e :: es) [] pos) (cBlt f ma) := fun X W c => by
  obtain ⟨id, r, hb, B⟩ := B
  obtain ⟨g1, g2, g3⟩ := glB_of c hg
  exact PE.imp (pe_callTy (B X W c).1 g1 (by rw [c.hmg]; exact hm) hb (ha X W c) g3 g2 (he X) (hpl X)) fun σ H Q q => callA_i (B X W c).2 q
/-! ### len, abs, max, min, int, sum -/
def lenD : List D → Hd → R D
  | [.str l], S => if l.length ≤ 16777216 then .ok (.int l.length) S else .stuck
  | [.tup xs], S => .ok (.int xs.length) S
  | [.ref n], S => match S[n]? with
    | some (.lst xs) => .ok (.int xs.length) S
    | some (.ro xs) => .ok (.int xs.length) S
    | some (.dct xs) => .ok (.int xs.length) S
    | _ => .stuck
  | _, _ => .stuck
theorem b_len : BltD G N cm sc "len" lenD := ⟨"len", fun X xs H Q => (∃ x n, xs = [x] ∧ LenV X.K x H n ∧ Q (.int n) H) ∨ (∃ a kvs, xs = [V.ref a] ∧ H a = some (.dK kvs) ∧ Q (.int kvs.length) H), by decide +kernel, fun X W c => ⟨CallR.or call_len call_lenD, by
  intro ρ S H vs ds W σ Q s r g
  unfold lenD at g
  split at g
  · obtain ⟨v, rfl, rv⟩ := r.one
    cases rv with
    | str h =>
      split at g
      · rename_i z l S hl
        exact .inl ⟨_, _, rfl, ⟨by rw [len_dL, dL, h, sz]; exact hl, rfl⟩, g.here s (by rw [len_dL, dL, h]; exact .int _)⟩
      · exact g.elim
  · obtain ⟨v, rfl, rv⟩ := r.one
    cases rv with
    | tup h r => exact .inl ⟨_, _, rfl, .inr ⟨_, SqT.of h, rfl⟩, g.here s (by rw [r.length]; exact .int _)⟩
  · obtain ⟨v, rfl, rv⟩ := r.one
    cases rv with
    | ref hn =>
      split at g
      · rename_i xs h
        obtain ⟨vs, h1, h2⟩ := s.lsAt hn (show lstAt _ _ = some xs by unfold lstAt; rw [h])
        exact .inl ⟨_, _, rfl, .inl ⟨_, by rw [c.hK]; exact h1, rfl⟩, g.here s (by rw [h2.length]; exact .int _)⟩
      · rename_i xs h
        obtain ⟨vs, h1, h2⟩ := s.lsAt hn (show lstAt _ _ = some xs by unfold lstAt; rw [h])
        exact .inl ⟨_, _, rfl, .inl ⟨_, by rw [c.hK]; exact h1, rfl⟩, g.here s (by rw [h2.length]; exact .int _)⟩
      · rename_i xs h
        obtain ⟨vs, h1, h2, h3⟩ := s.dcAt hn h
        refine .inr ⟨_, _, rfl, h1, g.here s ?_⟩
        have e : vs.length = xs.length := by
          have := congrArg List.length h2
          simpa using this
        rw [e]
        exact .int _
      · exact g.elim
  · exact g.elim⟩⟩
def absD : List D → Hd → R D
  | [.int i], S => .ok (.int (if i < 0 then -i else i)) S
  | _, _ => .stuck
theorem b_abs : BltD G N cm sc "abs" absD := ⟨"abs", _, by decide +kernel, fun X W c => ⟨call_abs, by
  intro ρ S H vs ds W σ Q s r g
  unfold absD at g
  split at g
  · obtain ⟨v, rfl, rv⟩ := r.one
    cases rv
    exact ⟨_, rfl, g.here s (.int _)⟩
  · exact g.elim⟩⟩
def maxD : List D → Hd → R D
  | [.int i, .int j], S => .ok (.int (if j > i then j else i)) S
  | _, _ => .stuck
theorem b_max (hc : cm.calm = true) : BltD G N cm sc "max" maxD := ⟨"max", _, by decide +kernel, fun X W c => ⟨call_max2 (c.calm.trans hc), by
  intro ρ S H vs ds W σ Q s r g
  unfold maxD at g
  split at g
  · obtain ⟨v, v', rfl, rv, rv'⟩ := r.two
    cases rv
    cases rv'
    exact ⟨_, _, rfl, g.here s (.int _)⟩
  · exact g.elim⟩⟩
def minD : List D → Hd → R D
  | [.int i, .int j], S => .ok (.int (if j < i then j else i)) S
  | _, _ => .stuck
theorem b_min (hc : cm.calm = true) : BltD G N cm sc "min" minD := ⟨"min", _, by decide +kernel, fun X W c => ⟨call_min2 (c.calm.trans hc), by
  intro ρ S H vs ds W σ Q s r g
  unfold minD at g
  split at g
  · obtain ⟨v, v', rfl, rv, rv'⟩ := r.two
    cases rv
    cases rv'
    exact ⟨_, _, rfl, g.here s (.int _)⟩
  · exact g.elim⟩⟩
def intD : List D → Hd → R D
  | [.int i], S => .ok (.int i) S
  | [.bl k], S => .ok (.int (if k then 1 else 0)) S
  | _, _ => .stuck
theorem b_int : BtyD G N cm sc "int" intD := ⟨"int", _, by decide +kernel, fun X W c => ⟨call_int1, by
  intro ρ S H vs ds W σ Q s r g
  unfold intD at g
  split at g
  · obtain ⟨v, rfl, rv⟩ := r.one
    cases rv
    exact .inl ⟨_, rfl, g.here s (.int _)⟩
  · obtain ⟨v, rfl, rv⟩ := r.one
    cases rv
    exact .inr ⟨_, rfl, g.here s (.int _)⟩
  · exact g.elim⟩⟩
/-- all of them ints, texts -/
def intsD : List D → Option (List Int)
  | [] => some []
  | .int i :: r => (intsD r).map (i :: ·)
  | _ => none
def strsD : List D → Option (List (List Nat))
  | [] => some []
  | .str i :: r => (strsD r).map (i :: ·)
  | _ => none
theorem intsD_ok : ∀ {vs : List V} {ds : List D} {ns : List Int}, Reps G.mg ρ H vs ds → intsD ds = some ns → vs = ns.map V.int
  | [], [], ns, _, h => by cases h; rfl
  | v :: vs, d :: ds, ns, .cons r t, h => by
    cases r with
    | int i =>
      unfold intsD at h
      cases e : intsD ds with
      | none => rw [e] at h; cases h
      | some ms =>
        rw [e] at h
        cases h
        rw [List.map_cons, intsD_ok t e]
    | _ => cases h
theorem strsD_ok : ∀ {vs : List V} {ds : List D} {ns : List (List Nat)}, Reps G.mg ρ H vs ds → strsD ds = some ns → ∃ zs : List Str, vs = zs.map V.str ∧ zs.map cs = ns
  | [], [], ns, _, h => by cases h; exact ⟨[], rfl, rfl⟩
  | v :: vs, d :: ds, ns, .cons r t, h => by
    cases r with
    | str hz =>
      unfold strsD at h
      rename_i z l
      cases e : strsD ds with
      | none => rw [e] at h; cases h
      | some ms =>
        rw [e] at h
        cases h
        obtain ⟨zs, h1, h2⟩ := strsD_ok t e
        exact ⟨z :: zs, by rw [List.map_cons, h1], by rw [List.map_cons, h2]; exact congrArg (· :: ms) hz⟩
    | _ => cases h
def sumD : List D → Hd → R D
  | [.ref n], S => match lstAt S n with
    | some xs => match intsD xs with
      | some ns => .ok (.int ns.sum) S
      | none => .stuck
    | none => .stuck
  | _, _ => .stuck
theorem b_sum (hc : cm.calm = true) : BltD G N cm sc "sum" sumD := ⟨"sum", fun X => L2.rSum X.K, by decide +kernel, fun X W c => ⟨cr_sum (c.calm.trans hc), by
  intro ρ S H vs ds W σ Q s r g
  unfold sumD at g
  split at g
  · obtain ⟨v, rfl, rv⟩ := r.one
    cases rv with
    | ref hn =>
      split at g
      · rename_i xs hx
        split at g
        · rename_i ns hns
          obtain ⟨vs, h1, h2⟩ := s.lsAt hn hx
          have := intsD_ok h2 hns
          subst this
          exact ⟨_, ns, rfl, by rw [c.hK]; exact h1, g.here s (.int _)⟩
        · exact g.elim
      · exact g.elim
  · exact g.elim⟩⟩
/-! ### isinstance -/
def tyN : D → Hd → Option String
  | .non, _ => some "NoneType"
  | .bl _, _ => some "bool"
  | .int _, _ => some "int"
  | .str _, _ => some "str"
  | .tup _, _ => some "tuple"
  | .ref n, S => match S[n]? with
    | some (.lst _) => some "list"
    | _ => none
  | _, _ => none
theorem tyN_ok {v : V} {d : D} {n : String} (s : Sim G.mg G.Tb ρ S H) (r : Rep G.mg ρ H v d) (h : tyN d S = some n) : tyB v H = some n := by
  cases r with
  | non => cases h; rfl
  | bl b => cases h; rfl
  | int b => cases h; rfl
  | str b => cases h; rfl
  | tup h1 _ => cases h; exact tyB_tup h1
  | ref hn =>
    dsimp only [tyN] at h
    split at h
    · rename_i xs hx
      obtain ⟨vs, h1, _⟩ := s.ltAt hn hx
      cases h
      exact tyB_lst h1
    · cases h
  | fn _ => cases h
  | ty _ => cases h
def isiD : List D → Hd → R D
  | [d, .ty T], S => match tyN d S with
    | some n => match kitB n T with
      | some b => .ok (.bl b) S
      | none => .stuck
    | none => .stuck
  | [d, .tup [.ty A, .ty B]], S => match tyN d S with
    | some n => match kitB n A, kitB n B with
      | some a, some b => .ok (.bl (a || b)) S
      | _, _ => .stuck
    | none => .stuck
  | _, _ => .stuck
theorem b_isi : BltD G N cm sc "isinstance" isiD := ⟨"isinstance", fun X vs H Q => rIsiM vs H Q ∨ rIsi2 vs H Q, by decide +kernel, fun X W c => ⟨CallR.or call_isiM call_isi2, by
  intro ρ S H vs ds W σ Q s r g
  unfold isiD at g
  split at g
  · obtain ⟨v, v', rfl, rv, rv'⟩ := r.two
    cases rv'
    split at g
    · rename_i n hn
      split at g
      · rename_i b hb
        exact .inl ⟨n, b, tyN_ok s rv hn, hb, g.here s (.bl _)⟩
      · exact g.elim
    · exact g.elim
  · obtain ⟨v, v', rfl, rv, rv'⟩ := r.two
    cases rv' with
    | tup h r' =>
      obtain ⟨w1, w2, rfl, q1, q2⟩ := r'.two
      cases q1
      cases q2
      split at g
      · rename_i n hn
        split at g
        · rename_i a b ha hb
          exact .inr ⟨n, _, _, _, tyN_ok s rv hn, h, ⟨a, ha, b, hb, rfl⟩, g.here s (.bl _)⟩
        · exact g.elim
      · exact g.elim
  · exact g.elim⟩⟩
/-! ### tuple, list -/
def tupleD : List D → Hd → R D
  | [.tup xs], S => .ok (.tup xs) S
  | [.ref n], S => match lstAt S n with
    | some xs => .ok (.tup xs) S
    | none => .stuck
  | _, _ => .stuck
theorem b_tuple : BtyD G N cm sc "tuple" tupleD := ⟨"tuple", _, by decide +kernel, fun X W c => ⟨call_tuple_of, by
  intro ρ S H vs ds W σ Q s r g
  unfold tupleD at g
  split at g
  · obtain ⟨v, rfl, rv⟩ := r.one
    cases rv with
    | tup h r => exact ⟨_, _, rfl, .inr ⟨SqT.of h, g.here s (.tup h r)⟩⟩
  · obtain ⟨v, rfl, rv⟩ := r.one
    cases rv with
    | ref hn =>
      split at g
      · rename_i xs hx
        obtain ⟨vs, h1, h2⟩ := s.lsAt hn hx
        exact ⟨_, _, rfl, .inl ⟨by rw [c.hK]; exact h1, New.of (Fin.newT s h2 g)⟩⟩
      · exact g.elim
  · exact g.elim⟩⟩
def listD : List D → Hd → R D
  | [.tup xs], S => alloc (.lst xs) S
  | [.ref n], S => match lstAt S n with
    | some xs => alloc (.lst xs) S
    | none => .stuck
  | _, _ => .stuck
theorem b_list : BtyD G N cm sc "list" listD := ⟨"list", _, by decide +kernel, fun X W c => ⟨call_list_of, by
  intro ρ S H vs ds W σ Q s r g
  unfold listD at g
  split at g
  · obtain ⟨v, rfl, rv⟩ := r.one
    cases rv with
    | tup h r => exact ⟨_, _, rfl, .inr (SqT.of h), New.of (Fin.newL s r g)⟩
  · obtain ⟨v, rfl, rv⟩ := r.one
    cases rv with
    | ref hn =>
      split at g
      · rename_i xs hx
        obtain ⟨vs, h1, h2⟩ := s.lsAt hn hx
        exact ⟨_, _, rfl, .inl (by rw [c.hK]; exact h1), New.of (Fin.newL s h2 g)⟩
      · exact g.elim
  · exact g.elim⟩⟩
end
end Dn

set_option Elab.async false
set_option linter.all false
set_option maxRecDepth 100000
set_option maxHeartbeats 4000000
set_option autoImplicit false
/-! # Methods of built-in values -/
namespace Dn
open PySem PySem.Spec PyProof.Rows L2 Kx
def isStrD : D → Hd → Bool
  | .str _, _ => true
  | _, _ => false
def isLstD : D → Hd → Bool
  | .ref n, S => match S[n]? with
    | some (.lst _) => true
    | some (.ro _) => true
    | _ => false
  | _, _ => false
def isDctD : D → Hd → Bool
  | .ref n, S => match S[n]? with
    | some (.dct _) => true
    | _ => false
  | _, _ => false
section
variable {G : Gc} {N : List Str} {cm : Md} {sc : Scope} {pos p p2 apos cpos : Pos} {ρ : List Addr} {S : Hd} {H : Hp} {e o e1 e2 : Expr} {m m1 m2 : CE} {es : List Expr} {ma : CA} {x name : Str}
theorem ty_str {v : V} {d : D} (s : Sim G.mg G.Tb ρ S H) (r : Rep G.mg ρ H v d) (h : isStrD d S = true) : tyV G.K "str" v H := by
  cases r <;> first | rfl | cases h
theorem ty_lst {v : V} {d : D} (s : Sim G.mg G.Tb ρ S H) (r : Rep G.mg ρ H v d) (h : isLstD d S = true) : tyV G.K "list" v H := by
  cases r with
  | ref hn =>
    dsimp only [isLstD] at h
    split at h
    · rename_i xs hx
      obtain ⟨vs, h1, h2⟩ := s.lsAt hn (show lstAt _ _ = some xs by unfold lstAt; rw [hx])
      exact .inl ⟨rfl, vs, h1⟩
    · rename_i xs hx
      obtain ⟨vs, h1, h2⟩ := s.lsAt hn (show lstAt _ _ = some xs by unfold lstAt; rw [hx])
      exact .inl ⟨rfl, vs, h1⟩
    · cases h
  | _ => cases h
theorem ty_dct {v : V} {d : D} (s : Sim G.mg G.Tb ρ S H) (r : Rep G.mg ρ H v d) (h : isDctD d S = true) : tyV G.K "dict" v H := by
  cases r with
  | ref hn =>
    dsimp only [isDctD] at h
    split at h
    · rename_i xs hx
      obtain ⟨vs, h1, h2⟩ := s.dcAt hn hx
      exact .inr (.inr (.inl ⟨rfl, .inl ⟨vs, h1⟩⟩))
    · cases h
  | _ => cases h
/-- a method: of the type T, by values -/
structure MtD (G : Gc) (N : List Str) (cm : Md) (sc : Scope) (T : String) (name : Str) (ty : D → Hd → Bool) (f : D → List D → Hd → R D) : Prop where
  ex : ∃ (id : String) (r : Cx → V → List V → Hp → VK → Prop), PlainAttrs T ∧ Slot T name id ∧ typeOf (.builtin id) = pure (.type "method_descriptor") ∧ ∀ X W, Cz G N cm sc X W → MtR X id (r X) ∧ MtA G (r X) f
  ty : ∀ ρ S H v d, Sim G.mg G.Tb ρ S H → Rep G.mg ρ H v d → ty d S = true → tyV G.K T v H
theorem re_mt {T : String} {ty : D → Hd → Bool} {f : D → List D → Hd → R D} (B : MtD G N cm sc T name ty f) (ho : RE G N cm sc o m) (ha : RA G N cm sc (e :: es) ma) (hbase : ∀ X : Cx, attributeBase o name X.env (eval o X.env) = eval o X.env := by intro _; rfl)
    (hfew : ∀ X : Cx, ((backTo cpos (starEach (e :: es) X.env)).all (fun x => !x.1) && (backToKw cpos (keywordEach [] X.env)).all (fun x => x.1.isSome)
      && decide ((e :: es).length + ([] : List Keyword).length + (if ([] : List Keyword).isEmpty then 0 else 1) < 30)) = true := by intro _; rfl)
    (hline : (apos.endLine == cpos.line) = true := by rfl) (hs : ∀ X : Cx, starEach (e :: es) X.env = (false, eval e X.env) :: starEach es X.env := by intro _; rfl) (hplain : ∀ X : Cx, (backTo cpos (starEach es X.env)).any (·.1) = false := by intro _; rfl) :
    RE G N cm sc (.Call (.Attribute o name apos) (e :: es) [] cpos) (cMt T ty f m ma) := fun X W c => by
  obtain ⟨id, r, pa, sl, hty, B2⟩ := B.ex
  refine PE.imp (pe_bm pa sl hty (B2 X W c).1 (ho X W c) (ha X W c) (hbase X) (hfew X) hline (hs X) (hplain X)) fun σ H Q q => ?_
  obtain ⟨ρ, Γ, S, sm, en, q⟩ := q
  refine Fin.step sm en q fun d S1 ρ1 H1 v g1 s1 e1 r1 ga => ?_
  split at ga
  · rename_i ht
    refine ⟨by rw [c.hK]; exact B.ty _ _ _ _ _ s1 r1 ht, ?_⟩
    exact Fin.step s1 e1 ga fun ds S2 ρ2 H2 vs g2 s2 e2 r2 gb => (B2 X W c).2 _ _ _ _ _ _ _ _ _ _ s2 (s1.rep g2 r1) r2 gb
  · exact ga.elim
theorem re_mt0 {T : String} {ty : D → Hd → Bool} {f : D → List D → Hd → R D} (B : MtD G N cm sc T name ty f) (ho : RE G N cm sc o m) (hbase : ∀ X : Cx, attributeBase o name X.env (eval o X.env) = eval o X.env := by intro _; rfl) (hline : (apos.endLine == cpos.line) = true := by rfl) :
    RE G N cm sc (.Call (.Attribute o name apos) [] [] cpos) (cMt T ty f m cNilA) := fun X W c => by
  obtain ⟨id, r, pa, sl, hty, B2⟩ := B.ex
  refine PE.imp (pe_bm0 pa sl hty (B2 X W c).1 (ho X W c) (hbase X) hline) fun σ H Q q => ?_
  obtain ⟨ρ, Γ, S, sm, en, q⟩ := q
  refine Fin.step sm en q fun d S1 ρ1 H1 v g1 s1 e1 r1 ga => ?_
  split at ga
  · rename_i ht
    exact ⟨by rw [c.hK]; exact B.ty _ _ _ _ _ s1 r1 ht, (B2 X W c).2 _ _ _ _ _ _ _ _ _ _ s1 r1 .nil ga⟩
  · exact ga.elim
/-! ### lists -/
def appD : D → List D → Hd → R D
  | .ref n, [d], S => match S[n]? with
    | some (.lst xs) => if xs.length < 16777216 then .ok .non (S.set n (.lst (xs ++ [d]))) else .stuck
    | _ => .stuck
  | _, _, _ => .stuck
theorem m_append : MtD G N cm sc "list" "append" isLstD appD := ⟨⟨"list.append", _, PySem.F.plainAttrs_list, PySem.F.slot_list_append, PySem.F.type_list_append, fun X W c => ⟨mt_appendM, by
  intro ρ S H v vs d ds W σ Q s rv r g
  unfold appD at g
  split at g
  · obtain ⟨w, rfl, rw'⟩ := r.one
    cases rv with
    | ref hn =>
      split at g
      · rename_i xs hx
        split at g
        · rename_i hl
          obtain ⟨vs, h1, h2⟩ := s.ltAt hn hx
          refine ⟨vs, h1, by rw [h2.length, sz]; exact hl, fun H' q hb => ?_⟩
          have hw := s.writeB (o := .lst (xs ++ [_])) hn hb fun tu => .lst q ((h2.append (.cons rw' .nil)).keep (List.prefix_refl _) tu)
          exact g ρ H' .non hw.2 hw.1 .non
        · exact g.elim
      · exact g.elim
  · exact g.elim⟩⟩, fun ρ S H v d s r h => ty_lst s r h⟩
def popD : D → List D → Hd → R D
  | .ref n, [], S => match S[n]? with
    | some (.lst xs) => match xs[xs.length - 1]? with
      | some d => .ok d (S.set n (.lst xs.dropLast))
      | none => .stuck
    | _ => .stuck
  | _, _, _ => .stuck
theorem writeU {n : Nat} {a : Addr} {xs : List V} {ys : List D} (s : Sim G.mg G.Tb ρ S H) (hn : ρ[n]? = some a) (r : Reps G.mg ρ H xs ys) : Sim G.mg G.Tb ρ (S.set n (.lst ys)) (upd H a (.lst xs)) ∧ Grow ρ H ρ (upd H a (.lst xs)) :=
  s.write hn rfl fun H' q tu => .lst q (r.keep (List.prefix_refl _) tu)
theorem m_pop0 : MtD G N cm sc "list" "pop" isLstD popD := ⟨⟨"list.pop", _, PySem.F.plainAttrs_list, PySem.F.slot_list_pop, PySem.F.type_list_pop, fun X W c => ⟨mt_pop, by
  intro ρ S H v vs d ds W σ Q s rv r g
  unfold popD at g
  split at g
  · cases r
    cases rv with
    | ref hn =>
      split at g
      · rename_i xs hx
        split at g
        · rename_i d hd
          obtain ⟨vs, h1, h2⟩ := s.ltAt hn hx
          obtain ⟨w, h3, h4⟩ := h2.get hd
          have hw := writeU s hn h2.dropLast
          exact ⟨_, vs, w, rfl, rfl, h1, by rw [h2.length]; exact h3, g ρ _ w hw.2 hw.1 (s.rep hw.2 h4)⟩
        · exact g.elim
      · exact g.elim
  · exact g.elim⟩⟩, fun ρ S H v d s r h => ty_lst s r h⟩
def popAtD : D → List D → Hd → R D
  | .ref n, [.int i], S => match S[n]? with
    | some (.lst xs) => if smI i then match seqIndex? i xs.length with
      | some k => match xs[k]? with
        | some d => .ok d (S.set n (.lst (xs.eraseIdx k)))
        | none => .stuck
      | none => .stuck else .stuck
    | _ => .stuck
  | _, _, _ => .stuck
theorem m_pop1 : MtD G N cm sc "list" "pop" isLstD popAtD := ⟨⟨"list.pop", _, PySem.F.plainAttrs_list, PySem.F.slot_list_pop, PySem.F.type_list_pop, fun X W c => ⟨mt_popAt, by
  intro ρ S H v vs d ds W σ Q s rv r g
  unfold popAtD at g
  split at g
  · obtain ⟨w, rfl, rw'⟩ := r.one
    cases rw'
    cases rv with
    | ref hn =>
      split at g
      · rename_i xs hx
        split at g
        · rename_i hi
          unfold smI at hi
          simp only [Bool.and_eq_true, decide_eq_true_eq] at hi
          split at g
          · rename_i k hk
            split at g
            · rename_i d hd
              obtain ⟨vs, h1, h2⟩ := s.ltAt hn hx
              obtain ⟨w, h3, h4⟩ := h2.get hd
              have hw := writeU s hn (h2.erase k)
              exact ⟨_, vs, _, k, w, rfl, rfl, h1, by omega, by omega, by rw [h2.length]; exact hk, h3, g ρ _ w hw.2 hw.1 (s.rep hw.2 h4)⟩
            · exact g.elim
          · exact g.elim
        · exact g.elim
      · exact g.elim
  · exact g.elim⟩⟩, fun ρ S H v d s r h => ty_lst s r h⟩
/-! ### texts -/
def joinL (a : List Nat) : List (List Nat) → List Nat
  | [] => []
  | p :: r => p ++ (r.map fun q => a ++ q).flatten
theorem glueL_eq (a : List Nat) : ∀ l : List Str, StrLaws.glueL a l = ((l.map cs).map fun q => a ++ q).flatten
  | [] => rfl
  | p :: r => by
    show a ++ (p.cps.toList ++ StrLaws.glueL a r) = _
    rw [glueL_eq a r]
    simp
theorem join_eq (a : Str) (l : List Str) : cs (Txt.join a l) = joinL (cs a) (l.map cs) := by
  cases l with
  | nil => rfl
  | cons p r =>
    show (PySem.Builtin.Str.glued a (p :: r)).cps.toList = _
    rw [StrLaws.glued_list]
    show p.cps.toList ++ StrLaws.glueL a.cps.toList r = _
    rw [glueL_eq]
    rfl
def joinD : D → List D → Hd → R D
  | .str a, [d], S => match seqAt S d with
    | some ds => match strsD ds with
      | some ls => if (ls.map (·.length)).sum + ls.length * a.length ≤ 16777216 then .ok (.str (joinL a ls)) S else .stuck
      | none => .stuck
    | none => .stuck
  | _, _, _ => .stuck
theorem m_join : MtD G N cm sc "str" "join" isStrD joinD := ⟨⟨"str.join", fun X => rJoinM X.K, PySem.F.plainAttrs_str, PySem.F.slot_str_join, PySem.F.type_str_join, fun X W c => ⟨mt_joinM, by
  intro ρ S H v vs d ds W σ Q s rv r g
  unfold joinD at g
  split at g
  · obtain ⟨w, rfl, rw'⟩ := r.one
    cases rv with
    | str hz =>
      split at g
      · rename_i ds hds
        split at g
        · rename_i ls hls
          split at g
          · rename_i hl
            obtain ⟨a, vs, rfl, h1, h2⟩ := s.sqAt rw' hds
            obtain ⟨zs, rfl, h3⟩ := strsD_ok h2 hls
            subst h3 hz
            refine ⟨zs, by rw [c.hK]; exact h1, ?_, g.here s (.str (join_eq _ _))⟩
            rw [List.map_map, List.length_map] at hl
            have e : zs.map (fun z => z.length) = zs.map ((fun l : List Nat => l.length) ∘ cs) := List.map_congr_left fun z _ => cs_len z
            rw [show (zs.map (·.length)) = _ from e, cs_len]
            exact hl
          · exact g.elim
        · exact g.elim
      · exact g.elim
  · exact g.elim⟩⟩, fun ρ S H v d s r h => ty_str s r h⟩
/-- count of one sign -/
def countD : D → List D → Hd → R D
  | .str a, [.str [c]], S => .ok (.int (a.count c : Nat)) S
  | _, _, _ => .stuck
theorem m_count : MtD G N cm sc "str" "count" isStrD countD := ⟨⟨"str.count", _, PySem.F.plainAttrs_str, PySem.F.slot_str_count, PySem.F.type_str_count, fun X W c => ⟨mt_countM, by
  intro ρ S H v vs d ds W σ Q s rv r g
  unfold countD at g
  split at g
  · obtain ⟨w, rfl, rw'⟩ := r.one
    cases rw' with
    | str hw =>
      cases rv with
      | str hz =>
        have e : _ = (⟨#[_]⟩ : Str) := cs_inj (show _ = [_] from hw)
        subst e hz
        show Q (.int (Txt.count _ _)) H
        rw [count1]
        exact g.here s (.int _)
  · exact g.elim⟩⟩, fun ρ S H v d s r h => ty_str s r h⟩
end
end Dn

set_option Elab.async false
set_option linter.all false
set_option maxRecDepth 100000
set_option maxHeartbeats 4000000
set_option autoImplicit false
/-! # enumerate and zip of anything -/
namespace Dn
open PySem PySem.Spec PyProof.Rows L2 Kx
inductive Kd where
  | lst (a : Addr) | tup (a : Addr) | txt (x : Str) (t : Tok)
def Kd.St : Kd → Addr → Nat → Heap → Prop
  | .lst a, it, i, h => h.IsListIter it a i
  | .tup a, it, i, h => h.IsTupleIter it a i
  | .txt x t, it, i, h => h.IsStrIter it (strIterType x) x t i
def Kd.has : Kd → Hp → List V → Prop
  | .lst a, H, xs => Rd H a (.lst xs)
  | .tup a, H, xs => Rd H a (.tup xs)
  | .txt x _, _, xs => xs = x.cps.toList.map fun c => .str ⟨#[c]⟩
section
variable {X : Cx} {pins : List (Addr × Obj)} {σ : L2.St} {H : Hp} {s : Shared} {k k1 k2 : Kd} {it : Addr}
theorem Kd.ob {i : Nat} {h : Heap} (st : k.St it i h) : ∃ o, h.get? it = some o ∧ ∀ v, o.data ≠ .cell v := by
  cases k with
  | lst a => obtain ⟨o, ho, hc, hd⟩ := st; exact ⟨o, ho, fun v q => by rw [hd] at q; cases q⟩
  | tup a => obtain ⟨o, ho, hc, hd⟩ := st; exact ⟨o, ho, fun v q => by rw [hd] at q; cases q⟩
  | txt x t => obtain ⟨o, ho, hc, hd⟩ := st; exact ⟨o, ho, fun v q => by rw [hd] at q; cases q⟩
theorem Kd.keep {i : Nat} {h h' : Heap} (st : k.St it i h) (q : ∀ o, h.get? it = some o → h'.get? it = some o) : k.St it i h' := by
  cases k with
  | lst a => exact Heap.IsListIter.at st q
  | tup a => exact Heap.IsTupleIter.at st q
  | txt x t => obtain ⟨o, ho, r⟩ := st; exact ⟨o, q o ho, r⟩
theorem rd_inj {H : Hp} {a : Addr} {u v : HO} (hu : ∀ o w, u ≠ .frz o w) (hv : ∀ o w, v ≠ .frz o w) (h : Rd H a u) (h' : Rd H a v) : u = v := by
  rcases h with h | ⟨o, h⟩ <;> rcases h' with h' | ⟨o', h'⟩ <;> rw [h] at h'
  · exact Option.some.inj h'
  · exact absurd (Option.some.inj h') (hu _ _)
  · exact absurd (Option.some.inj h').symm (hv _ _)
  · cases h'; rfl
theorem Kd.inj {xs ys : List V} (h : k.has H xs) (h' : k.has H ys) : xs = ys := by
  cases k with
  | lst a =>
    have := rd_inj (fun _ _ z => by cases z) (fun _ _ z => by cases z) h h'
    injection this
  | tup a =>
    have := rd_inj (fun _ _ z => by cases z) (fun _ _ z => by cases z) h h'
    injection this
  | txt x t => exact h.trans h'.symm
theorem rd_ne {H : Hp} {a b : Addr} {u : HO} (h : Rd H a u) (n : H b = none) : a ≠ b := fun z => by
  subst z
  rcases h with h | ⟨o, h⟩ <;> rw [h] at n <;> cases n
theorem Kd.draws {xs : List V} (I : Inv X pins σ H s) (hc : X.calm = true) (h : k.has H xs) (hit : H it = none) : ∃ (fp : List Addr) (P : Nat → Value → Prop) (Sv : Nat → Heap → Prop), Draws X.prog X.w X.A.in1 it fp xs.length P Sv ∧ it ∈ fp ∧ (∀ b, H b = none → b ≠ it → b ∉ fp) ∧
    (∀ i, k.St it i s.heap → Sv i s.heap) ∧ (∀ i h', Sv i h' → k.St it i h') ∧ (∀ i u, P i u → ∃ x, xs[i]? = some x ∧ RelV x u) := by
  have hh : X.A.in1.handled = none := I.ok.hd hc
  have vget : ∀ {xs : List V} {us : List Value} {i : Nat} {u : Value}, Vals xs us → us[i]? = some u → ∃ x, xs[i]? = some x ∧ RelV x u := fun {xs us i u} r e => by
    cases q : xs[i]? with
    | none => rw [r.none_of q] at e; cases e
    | some x =>
      obtain ⟨u', e', r'⟩ := r.get q
      rw [e] at e'; cases e'
      exact ⟨x, rfl, r'⟩
  cases k with
  | lst a =>
    obtain ⟨its, rv, p, hz⟩ := I.list (show SqL X.K H a xs from .inl h)
    have hne := rd_ne h hit
    have hl : its.toArray.size = xs.length := by simp [rv.length]
    refine ⟨[it, a], _, _, hl ▸ Draws.list hh it a hne its.toArray, by simp, fun b hb hbi => ?_, fun i st => ⟨st, p.isList⟩, fun i h' st => st.1, fun i u hu => vget rv (by simpa using hu)⟩
    have := rd_ne h hb
    simp [hbi, Ne.symm this]
  | tup a =>
    obtain ⟨its, rv, p, hz⟩ := I.tuple (show SqT X.K H a xs from .inl h)
    have hne := rd_ne h hit
    have hl : its.toArray.size = xs.length := by simp [rv.length]
    refine ⟨[it, a], _, _, hl ▸ Draws.tuple hh it a hne its.toArray, by simp, fun b hb hbi => ?_, fun i st => ⟨st, show s.heap.IsTuple a its.toArray from p⟩, fun i h' st => st.1, fun i u hu => vget rv (by simpa using hu)⟩
    have := rd_ne h hb
    simp [hbi, Ne.symm this]
  | txt x t =>
    have h : xs = x.cps.toList.map fun c => .str ⟨#[c]⟩ := h
    subst h
    have hl : x.cps.size = (x.cps.toList.map fun c => (.str ⟨#[c]⟩ : V)).length := by simp
    refine ⟨[it], _, _, hl ▸ Draws.text hh it x t, by simp, fun b hb hbi => by simpa using hbi, fun i st => st, fun i h' st => st, fun i u ⟨c, u', hc', hu⟩ => ⟨.str ⟨#[c]⟩, by simp [hc'], u', hu⟩⟩
/-! ### enumerate -/
def ItE (k : Kd) : It :=
  ⟨fun i H => ∃ xs x, k.has H xs ∧ xs[i]? = some x, fun i H v H' => ∃ T x, v = .ref T ∧ H T = none ∧ H' = upd H T (.tup [.int (i : Nat), x]) ∧ ∀ xs, k.has H xs → xs[i]? = some x, fun i H => ∃ xs, k.has H xs ∧ xs.length = i⟩
theorem turn_enumK {P : Program} {w : World} {K : PySem.W.Frag} {elts : List Expr} {kk : Nat} {tpos : Pos} (k : Kd) (e it : Addr) :
    Turn P w K (.Tuple elts kk tpos) (ItE k) [e, it] e (fun i h => (∃ old, IsEnum h e it ((i : Nat) : Int) old) ∧ k.St it i h ∧ e ≠ it) where
  mem := by simp
  obj := fun i h st b hb => by
    obtain ⟨⟨old, he⟩, hs, _⟩ := st
    have e' : b = e ∨ b = it := by simpa using hb
    rcases e' with z | z
    · rw [z]; exact ⟨_, he, fun v q => nomatch q⟩
    · rw [z]; exact k.ob hs
  keep := fun i h h' st q => let ⟨⟨old, he⟩, hi, hne⟩ := st; ⟨⟨old, q e (by simp) _ he⟩, Kd.keep hi fun o z => q it (by simp) o z, hne⟩
  item := by
    intro X hP hw hK hc i pins s σ H E I hf st hg
    subst hP hw hK
    obtain ⟨⟨old, he⟩, hit, hne⟩ := st
    obtain ⟨xs, x, hq, hx⟩ := hg
    obtain ⟨fp, Pv, Sv, D, m1, ap, sv1, sv2, pv⟩ := Kd.draws I hc hq (hf it (by simp)).1
    have hi : i < xs.length := (List.getElem?_eq_some_iff.mp hx).1
    have G := GoesN.enumFrom (elts := elts) (x1 := kk) (pos := tpos) 0 D e hne (ap e (hf e (by simp)).1 hne) m1
    have hel : e < s.heap.objs.size := Heap.lt_size he
    obtain ⟨oi, hoi, _⟩ := k.ob hit
    have hil : it < s.heap.objs.size := Heap.lt_size hoi
    refine G.goes i s (fun v s2 => ∃ x H', Inv X pins σ H' s2 ∧ RelV x v ∧ (ItE k).yld i H x H' ∧ ((∃ old, IsEnum s2.heap e it ((i + 1 : Nat) : Int) old) ∧ k.St it (i + 1) s2.heap ∧ e ≠ it) ∧ ∀ b ∈ [e, it], H' b = none) E hi ⟨⟨old, by rw [Int.zero_add]; exact he⟩, sv1 i hit⟩ ?_ |> fun h => thn h fun r s1 ⟨v, hr, hv⟩ => ⟨v, hr, hv⟩
    rintro v h' tk ⟨T, t, u, rfl, hnew, hPu, hT⟩ ⟨⟨old', he'⟩, st'⟩ hk htk
    obtain ⟨x', hx', ru⟩ := pv i u hPu
    rw [hx] at hx'
    cases hx'
    have new : ObjOk X.prog X.w (upd H T (.tup [.int (i : Nat), x])) h' T (.tup [.int (i : Nat), x]) :=
      ⟨by show 2 ≤ sizeLine; decide, [.int (0 + (i : Int)) t, u], .cons ⟨t, by rw [Int.zero_add]⟩ (.cons ru .nil), show IsTup h' T _ from hT⟩
    have I1 := I.turnedNew (t' := tk) (ch := [e, it]) (fun b o hb q => hk b o hb q) hf hnew new
    refine ⟨.ref T, _, I1, rfl, ⟨T, x, rfl, I.hok.fresh hnew, rfl, fun ys hy => by rw [Kd.inj hy hq]; exact hx⟩, ⟨⟨old', ?_⟩, sv2 _ _ st', hne⟩, fun b hb => ?_⟩
    · rw [Int.zero_add] at he'; exact he'
    · have e' : b = e ∨ b = it := by simpa using hb
      have hb' : b < s.heap.objs.size := by rcases e' with z | z <;> rw [z] <;> assumption
      rw [upd_ne (Nat.ne_of_lt (Nat.lt_of_lt_of_le hb' hnew))]
      exact (hf b hb).1
  done := by
    intro X hP hw hK hc i pins s σ H E I hf st hg
    subst hP hw hK
    obtain ⟨⟨old, he⟩, hit, hne⟩ := st
    obtain ⟨xs, hq, hx⟩ := hg
    subst hx
    obtain ⟨fp, Pv, Sv, D, m1, ap, sv1, sv2, pv⟩ := Kd.draws I hc hq (hf it (by simp)).1
    have G := GoesN.enumFrom (elts := elts) (x1 := kk) (pos := tpos) 0 D e hne (ap e (hf e (by simp)).1 hne) m1
    exact G.stops s (fun s1 => Inv X pins σ H s1) E ⟨⟨old, by rw [Int.zero_add]; exact he⟩, sv1 _ hit⟩ fun h' tk hk htk => I.turnedL (t' := tk) (ch := [e, it]) (fun b o hb q => hk b o hb q) hf
  self := fun A i s Q E st h => let ⟨⟨_, he⟩, _⟩ := st; wpAny_pyIter_enum he h
/-! ### zip -/
def ItZ (k1 k2 : Kd) : It :=
  ⟨fun i H => ∃ xs ys x y, k1.has H xs ∧ k2.has H ys ∧ xs[i]? = some x ∧ ys[i]? = some y, fun i H v H' => ∃ T x y, v = .ref T ∧ H T = none ∧ H' = upd H T (.tup [x, y]) ∧ (∀ xs, k1.has H xs → xs[i]? = some x) ∧ ∀ ys, k2.has H ys → ys[i]? = some y,
    fun i H => ∃ xs ys, k1.has H xs ∧ k2.has H ys ∧ i ≤ xs.length ∧ i ≤ ys.length ∧ (xs.length = i ∨ ys.length = i)⟩
structure Zs (z TI TO i1 i2 : Addr) : Prop where
  a : TI ≠ z
  b : TO ≠ z
  c : TI ≠ TO
  d : TI ≠ i1
  e : TI ≠ i2
  f : z ≠ i1
  g : z ≠ i2
  h : TO ≠ i1
  i : TO ≠ i2
  j : i1 ≠ i2
theorem turn_zipK {P : Program} {w : World} {K : PySem.W.Frag} {elts : List Expr} {kk : Nat} {tpos : Pos} {z TI TO i1 i2 : Addr} (k1 k2 : Kd) (Z : Zs z TI TO i1 i2) :
    Turn P w K (.Tuple elts kk tpos) (ItZ k1 k2) [z, TI, TO, i1, i2] z (fun i h => IsZip h z TI TO .none ∧ IsTupOf2 h TI (.ref i1) (.ref i2) ∧ (∃ a1 a2, IsTupOf2 h TO a1 a2) ∧ k1.St i1 i h ∧ k2.St i2 i h) where
  mem := by simp
  obj := fun i h st c hc => by
    obtain ⟨hz, hTI, ⟨x, y, hTO⟩, h1, h2⟩ := st
    have e' : c = z ∨ c = TI ∨ c = TO ∨ c = i1 ∨ c = i2 := by simpa using hc
    rcases e' with q | q | q | q | q
    · rw [q]; exact ⟨_, hz, fun v q => nomatch q⟩
    · rw [q]; exact ⟨_, hTI, fun v q => nomatch q⟩
    · rw [q]; exact ⟨_, hTO, fun v q => nomatch q⟩
    · rw [q]; exact k1.ob h1
    · rw [q]; exact k2.ob h2
  keep := fun i h h' st k => by
    obtain ⟨hz, hTI, ⟨x, y, hTO⟩, h1, h2⟩ := st
    exact ⟨k z (by simp) _ hz, k TI (by simp) _ hTI, ⟨x, y, k TO (by simp) _ hTO⟩, Kd.keep h1 fun o q => k i1 (by simp) o q, Kd.keep h2 fun o q => k i2 (by simp) o q⟩
  item := by
    intro X hP hw hK hc i pins s σ H E I hf st hg
    subst hP hw hK
    obtain ⟨hz, hTI, ⟨x0, y0, hTO⟩, h1, h2⟩ := st
    obtain ⟨xs, ys, x, y, hqx, hqy, hx, hy⟩ := hg
    obtain ⟨fp1, P1, S1, D1, m1, ap1, sv1, sw1, pv1⟩ := Kd.draws I hc hqx (hf i1 (by simp)).1
    obtain ⟨fp2, P2, S2, D2, m2, ap2, sv2, sw2, pv2⟩ := Kd.draws I hc hqy (hf i2 (by simp)).1
    have hi1 : i < xs.length := (List.getElem?_eq_some_iff.mp hx).1
    have hi2 : i < ys.length := (List.getElem?_eq_some_iff.mp hy).1
    have nz := (hf z (by simp)).1
    have nT := (hf TO (by simp)).1
    have n1 := (hf i1 (by simp)).1
    have n2 := (hf i2 (by simp)).1
    have Sp : ZipSep2 z TI TO i1 i2 fp1 fp2 := ⟨Z.a, Z.b, Z.c, Z.d, m1, ap1 z nz Z.f, ap1 TO nT Z.h, Z.e, m2, ap2 z nz Z.g, ap2 TO nT Z.i, ap2 i1 n1 Z.j, ap1 i2 n2 (Ne.symm Z.j)⟩
    have G := GoesN.zip2 (elts := elts) (x1 := kk) (pos := tpos) Sp D1 D2
    obtain ⟨o1, e1, _⟩ := k1.ob h1
    obtain ⟨o2, e2, _⟩ := k2.ob h2
    have lt : ∀ c ∈ [z, TI, TO, i1, i2], c < s.heap.objs.size := fun c hc => by
      have e' : c = z ∨ c = TI ∨ c = TO ∨ c = i1 ∨ c = i2 := by simpa using hc
      rcases e' with q | q | q | q | q <;> rw [q]
      · exact Heap.lt_size hz
      · exact Heap.lt_size hTI
      · exact Heap.lt_size hTO
      · exact Heap.lt_size e1
      · exact Heap.lt_size e2
    refine thn (G.goes i s (fun v s2 => ∃ x H', Inv X pins σ H' s2 ∧ RelV x v ∧ (ItZ k1 k2).yld i H x H' ∧ (IsZip s2.heap z TI TO .none ∧ IsTupOf2 s2.heap TI (.ref i1) (.ref i2) ∧ (∃ a1 a2, IsTupOf2 s2.heap TO a1 a2) ∧ k1.St i1 (i + 1) s2.heap ∧ k2.St i2 (i + 1) s2.heap) ∧ ∀ b ∈ [z, TI, TO, i1, i2], H' b = none) E (by omega) ⟨hz, hTI, ⟨x0, y0, hTO⟩, sv1 i h1, sv2 i h2⟩ ?_) fun r s1 ⟨v, hr, hv⟩ => ⟨v, hr, hv⟩
    rintro v h' tk ⟨T, u1, u2, rfl, hnew, hp1, hp2, hT⟩ ⟨z', TI', TO', h1', h2'⟩ hk htk
    obtain ⟨x', hx', r1⟩ := pv1 i u1 hp1
    obtain ⟨y', hy', r2⟩ := pv2 i u2 hp2
    rw [hx] at hx'; cases hx'
    rw [hy] at hy'; cases hy'
    have new : ObjOk X.prog X.w (upd H T (.tup [x, y])) h' T (.tup [x, y]) := ⟨by show 2 ≤ sizeLine; decide, [u1, u2], .cons r1 (.cons r2 .nil), show IsTup h' T _ from hT⟩
    have I1 := I.turnedNew (t' := tk) (ch := [z, TI, TO, i1, i2]) (fun b o hb q => hk b o (fun m => hb (by
      have e' : b = z ∨ b = TO ∨ b = i1 ∨ b = i2 := by simpa using m
      rcases e' with q | q | q | q <;> simp [q])) q) hf hnew new
    refine ⟨.ref T, _, I1, rfl, ⟨T, x, y, rfl, I.hok.fresh hnew, rfl, fun l hl => by rw [Kd.inj hl hqx]; exact hx, fun l hl => by rw [Kd.inj hl hqy]; exact hy⟩, ⟨z', TI', TO', sw1 _ _ h1', sw2 _ _ h2'⟩, fun b hb => ?_⟩
    rw [upd_ne (Nat.ne_of_lt (Nat.lt_of_lt_of_le (lt b hb) hnew))]
    exact (hf b hb).1
  done := by
    intro X hP hw hK hc i pins s σ H E I hf st hg
    subst hP hw hK
    obtain ⟨hz, hTI, ⟨x0, y0, hTO⟩, h1, h2⟩ := st
    obtain ⟨xs, ys, hqx, hqy, hl1, hl2, hend⟩ := hg
    obtain ⟨fp1, P1, S1, D1, m1, ap1, sv1, sw1, pv1⟩ := Kd.draws I hc hqx (hf i1 (by simp)).1
    obtain ⟨fp2, P2, S2, D2, m2, ap2, sv2, sw2, pv2⟩ := Kd.draws I hc hqy (hf i2 (by simp)).1
    have nz := (hf z (by simp)).1
    have nT := (hf TO (by simp)).1
    have n1 := (hf i1 (by simp)).1
    have n2 := (hf i2 (by simp)).1
    have Sp : ZipSep2 z TI TO i1 i2 fp1 fp2 := ⟨Z.a, Z.b, Z.c, Z.d, m1, ap1 z nz Z.f, ap1 TO nT Z.h, Z.e, m2, ap2 z nz Z.g, ap2 TO nT Z.i, ap2 i1 n1 Z.j, ap1 i2 n2 (Ne.symm Z.j)⟩
    refine wpAny_pyNext_zipD2_end Sp D1 D2 hz hTI hTO (sv1 i h1) (sv2 i h2) hl1 hl2 (by omega) fun h' tk hk => ⟨rfl, I.turnedL (t' := tk) (ch := [z, TI, TO, i1, i2]) (fun b o hb q => ?_) hf⟩
    have e' : b ≠ z ∧ b ≠ TI ∧ b ≠ TO ∧ b ≠ i1 ∧ b ≠ i2 := by simpa using hb
    exact hk b o e'.1 e'.2.2.1 e'.2.2.2.1 e'.2.2.2.2 q
  self := fun A i s Q E st h => wpAny_pyIter_zip st.1 h
end
section
variable {G : Gc} {N : List Str} {cm : Md} {sc : Scope} {pos p p2 tpos : Pos} {ρ : List Addr} {S : Hd} {H : Hp} {e e1 e2 tg iter : Expr} {m m1 m2 : CE} {es : List Expr} {ma : CA}
/-- the kind of a walked value -/
inductive BsR (G : Gc) (ρ : List Addr) (H : Hp) : Kd → Bs → Prop
  | lst {a : Addr} {n : Nat} (h : ρ[n]? = some a) : BsR G ρ H (.lst a) (.lst n)
  | tup {a : Addr} {vs : List V} {ds : List D} (h : H a = some (.tup vs)) (r : Reps G.mg ρ H vs ds) : BsR G ρ H (.tup a) (.items ds)
  | txt {x : Str} {t : Tok} {l : List Nat} (h : x.cps.toList = l) : BsR G ρ H (.txt x t) (.items (chD l))
theorem chD_rep {z : Str} {l : List Nat} (h : z.cps.toList = l) : Reps G.mg ρ H (z.cps.toList.map fun c => .str ⟨#[c]⟩) (chD l) := by
  subst h
  unfold chD
  generalize z.cps.toList = l
  induction l with
  | nil => exact .nil
  | cons c r ih => exact .cons (.str rfl) ih
theorem BsR.has {k : Kd} {b : Bs} {ρ' : List Addr} {S' : Hd} {H' : Hp} {ds : List D} {ρ0 : List Addr} {S0 : Hd} {H0 : Hp} (s0 : Sim G.mg G.Tb ρ0 S0 H0) (r : BsR G ρ0 H0 k b) (g : Grow ρ0 H0 ρ' H') (s : Sim G.mg G.Tb ρ' S' H') (h : cont S' b = some ds) : ∃ xs, k.has H' xs ∧ Reps G.mg ρ' H' xs ds := by
  cases r with
  | lst hn =>
    have hn := pre_get g.pre hn
    simp only [cont] at h
    unfold lstAt at h
    split at h
    · rename_i xs e
      cases h
      obtain ⟨b, e1, r⟩ := s.ob _ _ e
      rw [hn] at e1; cases e1
      cases r with
      | lst h1 r => exact ⟨_, .inl h1, r⟩
    · rename_i xs e
      cases h
      obtain ⟨b, e1, r⟩ := s.ob _ _ e
      rw [hn] at e1; cases e1
      cases r with
      | ro h1 r => exact ⟨_, .inr ⟨_, h1⟩, r⟩
    · cases h
  | tup ht r =>
    cases h
    exact ⟨_, .inl (g.tup s0.notup ht), s0.reps g r⟩
  | txt hz =>
    cases h
    exact ⟨_, rfl, chD_rep hz⟩
theorem ItR.enum {k : Kd} {b : Bs} (s0 : Sim G.mg G.Tb ρ S H) (r : BsR G ρ H k b) : ItR G ρ H (ItE k) (.enum b) := fun ρ' S' H' g s i => by
  refine ⟨fun h => ?_, fun d h => ?_⟩
  · simp only [nextS] at h
    split at h
    · rename_i ds hd
      obtain ⟨xs, h1, h2⟩ := r.has s0 g s hd
      split at h
      · cases h
      · split at h
        · rename_i hi
          exact ⟨xs, h1, by rw [h2.length, hi]⟩
        · cases h
    · cases h
  · simp only [nextS] at h
    split at h
    · rename_i ds hd
      obtain ⟨xs, h1, h2⟩ := r.has s0 g s hd
      split at h
      · rename_i d' hd'
        cases h
        obtain ⟨x, hx, rx⟩ := h2.get hd'
        refine ⟨⟨xs, x, h1, hx⟩, fun v H2 y => ?_⟩
        obtain ⟨T, x', rfl, hT, rfl, hy⟩ := y
        have := hy xs h1
        rw [hx] at this
        cases this
        have g2 : Grow ρ' H' ρ' (upd H' T (.tup [.int (i : Nat), x])) := grow_lay hT
        exact ⟨g2, s.lay hT, .tup upd_same (.cons (.int _) (.cons (s.rep g2 rx) .nil))⟩
      · split at h <;> cases h
    · cases h
theorem ItR.zip {k1 k2 : Kd} {a b : Bs} (s0 : Sim G.mg G.Tb ρ S H) (r1 : BsR G ρ H k1 a) (r2 : BsR G ρ H k2 b) : ItR G ρ H (ItZ k1 k2) (.zip a b) := fun ρ' S' H' g s i => by
  refine ⟨fun h => ?_, fun d h => ?_⟩
  · simp only [nextS] at h
    split at h
    · rename_i ds es hd he
      obtain ⟨xs, h1, h2⟩ := r1.has s0 g s hd
      obtain ⟨ys, h3, h4⟩ := r2.has s0 g s he
      split at h
      · cases h
      · rename_i hno
        split at h
        · rename_i hl
          refine ⟨xs, ys, h1, h3, by rw [h2.length]; exact hl.1, by rw [h4.length]; exact hl.2, ?_⟩
          rw [h2.length, h4.length]
          by_cases hq : i < ds.length ∧ i < es.length
          · exact (hno _ _ (List.getElem?_eq_getElem hq.1) (List.getElem?_eq_getElem hq.2)).elim
          · omega
        · cases h
    · cases h
  · simp only [nextS] at h
    split at h
    · rename_i ds es hd he
      obtain ⟨xs, h1, h2⟩ := r1.has s0 g s hd
      obtain ⟨ys, h3, h4⟩ := r2.has s0 g s he
      split at h
      · rename_i d' e' hd' he'
        cases h
        obtain ⟨x, hx, rx⟩ := h2.get hd'
        obtain ⟨y, hy, ry⟩ := h4.get he'
        refine ⟨⟨xs, ys, x, y, h1, h3, hx, hy⟩, fun v H2 yy => ?_⟩
        obtain ⟨T, x', y', rfl, hT, rfl, hxx, hyy⟩ := yy
        have := hxx xs h1
        rw [hx] at this
        cases this
        have := hyy ys h3
        rw [hy] at this
        cases this
        have g2 : Grow ρ' H' ρ' (upd H' T (.tup [x, y])) := grow_lay hT
        exact ⟨g2, s.lay hT, .tup upd_same (.cons (s.rep g2 rx) (.cons (s.rep g2 ry) .nil))⟩
      · split at h <;> cases h
    · cases h
def baseD (d : D) (S : Hd) : Option Bs := match d with
  | .str l => some (.items (chD l))
  | .tup ds => some (.items ds)
  | .ref n => match lstAt S n with
    | some _ => some (.lst n)
    | none => none
  | _ => none
/-- enumerate(list or text) -/
def cEnum (ma : CA) : CI := fun Γ S => (ma Γ S).bind fun ds S1 => match ds with
  | [.tup _] => .stuck
  | [d] => match baseD d S1 with
    | some b => .ok (.enum b) S1
    | none => .stuck
  | _ => .stuck
def cZip (ma : CA) : CI := fun Γ S => (ma Γ S).bind fun ds S1 => match ds with
  | [d, d'] => match baseD d S1, baseD d' S1 with
    | some b, some b' => .ok (.zip b b') S1
    | _, _ => .stuck
  | _ => .stuck
/-- what the layer's rule asks of an argument: its kind -/
theorem kind_of {v : V} {d : D} {b : Bs} (s : Sim G.mg G.Tb ρ S H) (r : Rep G.mg ρ H v d) (h : baseD d S = some b) : (∃ a xs, v = .ref a ∧ Rd H a (.lst xs) ∧ BsR G ρ H (.lst a) b) ∨ (∃ a xs, v = .ref a ∧ H a = some (.tup xs) ∧ BsR G ρ H (.tup a) b ∧ ∃ ds, d = .tup ds) ∨ (∃ z, v = .str z ∧ ∀ t, BsR G ρ H (.txt z t) b) := by
  cases r with
  | str hz => cases h; exact .inr (.inr ⟨_, rfl, fun t => .txt hz⟩)
  | tup ha r => cases h; exact .inr (.inl ⟨_, _, rfl, ha, .tup ha r, _, rfl⟩)
  | ref hn =>
    dsimp only [baseD] at h
    split at h
    · rename_i xs hx
      cases h
      obtain ⟨vs, h1, _⟩ := BsR.has s (.lst hn) (Grow.refl _ _) s (show cont S (.lst _) = some xs from hx)
      exact .inl ⟨_, vs, rfl, h1, .lst hn⟩
    · cases h
  | _ => cases h
theorem ri_enum {elts : List Expr} {kk : Nat} (hg : glB sc "enumerate" = true) (hm : G.mg "enumerate" = none) (ha : RA G N cm sc [e] ma) (hs : ∀ X : Cx, starEach [e] X.env = [(false, eval e X.env)] := by intro _; rfl) :
    RI G N cm sc (.Tuple elts kk tpos) (.Call (.Name "enumerate" p) [e] [] pos) (cEnum ma) := fun X W c => by
  obtain ⟨g1, g2, g3⟩ := glB_of c hg
  refine ⟨fun pins s σ H R I h0 => ?_⟩
  obtain ⟨ρ, Γ, S, sm, en, g⟩ := h0
  refine Call_ (ld_blt I g1 (by rw [c.hmg]; exact hm) boot_enumerate (PyProof.Rows.callWith_type1 (thn ((ha X W c).run pos pins s σ H (fun vs H1 => (∃ a xs, vs = [.ref a] ∧ Rd H1 a (.lst xs) ∧ R (ItE (.lst a)) H1) ∨ ∃ z, vs = [.str z] ∧ ∀ t, R (ItE (.txt z t)) H1) I ?_) fun us s1 ⟨vs, H1, I1, r1, q1⟩ => ?_) (hs X) rfl))
  · refine Fin.step sm en g fun ds S1 ρ1 H1 x g1 s1 e1 r1 ga => ?_
    split at ga
    · exact ga.elim
    · rename_i d hnt
      obtain ⟨v, rfl, rv⟩ := r1.one
      split at ga
      · rename_i b hb
        rcases kind_of s1 rv hb with ⟨a, xs, rfl, h1, h2⟩ | ⟨a, xs, rfl, h1, h2, ds, rfl⟩ | ⟨z, rfl, h2⟩
        · exact .inl ⟨a, xs, rfl, h1, ga.here s1 (ItR.enum s1 h2)⟩
        · exact (hnt ds rfl).elim
        · exact .inr ⟨z, rfl, fun t => ga.here s1 (ItR.enum s1 (h2 t))⟩
      · exact ga.elim
    · exact ga.elim
  · have fp : ∀ {h' : Heap} (hk : ∀ b o, s1.heap.get? b = some o → h'.get? b = some o), ∀ b ∈ [s1.heap.objs.size + 1, s1.heap.objs.size], FpOk X pins H1 b := fun {h'} hk b hb => by
      have e' : b = s1.heap.objs.size + 1 ∨ b = s1.heap.objs.size := by simpa using hb
      have hle : s1.heap.objs.size ≤ b := by rcases e' with z | z <;> omega
      exact I1.fpOk hle (I1.hok.fresh hle)
    rcases q1 with ⟨a, xs, rfl, hq, q⟩ | ⟨z, rfl, q⟩
    · cases r1 with
      | cons r rr =>
        cases rr
        cases r
        obtain ⟨its, rv, p', hz⟩ := I1.list (show SqL X.K H1 a xs from .inl hq)
        refine call_enumerate_list p'.isList fun h' he hit hsz hk => wpAny_pyIter_enum he ?_
        have I2 : Inv X pins σ H1 { s1 with heap := h' } := I1.kept (t' := s1.toks) hk
        exact ⟨s1.heap.objs.size + 1, [s1.heap.objs.size + 1, s1.heap.objs.size], _, _, H1, rfl, I2, turn_enumK (.lst a) (s1.heap.objs.size + 1) s1.heap.objs.size, ⟨⟨.none, he⟩, hit, Nat.succ_ne_self _⟩, fp hk, q⟩
    · cases r1 with
      | cons r rr =>
        cases rr
        obtain ⟨t, rfl⟩ := r
        refine call_enumerate_str fun h' he hit hsz hk => wpAny_pyIter_enum he ?_
        have I2 : Inv X pins σ H1 { s1 with heap := h' } := I1.kept (t' := s1.toks) hk
        exact ⟨s1.heap.objs.size + 1, [s1.heap.objs.size + 1, s1.heap.objs.size], _, _, H1, rfl, I2, turn_enumK (.txt z t) (s1.heap.objs.size + 1) s1.heap.objs.size, ⟨⟨.none, he⟩, hit, Nat.succ_ne_self _⟩, fp hk, q t⟩
def Kd.val : Kd → Value
  | .lst a => .ref a
  | .tup a => .ref a
  | .txt x t => .str x t
theorem Kd.begins {X : Cx} {pins : List (Addr × Obj)} {σ : L2.St} {H : Hp} {s : Shared} {k : Kd} {xs : List V} (I : Inv X pins σ H s) (h : k.has H xs) : ∃ (o : Obj) (Hq : Heap → Prop), Begins k.val o Hq ∧ Hq s.heap ∧ ∀ (h' : Heap) (it : Addr), h'.get? it = some o → k.St it 0 h' := by
  cases k with
  | lst a =>
    obtain ⟨its, rv, p, hz⟩ := I.list (show SqL X.K H a xs from .inl h)
    exact ⟨_, _, begins_list a its.toArray, p.isList, fun h' it e => ⟨_, e, rfl, rfl⟩⟩
  | tup a =>
    obtain ⟨its, rv, p, hz⟩ := I.tuple (show SqT X.K H a xs from .inl h)
    exact ⟨_, _, begins_tuple a its.toArray, show s.heap.IsTuple a its.toArray from p, fun h' it e => ⟨_, e, rfl, rfl⟩⟩
  | txt x t => exact ⟨_, _, begins_text x t, trivial, fun h' it e => ⟨_, e, rfl, rfl⟩⟩
theorem kind_val {v : V} {d : D} {b : Bs} {u : Value} (s : Sim G.mg G.Tb ρ S H) (r : Rep G.mg ρ H v d) (ru : RelV v u) (h : baseD d S = some b) : ∃ k xs, u = Kd.val k ∧ k.has H xs ∧ BsR G ρ H k b := by
  rcases kind_of s r h with ⟨a, xs, rfl, h1, h2⟩ | ⟨a, xs, rfl, h1, h2, _⟩ | ⟨z, rfl, h2⟩
  · cases ru; exact ⟨.lst a, xs, rfl, h1, h2⟩
  · cases ru; exact ⟨.tup a, xs, rfl, .inl h1, h2⟩
  · obtain ⟨t, rfl⟩ := ru; exact ⟨.txt z t, _, rfl, rfl, h2 t⟩
theorem ri_zip {elts : List Expr} {kk : Nat} (hg : glB sc "zip" = true) (hm : G.mg "zip" = none) (ha : RA G N cm sc [e1, e2] ma) (hs : ∀ X : Cx, starEach [e1, e2] X.env = (false, eval e1 X.env) :: starEach [e2] X.env := by intro _; rfl) (hpl : ∀ X : Cx, (backTo pos (starEach [e2] X.env)).any (·.1) = false := by intro _; rfl) :
    RI G N cm sc (.Tuple elts kk tpos) (.Call (.Name "zip" p) [e1, e2] [] pos) (cZip ma) := fun X W c => by
  obtain ⟨g1, g2, g3⟩ := glB_of c hg
  refine ⟨fun pins s σ H R I h0 => ?_⟩
  obtain ⟨ρ, Γ, S, sm, en, g⟩ := h0
  refine Call_ (ld_blt I g1 (by rw [c.hmg]; exact hm) PyProof.Rows.boot_zip (PyProof.Rows.callWith_type1 (thn ((ha X W c).run pos pins s σ H (fun vs H1 => ∃ ρ1 S1 d d' b b' v v', Sim G.mg G.Tb ρ1 S1 H1 ∧ vs = [v, v'] ∧ Rep G.mg ρ1 H1 v d ∧ Rep G.mg ρ1 H1 v' d' ∧ baseD d S1 = some b ∧ baseD d' S1 = some b' ∧ Fin G (ItR G) W σ R ρ1 H1 (.ok (.zip b b') S1)) I ?_) fun us s1 ⟨vs, H1, I1, r1, q1⟩ => ?_) (hs X) (hpl X)))
  · refine Fin.step sm en g fun ds S1 ρ1 H1 x g1 s1 e1 r1 ga => ?_
    split at ga
    · rename_i d d'
      obtain ⟨v, v', rfl, rv, rv'⟩ := r1.two
      split at ga
      · rename_i b b' hb hb'
        exact ⟨ρ1, S1, d, d', b, b', v, v', s1, rfl, rv, rv', hb, hb', ga⟩
      · exact ga.elim
    · exact ga.elim
  · obtain ⟨ρ1, S1, d, d', b, b', v, v', sm1, rfl, rv, rv', hb, hb', ga⟩ := q1
    cases r1 with
    | cons r rr =>
      cases rr with
      | cons r' rr =>
        cases rr
        obtain ⟨k1, xs, rfl, h1, q1⟩ := kind_val sm1 rv r hb
        obtain ⟨k2, ys, rfl, h2, q2⟩ := kind_val sm1 rv' r' hb'
        obtain ⟨o1, Hq1, B1, c1, st1⟩ := Kd.begins I1 h1
        obtain ⟨o2, Hq2, B2, c2, st2⟩ := Kd.begins I1 h2
        refine zip_begins2 B1 B2 c1 c2 fun h' hz hTI hTO e1 e2 hsz hk => wpAny_pyIter_zip hz ?_
        have I2 : Inv X pins σ H1 { s1 with heap := h' } := I1.kept (t' := s1.toks) hk
        refine ⟨s1.heap.objs.size + 4, [s1.heap.objs.size + 4, s1.heap.objs.size + 2, s1.heap.objs.size + 3, s1.heap.objs.size, s1.heap.objs.size + 1], _, _, H1, rfl, I2, turn_zipK k1 k2 ⟨?_, ?_, ?_, ?_, ?_, ?_, ?_, ?_, ?_, ?_⟩, ⟨hz, hTI, ⟨_, _, hTO⟩, st1 _ _ e1, st2 _ _ e2⟩, fun b hb => ?_, ga.here sm1 (ItR.zip sm1 q1 q2)⟩
        all_goals first | (intro z; have z : (_ : Nat) = _ := z; omega) | skip
        have e' : b = s1.heap.objs.size + 4 ∨ b = s1.heap.objs.size + 2 ∨ b = s1.heap.objs.size + 3 ∨ b = s1.heap.objs.size ∨ b = s1.heap.objs.size + 1 := by simpa using hb
        have hle : s1.heap.objs.size ≤ b := by rcases e' with z | z | z | z | z <;> rw [z] <;> simp
        exact I1.fpOk hle (I1.hok.fresh hle)
end
end Dn

set_option Elab.async false
set_option linter.all false
set_option maxRecDepth 100000
set_option maxHeartbeats 4000000
set_option autoImplicit false
/-! # In-place sums, tables of the module, match, all(..), gcd, lcm, divmod -/
namespace Dn
open PySem PySem.Spec PyProof.Rows L2 Kx
section
variable {G : Gc} {N : List Str} {cm : Md} {sc : Scope} {pos p p2 tpos : Pos} {ρ : List Addr} {S : Hd} {H : Hp} {e e1 e2 e3 tg iter : Expr} {m m1 m2 m3 : CE} {es : List Expr} {ma : CA} {x : Str}
/-! ### x += e -/
def cAug (i : Nat) (f : Int → Int → Int) (m : CE) : CS := fun Γ S => match Γ[i]? with
  | some (some (.int a)) => (m Γ S).bindS Γ fun d S1 => match d with
    | .int b => .nx (Γ.set i (some (.int (f a b)))) S1
    | _ => .stuck
  | _ => .stuck
theorem rs_aug {i : Nat} {op : Operator} {f : Int → Int → Int} {pos' : Pos} (hop : ∀ X : Cx, PIp X op (ipI f)) (hN : N[i]? = some x) (hl : locB cm sc x = true) (h : RE G N cm sc e m) : RSt G N cm sc (.AugAssign (.Name x pos') op e pos) (cAug i f m) := fun X W c => by
  obtain ⟨h1, h2⟩ := loc_of c hl
  refine PS.imp (ps_aug (i := i) (by rw [c.hN]; exact c.nd) (by rw [c.hN]; exact hN) h1 (h X W c) (hop X) h2) fun D σ H q => ?_
  obtain ⟨ρ, Γ, S, sm, en, q⟩ := q
  unfold cAug at q
  split at q
  · rename_i a ha
    obtain ⟨v, h3, h4⟩ := en.at_ i _ ha
    cases h4
    refine ⟨_, h3, FinS.step sm en q fun d S1 ρ1 H1 x g1 s1 e1 r1 ga => ?_⟩
    cases r1 with
    | int b => exact ⟨a, b, rfl, rfl, ga ρ1 H1 _ (Grow.refl _ _) s1 (e1.set i (.int _))⟩
    | _ => exact ga.elim
  · exact q.elim
/-- xs[i] += e, of ints -/
def cAugIx (f : Int → Int → Int) (mo mi me : CE) : CS := fun Γ S => (mo Γ S).bindS Γ fun o S1 => (mi Γ S1).bindS Γ fun i S2 => match o, i with
  | .ref n, .int k => match S2[n]? with
    | some (.lst xs) => if 0 ≤ k ∧ k < 9223372036854775808 then match xs[k.toNat]? with
      | some (.int a) => (me Γ S2).bindS Γ fun d S3 => match d with
        | .int b => setIx (.int (f a b)) o i Γ S3
        | _ => .stuck
      | _ => .stuck else .stuck
    | _ => .stuck
  | _, _ => .stuck
def rGetL : V → V → Hp → VK → Prop := fun o i H Q => ∃ p xs k v, o = .ref p ∧ i = .int k ∧ H p = some (.lst xs) ∧ 0 ≤ k ∧ k < 2 ^ 63 ∧ xs[k.toNat]? = some v ∧ Q v H
theorem get_list {X : Cx} : PGet X rGetL := by
  intro pins s σ H o i ov iv Q I ro ri h
  obtain ⟨p, xs, k, v, rfl, rfl, hp, h0, h1, hv, q⟩ := h
  cases ro
  obtain ⟨t, rfl⟩ := ri
  obtain ⟨its, rv, pl, hz⟩ := I.list (SqL.of hp)
  obtain ⟨u, hu, ru⟩ := rv.get hv
  exact wpAny_getItem_list pl.isList h0 h1 (by simpa using hu) ⟨v, H, I, ru, q⟩
theorem rs_augIx {op : Operator} {f : Int → Int → Int} (hop : ∀ X : Cx, PIp X op (ipI f)) (h1 : RE G N cm sc e1 m1) (h2 : RE G N cm sc e2 m2) (h3 : RE G N cm sc e3 m3)
    (ha : ∀ ov iv new, augStore e2 ov iv new = (do holding [new, ov, iv] (setItem ov iv new); release [new, ov, iv] []; pure .next) := by intros; rfl) : RSt G N cm sc (.AugAssign (.Subscript e1 e2 tpos) op e3 pos) (cAugIx f m1 m2 m3) := fun X W c => by
  refine PS.imp (ps_augS (h1 X W c) (h2 X W c) get_list (h3 X W c) (hop X) set_list ha) fun D σ H q => ?_
  obtain ⟨ρ, Γ, S, sm, en, q⟩ := q
  refine FinS.step sm en q fun o S1 ρ1 H1 x g1 s1 e1 r1 ga => ?_
  refine FinS.step s1 e1 ga fun i S2 ρ2 H2 y g2 s2 e2 r2 gb => ?_
  have r1 := s1.rep g2 r1
  cases r1 with
  | ref hn => cases r2 with
    | int k =>
      dsimp only at gb
      split at gb
      · rename_i xs hx
        split at gb
        · rename_i hk
          split at gb
          · rename_i a ha
            obtain ⟨vs, h4, r4⟩ := s2.ltAt hn hx
            obtain ⟨v, h5, r5⟩ := r4.get ha
            cases r5
            refine ⟨_, vs, k, _, rfl, rfl, h4, hk.1, by omega, h5, ?_⟩
            refine FinS.step s2 e2 gb fun d S3 ρ3 H3 z g3 s3 e3 r3 gc => ?_
            cases r3 with
            | int b =>
              refine ⟨a, b, rfl, rfl, ?_⟩
              have hn3 := pre_get g3.pre hn
              dsimp only [setIx] at gc
              split at gc
              · rename_i xs' hx'
                split at gc
                · rename_i j hj
                  obtain ⟨vs', h6, rs⟩ := s3.ltAt hn3 hx'
                  have hw := writeU s3 hn3 (rs.set j (.int (f a b)))
                  exact ⟨_, vs', k, j, rfl, rfl, h6, by rw [rs.length]; exact hj, gc ρ3 _ σ hw.2 hw.1 (s3.env hw.2 e3)⟩
                · exact gc.elim
              · exact gc.elim
            | _ => exact gc.elim
          · exact gb.elim
        · exact gb.elim
      · exact gb.elim
    | _ => exact gb.elim
  | _ => first | exact gb.elim | (cases r2 <;> exact gb.elim)
/-! ### a table of the module's: texts to defs -/
structure TabD (G : Gc) (x : Str) (tab : List (List Nat × Str)) : Prop where
  ex : ∃ p, G.mg x = some (.ref p) ∧ ∀ q ∈ tab, ∃ a, KDct G.K G.w p ⟨q.1.toArray⟩ (.ref a) ∧ G.mg q.2 = some (.ref a)
def cTab (tab : List (List Nat × Str)) (m : CE) : CE := cOp1 (fun d S => match d with
  | .str l => match tab.lookup l with
    | some y => .ok (.fn y) S
    | none => .stuck
  | _ => .stuck) m
theorem look_mem {α β : Type} [BEq α] [LawfulBEq α] : ∀ {l : List (α × β)} {a : α} {b : β}, l.lookup a = some b → (a, b) ∈ l
  | [], _, _, h => by cases h
  | (c, d) :: l, a, b, h => by
    rw [List.lookup_cons] at h
    cases e : a == c with
    | true => rw [e] at h; cases h; rw [eq_of_beq e]; exact List.mem_cons_self
    | false => rw [e] at h; exact List.mem_cons_of_mem _ (look_mem h)
theorem re_tab {tab : List (List Nat × Str)} (T : TabD G x tab) (hg : glB sc x = true) (h : RE G N cm sc e m) (hs : ∀ o i, subscripted e false o i = operate [o, i] (getItem o i) := by intro _ _; rfl) : RE G N cm sc (.Subscript (.Name x p) e pos) (cTab tab m) := fun X W c => by
  obtain ⟨a, hm, T⟩ := T.ex
  obtain ⟨g1, g2, g3⟩ := glB_of c hg
  refine PE.imp (pe_ix ix_K (pe_glob (v := .ref a) g1 (by rw [c.hmg]; exact hm) rfl g2) (h X W c) hs) fun σ H Q q => ?_
  obtain ⟨ρ, Γ, S, sm, en, q⟩ := q
  refine Fin.step sm en q fun d S1 ρ1 H1 y g1 s1 e1 r1 ga => ?_
  cases r1 with
  | str hz =>
    dsimp only at ga
    split at ga
    · rename_i w hw
      obtain ⟨b, h1, h2⟩ := T _ (look_mem hw)
      subst hz
      rw [c.hK, c.hw]
      exact ⟨.ref b, h1, ga.here s1 (.fn h2)⟩
    · exact ga.elim
  | _ => exact ga.elim
/-! ### gcd, lcm, divmod -/
def gcdD : List D → Hd → R D
  | [.int a, .int b], S => .ok (.int (Nat.gcd a.natAbs b.natAbs : Nat)) S
  | _, _ => .stuck
def lcmD : List D → Hd → R D
  | [.int a, .int b], S => if a.natAbs < 18446744073709551616 ∧ b.natAbs < 18446744073709551616 then .ok (.int (Nat.lcm a.natAbs b.natAbs : Nat)) S else .stuck
  | _, _ => .stuck
theorem re_bfn {id : String} {r : List V → Hp → VK → Prop} {f : List D → Hd → R D} (hr : ∀ X : Cx, CallR X (.builtin id) r) (hf : CallA G r f) (hm : G.mg x = some (.builtin id)) (hg : glB sc x = true) (ha : RA G N cm sc (e :: es) ma) (he : ∀ X : Cx, starEach (e :: es) X.env = (false, eval e X.env) :: starEach es X.env := by intro _; rfl) (hpl : ∀ X : Cx, (backTo pos (starEach es X.env)).any (·.1) = false := by intro _; rfl) :
    RE G N cm sc (.Call (.Name x p) (e :: es) [] pos) (cBlt f ma) := fun X W c => by
  obtain ⟨g1, g2, g3⟩ := glB_of c hg
  exact PE.imp (pe_callBfun (hr X) g1 (by rw [c.hmg]; exact hm) (ha X W c) g2 (he X) (hpl X)) fun σ H Q q => callA_i hf q
theorem a_gcd : CallA G rGcdM gcdD := by
  intro ρ S H vs ds W σ Q s r g
  unfold gcdD at g
  split at g
  · obtain ⟨v, v', rfl, rv, rv'⟩ := r.two
    cases rv; cases rv'
    exact g.here s (.int _)
  · exact g.elim
theorem a_lcm : CallA G rLcmM lcmD := by
  intro ρ S H vs ds W σ Q s r g
  unfold lcmD at g
  split at g
  · obtain ⟨v, v', rfl, rv, rv'⟩ := r.two
    cases rv; cases rv'
    split at g
    · rename_i h
      exact ⟨h.1, h.2, g.here s (.int _)⟩
    · exact g.elim
  · exact g.elim
def divmodD : List D → Hd → R D
  | [.int i, .int j], S => if 0 < j ∧ j.natAbs.log2 < 9000 then .ok (.tup [.int (i / j), .int (i % j)]) S else .stuck
  | _, _ => .stuck
theorem pylong_of {i j : Int} (h : j.natAbs.log2 < 9000) : Builtin.divisionGoesByPylong i j = false := by
  unfold Builtin.divisionGoesByPylong
  have : ¬ ((if j == 0 then 0 else j.natAbs.log2 / 30 + 1) > 300) := by
    split
    · omega
    · omega
  simp only [gt_iff_lt, Bool.and_eq_false_iff, decide_eq_false_iff_not]
  exact .inl this
theorem b_divmod : BltD G N cm sc "divmod" divmodD := ⟨"divmod", _, by decide +kernel, fun X W c => ⟨call_divmodW, by
  intro ρ S H vs ds W σ Q s r g
  unfold divmodD at g
  split at g
  · obtain ⟨v, v', rfl, rv, rv'⟩ := r.two
    cases rv; cases rv'
    split at g
    · rename_i h
      exact ⟨_, _, rfl, ⟨h.1, pylong_of h.2⟩, New.of (Fin.newT s (.cons (.int _) (.cons (.int _) .nil)) g)⟩
    · exact g.elim
  · exact g.elim⟩⟩
/-! ### all(f(c) for c in text), f a test of signs -/
def cAllS (pb : Nat → Bool) (m : CE) : CE := cOp1 (fun d S => match d with
  | .str l => .ok (.bl (l.all pb)) S
  | _ => .stuck) m
theorem re_allS {c P : Addr} {elt : Expr} {px gpos : Pos} {scope : Scope} {pb : Nat → Bool} (hP : P ∈ G.Tb) (hu : G.ucd = true) (hcd : G.cd = .ref c) (TB : GxR.TabB G.base G.mg c P) (hc : cm.calm = true) (hm : G.mg "all" = none) (hg : glB sc "all" = true)
    (Sg : ∀ X : Cx, X.env.scope = sc → GxR.GenS X.env scope x) (h : RE G N cm sc iter m) (hel : ∀ X W, Cz G N cm sc X W → X.Ok → EltD X scope x elt pb) (hs : ∀ (X : Cx) v, genFold iter X.env v = pure v := by intro _ _; rfl)
    (he : ∀ X : Cx, starEach [.GeneratorExp elt [⟨.Name x px, iter, [], 0⟩] scope gpos] X.env = (false, eval (.GeneratorExp elt [⟨.Name x px, iter, [], 0⟩] scope gpos) X.env) :: starEach [] X.env := by intro _; rfl) :
    RE G N cm sc (.Call (.Name "all" p) [.GeneratorExp elt [⟨.Name x px, iter, [], 0⟩] scope gpos] [] pos) (cAllS pb m) := fun X W k => by
  obtain ⟨g1, g2, g3⟩ := glB_of k hg
  refine PE.imp (pe_allD (c := c) (P := P) (pb := pb) (k.room hc) g1 (by rw [k.hmg]; exact hm) (by decide +kernel) (by rw [k.hbase, k.hmg]; exact TB) ((k.hcd hu).trans hcd) (Sg X k.hsc) (h X W k) (fun ok => hel X W k ok) (hs X) (he X)) fun σ H Q q => ?_
  obtain ⟨ρ, Γ, S, sm, en, q⟩ := q
  refine Fin.step sm en q fun d S1 ρ1 H1 y g1 s1 e1 r1 ga => ?_
  cases r1 with
  | str hz =>
    subst hz
    exact ⟨_, rfl, s1.tb P hP, fun H2 ex => ga ρ1 H2 _ (Grow.ext ex) (s1.ext ex) (.bl _)⟩
  | _ => exact ga.elim
end
end Dn

set_option Elab.async false
set_option linter.all false
set_option maxRecDepth 100000
set_option maxHeartbeats 4000000
set_option autoImplicit false
/-! # match -/
namespace Dn
open PySem PySem.Spec PyProof.Rows L2 Kx
/-- a pattern: none: not told; some none: no; some (some bs): yes, with these -/
abbrev PatD := D → Hd → Option (Option (List (Str × D)))
abbrev PatsD := List D → Hd → Option (Option (List (Str × D)))
/-- what a pattern gave -/
inductive BndR (mg : Str → Option Value) (ρ : List Addr) (H : Hp) : Option Kx.Bs → Option (List (Str × D)) → Prop
  | no : BndR mg ρ H none none
  | yes {bs : Kx.Bs} {ds : List (Str × D)} (k : bs.map (·.1) = ds.map (·.1)) (r : Reps mg ρ H (bs.map (·.2)) (ds.map (·.2))) : BndR mg ρ H (some bs) (some ds)
def tMd (G : Gc) (pd : PatD) : TM := fun v H Q => ∃ ρ S d r, Sim G.mg G.Tb ρ S H ∧ Rep G.mg ρ H v d ∧ pd d S = some r ∧ ∀ bs, BndR G.mg ρ H bs r → Q bs H
def tMds (G : Gc) (pd : PatsD) : TMs := fun v H Q => ∃ ρ S d r, Sim G.mg G.Tb ρ S H ∧ Reps G.mg ρ H v d ∧ pd d S = some r ∧ ∀ bs, BndR G.mg ρ H bs r → Q bs H
def RM (G : Gc) (N : List Str) (cm : Md) (sc : Scope) (p : Pattern) (ns : List Str) (pd : PatD) : Prop := ∀ X W, Cz G N cm sc X W → PM X p ns (tMd G pd)
def RMf (G : Gc) (N : List Str) (cm : Md) (sc : Scope) (p : List Pattern) (pd : PatD) : Prop := ∀ X W, Cz G N cm sc X W → PMf X p (tMd G pd)
def RMs (G : Gc) (N : List Str) (cm : Md) (sc : Scope) (p : List Pattern) (ns : List Str) (pd : PatsD) : Prop := ∀ X W, Cz G N cm sc X W → PMs X p ns (tMds G pd)
section
variable {G : Gc} {N : List Str} {cm : Md} {sc : Scope} {pos p1 : Pos} {ρ : List Addr} {S : Hd} {H : Hp} {e : Expr} {m : CE} {p : Pattern} {ps : List Pattern} {ns ns' : List Str} {pd pd' : PatD} {pds : PatsD}
theorem PM.imp {X : Cx} {t u : TM} (h : PM X p ns t) (i : ∀ v H Q, u v H Q → t v H Q) : PM X p ns u := ⟨fun pins s σ H v x Q I r q => h.run pins s σ H v x Q I r (i v H Q q)⟩
theorem PMf.imp {X : Cx} {t u : TM} (h : PMf X ps t) (i : ∀ v H Q, u v H Q → t v H Q) : PMf X ps u := ⟨fun pins s σ H v x Q I r q => h.run pins s σ H v x Q I r (i v H Q q)⟩
def pStr (l : List Nat) : PatD := fun d _ => match scE d (.str l) with
  | some true => some (some [])
  | some false => some none
  | none => none
theorem rm_str {c : Str} {j : Nat} {l : List Nat} (hl : c.cps.toList = l) : RM G N cm sc (.MatchValue (.Constant (.str c) j p1) pos) [] (pStr l) := fun X W k => by
  refine PM.imp pm_str fun v H Q q => ?_
  obtain ⟨ρ, S, d, r, sm, rd, hp, q⟩ := q
  unfold pStr at hp
  cases h : scE d (.str l) with
  | none => rw [h] at hp; cases hp
  | some b =>
    rw [h] at hp
    obtain ⟨h1, h2⟩ := scE_ok (ρ := ρ) (H := H) rd (.str hl) h
    refine ⟨h1, ?_⟩
    cases b with
    | true =>
      cases hp
      rw [if_pos (of_decide_eq_true h2)]
      exact q _ (.yes rfl .nil)
    | false =>
      cases hp
      rw [if_neg (of_decide_eq_false h2)]
      exact q _ .no
def pCap (x : Str) : PatD := fun d _ => some (some [(x, d)])
theorem rm_cap {x : Str} : RM G N cm sc (.MatchAs none (some x) pos) [x] (pCap x) := fun X W k => by
  refine PM.imp pm_cap fun v H Q q => ?_
  obtain ⟨ρ, S, d, r, sm, rd, hp, q⟩ := q
  cases hp
  exact q _ (.yes rfl (.cons rd .nil))
def pAny : PatD := fun _ _ => some (some [])
theorem rm_any : RM G N cm sc (.MatchAs none none pos) [] pAny := fun X W k => by
  refine PM.imp pm_any fun v H Q q => ?_
  obtain ⟨ρ, S, d, r, sm, rd, hp, q⟩ := q
  cases hp
  exact q _ (.yes rfl .nil)
def pNone : PatD := fun _ _ => some none
def pOr (p q : PatD) : PatD := fun d S => match p d S with
  | some (some _) => some (some [])
  | some none => q d S
  | none => none
theorem rmf_nil : RMf G N cm sc [] pNone := fun X W k => by
  refine PMf.imp pmf_nil fun v H Q q => ?_
  obtain ⟨ρ, S, d, r, sm, rd, hp, q⟩ := q
  cases hp
  exact q _ .no
theorem rmf_cons (h : RM G N cm sc p [] pd) (h' : RMf G N cm sc ps pd') : RMf G N cm sc (p :: ps) (pOr pd pd') := fun X W k => by
  refine PMf.imp (pmf_cons (h X W k) (h' X W k)) fun v H Q q => ?_
  obtain ⟨ρ, S, d, r, sm, rd, hp, q⟩ := q
  unfold pOr at hp
  split at hp
  · rename_i bs hb
    cases hp
    refine ⟨ρ, S, d, _, sm, rd, hb, fun bs' hb' => ?_⟩
    cases hb' with
    | yes k r => exact q _ (.yes rfl .nil)
  · rename_i hb
    refine ⟨ρ, S, d, _, sm, rd, hb, fun bs' hb' => ?_⟩
    cases hb' with
    | no => exact ⟨ρ, S, d, r, sm, rd, hp, q⟩
  · cases hp
theorem rm_or (h : RMf G N cm sc ps pd) (hn : namesOfAll (ps.take 1) = [] := by rfl) : RM G N cm sc (.MatchOr ps pos) [] pd := fun X W k => pm_or (h X W k) hn
def psNil : PatsD := fun ds _ => match ds with
  | [] => some (some [])
  | _ => none
def psCons (p : PatD) (ps : PatsD) : PatsD := fun ds S => match ds with
  | [] => none
  | d :: ds => match p d S with
    | none => none
    | some none => some none
    | some (some bs) => match ps ds S with
      | none => none
      | some none => some none
      | some (some cs) => some (some (bs ++ cs))
theorem PMs.imp {X : Cx} {t u : TMs} (h : PMs X ps ns t) (i : ∀ v H Q, u v H Q → t v H Q) : PMs X ps ns u := by
  refine ⟨?_⟩
  intro pins s σ H v x Q I r
  first
    | exact fun q => h.run pins s σ H v x Q I r (i v H Q q)
    | exact fun hl q => h.run pins s σ H v x Q I r hl (i v H Q q)
theorem rms_nil : RMs G N cm sc [] [] psNil := fun X W k => by
  refine PMs.imp pms_nil fun v H Q q => ?_
  obtain ⟨ρ, S, d, r, sm, rd, hp, q⟩ := q
  unfold psNil at hp
  split at hp
  · cases hp
    exact q _ (.yes rfl .nil)
  · cases hp
theorem rms_cons (h : RM G N cm sc p ns pd) (h' : RMs G N cm sc ps ns' pds) (hp : p.isStar = false := by rfl) : RMs G N cm sc (p :: ps) (ns ++ ns') (psCons pd pds) := fun X W k => by
  refine PMs.imp (pms_cons (h X W k) (h' X W k) hp) fun v H Q q => ?_
  obtain ⟨ρ, S, d, r, sm, rd, hp, q⟩ := q
  cases rd with
  | nil => cases hp
  | cons r1 r2 =>
    dsimp only [psCons] at hp
    split at hp
    · cases hp
    · rename_i hb
      cases hp
      refine ⟨ρ, S, _, _, sm, r1, hb, fun bs' hb' => ?_⟩
      cases hb' with
      | no => exact q _ .no
    · rename_i bs hb
      refine ⟨ρ, S, _, _, sm, r1, hb, fun bs' hb' => ?_⟩
      cases hb' with
      | yes k1 q1 =>
        split at hp
        · cases hp
        · rename_i hc
          cases hp
          refine ⟨ρ, S, _, _, sm, r2, hc, fun bs' hb' => ?_⟩
          cases hb' with
          | no => exact q _ .no
        · rename_i cs hc
          cases hp
          refine ⟨ρ, S, _, _, sm, r2, hc, fun bs' hb' => ?_⟩
          cases hb' with
          | yes k2 q2 => exact q _ (.yes (by rw [List.map_append, List.map_append, k1, k2]) (by rw [List.map_append, List.map_append]; exact q1.append q2))
def flatD : D → Bool
  | .non => true
  | .bl _ => true
  | .int _ => true
  | .str _ => true
  | _ => false
def pSeq (n : Nat) (ps : PatsD) : PatD := fun d S => if flatD d then some none else match seqAt S d with
  | some ds => if ds.length = n then ps ds S else some none
  | none => none
theorem rm_seq (hc : cm.calm = true) (h : RMs G N cm sc ps ns pds) (hstar : ps.findIdx? (·.isStar) = none := by rfl) (hwild : (ps.all fun p => p.isWildcard || (p.isStar && p.names.isEmpty)) = false := by rfl) : RM G N cm sc (.MatchSequence ps pos) ns (pSeq ps.length pds) := fun X W k => by
  refine PM.imp (pm_seq (k.calm.trans hc) (h X W k) hstar hwild) fun v H Q q => ?_
  obtain ⟨ρ, S, d, r, sm, rd, hp, q⟩ := q
  unfold pSeq at hp
  split at hp
  · rename_i hf
    cases hp
    refine .inl ⟨?_, q _ .no⟩
    cases rd <;> first | rfl | cases hf
  · split at hp
    · rename_i ds hds
      obtain ⟨a, vs, rfl, h1, h2⟩ := sm.sqAt rd hds
      refine .inr ⟨a, vs, rfl, by rw [k.hK]; exact h1.symm, fun hl => ?_, fun hl => ?_⟩
      · rw [if_pos (by rw [← h2.length]; exact hl)] at hp
        exact ⟨ρ, S, ds, r, sm, h2, hp, q⟩
      · rw [if_neg (by rw [← h2.length]; exact hl)] at hp
        cases hp
        exact q _ .no
    · cases hp
/-! ### the cases -/
def setDs (N : List Str) : List (Str × D) → Gm → Gm
  | [], Γ => Γ
  | (x, d) :: r, Γ => setDs N r (Γ.set (N.idxOf x) (some d))
abbrev CCs := D → CS
def ccNil : CCs := fun _ Γ S => .nx Γ S
def ccCons (N : List Str) (p : PatD) (b : CS) (r : CCs) : CCs := fun d Γ S => match p d S with
  | none => .stuck
  | some none => r d Γ S
  | some (some bs) => b (setDs N bs Γ) S
def tCcs (G : Gc) (W : WX) (r : CCs) : TCs := fun v Dn σ H => ∃ ρ Γ S d, Sim G.mg G.Tb ρ S H ∧ EnvR G.mg ρ H Γ σ ∧ Rep G.mg ρ H v d ∧ FinS G W Dn ρ H (r d Γ S)
def RCs (G : Gc) (N : List Str) (cm : Md) (sc : Scope) (cs : List MatchCase) (r : CCs) : Prop := ∀ X W, Cz G N cm sc X W → PCs X cs (tCcs G W r)
theorem PCs.imp {X : Cx} {cs : List MatchCase} {t u : TCs} (h : PCs X cs t) (i : ∀ v D σ H, u v D σ H → t v D σ H) : PCs X cs u := ⟨fun f pins s σ H v x D I r q => h.run f pins s σ H v x D I r (i v D σ H q)⟩
theorem rcs_nil : RCs G N cm sc [] ccNil := fun X W k => by
  refine PCs.imp pcs_nil fun v D σ H q => ?_
  obtain ⟨ρ, Γ, S, d, sm, en, rd, q⟩ := q
  exact q ρ H σ (Grow.refl _ _) sm en
theorem setB_env : ∀ (bs : Kx.Bs) (ds : List (Str × D)) (Γ : Gm) (σ : L2.St), bs.map (·.1) = ds.map (·.1) → Reps G.mg ρ H (bs.map (·.2)) (ds.map (·.2)) → EnvR G.mg ρ H Γ σ → EnvR G.mg ρ H (setDs N ds Γ) (setB N bs σ)
  | [], [], _, _, _, _, e => e
  | [], _ :: _, _, _, h, _, _ => by cases h
  | _ :: _, [], _, _, h, _, _ => by cases h
  | (x, v) :: bs, (y, d) :: ds, Γ, σ, h, r, e => by
    simp only [List.map_cons, List.cons.injEq] at h
    obtain ⟨h1, h2⟩ := h
    subst h1
    cases r with
    | cons r1 r2 => exact setB_env bs ds _ _ h2 r2 (e.set _ r1)
def okNs (cm : Md) (N : List Str) (sc : Scope) (ns : List Str) : Bool := ns.all fun x => decide (N[N.idxOf x]? = some x) && locB cm sc x
theorem rcs_cons {body : List Stmt} {rest : List MatchCase} {b : CS} {r : CCs} (hp : RM G N cm sc p ns pd) (hn : okNs cm N sc ns = true) (hb : RSs G N cm sc body b) (hr : RCs G N cm sc rest r) : RCs G N cm sc (⟨p, none, body⟩ :: rest) (ccCons N pd b r) := fun X W k => by
  refine PCs.imp (pcs_cons (by rw [k.hN]; exact k.nd) (fun x hx => ?_) (hp X W k) (hb X W k) (hr X W k)) fun v D σ H q => ?_
  · have := List.all_eq_true.mp hn x hx
    simp only [Bool.and_eq_true, decide_eq_true_eq] at this
    obtain ⟨h1, h2⟩ := loc_of k this.2
    exact ⟨by rw [k.hN]; exact this.1, h1, h2⟩
  · obtain ⟨ρ, Γ, S, d, sm, en, rd, q⟩ := q
    unfold ccCons at q
    rw [k.hN]
    split at q
    · exact q.elim
    · rename_i h
      refine ⟨ρ, S, d, _, sm, rd, h, fun bs hb => ?_⟩
      cases hb with
      | no => exact ⟨ρ, Γ, S, d, sm, en, rd, q⟩
    · rename_i ds h
      refine ⟨ρ, S, d, _, sm, rd, h, fun bs hb => ?_⟩
      cases hb with
      | yes k1 r1 => exact ⟨ρ, _, S, sm, setB_env _ ds Γ σ k1 r1 en, q⟩
def cMatch (m : CE) (r : CCs) : CS := fun Γ S => (m Γ S).bindS Γ fun d S1 => r d Γ S1
theorem rs_match {cs : List MatchCase} {r : CCs} (h : RE G N cm sc e m) (hr : RCs G N cm sc cs r) : RSt G N cm sc (.Match e cs pos) (cMatch m r) := fun X W k => by
  refine PS.imp (ps_match (h X W k) (hr X W k)) fun D σ H q => ?_
  obtain ⟨ρ, Γ, S, sm, en, q⟩ := q
  exact FinS.step sm en q fun d S1 ρ1 H1 v g1 s1 e1 r1 ga => ⟨ρ1, Γ, S1, d, s1, e1, r1, ga⟩
end
end Dn

set_option Elab.async false
set_option linter.all false
set_option maxRecDepth 100000
set_option maxHeartbeats 4000000
set_option autoImplicit false
/-! # find in texts; what is never reached -/
namespace Dn
open PySem PySem.Spec PyProof.Rows L2 Kx
/-- b stands in a at j -/
def atL (a b : List Nat) (j : Nat) : Bool := decide (j + b.length ≤ a.length) && ((a.drop j).take b.length == b)
/-- the first place of b in a, from lo on; -1 -/
def findL (a b : List Nat) (lo : Nat) : Int := match (List.range' lo (a.length + 1 - lo)).find? (atL a b) with
  | some j => j
  | none => -1
theorem find_range' {p : Nat → Bool} : ∀ {n lo i : Nat}, lo ≤ i → i < lo + n → p i = true → (∀ k, lo ≤ k → k < i → p k = false) → (List.range' lo n).find? p = some i
  | 0, lo, i, h1, h2, _, _ => by omega
  | n + 1, lo, i, h1, h2, hp, hn => by
    rw [List.range'_succ, List.find?_cons]
    by_cases e : lo = i
    · subst e; rw [hp]
    · rw [hn lo (Nat.le_refl _) (by omega)]
      exact find_range' (by omega) (by omega) hp fun k h3 h4 => hn k (by omega) h4
theorem findL_some {a b : List Nat} {lo j : Nat} (h : lo ≤ j) (hj : atL a b j = true) (hn : ∀ k, lo ≤ k → k < j → atL a b k = false) : findL a b lo = j := by
  have hl : j + b.length ≤ a.length := by unfold atL at hj; simp at hj; exact hj.1
  unfold findL
  rw [find_range' h (by omega) hj hn]
theorem findL_none {a b : List Nat} {lo : Nat} (hn : ∀ k, lo ≤ k → atL a b k = false) : findL a b lo = -1 := by
  unfold findL
  rw [List.find?_eq_none.mpr fun x hx => by
    rw [hn x (List.mem_range'_1.mp hx).1]
    decide]
theorem At_iff (x y : Str) (i : Nat) : PySem.StrLaws.At x y x.length i ↔ atL (cs x) (cs y) i = true := by
  unfold PySem.StrLaws.At atL
  rw [PySem.StrLaws.subAt_eq, cs_len, cs_len]
  simp
theorem occ_find (x y : Str) (lo : Nat) : (match Builtin.Str.occurrences x y lo x.length 1 with | k :: _ => (k : Int) | [] => -1) = findL (cs x) (cs y) lo := by
  rcases PySem.StrLaws.occ_head_from x y lo 1 (Nat.le_refl _) with ⟨h, hn⟩ | ⟨i, r, h, h1, h2, hn⟩
  · rw [h, findL_none fun k hk => by
      have := hn k hk
      rw [At_iff] at this
      simpa using this]
  · rw [h, findL_some h1 ((At_iff _ _ _).mp h2) fun k h3 h4 => by
      have := hn k h3 h4
      rw [At_iff] at this
      simpa using this]
section
variable {G : Gc} {N : List Str} {cm : Md} {sc : Scope} {pos : Pos} {ρ : List Addr} {S : Hd} {H : Hp} {e tg iter : Expr} {st : Stmt} {sts : List Stmt}
def findD : D → List D → Hd → R D
  | .str a, [.str b], S => .ok (.int (findL a b 0)) S
  | .str a, [.str b, .int i], S => if 0 ≤ i then .ok (.int (findL a b i.toNat)) S else .stuck
  | _, _, _ => .stuck
theorem m_find1 : MtD G N cm sc "str" "find" isStrD findD := ⟨⟨"str.find", fun _ x xs H Q => (∃ a b, x = .str a ∧ xs = [.str b] ∧ Q (.int (Txt.find a b)) H) ∨ (∃ (a b : Str) (i : Int), x = .str a ∧ xs = [.str b, .int i] ∧ Q (.int (Txt.find3 a b i)) H), PySem.F.plainAttrs_str, PySem.F.slot_str_find, PySem.F.type_str_find, fun X W c => ⟨by
  intro pins s σ H x xs v us Q I rx rv h
  rcases h with h | h
  · exact mt_find pins s σ H x xs v us Q I rx rv h
  · exact mt_find3 pins s σ H x xs v us Q I rx rv h, by
  intro ρ S H v vs d ds W σ Q s rv r g
  unfold findD at g
  split at g
  · obtain ⟨w, rfl, rw'⟩ := r.one
    cases rv with
    | str hz => cases rw' with
      | str hw =>
        subst hz hw
        refine .inl ⟨_, _, rfl, rfl, ?_⟩
        have e := occ_find ‹Str› ‹Str› 0
        exact g.here s (by
          rw [← occ_find]
          exact .int _)
  · obtain ⟨w, w', rfl, rw', rw''⟩ := r.two
    cases rv with
    | str hz => cases rw' with
      | str hw =>
        cases rw''
        subst hz hw
        split at g
        · rename_i hi
          refine .inr ⟨_, _, _, rfl, rfl, ?_⟩
          exact g.here s (by
            rw [← occ_find]
            unfold Txt.find3
            have e : ∀ (n : Nat) (i : Int), 0 ≤ i → PySem.fromIndex n i = i.toNat := fun n i h => by
              unfold PySem.fromIndex
              rw [if_neg (by omega), Int.max_eq_right h]
            rw [e _ _ hi]
            exact .int _)
        · exact g.elim
  · exact g.elim⟩⟩, fun ρ S H v d s r h => ty_str s r h⟩
/-! ### never -/
def cStuckE : CE := fun _ _ => .stuck
def cStuckS : CS := fun _ _ => .stuck
theorem re_stuck : RE G N cm sc e cStuckE := fun X W c => ⟨fun pins s σ H Q I q => by
  obtain ⟨ρ, Γ, S, sm, en, q⟩ := q
  exact q.elim⟩
theorem rs_stuck : RSt G N cm sc st cStuckS := fun X W c => ⟨fun pins s σ H Q I q => by
  obtain ⟨ρ, Γ, S, sm, en, q⟩ := q
  exact q.elim⟩
theorem rss_stuck : RSs G N cm sc sts cStuckS := fun X W c => ⟨fun pins s σ H Q I q => by
  obtain ⟨ρ, Γ, S, sm, en, q⟩ := q
  exact q.elim⟩
def cStuckI : CI := fun _ _ => .stuck
theorem ri_stuck : RI G N cm sc tg iter cStuckI := fun X W c => ⟨fun pins s σ H R I q => by
  obtain ⟨ρ, Γ, S, sm, en, q⟩ := q
  exact q.elim⟩
end
end Dn

set_option Elab.async false
set_option linter.all false
set_option maxRecDepth 100000
set_option maxHeartbeats 4000000
set_option autoImplicit false
/-! # replace; steps; what stands where a token is out -/
namespace Dn
open PySem PySem.Spec PyProof.Rows L2 Kx
/-- as RE .., where a token is out -/
def RE1 (G : Gc) (N : List Str) (cm : Md) (sc : Scope) (e : Expr) (m : CE) : Prop := ∀ X W, Cz G N cm sc X W → PET X e (tE G W m)
def RA1 (G : Gc) (N : List Str) (cm : Md) (sc : Scope) (e : List Expr) (m : CA) : Prop := ∀ X W, Cz G N cm sc X W → PAT X e (tA G W m)
def RS1 (G : Gc) (N : List Str) (cm : Md) (sc : Scope) (st : Stmt) (m : CS) : Prop := ∀ X W, Cz G N cm sc X W → PST X st (tS G W m)
def RSs1 (G : Gc) (N : List Str) (cm : Md) (sc : Scope) (st : List Stmt) (m : CS) : Prop := ∀ X W, Cz G N cm sc X W → PSsT X st (tS G W m)
theorem PET.imp {X : Cx} {e : Expr} {t u : TE} (h : PET X e t) (i : ∀ σ H Q, u σ H Q → t σ H Q) : PET X e u := fun pins s σ H Q h0 I q => h pins s σ H Q h0 I (i σ H Q q)
theorem PAT.imp {X : Cx} {es : List Expr} {t u : TA} (h : PAT X es t) (i : ∀ σ H Q, u σ H Q → t σ H Q) : PAT X es u := fun pos pins s σ H Q h0 I q => h pos pins s σ H Q h0 I (i σ H Q q)
theorem PST.imp {X : Cx} {st : Stmt} {t u : TS} (h : PST X st t) (i : ∀ D σ H, u D σ H → t D σ H) : PST X st u := fun pins s σ H D h0 I q => h pins s σ H D h0 I (i D σ H q)
theorem PSsT.imp {X : Cx} {st : List Stmt} {t u : TS} (h : PSsT X st t) (i : ∀ D σ H, u D σ H → t D σ H) : PSsT X st u := fun pins s σ H D h0 I q => h pins s σ H D h0 I (i D σ H q)
/-- one sign for a text -/
def repL (c : Nat) (z l : List Nat) : List Nat := l.flatMap fun d => if d = c then z else [d]
theorem repl_rep (c : Nat) (z : List Nat) : ∀ l : List Nat, StrLaws.replL [c] z l = repL c z l
  | [] => by rw [StrLaws.replL_nil]; rfl
  | d :: r => by
    by_cases h : d = c
    · rw [StrLaws.replL_hit (by simp) (by simp [h])]
      show z ++ StrLaws.replL [c] z r = _
      rw [repl_rep c z r]
      simp [repL, h]
    · rw [StrLaws.replL_miss (by simp [h]), repl_rep c z r]
      simp [repL, h]
theorem cs_repl (x : Str) (c : Nat) (z : Str) : cs (Txt.replace x ⟨#[c]⟩ z) = repL c (cs z) (cs x) := by
  have h := StrLaws.replace_list (x := x) (y := ⟨#[c]⟩) (z := z) (by show 1 ≤ 1; decide)
  exact h.trans (repl_rep c _ _)
def replD (c : Nat) (z : List Nat) : D → Hd → R D
  | .str l, S => if l.length + (l.length + 1) * z.length ≤ 16777216 then .ok (.str (repL c z l)) S else .stuck
  | _, _ => .stuck
section
variable {G : Gc} {N : List Str} {cm : Md} {sc : Scope} {pos p p2 apos : Pos} {ρ : List Addr} {S : Hd} {H : Hp} {e e1 e2 o tg iter : Expr} {m m1 m2 : CE} {es : List Expr} {ma : CA} {st : Stmt} {sts a b : List Stmt} {c c1 c2 : CS} {t : CT} {g : CG} {m₀ : CM Src} {ws : List Nat} {x : Str}
theorem RE.lift (h : RE G N cm sc e m) : RE1 G N cm sc e m := fun X W c => CwR.PET.of (h X W c)
theorem RA.lift (h : RA G N cm sc es ma) : RA1 G N cm sc es ma := fun X W c pos pins s σ H Q _ I q => (h X W c).run pos pins s σ H Q I q
theorem RSt.lift (h : RSt G N cm sc st c) : RS1 G N cm sc st c := fun X W k => PST.of (h X W k)
theorem RSs.lift (h : RSs G N cm sc sts c) : RSs1 G N cm sc sts c := fun X W k => PSsT.of (h X W k)
theorem re1_repl {y z : Str} {d : Nat} {l : List Nat} {j k : Nat} {q0 q1 : Pos} (ho : RE1 G N cm sc o m) (hy : y = ⟨#[d]⟩) (hz : z.cps.toList = l) (hyz : (y == z) = false := by decide)
    (hst : ∀ X : Cx, starEach [.Constant (.str y) j q0, .Constant (.str z) k q1] X.env = [(false, eval (.Constant (.str y) j q0) X.env), (false, eval (.Constant (.str z) k q1) X.env)] := by intro _; rfl)
    (hbase : ∀ X : Cx, attributeBase o "replace" X.env (eval o X.env) = eval o X.env := by intro _; rfl) (hline : (apos.endLine == pos.line) = true := by rfl) :
    RE1 G N cm sc (.Call (.Attribute o "replace" apos) [.Constant (.str y) j q0, .Constant (.str z) k q1] [] pos) (cOp1 (replD d l) m) := fun X W c => by
  subst hz
  refine PET.imp (CwR.pet_replT (ho X W c) hyz (hst X) (hbase X) hline) fun σ H Q q => ?_
  obtain ⟨ρ, Γ, S, s, e, g⟩ := q
  refine Fin.step s e g fun a S1 ρ1 H1 x g1 s1 e1 ra ga => ?_
  cases ra with
  | str h =>
    rename_i w l
    dsimp only [replD] at ga
    split at ga
    · rename_i hl
      refine ⟨w, rfl, by rw [len_dL, dL, h, len_dL]; exact hl, ga.here s1 (.str ?_)⟩
      subst hy h
      exact cs_repl _ _ _
    · exact ga.elim
  | _ => exact ga.elim
theorem re1_add (h1 : RE1 G N cm sc e1 m1) (h2 : RE1 G N cm sc e2 m2) : RE1 G N cm sc (.BinOp e1 .Add e2 pos) (cOp2 addD m1 m2) := fun X W c =>
  PET.imp (CwR.pet_op (r := fun x y H Q => rAddM x y H Q ∨ rCatT X.K x y H Q) (OpR.or op_addM op_catT) (h1 X W c) (h2 X W c)) fun σ H Q h0 => two_i (by rw [c.hK]; exact opA_add) h0
theorem re1_one {o : BoolOp} (h : RE1 G N cm sc e m) : RE1 G N cm sc (.BoolOp o [e] pos) m := fun X W c pins s σ H Q h0 I q => BoolOp_one (h X W c pins s σ H Q h0 I q)
theorem pet_andM {X : Cx} {a b : Expr} {rest : List Expr} {te tb : TE} (ha : PET X a te) (hb : PET X (.BoolOp .And (b :: rest) pos) tb) : PET X (.BoolOp .And (a :: b :: rest) pos) (tAndVM te tb) := by
  intro pins s σ H Q h0 I h
  refine BoolOp_and (wpAny_mono (PySem.wpAny_toks (ha pins s σ H _ h0 I h)) (fun v s1 q => ?_) fun _ _ z => z.2)
  obtain ⟨hk, x, H1, I1, r1, q1⟩ := q
  cases x with
  | bl c =>
    cases r1
    refine wpAny_truthy_bool ?_
    cases c with
    | true => exact hb pins s1 σ H1 Q (Nat.le_trans h0 hk) I1 (q1.1 rfl)
    | false => exact ⟨.bl false, H1, I1, rfl, q1.2 rfl⟩
  | _ => exact q1.elim
theorem re1_and {rest : List Expr} (h : RE1 G N cm sc e1 m1) (h' : RE1 G N cm sc (.BoolOp .And (e2 :: rest) pos) m2) : RE1 G N cm sc (.BoolOp .And (e1 :: e2 :: rest) pos) (cAnd m1 m2) := fun X W c => by
  refine PET.imp (pet_andM (h X W c) (h' X W c)) fun σ H Q q => ?_
  obtain ⟨ρ, Γ, S, s, e, g⟩ := q
  refine Fin.step s e g fun a S1 ρ1 H1 x g1 s1 e1 ra ga => ?_
  cases ra with
  | bl b => exact ⟨fun hb => by subst hb; exact ⟨ρ1, Γ, S1, s1, e1, ga⟩, fun hb => by subst hb; exact ga.here s1 (.bl _)⟩
  | _ => exact ga.elim
theorem ra1_nil : RA1 G N cm sc [] cNilA := RA.lift ra_nil
theorem ra1_cons (h : RE1 G N cm sc e m) (h' : RA1 G N cm sc es ma) (hs : ∀ X : Cx, starEach (e :: es) X.env = (false, eval e X.env) :: starEach es X.env := by intro _; rfl) : RA1 G N cm sc (e :: es) (cConsA m ma) := fun X W c => by
  refine PAT.imp (pat_cons (h X W c) (h' X W c) (hs X)) fun σ H Q q => ?_
  obtain ⟨ρ, Γ, S, s, e, g⟩ := q
  refine Fin.step s e g fun d S1 ρ1 H1 v g1 s1 e1 r1 ga => ?_
  refine Fin.step s1 e1 ga fun ds S2 ρ2 H2 vs g2 s2 e2 r2 gb => ?_
  exact gb.here s2 (.cons (s1.rep g2 r1) r2)
theorem re1_call {n : Nat} (C : CalD G n x) (hc : cm.calm = true) (hg : glB sc x = true) (ha : RA1 G N cm sc (e :: es) ma) (he : ∀ X : Cx, starEach (e :: es) X.env = (false, eval e X.env) :: starEach es X.env := by intro _; rfl) (hpl : ∀ X : Cx, (backTo pos (starEach es X.env)).any (·.1) = false := by intro _; rfl) :
    RE1 G N cm sc (.Call (.Name x p) (e :: es) [] pos) (cCall G.call x (cArgs n ma)) := fun X W c => by
  obtain ⟨f, fd, ps, F, hm, kp, b⟩ := C.ex
  obtain ⟨g1, g2, g3⟩ := glB_of c hg
  intro pins s σ H Q h0 I q
  refine wpAny_Call_Name_kw (ld_glob I g1 (by rw [c.hmg]; exact hm) ?_ g2)
  refine PySem.W.callWith_K (h₀ := X.base) I.ok.mod.kin (by rw [c.hK]; exact kp) (thn (ha X W c pos pins s σ H (fun vs H1 => spD G n (G.call x) vs H1 Q (fun c d H' => W c d σ H')) h0 I ?_) fun us s1 ⟨vs, H1, I1, r, q⟩ => ⟨I1.kIn, ?_⟩) (he X) (hpl X)
  · obtain ⟨ρ, Γ, S, sm, en, q⟩ := q
    unfold cCall cArgs at q
    refine Fin.step sm en (m := ma) (f := fun ds S1 => (if ds.length = n then R.ok ds S1 else .stuck).bind fun ds S1 => G.call x ds S1) (by
      cases h : ma Γ S with
      | ok ds S1 => rw [h] at q; exact q
      | exc c S1 => rw [h] at q; exact q
      | stuck => rw [h] at q; exact q) fun ds S1 ρ1 H1 v g1 s1 e1 r1 ga => ?_
    by_cases hl : ds.length = n
    · rw [if_pos hl] at ga
      exact call_i hl s1 r1 ga
    · rw [if_neg hl] at ga
      exact ga.elim
  · have F' : FnOk X.prog X.w X.K X.mg X.base (L2.CX X.prog X.w) (2 * G.k) f fd ps (spD G n (G.call x)) := by rw [c.hprog, c.hw, c.hK, c.hmg, c.hbase]; exact F
    exact run_fnW c.tk F' ((c.room hc).mono (by omega)) (by rw [c.hK]; exact b) I1 r q
/-! ### statements -/
theorem rs1_ret (h : RE1 G N cm sc e m) : RS1 G N cm sc (.Return (some e) pos) (cRet m) := fun X W k => PST.imp (CwR.pst_ret (h X W k)) fun D σ H q => by
  obtain ⟨ρ, Γ, S, s, e, g⟩ := q
  exact FinS.step s e g fun d S1 ρ1 H1 x g1 s1 e1 r1 ga => ga ρ1 H1 x (Grow.refl _ _) s1 r1
theorem rs1_set {i : Nat} {x : Str} {pos' : Pos} (hN : N[i]? = some x) (hl : locB cm sc x = true) (h : RE1 G N cm sc e m) (hs : ∀ env, env.scope = sc → swapsWith e (some (.Name x pos')) pos.line env = pure false := by intro _ _; rfl) : RS1 G N cm sc (.Assign [.Name x pos'] e pos) (cSet i m) := fun X W c => by
  obtain ⟨h1, h2⟩ := loc_of c hl
  intro pins s σ H D h0 I q
  refine wpAny_Assign_Name (thn (h X W c pins s σ H (fun v H1 => D.nx (σ.set i (some v)) H1) h0 I ?_) fun v s1 ⟨y, H1, I1, r1, q1⟩ => ?_) (hs _ c.hsc)
  · obtain ⟨ρ, Γ, S, sm, e, g⟩ := q
    exact FinS.step sm e g fun d S1 ρ1 H1 x g1 s1 e1 r1 ga => ga ρ1 H1 _ (Grow.refl _ _) s1 (e1.set i r1)
  · exact store_ok I1 (by rw [c.hN]; exact c.nd) (by rw [c.hN]; exact hN) h1 r1 (fun s2 I2 => ⟨_, H1, I2, q1⟩) h2
theorem rss1_nil : RSs1 G N cm sc [] cNil := RSs.lift rss_nil
theorem rss1_one (h : RS1 G N cm sc st c) : RSs1 G N cm sc [st] c := fun X W k => PSsT.imp (CwR.psst_one (h X W k)) fun D σ H q => by
  obtain ⟨ρ, Γ, S, s, e, g⟩ := q
  refine ⟨ρ, Γ, S, s, e, ?_⟩
  cases hm : c Γ S with
  | nx Γ1 S1 => rw [hm] at g; exact g
  | rt d S1 => rw [hm] at g; exact g
  | bk Γ1 S1 => rw [hm] at g; exact g
  | ct Γ1 S1 => rw [hm] at g; exact g
  | exc c Γ1 S1 => rw [hm] at g; exact g
  | stuck => rw [hm] at g; exact g
theorem rss1_cons (h : RS1 G N cm sc st c1) (h' : RSs1 G N cm sc sts c2) : RSs1 G N cm sc (st :: sts) (cSeq c1 c2) := fun X W k => PSsT.imp (psst_cons (h X W k) (h' X W k)) fun D σ H q => by
  obtain ⟨ρ, Γ, S, s, e, g⟩ := q
  exact ⟨ρ, Γ, S, s, e, FinS.thn g fun Γ S ρ' H' σ' g1 s1 e1 g2 => ⟨ρ', Γ, S, s1, e1, g2⟩⟩
theorem rs1_if (h : RT G N cm sc e t) (h1 : RSs1 G N cm sc a c1) (h2 : RSs1 G N cm sc b c2) : RS1 G N cm sc (.If e a b pos) (cIfS t c1 c2) := fun X W k => PST.imp (CwR.pst_if (h X W k) (h1 X W k) (h2 X W k)) fun D σ H q => by
  obtain ⟨ρ, Γ, S, s, e, g⟩ := q
  refine FinS.step s e g fun d S1 ρ1 H1 x g1 s1 e1 r1 ga => ?_
  have r1 : x = d := r1
  subst r1
  cases x with
  | true => exact ⟨ρ1, Γ, S1, s1, e1, ga⟩
  | false => exact ⟨ρ1, Γ, S1, s1, e1, ga⟩
/-- a for: the body where a token is out -/
theorem pst_forT {X : Cx} {body : List Stmt} {wi : TI} {g : TG} {tb : TS} (hp : PassesOwn (model X.prog X.w) X.A X.env X.xe) (hc : X.calm = true) (hi : PI X tg iter wi) (hg : PG X tg g) (hb : PSsT X body tb)
    (hs : ∀ x, foldedSetIterable iter X.env x = pure x := by intro _; rfl) : PST X (.For tg iter body [] pos) (tFor wi g tb) := by
  intro pins s σ H D h0 I h
  refine wpAny_For (wpAny_mono (PySem.wpAny_toks (hi.run pins s σ H _ I h)) (fun v s1 h1 => ?_) fun _ _ z => z.2) hs
  obtain ⟨k1, h1⟩ := h1
  refine wpAny_mono (PySem.wpAny_toks h1) (fun itv s2 h2 => ?_) fun _ _ z => z.2
  obtain ⟨k2, h2⟩ := h2
  have t2 : 1 ≤ s2.toks := Nat.le_trans h0 (Nat.le_trans k1 k2)
  obtain ⟨it, fp, tn, J, H2, e, I2, T, st2, f2, W, ⟨m0, w0⟩, turn⟩ := h2
  subst e
  have stat : ∀ {H' : Hp}, (∀ b ∈ fp, H' b = none) → ∀ b ∈ fp, FpOk X pins H' b := fun hn b hb => ⟨hn b hb, (f2 b hb).2⟩
  refine codeAny_forLoop_any (fun n s' => 1 ≤ s'.toks ∧ ∃ i σ' H', Inv X pins σ' H' s' ∧ tn i s'.heap ∧ (∀ b ∈ fp, H' b = none) ∧ W i n σ' H') ?_ m0 ⟨t2, 0, σ, H2, I2, st2, fun b hb => (f2 b hb).1, w0⟩
  rintro n s3 ⟨t3, i, σ3, H3, I3, st3, fr3, w3⟩
  rcases turn i n σ3 H3 w3 with ⟨stop, qn⟩ | ⟨go, N, hN, step⟩
  · refine wpAny_passesOwn hp (thn (T.done X rfl rfl rfl hc i pins s3 σ3 H3 X.xe I3 (stat fr3) st3 stop) fun r s4 ⟨hr, I4⟩ => ?_)
    subst hr
    exact wpAny_execs_nil ⟨σ3, H3, I4, qn⟩
  · refine wpAny_passesOwn hp (wpAny_mono (PySem.wpAny_toks_of t3 (T.item X rfl rfl rfl hc i pins s3 σ3 H3 X.xe I3 (stat fr3) st3 go)) (fun r s4 q4 => ?_) fun _ _ z => z.2)
    obtain ⟨t4, u, hr, h4⟩ := q4
    subst hr
    refine wpAny_passesOwn hp (wpAny_mono (PySem.wpAny_toks_of t4 h4) (fun _ s5 q5 => ?_) fun _ _ z => z.2)
    obtain ⟨t5, x, H5, I5, r5, y5, st5, fr5⟩ := q5
    have I5' := I5.pinned (stat fr5) (T.obj _ _ st5)
    refine wpAny_passesOwn hp (wpAny_mono (PySem.wpAny_toks_of t5 (hg.run _ s5 σ3 H5 x u _ I5' r5 (step x H5 y5))) (fun _ s6 q6 => ?_) fun _ _ z => z.2)
    obtain ⟨t6, σ6, H6, I6, q6⟩ := q6
    refine wpAny_passesOwn hp (wpAny_mono (PySem.wpAny_toks_of t6 (hb _ s6 σ6 H6 _ t6 I6 q6)) (fun f s7 q7 => ?_) fun _ _ z => z.2)
    obtain ⟨t7, q7⟩ := q7
    have again : ∀ {σ7 : L2.St} {H7 : Hp}, Inv X (pins ++ pinsAt fp s5.heap) σ7 H7 s7 → N σ7 H7 → ∃ m, m < n ∧ 1 ≤ s7.toks ∧ ∃ i σ' H', Inv X pins σ' H' s7 ∧ tn i s7.heap ∧ (∀ b ∈ fp, H' b = none) ∧ W i m σ' H' := fun {σ7 H7} I7 n7 => by
      obtain ⟨m', hm, w7⟩ := hN σ7 H7 n7
      refine ⟨m', hm, t7, i + 1, σ7, H7, I7.unpinned, T.keep _ _ _ st5 fun b hb o e => (I7.pin (b, o) (List.mem_append_right _ (List.mem_append_right _ (mem_pinsAt hb e)))).1, fun b hb => ?_, w7⟩
      obtain ⟨o, e, d⟩ := T.obj _ _ st5 b hb
      exact (I7.pin (b, o) (List.mem_append_right _ (List.mem_append_right _ (mem_pinsAt hb e)))).2.1
    cases f with
    | next => obtain ⟨σ7, H7, I7, n7⟩ := q7; exact again I7 n7
    | cont => obtain ⟨σ7, H7, I7, n7⟩ := q7; exact again I7 n7
    | brk => obtain ⟨σ7, H7, I7, q7⟩ := q7; exact ⟨σ7, H7, I7.unpinned, q7⟩
    | ret v => obtain ⟨x7, σ7, H7, I7, r7, q7⟩ := q7; exact ⟨x7, σ7, H7, I7.unpinned, r7, q7⟩
theorem for_i {W : WX} {D : Ends} {σ : L2.St} (q : tS G W (cFor m₀ g c1) D σ H) : tFor (tI G W m₀) (tGd G W ws g) (tS G W c1) D σ H := by
  obtain ⟨ρ, Γ, S, sm, e, q⟩ := q
  refine FinS.step sm e q fun src S1 ρ1 H1 J g1 s1 e1 hJ ga => ?_
  refine ⟨fun i k σ H => ∃ ρ' Γ S, Grow ρ1 H1 ρ' H ∧ Sim G.mg G.Tb ρ' S H ∧ EnvR G.mg ρ' H Γ σ ∧ FinS G W D ρ' H (forL src g c1 k i Γ S), ⟨forFuel, ρ1, Γ, S1, Grow.refl _ _, s1, e1, ga⟩, ?_⟩
  rintro i k σ2 H2 ⟨ρ2, Γ2, S2, g2, s2, e2, q2⟩
  cases k with
  | zero => exact q2.elim
  | succ k =>
    unfold forL at q2
    split at q2
    · exact q2.elim
    · rename_i hn
      exact .inl ⟨(hJ ρ2 S2 H2 g2 s2 i).1 hn, q2 ρ2 H2 σ2 (Grow.refl _ _) s2 e2⟩
    · rename_i d hn
      obtain ⟨h1, h2⟩ := (hJ ρ2 S2 H2 g2 s2 i).2 d hn
      refine .inr ⟨h1, fun σ' H' => ∃ m', m' < k + 1 ∧ ∃ ρ' Γ S, Grow ρ1 H1 ρ' H' ∧ Sim G.mg G.Tb ρ' S H' ∧ EnvR G.mg ρ' H' Γ σ' ∧ FinS G W D ρ' H' (forL src g c1 m' (i + 1) Γ S), fun σ' H' h => h, fun x H3 y => ?_⟩
      obtain ⟨g3, s3, r3⟩ := h2 x H3 y
      refine ⟨ρ2, Γ2, S2, d, s3, s2.env g3 e2, r3, FinS.tgt_then (FinS.grow g3 q2) fun Γ4 S4 ρ4 H4 σ4 g4 s4 e4 q4 _ => ?_⟩
      refine ⟨ρ4, Γ4, S4, s4, e4, FinS.body (f := fun Γ S => forL src g c1 k (i + 1) Γ S) (k := fun r => match r with | .nx Γ2 S2 => forL src g c1 k (i + 1) Γ2 S2 | .ct Γ2 S2 => forL src g c1 k (i + 1) Γ2 S2 | .bk Γ2 S2 => .nx Γ2 S2 | r => r) (fun r => by cases r <;> rfl) q4 fun Γ5 S5 ρ5 H5 σ5 g5 s5 e5 q5 => ?_⟩
      exact ⟨k, Nat.lt_succ_self _, ρ5, Γ5, S5, (((g2.trans g3).trans g4).trans g5), s5, e5, q5⟩
theorem rs1_for (hc : cm.calm = true) (hi : RI G N cm sc tg iter m₀) (hg : RG G N cm sc tg ws g) (hb : RSs1 G N cm sc b c1) (hs : ∀ (X : Cx) x, foldedSetIterable iter X.env x = pure x := by intro _ _; rfl) : RS1 G N cm sc (.For tg iter b [] pos) (cFor m₀ g c1) := fun X W c =>
  PST.imp (pst_forT c.pass (c.calm.trans hc) (hi X W c) (hg X W c) (hb X W c) (hs X)) fun D σ H q => for_i q
end
/-- a def keeps the promise of its body's meaning, one level higher; a token is out in it -/
theorem fn_ok1 {G : Gc} {N : List Str} {P : Program} {w : World} {x qual : Str} {params : Arguments} {body : List Stmt} {scope : Scope} {f : Addr} {fd : FuncData} {ps : List Str} {c : CS} {dvs : List V} {kws : List (Str × V)} (F : FunD G.K x qual params body scope dvs kws f fd) (Sc : FnScope N ps scope)
    (hnc : scope.names.all (fun y => match y.2 with | .cell => false | _ => true) = true) (hps : 1 ≤ ps.length)
    (hb : RSs1 G N ⟨true, true⟩ scope body c) (hcd : G.ucd = true → fd.code = G.cd := by intro h; cases h) : FnOk G.P G.w G.K G.mg G.base (L2.CX G.P G.w) (2 * (G.k + 1)) f fd ps (spD G ps.length (mkFn N.length ps.length c)) := by
  obtain ⟨oc, od, dV, kV, doc, pm, an, cdv, ct, osl, rfl, lk, hcd', _, _⟩ := F.ex
  refine fn_ofT (k := 2 * G.k + 1) lk hcd' Sc (fun y hy e => ?_) hps (fun vs H Q E h => h.1) fun A outer s H vs Q E hr h => ?_
  · have := List.all_eq_true.mp hnc y hy
    rw [e] at this
    cases this
  obtain ⟨hl, ρ, S, ds, sm, r, g⟩ := h
  have hd : ds.length = ps.length := by rw [← r.length, hl]
  have hpl : ps.length ≤ N.length := by have := congrArg List.length Sc.pre; rw [List.length_take] at this; omega
  refine ⟨_, hb _ (fun cls d _ H => E cls d H) ⟨rfl, rfl, rfl, rfl, rfl, rfl, Sc.nd, rfl, takes_of rfl rfl rfl rfl, rfl, fun _ _ => rfl, Sc.kind, fun _ => hr, ?_, hcd, passes_of rfl⟩, ?_⟩
  · have := hr.un
    show (A.deeper (envOfC qual scope s.heap.objs.size f cdv)).units + 64 < cLine
    omega
  · unfold mkFn at g
    rw [if_pos hd] at g
    refine ⟨ρ, ds.map some ++ List.replicate (N.length - ps.length) none, S, sm, by rw [← hd]; exact start_env r rfl (by omega), ?_⟩
    cases hc : c (ds.map some ++ List.replicate (N.length - ps.length) none) S with
    | nx Γ S' => rw [hc] at g; exact fun ρ' H' σ' g1 s1 e1 => g ρ' H' .non g1 s1 .non
    | rt d S' => rw [hc] at g; exact g
    | bk Γ S' => rw [hc] at g; exact g.elim
    | ct Γ S' => rw [hc] at g; exact g.elim
    | exc c Γ S' => rw [hc] at g; exact fun ρ' H' σ' C g1 s1 e1 hC => g ρ' H' C g1 s1 hC
    | stuck => rw [hc] at g; exact g.elim
end Dn
/-! ### text[lo::step] -/
namespace Dn
open PySem PySem.Spec PyProof.Rows L2 Kx
def stepL (l : List Nat) (a k : Nat) : List Nat := (List.range l.length).filterMap fun i => l[a + k * i]?
theorem fm_none {α β : Type} (f : α → Option β) : ∀ l : List α, (∀ x ∈ l, f x = none) → l.filterMap f = []
  | [], _ => rfl
  | x :: l, h => by
    rw [List.filterMap_cons, h x (by simp)]
    exact fm_none f l fun y hy => h y (by simp [hy])
theorem fm_range {β : Type} (f : Nat → Option β) {n m : Nat} (h : n ≤ m) (hz : ∀ i, n ≤ i → f i = none) : (List.range m).filterMap f = (List.range n).filterMap f := by
  have e : m = n + (m - n) := by omega
  rw [e, List.range_add, List.filterMap_append, fm_none f (List.map _ _) fun x hx => by
    obtain ⟨y, _, rfl⟩ := List.mem_map.mp hx
    exact hz _ (by omega), List.append_nil]
theorem fm_self : ∀ l : List Nat, (List.range l.length).filterMap (fun n => l[n]?) = l
  | [] => rfl
  | c :: r => by
    rw [List.length_cons, List.range_succ_eq_map, List.filterMap_cons]
    simp only [List.getElem?_cons_zero]
    rw [List.filterMap_map]
    exact congrArg (c :: ·) (fm_self r)
theorem step_cs (x : Str) (i j : Int) (hi : 0 ≤ i) (hj : 0 < j) : cs (Txt.sliceBy x (some (i, 0)) none (j, 0)) = stepL (cs x) i.toNat j.toNat := by
  obtain ⟨a, rfl⟩ := Int.eq_ofNat_of_zero_le hi
  obtain ⟨k, rfl⟩ := Int.eq_ofNat_of_zero_le (Int.le_of_lt hj)
  have hk : 0 < k := by omega
  have hp : slicePicked x (some ((a : Int), 0)) none (some ((k : Int), 0)) = sliceRange (max 0 (min (a : Int) x.length)) x.length k := by
    unfold slicePicked Builtin.Str.strSliceIndices
    simp only [Option.map_some, Option.map_none, Option.getD_some, gt_iff_lt, hj, if_true]
    rw [if_neg (show ¬ ((a : Int) < 0) by omega)]
  have key : ((slicePicked x (some ((a : Int), 0)) none (some ((k : Int), 0))).filterMap (x.cps[·]?)) = stepL (cs x) a k := by
    rw [hp]
    unfold sliceRange stepL
    simp only [gt_iff_lt, hj, if_true]
    rw [List.filterMap_map, ← cs_len]
    have hget : ∀ n : Nat, x.cps[n]? = (cs x)[n]? := fun n => by simp [cs]
    by_cases hl : a < x.length
    · have e1 : max 0 (min (a : Int) x.length) = a := by omega
      rw [e1, if_pos (by omega)]
      have f1 : ((fun n => x.cps[n]?) ∘ fun n : Nat => ((a : Int) + (k : Int) * (n : Int)).toNat) = fun n => (cs x)[a + k * n]? := by
        funext n
        show x.cps[((a : Int) + (k : Int) * (n : Int)).toNat]? = _
        rw [hget]
        rw [show ((a : Int) + (k : Int) * (n : Int)).toNat = a + k * n by rw [← Int.natCast_mul]; omega]
      rw [f1]
      refine (fm_range _ (n := (((x.length : Int) - a + k - 1) / k).toNat) (m := x.length) ?_ fun n hn => ?_).symm
      · have := stepDiv_le (d := (x.length : Int) - a) (k := k) (by omega) (by omega)
        omega
      · refine List.getElem?_eq_none ?_
        rw [← cs_len]
        have h1 : ((x.length : Int) - a + k - 1) / k ≤ n := by omega
        have h2 := Int.lt_mul_of_ediv_lt (a := (x.length : Int) - a + k - 1) (b := (n : Int) + 1) (c := (k : Int)) (by omega) (Int.lt_add_one_of_le h1)
        have h3 : ((n : Int) + 1) * (k : Int) = k * n + k := by rw [Int.add_mul, Int.one_mul, Int.mul_comm]
        rw [h3] at h2
        have h4 : ((k * n : Nat) : Int) = (k : Int) * n := Int.natCast_mul k n
        omega
    · have e1 : max 0 (min (a : Int) x.length) = x.length := by omega
      rw [e1, if_neg (by omega)]
      rw [fm_none (fun n => (cs x)[a + k * n]?) _ fun n _ => List.getElem?_eq_none (by rw [← cs_len]; omega)]
      rfl
  show _ = stepL (cs x) a k
  unfold Txt.sliceBy
  split
  · rename_i h
    simp only [Option.map_some, Option.getD_some, Bool.and_eq_true, beq_iff_eq] at h
    obtain ⟨h1, h2⟩ := h
    have hk1 : k = 1 := by omega
    subst hk1
    rw [← key, hp]
    rw [hp] at h2
    have h3 : sliceRange (max 0 (min (a : Int) x.length)) x.length ((1 : Nat) : Int) = List.range x.length := by
      unfold sliceRange at h2 ⊢
      simp only [gt_iff_lt, hj, if_true, List.length_map, List.length_range] at h2 ⊢
      by_cases hl : a < x.length
      · have e1 : max 0 (min (a : Int) x.length) = a := by omega
        rw [e1, if_pos (by omega)] at h2
        have : a = 0 := by
          simp at h2
          omega
        subst this
        rw [e1, if_pos (by omega)]
        simp
      · have e1 : max 0 (min (a : Int) x.length) = x.length := by omega
        rw [e1, if_neg (by omega)] at h2 ⊢
        simp at h2
        rw [← h2]
        rfl
    rw [h3]
    show cs x = _
    have hget : (fun n : Nat => x.cps[n]?) = fun n => (cs x)[n]? := by funext n; simp [cs]
    rw [hget, cs_len]
    exact (fm_self _).symm
  · exact (cs_mk _).trans key
def tSlS (te : TE) (tl ts : TO) : TE := fun σ H Q => te σ H fun x H1 => tl σ H1 fun l H2 => ts σ H2 fun k H3 => ∃ z i j, x = .str z ∧ l = some i ∧ k = some j ∧ 0 ≤ i ∧ 0 < j ∧ z.length ≤ 16777216 ∧ Q (.str (Txt.sliceBy z (some (i, 0)) none (j, 0))) H3
theorem pe_slS {X : Cx} {e st : Expr} {lo : Option Expr} {te : TE} {tl ts : TO} {p2 pos : Pos} (he : PE X e te) (hl : PO X lo tl) (hk : PO X (some st) ts) : PE X (.Subscript e (.Slice lo none (some st) p2) pos) (tSlS te tl ts) := by
  refine ⟨fun pins s σ H Q I h => ?_⟩
  refine Subscript_ (thn (he.run pins s σ H _ I h) fun v s1 ⟨x, H1, I1, r1, q1⟩ => ?_)
  refine wpAny_Slice (thn (hl.run pins s1 σ H1 _ I1 q1) fun vl s2 ⟨l, H2, I2, pl, q2⟩ => ?_)
  rw [evalPart_none]
  refine wpAny_pure (thn (hk.run pins s2 σ H2 _ I2 q2) fun vk s3 ⟨k, H3, I3, pk, q3⟩ => ?_)
  obtain ⟨z, i, j, rfl, rfl, rfl, hi, hj, hz, q⟩ := q3
  obtain ⟨t, rfl⟩ := r1
  cases pl with
  | int _ ui =>
    cases pk with
    | int _ uk =>
      have I4 : Inv X pins σ H3 { s3 with heap := s3.heap.push { cls := .type "slice", data := .fields #[.int i ui, .none, .int j uk] } } := I3.kept (t' := s3.toks) fun b ob q => Heap.get?_push_of_some _ q
      show wpAny (model X.prog X.w) X.A (subscriptTail e (.Slice lo none (some st) p2) (.str z t) (.ref s3.heap.objs.size)) (EP X pins σ Q) X.xe { s3 with heap := s3.heap.push { cls := .type "slice", data := .fields #[.int i ui, .none, .int j uk] } }
      refine tail_any (ops := [.str z t, .ref s3.heap.objs.size]) (typeIs_str _ _ _) F.slot_str_getitem.lookup ?_ (by with_unfolding_all rfl)
      have hk0 : (j == 0) = false := by simp; omega
      exact wpAny_getItem_str_slice (l := some (i, ui)) (u := none) (st := some (j, uk)) ⟨_, Heap.get?_push_size _ rfl, rfl, rfl⟩ hk0 (post_val_or_str ⟨Nat.le_trans (Txt.sliceBy_le z _ _ (j, uk) (by simpa using hk0)) (by rw [sz]; exact hz), fun t' c => ⟨.str (Txt.sliceBy z (some (i, 0)) none (j, 0)), H3, I4.tok c, ⟨t', rfl⟩, q⟩⟩)
def slsD (lo st : Option Int) : D → Hd → R D
  | .str l, S => match lo, st with
    | some i, some j => if 0 ≤ i ∧ 0 < j ∧ l.length ≤ 16777216 then .ok (.str (stepL l i.toNat j.toNat)) S else .stuck
    | _, _ => .stuck
  | _, _ => .stuck
def cSlS (m : CE) (lo st : CO) : CE := fun Γ S => (m Γ S).bind fun d S1 => (lo Γ S1).bind fun l S2 => (st Γ S2).bind fun u S3 => slsD l u d S3
theorem re_sls {G : Gc} {N : List Str} {cm : Md} {sc : Scope} {e : Expr} {m : CE} {p2 pos : Pos} {lo : Option Expr} {st : Expr} {ml mh : CO} (h : RE G N cm sc e m) (hl : RO G N cm sc lo ml) (hh : RO G N cm sc (some st) mh) : RE G N cm sc (.Subscript e (.Slice lo none (some st) p2) pos) (cSlS m ml mh) := fun X W c => by
  refine PE.imp (pe_slS (h X W c) (hl X W c) (hh X W c)) fun σ H Q q => ?_
  obtain ⟨ρ, Γ, S, s, e, g⟩ := q
  refine Fin.step s e g fun a S1 ρ1 H1 x g1 s1 e1 ra ga => ?_
  refine Fin.step s1 e1 ga fun l S2 ρ2 H2 y g2 s2 e2 rl gb => ?_
  have rl : y = l := rl
  subst rl
  refine Fin.step s2 e2 gb fun u S3 ρ3 H3 z g3 s3 e3 ru gc => ?_
  have ru : z = u := ru
  subst ru
  have ra := s2.rep g3 (s1.rep g2 ra)
  cases ra with
  | str hz =>
    rename_i w l
    cases y with
    | none => exact gc.elim
    | some i =>
      cases z with
      | none => exact gc.elim
      | some j =>
        dsimp only [slsD] at gc
        split at gc
        · rename_i hl
          refine ⟨w, i, j, rfl, rfl, rfl, hl.1, hl.2.1, by rw [len_dL, dL, hz]; exact hl.2.2, gc.here s3 (.str ?_)⟩
          subst hz
          exact step_cs w i j hl.1 hl.2.1
        · exact gc.elim
  | _ => exact gc.elim
end Dn

set_option Elab.async false
set_option linter.all false
set_option maxRecDepth 100000
set_option maxHeartbeats 4000000
set_option autoImplicit false
/-! # in, not in -/
namespace Dn
open PySem PySem.Spec PyProof.Rows L2 Kx
def inE (d : D) (ds : List D) : Option Bool := match d with
  | .str l => (strsD ds).map fun ls => ls.any fun q => decide (q = l)
  | .int i => (intsD ds).map fun is => is.any fun j => decide (j = i)
  | _ => none
def inD (neg : Bool) : D → D → Hd → R D := fun d c S => match seqAt S c with
  | some ds => match inE d ds with
    | some k => .ok (.bl (xor neg k)) S
    | none => .stuck
  | none => match d, c with
    | .str [x], .str l => .ok (.bl (xor neg (decide (x ∈ l)))) S
    | _, _ => .stuck
section
variable {G : Gc} {N : List Str} {cm : Md} {sc : Scope} {ρ : List Addr} {S : Hd} {H : Hp}
theorem str_any {z : Str} : ∀ zs : List Str, ((zs.map V.str).any fun y => eqV y (V.str z)) = (zs.map cs).any fun q => decide (q = cs z)
  | [] => rfl
  | a :: r => by
    simp only [List.map_cons, List.any_cons]
    rw [← str_any r]
    congr 1
    show (a == z) = _
    by_cases h : a = z
    · subst h; simp
    · have : cs a ≠ cs z := fun e => h (cs_inj e)
      rw [decide_eq_false this]
      exact beq_eq_false_iff_ne.mpr h
theorem int_any {i : Int} : ∀ zs : List Int, ((zs.map V.int).any fun y => eqV y (V.int i)) = zs.any fun q => decide (q = i)
  | [] => rfl
  | a :: r => by
    simp only [List.map_cons, List.any_cons]
    rw [← int_any r]
    congr 1
theorem inE_ok {v : V} {d : D} {vs : List V} {ds : List D} {k : Bool} (r : Rep G.mg ρ H v d) (rs : Reps G.mg ρ H vs ds) (h : inE d ds = some k) : flatV v = true ∧ vs.all flatV = true ∧ inV v vs = k := by
  cases r with
  | str hz =>
    dsimp only [inE] at h
    obtain ⟨ls, h1, rfl⟩ := Option.map_eq_some_iff.mp h
    obtain ⟨zs, rfl, rfl⟩ := strsD_ok rs h1
    subst hz
    exact ⟨rfl, by simp [flatV], str_any zs⟩
  | int i =>
    dsimp only [inE] at h
    obtain ⟨ls, h1, rfl⟩ := Option.map_eq_some_iff.mp h
    have := intsD_ok rs h1
    subst this
    exact ⟨rfl, by simp [flatV], int_any ls⟩
  | _ => cases h
theorem seqAt_str {l : List Nat} : seqAt S (.str l) = none := rfl
theorem in_ok {neg : Bool} {x y : V} {a b : D} {W : WX} {σ : L2.St} {Q : VK} (s : Sim G.mg G.Tb ρ S H) (ra : Rep G.mg ρ H x a) (rb : Rep G.mg ρ H y b) (g : Fin G (rE G) W σ Q ρ H (inD neg a b S)) :
    rIn G.K neg x y H Q ∨ ∃ (c : Nat) (z : Str), x = .str ⟨#[c]⟩ ∧ y = .str z ∧ Q (.bl (xor neg (decide (c ∈ z.cps.toList)))) H := by
  unfold inD at g
  split at g
  · rename_i ds hs
    split at g
    · rename_i k hk
      obtain ⟨p, vs, rfl, h1, h2⟩ := s.sqAt rb hs
      obtain ⟨f1, f2, f3⟩ := inE_ok ra h2 hk
      refine .inl ⟨p, vs, rfl, h1, f1, f2, ?_⟩
      rw [f3]
      have := g.here s (.bl _)
      cases neg with
      | true => simpa using this
      | false => simpa using this
    · exact g.elim
  · split at g
    · cases ra with
      | str hz => cases rb with
        | str hw =>
          have e : _ = (⟨#[_]⟩ : Str) := cs_inj (show _ = [_] from hz)
          subst e hw
          exact .inr ⟨_, _, rfl, rfl, g.here s (.bl _)⟩
    · exact g.elim
theorem oc_in : OpC G N cm sc .In (inD false) :=
  ⟨fun X x y H Q => rIn X.K false x y H Q ∨ ∃ (c : Nat) (z : Str), x = .str ⟨#[c]⟩ ∧ y = .str z ∧ Q (.bl (decide (c ∈ z.cps.toList))) H, fun X W c => ⟨OpR.or op_in_seq op_in_sign, by
    intro ρ S H x y a b W σ Q s ra rb g
    rw [c.hK]
    simpa using in_ok s ra rb g⟩⟩
theorem oc_notin : OpC G N cm sc .NotIn (inD true) :=
  ⟨fun X x y H Q => rIn X.K true x y H Q ∨ ∃ (c : Nat) (z : Str), x = .str ⟨#[c]⟩ ∧ y = .str z ∧ Q (.bl (!decide (c ∈ z.cps.toList))) H, fun X W c => ⟨OpR.or op_notIn_seq op_notIn_sign, by
    intro ρ S H x y a b W σ Q s ra rb g
    rw [c.hK]
    simpa using in_ok s ra rb g⟩⟩
end
end Dn

set_option Elab.async false
set_option linter.all false
set_option maxRecDepth 100000
set_option maxHeartbeats 4000000
set_option autoImplicit false
/-! # sorted(set(text)) -/
namespace Dn
open PySem PySem.Spec PyProof.Rows L2 Kx
def ssD : D → Hd → R D
  | .str l, S => if l.length + 1 < 4096 ∧ (sgn l).length < 64 then alloc (.lst ((sgn l).map fun c => .str [c])) S else .stuck
  | _, _ => .stuck
section
variable {G : Gc} {N : List Str} {cm : Md} {sc : Scope} {pos p p2 q : Pos} {ρ : List Addr} {S : Hd} {H : Hp} {e : Expr} {m : CE}
theorem sg_reps : ∀ l : List Nat, Reps G.mg ρ H ((l.map sg).map V.str) (l.map fun c => .str [c])
  | [] => .nil
  | c :: r => .cons (.str rfl) (sg_reps r)
theorem re_ss (hc : cm.calm = true) (hm : G.mg "sorted" = none) (hg : glB sc "sorted" = true) (hm2 : G.mg "set" = none) (hg2 : glB sc "set" = true) (h : RE G N cm sc e m) (na : ∀ X : Cx, starEach [e] X.env = (false, eval e X.env) :: starEach [] X.env := by intro _; rfl) :
    RE G N cm sc (.Call (.Name "sorted" p) [.Call (.Name "set" p2) [e] [] q] [] pos) (cOp1 ssD m) := fun X W c => by
  refine PE.imp (pe_sortedSet (c.calm.trans hc) (glB_of c hg).1 (by rw [c.hmg]; exact hm) (glB_of c hg2).1 (by rw [c.hmg]; exact hm2) (h X W c) (na X)) fun σ H Q h0 => ?_
  obtain ⟨ρ, Γ, S, s, en, g⟩ := h0
  refine Fin.step s en g fun a S1 ρ1 H1 x g1 s1 e1 ra ga => ?_
  cases ra with
  | str hz =>
    rename_i z l
    dsimp only [ssD] at ga
    split at ga
    · rename_i hl
      subst hz
      refine ⟨z, rfl, by have := hl.1; simpa [cs] using this, hl.2, ?_⟩
      exact Fin.newL s1 (sg_reps _) ga
    · exact ga.elim
  | _ => exact ga.elim
end
end Dn

set_option Elab.async false
set_option linter.all false
set_option maxRecDepth 100000
set_option maxHeartbeats 4000000
set_option autoImplicit false
/-! # Default arguments; range with a step; repr of numbers -/
namespace Dn
open PySem PySem.Spec PyProof.Rows L2 Kx
section
variable {G : Gc} {N : List Str} {cm : Md} {sc : Scope} {pos p p2 : Pos} {ρ : List Addr} {S : Hd} {H : Hp} {e e1 e2 e3 tg : Expr} {m : CE} {es : List Expr} {ma : CA} {x : Str}
/-- the def x may be called with n arguments, the last ones are left out -/
structure CalO (G : Gc) (n : Nat) (is : List Int) (x : Str) : Prop where
  ex : ∃ (f : Addr) (fd : FuncData) (ps : List Str) (us : List Value), FnOk G.P G.w G.K G.mg G.base (L2.CX G.P G.w) (2 * G.k) f fd ps (spD G (n + is.length) (G.call x)) ∧ G.mg x = some (.ref f) ∧ PySem.W.keepIn G.K (.ref f) = true ∧ Vals (is.map V.int) us ∧ Binds G.K fd ps us
def cCallO (call : Calls) (x : Str) (is : List Int) (ms : CA) : CE := fun Γ S => (ms Γ S).bind fun ds S1 => call x (ds ++ is.map D.int) S1
theorem int_reps {mg : Str → Option Value} {ρ : List Addr} {H : Hp} : ∀ is : List Int, Reps mg ρ H (is.map V.int) (is.map D.int)
  | [] => .nil
  | i :: r => .cons (.int i) (int_reps r)
theorem Reps.app {mg : Str → Option Value} {ρ : List Addr} {H : Hp} {vs ws : List V} {ds es : List D} (a : Reps mg ρ H vs ds) (b : Reps mg ρ H ws es) : Reps mg ρ H (vs ++ ws) (ds ++ es) := a.append b
theorem run_fnO {X : Cx} {W : WX} {k : Nat} {f : Addr} {fd : FuncData} {ps : List Str} {sp : Sp} {pins : List (Addr × Obj)} {σ : L2.St} {H : Hp} {s : Shared} {Q : VK} {us os : List Value} {vs ws : List V} (tk : Takes X W) (F : FnOk X.prog X.w X.K X.mg X.base (L2.CX X.prog X.w) k f fd ps sp) (hr : Room k X.A) (hb : Binds X.K fd ps os)
    (I : Inv X pins σ H s) (r : Vals vs us) (ro : Vals ws os) (h : sp (vs ++ ws) H Q (fun c d H' => W c d σ H')) : wpAny (model X.prog X.w) X.A (call (.ref f) us) (EP X pins σ Q) X.xe s := by
  have rr := r.append ro
  have len : (us ++ os).length = ps.length := by rw [← rr.length]; exact F.len _ _ _ _ h
  refine wpAny_call (codeAny_mono (F.run X.A X.stack s H ⟨us, []⟩ (us ++ os) (vs ++ ws) Q _ hr I.env0 (hb s us I.kIn len) rr h) fun r s' hq => ?_)
  cases r with
  | error e => exact tk e s' (XE.of_call I (fun cls d H' h => h) hq)
  | ok fl => cases fl with
    | ret u => exact I.after hq
    | _ => exact hq.elim
theorem re_callO {n : Nat} {is : List Int} (C : CalO G n is x) (hc : cm.calm = true) (hg : glB sc x = true) (ha : RA G N cm sc (e :: es) ma) (he : ∀ X : Cx, starEach (e :: es) X.env = (false, eval e X.env) :: starEach es X.env := by intro _; rfl) (hpl : ∀ X : Cx, (backTo pos (starEach es X.env)).any (·.1) = false := by intro _; rfl) :
    RE G N cm sc (.Call (.Name x p) (e :: es) [] pos) (cCallO G.call x is (cArgs n ma)) := fun X W c => by
  obtain ⟨f, fd, ps, os, F, hm, kp, ro, b⟩ := C.ex
  obtain ⟨g1, g2, g3⟩ := glB_of c hg
  refine ⟨fun pins s σ H Q I q => ?_⟩
  refine wpAny_Call_Name_kw (ld_glob I g1 (by rw [c.hmg]; exact hm) ?_ g2)
  refine PySem.W.callWith_K (h₀ := X.base) I.ok.mod.kin (by rw [c.hK]; exact kp) (thn ((ha X W c).run pos pins s σ H (fun vs H1 => spD G (n + is.length) (G.call x) (vs ++ is.map V.int) H1 Q (fun c d H' => W c d σ H')) I ?_) fun us s1 ⟨vs, H1, I1, r, q⟩ => ⟨I1.kIn, ?_⟩) (he X) (hpl X)
  · obtain ⟨ρ, Γ, S, sm, en, q⟩ := q
    unfold cCallO cArgs at q
    refine Fin.step sm en (m := ma) (f := fun ds S1 => (if ds.length = n then R.ok ds S1 else .stuck).bind fun ds S1 => G.call x (ds ++ is.map D.int) S1) (by
      cases h : ma Γ S with
      | ok ds S1 => rw [h] at q; exact q
      | exc c S1 => rw [h] at q; exact q
      | stuck => rw [h] at q; exact q) fun ds S1 ρ1 H1 v g1 s1 e1 r1 ga => ?_
    by_cases hl : ds.length = n
    · rw [if_pos hl] at ga
      exact call_i (by rw [List.length_append, hl, List.length_map]) s1 (r1.append (int_reps is)) ga
    · rw [if_neg hl] at ga
      exact ga.elim
  · have F' : FnOk X.prog X.w X.K X.mg X.base (L2.CX X.prog X.w) (2 * G.k) f fd ps (spD G (n + is.length) (G.call x)) := by rw [c.hprog, c.hw, c.hK, c.hmg, c.hbase]; exact F
    exact run_fnO c.tk F' ((c.room hc).mono (by omega)) (by rw [c.hK]; exact b) I1 r ro q
/-! ### range(i, j, c) -/
def rng3L (lo c : Int) (n : Nat) : List D := (List.range n).map fun i : Nat => .int (lo + (i : Int) * c)
def rngN (i j c : Int) : Nat := (Builtin.Range.rangeSize i j c).toNat
def cRng3 (ma : CA) : CI := fun Γ S => (ma Γ S).bind fun ds S1 => match ds with
  | [.int i, .int j, .int c] => if 0 < c ∧ c < 1073741824 ∧ Builtin.Range.small i j c = true then .ok (.base (.items (rng3L i c (rngN i j c)))) S1 else .stuck
  | _ => .stuck
theorem ItR.of_rng3 {lo c : Int} {n : Nat} : ItR G ρ H (Itc lo c n) (.base (.items (rng3L lo c n))) := fun ρ' S' H' g s i => by
  refine ⟨fun h => ?_, fun d h => ?_⟩
  · simp only [nextS, cont, rng3L, Option.some.injEq, List.getElem?_eq_none_iff, List.length_map, List.length_range] at h
    exact h
  · simp only [nextS, cont, rng3L, Option.some.injEq, List.getElem?_map, Option.map_eq_some_iff] at h
    obtain ⟨k, hk, rfl⟩ := h
    have hi := (List.getElem?_eq_some_iff.mp hk).1
    rw [List.length_range] at hi
    rw [List.getElem?_range hi] at hk
    cases hk
    exact ⟨hi, fun x H2 y => by
      obtain ⟨rfl, rfl⟩ := y
      exact ⟨Grow.refl _ _, s, .int _⟩⟩
theorem ri_rng3 (hg : glB sc "range" = true) (hm : G.mg "range" = none) (ha : RA G N cm sc [e1, e2, e3] ma) (hs : ∀ X : Cx, starEach [e1, e2, e3] X.env = (false, eval e1 X.env) :: starEach [e2, e3] X.env := by intro _; rfl) (hpl : ∀ X : Cx, (backTo pos (starEach [e2, e3] X.env)).any (·.1) = false := by intro _; rfl) :
    RI G N cm sc tg (.Call (.Name "range" p) [e1, e2, e3] [] pos) (cRng3 ma) := fun X W c => by
  refine ⟨fun pins s σ H R I h0 => ?_⟩
  obtain ⟨ρ, Γ, S, sm, en, g⟩ := h0
  refine (pi_range3 (glB_of c hg).1 (by rw [c.hmg]; exact hm) (ha X W c) (hs X) (hpl X)).run pins s σ H R I ?_
  refine Fin.step sm en g fun ds S1 ρ1 H1 x g1 s1 e1 r1 ga => ?_
  split at ga
  · rename_i i j k
    obtain ⟨v, v', v'', rfl, rv, rv', rv''⟩ := r1.three
    cases rv
    cases rv'
    cases rv''
    split at ga
    · rename_i hk
      have q := ga.here s1 (ItR.of_rng3 (lo := i) (c := k) (n := rngN i j k))
      refine ⟨i, j, k, rngN i j k, rfl, ⟨by omega, by omega, hk.2.2, ?_⟩, q⟩
      have := PyProof.Rows.rangeSize_toNat i j k
      exact this
    · exact ga.elim
  · exact ga.elim
/-! ### repr of a number -/
def repI (i : Int) : List Nat := (toString i : Str).cps.toList
def reprD : List D → Hd → R D
  | [.int i], S => if i.natAbs.log2 < 1920 then .ok (.str (repI i)) S else .stuck
  | _, _ => .stuck
theorem b_repr : BltD G N cm sc "repr" reprD := ⟨"repr", _, by decide +kernel, fun X W c => ⟨SkE.call_repr_int, by
  intro ρ S H vs ds W σ Q s r g
  unfold reprD at g
  split at g
  · obtain ⟨v, rfl, rv⟩ := r.one
    cases rv
    split at g
    · rename_i hl
      exact ⟨_, rfl, hl, g.here s (.str rfl)⟩
    · exact g.elim
  · exact g.elim⟩⟩
end
end Dn

set_option Elab.async false
set_option linter.all false
set_option maxRecDepth 100000
set_option maxHeartbeats 4000000
set_option autoImplicit false
/-! # Tests where a token is out -/
namespace Dn
open PySem PySem.Spec PyProof.Rows L2 Kx
/-- as PT, PW, where a token is out -/
def PTT (X : Cx) (e : Expr) (t : TT) : Prop := ∀ (pins : List (Addr × Obj)) (s : Shared) (σ : L2.St) (H : Hp) (Q : Bool → Hp → Prop), 1 ≤ s.toks → Inv X pins σ H s → t σ H Q → wpAny (model X.prog X.w) X.A (isTrue e X.env (eval e X.env)) (TP X pins σ Q) X.xe s
def PWT (X : Cx) (e : Expr) (t : TT) : Prop := ∀ (whole : Sem Value) (pins : List (Addr × Obj)) (s : Shared) (σ : L2.St) (H : Hp) (Q : Bool → Hp → Prop), 1 ≤ s.toks → Inv X pins σ H s → t σ H Q → wpAny (model X.prog X.w) X.A (isTrue e X.env whole) (TP X pins σ Q) X.xe s
section
variable {X : Cx} {a b e : Expr} {rest : List Expr} {tA tB tC : TT} {te tb : TE} {t u : TS} {r : R2} {op : CmpOp} {pos : Pos} {sa sb : List Stmt}
theorem PTT.of (h : PT X e tA) : PTT X e tA := fun pins s σ H Q _ I q => h.run pins s σ H Q I q
theorem PWT.ptt (h : PWT X e tA) : PTT X e tA := h _
theorem PTT.imp (h : PTT X e tA) (i : ∀ σ H Q, tB σ H Q → tA σ H Q) : PTT X e tB := fun pins s σ H Q h0 I q => h pins s σ H Q h0 I (i σ H Q q)
theorem pwt_and1 (ha : PTT X a tA) : PWT X (.BoolOp .And [a] pos) tA := by
  intro wh pins s σ H Q h0 I h
  refine isTrue_and (thn (ha pins s σ H Q h0 I h) fun c s1 e => ?_)
  cases c with
  | true => exact isTrue_and_nil e
  | false => exact e
theorem pwt_or1 (ha : PTT X a tA) : PWT X (.BoolOp .Or [a] pos) tA := by
  intro wh pins s σ H Q h0 I h
  refine isTrue_or (thn (ha pins s σ H Q h0 I h) fun c s1 e => ?_)
  cases c with
  | false => exact isTrue_or_nil e
  | true => exact e
theorem pwt_andM (ha : PTT X a tA) (hb : PWT X (.BoolOp .And (b :: rest) pos) tB) : PWT X (.BoolOp .And (a :: b :: rest) pos) (tAndM tA tB) := by
  intro wh pins s σ H Q h0 I h
  refine isTrue_and (wpAny_mono (PySem.wpAny_toks (ha pins s σ H _ h0 I h)) (fun c s1 q => ?_) fun _ _ z => z.2)
  obtain ⟨hk, H1, I1, q1⟩ := q
  cases c with
  | true => exact hb wh pins s1 σ H1 Q (Nat.le_trans h0 hk) I1 (q1.1 rfl)
  | false => exact ⟨H1, I1, q1.2 rfl⟩
theorem pwt_orM (ha : PTT X a tA) (hb : PWT X (.BoolOp .Or (b :: rest) pos) tB) : PWT X (.BoolOp .Or (a :: b :: rest) pos) (tOrM tA tB) := by
  intro wh pins s σ H Q h0 I h
  refine isTrue_or (wpAny_mono (PySem.wpAny_toks (ha pins s σ H _ h0 I h)) (fun c s1 q => ?_) fun _ _ z => z.2)
  obtain ⟨hk, H1, I1, q1⟩ := q
  cases c with
  | true => exact ⟨H1, I1, q1.1 rfl⟩
  | false => exact hb wh pins s1 σ H1 Q (Nat.le_trans h0 hk) I1 (q1.2 rfl)
theorem ptt_not (ha : PTT X a tA) : PTT X (.UnaryOp .Not a pos) (tNot tA) := by
  intro pins s σ H Q h0 I h
  exact isTrue_not (ha pins s σ H (fun c H1 => Q (!c) H1) h0 I h)
theorem ptt_cmpM (ho : OpR X (compareOp op) r) (ha : PET X a te) (hb : PET X b tb) (hm : behindInMarks op b = false := by first | exact nobehind _ (by decide) (by decide) | rfl) : PTT X (.Compare a [op] [b] pos) (tTru (tOp r te tb)) := by
  intro pins s σ H Q h0 I h
  refine wpAny_isTrue_Compare1 (wpAny_mono (PySem.wpAny_toks (ha pins s σ H _ h0 I h)) (fun v s1 q => ?_) fun _ _ z => z.2) hm
  obtain ⟨hk, x, H1, I1, r1, q1⟩ := q
  refine thn (hb pins s1 σ H1 _ (Nat.le_trans h0 hk) I1 q1) fun u s2 ⟨y, H2, I2, r2, q2⟩ =>
    thn (ho pins s2 σ H2 x y v u _ I2 r1 r2 q2) fun c s3 ⟨z, H3, I3, r3, q3⟩ => ?_
  cases z with
  | bl k =>
    cases r3
    exact wpAny_truthy_bool ⟨H3, I3, q3⟩
  | _ => exact q3.elim
theorem pst_ifT (hc : PTT X a tA) (ha : PSsT X sa t) (hb : PSsT X sb u) : PST X (.If a sa sb pos) (tIfS tA t u) := by
  intro pins s σ H D h0 I h
  refine wpAny_If (wpAny_mono (PySem.wpAny_toks (hc pins s σ H _ h0 I h)) (fun d s1 q => ?_) fun _ _ z => z.2)
  obtain ⟨hk, H1, I1, q1⟩ := q
  cases d with
  | true => exact ha pins s1 σ H1 D (Nat.le_trans h0 hk) I1 q1
  | false => exact hb pins s1 σ H1 D (Nat.le_trans h0 hk) I1 q1
end
def RT1 (G : Gc) (N : List Str) (cm : Md) (sc : Scope) (e : Expr) (m : CT) : Prop := ∀ X W, Cz G N cm sc X W → PTT X e (tT G W m)
def RW1 (G : Gc) (N : List Str) (cm : Md) (sc : Scope) (e : Expr) (m : CT) : Prop := ∀ X W, Cz G N cm sc X W → PWT X e (tT G W m)
section
variable {G : Gc} {N : List Str} {cm : Md} {sc : Scope} {pos : Pos} {e e1 e2 : Expr} {m1 m2 : CE} {t u : CT} {op : CmpOp} {f : D → D → Hd → R D} {a b : List Stmt} {c1 c2 : CS}
theorem RT.lift (h : RT G N cm sc e t) : RT1 G N cm sc e t := fun X W c => PTT.of (h X W c)
theorem rt1_w (h : RW1 G N cm sc e t) : RT1 G N cm sc e t := fun X W c => (h X W c).ptt
theorem rt1_cmp (h : OpC G N cm sc op f) (h1 : RE1 G N cm sc e1 m1) (h2 : RE1 G N cm sc e2 m2) (hm : behindInMarks op e2 = false) : RT1 G N cm sc (.Compare e1 [op] [e2] pos) (cTruB (cOp2 f m1 m2)) := fun X W c => by
  obtain ⟨r, h⟩ := h
  exact PTT.imp (ptt_cmpM (h X W c).1 (h1 X W c) (h2 X W c) hm) fun σ H Q q => tru_i (fun Q => two_i (h X W c).2) q
theorem rt1_not (h : RT1 G N cm sc e t) : RT1 G N cm sc (.UnaryOp .Not e pos) (cNotT t) := fun X W c => by
  refine PTT.imp (ptt_not (h X W c)) fun σ H Q q => ?_
  obtain ⟨ρ, Γ, S, s, e, g⟩ := q
  refine Fin.step s e g fun a S1 ρ1 H1 x g1 s1 e1 ra ga => ?_
  have ra : x = a := ra
  subst ra
  exact ga.here s1 rfl
theorem rw1_and1 (h : RT1 G N cm sc e t) : RW1 G N cm sc (.BoolOp .And [e] pos) t := fun X W c => pwt_and1 (h X W c)
theorem rw1_or1 (h : RT1 G N cm sc e t) : RW1 G N cm sc (.BoolOp .Or [e] pos) t := fun X W c => pwt_or1 (h X W c)
theorem rw1_and {rest : List Expr} (h : RT1 G N cm sc e t) (h' : RW1 G N cm sc (.BoolOp .And (e2 :: rest) pos) u) : RW1 G N cm sc (.BoolOp .And (e :: e2 :: rest) pos) (cAndT t u) := fun X W c => by
  have hh := pwt_andM (h X W c) (h' X W c)
  refine fun wh pins s σ H Q h0 I q => hh wh pins s σ H Q h0 I ?_
  obtain ⟨ρ, Γ, S, s, e, g⟩ := q
  refine Fin.step s e g fun a S1 ρ1 H1 x g1 s1 e1 ra ga => ?_
  have ra : x = a := ra
  subst ra
  refine ⟨fun hx => ⟨ρ1, Γ, S1, s1, e1, ?_⟩, fun hx => ?_⟩
  · subst hx; simpa using ga
  · subst hx; simp only [Bool.false_eq_true, if_false] at ga; exact ga.here s1 rfl
theorem rw1_or {rest : List Expr} (h : RT1 G N cm sc e t) (h' : RW1 G N cm sc (.BoolOp .Or (e2 :: rest) pos) u) : RW1 G N cm sc (.BoolOp .Or (e :: e2 :: rest) pos) (cOrT t u) := fun X W c => by
  have hh := pwt_orM (h X W c) (h' X W c)
  refine fun wh pins s σ H Q h0 I q => hh wh pins s σ H Q h0 I ?_
  obtain ⟨ρ, Γ, S, s, e, g⟩ := q
  refine Fin.step s e g fun a S1 ρ1 H1 x g1 s1 e1 ra ga => ?_
  have ra : x = a := ra
  subst ra
  refine ⟨fun hx => ?_, fun hx => ⟨ρ1, Γ, S1, s1, e1, ?_⟩⟩
  · subst hx; simp only [if_true] at ga; exact ga.here s1 rfl
  · subst hx; simpa using ga
theorem rs1_ifT (h : RT1 G N cm sc e t) (h1 : RSs1 G N cm sc a c1) (h2 : RSs1 G N cm sc b c2) : RS1 G N cm sc (.If e a b pos) (cIfS t c1 c2) := fun X W k => PST.imp (pst_ifT (h X W k) (h1 X W k) (h2 X W k)) fun D σ H q => by
  obtain ⟨ρ, Γ, S, s, e, g⟩ := q
  refine FinS.step s e g fun d S1 ρ1 H1 x g1 s1 e1 r1 ga => ?_
  have r1 : x = d := r1
  subst r1
  cases x with
  | true => exact ⟨ρ1, Γ, S1, s1, e1, ga⟩
  | false => exact ⟨ρ1, Γ, S1, s1, e1, ga⟩
end
end Dn

set_option Elab.async false
set_option linter.all false
set_option maxRecDepth 100000
set_option maxHeartbeats 4000000
set_option autoImplicit false
/-! # sorted(set(list of signs)) -/
namespace Kx
open PySem PySem.Spec PyProof.Rows L2
section
variable {P : Program} {w : World} {A : Around} {E : Value → Shared → Prop} {s : Shared} {a : Addr} {l : List Str} {n : Nat} {es es' : Array (Int × Value)} {t t' : SetTable}
/-- all items of a list of signs are put in -/
theorem fill_ls {I : Addr} {fp : List Addr} {x : List Nat} {Pi : Nat → Value → Prop} {St : Nat → Heap → Prop} {R : Result → Shared → Prop} (W : Walks P w A.in1 I fp [I] x.length Pi St) (hP : ∀ i v, Pi i v → ∃ c u, x[i]? = some c ∧ v = Value.str (sg c) u) (aI : a ∉ fp) (aI2 : a ≠ I) (room : x.length + 1 < scanBound) :
    ∀ (m i : Nat) (s : Shared), x.length - i = m → i ≤ x.length → St i s.heap → TxS w s.heap a ((x.take i).map sg) i →
      (∀ h' tk, (∀ b o, b ≠ a → b ≠ I → s.heap.get? b = some o → h'.get? b = some o) → TxS w h' a (x.map sg) x.length → R (.ok (.ret .none)) { s with heap := h', toks := tk }) →
      codeAny (model P w) A (.builtin "set.update.loop" ⟨[.ref a, .ref I], []⟩) R s
  | 0, i, s, hm, hi, hst, hS, hR => by
    have e : i = x.length := by omega
    subst e
    refine codeAny_builtin PyProof.Rows.F.entry_set_update_loop ?_
    rw [Around.under_plainId PyProof.Rows.F.plain_set_update_loop _]
    show wpAny _ A.in1 (pyNext (.ref I) >>= _) _ _ s
    refine wpAny_bind (W.done s _ _ hst fun h' tk hk => ?_)
    show wpAny _ A.in1 (ret Value.none) _ _ _
    have et : x.take x.length = x := List.take_of_length_le (Nat.le_refl _)
    rw [et] at hS
    exact wpAny_pure (hR h' tk (fun b o _ bI q => hk b o (by simpa using bI) q) (hS.keep fun o q => hk a o (by simpa using aI2) q))
  | m + 1, i, s, hm, hi, hst, hS, hR => by
    have hlt : i < x.length := by omega
    refine codeAny_builtin PyProof.Rows.F.entry_set_update_loop ?_
    rw [Around.under_plainId PyProof.Rows.F.plain_set_update_loop _]
    show wpAny _ A.in1 (pyNext (.ref I) >>= _) _ _ s
    refine wpAny_bind (W.item i s _ _ hlt hst fun v h1 tk1 hv st1 k1 => ?_)
    obtain ⟨c, u, hx, rfl⟩ := hP i v hv
    have S1 : TxS w h1 a ((x.take i).map sg) i := hS.keep fun o q => k1 a o (by simpa using aI2) q
    show wpAny _ A.in1 (holding [Value.str (sg c) u] (setAdd a (.str (sg c) u)) >>= _) _ _ _
    refine wpAny_bind (wpAny_holding ?_)
    unfold setAdd
    refine wpAny_holding ?_
    refine wpAny_bind ((PySem.strKind P w).pyHash (k := sg c) (by show Value.isStrOf (sg c) (.str (sg c) u) = true; simp [Value.isStrOf]) ?_)
    refine add_tx (s := { s with heap := h1, toks := tk1 + 1 }) S1 (by omega) fun h2 b sb S2 => ?_
    have S3 : TxS w h2 a ((x.take (i + 1)).map sg) (i + 1) := S2.alike fun k => by
      rw [List.take_add_one, hx, List.map_append, List.mem_append, List.mem_cons]
      simp only [Option.toList, List.map_cons, List.map_nil, List.mem_singleton]
      exact Or.comm
    refine wpAny_pure ⟨plainId_quiet PyProof.Rows.F.plain_set_update_loop _, fill_ls W hP aI aI2 room m (i + 1) _ (by omega) hlt (W.frame _ h1 _ st1 fun b hb o q => ?_) S3 fun h3 tk3 k3 S4 => ?_⟩
    · have hbI : b ≠ a := fun z => aI (z ▸ hb)
      exact (sb.2 b hbI).trans q
    · refine hR h3 tk3 (fun b o ba bI q => ?_) S4
      exact k3 b o ba bI ((sb.2 b ba).trans (k1 b o (by simpa using bI) q))
theorem set_of_list {l : Addr} {its : List Value} {x : List Nat} {Q : Value → Shared → Prop} (hl : s.heap.IsList l its.toArray) (hx : ∀ (i : Nat) (v : Value), its[i]? = some v → ∃ c u, x[i]? = some c ∧ v = Value.str (sg c) u) (hlen : its.length = x.length) (hh : A.handled = none) (room : x.length + 1 < scanBound)
    (hQ : ∀ (h' : Heap) (tk : Nat), TxS w h' s.heap.objs.size (x.map sg) x.length → (∀ b o, s.heap.get? b = some o → h'.get? b = some o) → Q (.ref s.heap.objs.size) { s with heap := h', toks := tk }) :
    wpAny (model P w) A (call (.type "set") [.ref l]) Q E s := by
  obtain ⟨c, tl, hmro⟩ := F.called_set.mro
  have hmade := F.called_set.made
  have hsub := F.called_set.sub
  refine wpAny_call (codeAny_of_tree ?_)
  show wpAny _ _ (callAny (.type "set") _) _ _ _
  refine wpAny_pure ⟨Code.quiet_builtin _ (by decide +kernel), codeAny_builtin F.entry_type_call ?_⟩
  rw [Around.under_plain (weight_type_call_type "set" [.ref l] []) rfl]
  have nt := F.called_set.notType
  have cc := F.called_set.canCreate
  have tc := F.typeCall_set_1 (.ref l)
  repeat (any_goals (first | assumption | wp_step))
  refine codeAny_mono (code_set_led1 (.ref l) (E := E) (Q₁ := fun obj s1 => obj = .ref s.heap.objs.size ∧ s1 = { s with heap := s.heap.push (emp w) }) ⟨rfl, rfl⟩) fun r s1 hr => ?_
  cases r with
  | error e => exact hr
  | ok fl =>
    cases fl with
    | ret obj =>
      obtain ⟨rfl, rfl⟩ := hr
      have at0 : (s.heap.push (emp w)).get? s.heap.objs.size = some (emp w) := Heap.get?_push_size _ rfl
      have ty0 : Shared.TypeIs { s with heap := s.heap.push (emp w) } (.ref s.heap.objs.size) "set" := ⟨_, at0, rfl⟩
      have hl1 : (s.heap.push (emp w)).IsList l its.toArray := hl.push _
      have il := F.called_set.init.lookup
      have ib := F.called_set.init.bind (.ref s.heap.objs.size)
      have hlo : l < s.heap.objs.size := by
        obtain ⟨o, ho, _⟩ := hl
        exact Heap.lt_size ho
      repeat (any_goals (first | assumption | wp_step))
      refine codeAny_mono (codeAny_call_builtin (R := wants (fun r s2 => r = .none ∧ ∃ h' tk, s2 = { s with heap := h', toks := tk } ∧ TxS w h' s.heap.objs.size (x.map sg) x.length ∧ (∀ b o, s.heap.get? b = some o → h'.get? b = some o)) E) F.called_set.init.plain F.entry_set_init (check_set_init_1 ty0 ?_)) fun r2 s2 hr2 => ?_
      · have q1 := F.sub_list_set
        have q2 := F.sub_list_frozenset
        have ne : (Value.type "list" == Value.type "dict") = false := by decide
        have ts : Shared.TypeIs { s with heap := s.heap.push (emp w) } (.ref l) "list" := hl1.typeIs
        unfold Builtin.«set.__init__» noKeywords Builtin.Frozenset.updateFrom
        generalize hPI : pyIter = PI
        wp_walk
        subst hPI
        refine wpAny_pyIter_list hl1 ?_
        have z1 : (s.heap.push (emp w)).objs.size = s.heap.objs.size + 1 := Heap.size_push ..
        have aI : s.heap.objs.size ≠ (s.heap.push (emp w)).objs.size := by rw [z1]; omega
        have hne : l ≠ (s.heap.push (emp w)).objs.size := by rw [z1]; exact Nat.ne_of_lt (Nat.lt_succ_of_lt hlo)
        refine wpAny_bind (wpAny_runValue ?_)
        have W := Walks.list (prog := P) (w := w) (A := A.in1.in1.in1) hh (s.heap.push (emp w)).objs.size l hne its.toArray
        rw [show its.toArray.size = x.length by rw [List.size_toArray]; exact hlen] at W
        refine fill_ls (W) (fun i v hv => hx i v (by simpa using hv)) (by simp only [List.mem_cons, List.not_mem_nil, or_false, not_or]; exact ⟨aI, (Nat.ne_of_lt hlo).symm⟩) aI room x.length 0 _ (by omega) (Nat.zero_le _) ?_ ?_ ?_
        · exact ⟨⟨_, Heap.get?_push_size _ rfl, rfl, rfl⟩, hl1.push _⟩
        · exact emp_tx (Heap.get?_push_of_some _ at0) (fun k => by simp)
        intro h' tk k S
        show wpAny _ _ _ _ _ _
        refine wpAny_pure ?_
        show wpAny _ _ (ret Value.none) _ _ _
        refine wpAny_pure ⟨rfl, h', tk, rfl, S, fun b o e => ?_⟩
        have b0 : b < s.heap.objs.size := Heap.lt_size e
        exact k b o (Nat.ne_of_lt b0) (by rw [z1]; exact Nat.ne_of_lt (Nat.lt_succ_of_lt b0)) (Heap.get?_push_of_some _ (Heap.get?_push_of_some _ e))
      · cases r2 with
        | error e => exact hr2
        | ok fl2 =>
          cases fl2 with
          | ret r =>
            obtain ⟨rfl, h', tk, rfl, S, k⟩ := hr2
            repeat (any_goals (first | assumption | wp_step))
            exact hQ _ _ S k
          | _ => exact hr2.elim
    | _ => exact hr.elim
end

/-! ### the expression -/
def tSortedL (K : PySem.W.Frag) (ta : TE) : TE := fun σ H Q => ta σ H fun v H1 => ∃ (p : Addr) (x : List Nat), v = .ref p ∧ SqL K H1 p ((x.map sg).map V.str) ∧ x.length + 1 < 4096 ∧ (sgn x).length < 64 ∧ New H1 (.lst (((sgn x).map sg).map V.str)) fun p H2 => Q (.ref p) H2
theorem vals_at {x : List Nat} : ∀ {its : List Value}, Vals ((x.map sg).map V.str) its → ∀ (i : Nat) (v : Value), its[i]? = some v → ∃ c u, x[i]? = some c ∧ v = Value.str (sg c) u := by
  induction x with
  | nil =>
    intro its h i v hv
    cases h
    simp at hv
  | cons c x ih =>
    intro its h i v hv
    rw [List.map_cons, List.map_cons] at h
    cases h with
    | cons h1 h2 =>
      cases i with
      | zero =>
        simp only [List.getElem?_cons_zero, Option.some.injEq] at hv
        subst hv
        obtain ⟨t, rfl⟩ := h1
        exact ⟨c, t, rfl, rfl⟩
      | succ i =>
        rw [List.getElem?_cons_succ] at hv ⊢
        exact ih h2 i v hv
theorem pet_sortedSetL {X : Cx} {a : Expr} {ta : TE} {p p2 q pos : Pos} (hc : X.calm = true) (hg : Gl X "sorted") (hm : X.mg "sorted" = none) (hg2 : Gl X "set") (hm2 : X.mg "set" = none) (ha : PET X a ta)
    (na : starEach [a] X.env = (false, eval a X.env) :: starEach [] X.env := by rfl) : PET X (.Call (.Name "sorted" p) [.Call (.Name "set" p2) [a] [] q] [] pos) (tSortedL X.K ta) := by
  intro pins s σ H Q h0 I h
  refine Call_ (ld_blt I hg hm boot_sorted ?_)
  refine PyProof.Rows.callWith_builtin1 (PyProof.Rows.args_cons ?_ rfl) rfl rfl
  refine Call_ (ld_blt I hg2 hm2 boot_set ?_)
  refine PyProof.Rows.callWith_type1 (PyProof.Rows.args_cons (thn (ha pins s σ H _ h0 I h) fun v s1 ⟨x, H1, I1, r1, q1⟩ => PyProof.Rows.args_nil ?_) na) na rfl
  obtain ⟨l, z, rfl, sq, room, h64, q1⟩ := q1
  cases r1
  have hd0 := I1.ok.hd hc
  obtain ⟨its, rv, pl, _⟩ := I1.list sq
  have hlen : its.length = z.length := by
    have := rv.length
    rw [List.length_map, List.length_map] at this
    exact this.symm
  refine set_of_list (x := z) pl.isList (vals_at rv) hlen hd0 room fun h' tk S k => PyProof.Rows.args_nil ?_
  have I2 : Inv X pins σ H1 { s1 with heap := h', toks := tk } := I1.kept fun b o e => k b o e
  obtain ⟨s2, es2, S2⟩ : ∃ s2 : Shared, s2 = { s1 with heap := h', toks := tk } ∧ TxS X.w s2.heap s1.heap.objs.size (z.map sg) z.length := ⟨_, rfl, S⟩
  rw [← es2] at I2 ⊢
  refine sorted_tx S2 hd0 h64 fun s' p its c k2 g2 o2 hp at2 ar => ?_
  have hz : (((sgn z).map sg).map V.str).length ≤ sizeLine := by rw [List.length_map, List.length_map, sizeLine_eq]; omega
  have hn : H1 p = none := I2.hok.fresh hp
  have J : Inv X pins σ (upd H1 p (.lst (((sgn z).map sg).map V.str))) { s2 with heap := s'.heap, gens := s'.gens, drawn := s'.drawn, toks := s'.toks } :=
    I2.call (ch := []) (Un.laid k2 hp hn) (I2.hok.laid k2 hp ⟨hz, its, c, vals_of_strs ar, at2⟩) (by rw [g2]; exact I2.bare) (fun _ z => nomatch z)
  have e : s' = { s2 with heap := s'.heap, gens := s'.gens, drawn := s'.drawn, toks := s'.toks } := by
    cases s'
    cases s2
    cases o2
    rfl
  rw [e]
  exact ⟨.ref p, _, J, rfl, q1.use p hn⟩
end Kx

set_option Elab.async false
set_option linter.all false
set_option maxRecDepth 100000
set_option maxHeartbeats 4000000
set_option autoImplicit false
/-! # list(text); sorted(set(list of signs)) -/
namespace Kx
open PySem PySem.Spec PyProof.Rows L2
def tListT (ta : TE) : TE := fun σ H Q => ta σ H fun v H1 => ∃ z : Str, v = .str z ∧ z.cps.size ≤ 16777216 ∧ New H1 (.lst (((cs z).map sg).map V.str)) fun p H2 => Q (.ref p) H2
theorem vals_signs {z : Str} {acc : Array Value} (h : ItemsOf (SignAt z) acc z.cps.size) : Vals (((cs z).map sg).map V.str) acc.toList := by
  have hsz := h.1
  refine vals_of_at (by rw [List.length_map, List.length_map, Array.length_toList]; simp [cs]; omega) fun j x u hx hu => ?_
  rw [Array.getElem?_toList] at hu
  obtain ⟨c, t, hc, rfl⟩ := h.2 j u hu
  rw [List.getElem?_map, List.getElem?_map] at hx
  have hcs : (cs z)[j]? = some c := by simpa [cs] using hc
  rw [hcs] at hx
  cases hx
  exact ⟨t, rfl⟩
theorem pet_listT {X : Cx} {a : Expr} {ta : TE} {p pos : Pos} (hc : X.calm = true) (hg : Gl X "list") (hm : X.mg "list" = none) (ha : PET X a ta) (na : starEach [a] X.env = (false, eval a X.env) :: starEach [] X.env := by rfl) : PET X (.Call (.Name "list" p) [a] [] pos) (tListT ta) := by
  intro pins s σ H Q h0 I h
  refine Call_ (ld_blt I hg hm boot_list (PyProof.Rows.callWith_type1 (args_cons (thn (ha pins s σ H _ h0 I h) fun v s1 ⟨x, H1, I1, r1, q1⟩ => args_nil ?_) na) na))
  obtain ⟨z, rfl, hz, q⟩ := q1
  obtain ⟨t, rfl⟩ := r1
  refine call_list_str (I1.ok.hd hc) z t (hn := by rw [sizeLine_eq]; omega) fun h' tk acc c' hk e' hi => ?_
  refine ⟨.ref s1.heap.objs.size, upd H1 s1.heap.objs.size (.lst (((cs z).map sg).map V.str)), I1.laid hk (Nat.le_refl _) (show ObjOk X.prog X.w _ _ _ (.lst (((cs z).map sg).map V.str)) from ⟨?_, acc.toList, c', vals_signs hi, ?_⟩), rfl, q.use _ (I1.hok.fresh (Nat.le_refl _))⟩
  · rw [List.length_map, List.length_map, sizeLine_eq]; simp [cs]; omega
  · rw [Array.toArray_toList]; exact e'
end Kx
namespace Dn
open PySem PySem.Spec PyProof.Rows L2 Kx
def ltxD : D → Hd → R D
  | .str l, S => if l.length ≤ 16777216 then alloc (.lst (chD l)) S else .stuck
  | _, _ => .stuck
/-- single signs -/
def sgsD : List D → Option (List Nat)
  | [] => some []
  | .str [c] :: r => (sgsD r).map (c :: ·)
  | _ => none
def ssLD : D → Hd → R D
  | .ref n, S => match lstAt S n with
    | some ds => match sgsD ds with
      | some x => if x.length + 1 < 4096 ∧ (sgn x).length < 64 then alloc (.lst ((sgn x).map fun c => .str [c])) S else .stuck
      | none => .stuck
    | none => .stuck
  | _, _ => .stuck
section
variable {G : Gc} {N : List Str} {cm : Md} {sc : Scope} {pos p p2 q : Pos} {ρ : List Addr} {S : Hd} {H : Hp} {e : Expr} {m : CE}
theorem sgs_ok : ∀ {ds : List D} {x : List Nat} {vs : List V}, sgsD ds = some x → Reps G.mg ρ H vs ds → vs = (x.map sg).map V.str
  | [], x, vs, h, r => by
    cases h
    cases r
    rfl
  | d :: ds, x, vs, h, r => by
    cases r with
    | cons r1 r2 =>
      cases r1 with
      | str hz =>
        rename_i z l
        match l, h, hz with
        | [c], h, hz =>
          unfold sgsD at h
          obtain ⟨y, hy, rfl⟩ := Option.map_eq_some_iff.mp h
          rw [sgs_ok hy r2]
          have e : z = sg c := by
            cases z with
            | mk a =>
              cases a with
              | mk b =>
                cases hz
                rfl
          rw [e]
          rfl
        | [], h, _ => cases h
        | _ :: _ :: _, h, _ => cases h
      | _ => cases h
theorem re1_lt (hc : cm.calm = true) (hm : G.mg "list" = none) (hg : glB sc "list" = true) (h : RE1 G N cm sc e m) (na : ∀ X : Cx, starEach [e] X.env = (false, eval e X.env) :: starEach [] X.env := by intro _; rfl) :
    RE1 G N cm sc (.Call (.Name "list" p) [e] [] pos) (cOp1 ltxD m) := fun X W c => by
  refine PET.imp (pet_listT (c.calm.trans hc) (glB_of c hg).1 (by rw [c.hmg]; exact hm) (h X W c) (na X)) fun σ H Q h0 => ?_
  obtain ⟨ρ, Γ, S, s, en, g⟩ := h0
  refine Fin.step s en g fun a S1 ρ1 H1 x g1 s1 e1 ra ga => ?_
  cases ra with
  | str hz =>
    rename_i z l
    dsimp only [ltxD] at ga
    split at ga
    · rename_i hl
      subst hz
      refine ⟨z, rfl, by simpa [cs] using hl, ?_⟩
      exact Fin.newL s1 (sg_reps _) ga
    · exact ga.elim
  | _ => exact ga.elim
theorem re1_ssL (hc : cm.calm = true) (hm : G.mg "sorted" = none) (hg : glB sc "sorted" = true) (hm2 : G.mg "set" = none) (hg2 : glB sc "set" = true) (h : RE1 G N cm sc e m) (na : ∀ X : Cx, starEach [e] X.env = (false, eval e X.env) :: starEach [] X.env := by intro _; rfl) :
    RE1 G N cm sc (.Call (.Name "sorted" p) [.Call (.Name "set" p2) [e] [] q] [] pos) (cOp1 ssLD m) := fun X W c => by
  refine PET.imp (pet_sortedSetL (c.calm.trans hc) (glB_of c hg).1 (by rw [c.hmg]; exact hm) (glB_of c hg2).1 (by rw [c.hmg]; exact hm2) (h X W c) (na X)) fun σ H Q h0 => ?_
  obtain ⟨ρ, Γ, S, s, en, g⟩ := h0
  refine Fin.step s en g fun a S1 ρ1 H1 x g1 s1 e1 ra ga => ?_
  cases ra with
  | ref hn =>
    dsimp only [ssLD] at ga
    split at ga
    · rename_i ds hds
      split at ga
      · rename_i x hx
        split at ga
        · rename_i hl
          obtain ⟨vs, h1, h2⟩ := s1.lsAt hn hds
          rw [sgs_ok hx h2] at h1
          refine ⟨_, x, rfl, by rw [c.hK]; exact h1, hl.1, hl.2, ?_⟩
          exact Fin.newL s1 (sg_reps _) ga
        · exact ga.elim
      · exact ga.elim
    · exact ga.elim
  | _ => exact ga.elim
end
end Dn

set_option Elab.async false
set_option linter.all false
set_option maxRecDepth 100000
set_option maxHeartbeats 4000000
set_option autoImplicit false

/-! # What the program means -/
namespace Dn
open PySem PySem.Spec PyProof.Rows L2 Kx
def at_ahead : List Str := ["Laid"]
def at_begin : List Str := ["Work", "Laid"]
def at_earlier : List Str := ["Desk"]
def at_lap : List Str := ["Laid"]
def at_length : List Str := ["Work", "Laid"]
def at_missed : List Str := ["Names"]
def at_parts : List Str := ["Work"]
def at_press : List Str := ["Work"]
def at_presses : List Str := ["Names", "Desk"]
def at_tally : List Str := ["Work"]
def at_within : List Str := ["Work"]
def tab_ROLLS : List (List Nat × Str) := [([119, 104, 101, 101, 108], "roll_wheel"), ([116, 117, 114, 110, 101, 100], "roll_turned"), ([111, 118, 101, 114], "roll_over"), ([99, 117, 116], "roll_cut"), ([104, 101, 108, 100], "roll_held"), ([116, 97, 107, 105, 110, 103], "roll_taking"), ([116, 104, 101, 110], "roll_then"), ([100, 121, 101, 100], "roll_dyed")]
def tab_RECKONS : List (List Nat × Str) := [([119, 104, 101, 101, 108], "reckon_wheel"), ([116, 117, 114, 110, 101, 100], "reckon_turned"), ([111, 118, 101, 114], "reckon_over"), ([99, 117, 116], "reckon_cut"), ([104, 101, 108, 100], "reckon_held"), ([116, 97, 107, 105, 110, 103], "reckon_taking"), ([116, 104, 101, 110], "reckon_then"), ([100, 121, 101, 100], "reckon_dyed")]
def rolls : List Str := ["roll_wheel", "roll_turned", "roll_over", "roll_cut", "roll_held", "roll_taking", "roll_then", "roll_dyed"]
def reckons : List Str := ["reckon_wheel", "reckon_turned", "reckon_over", "reckon_cut", "reckon_held", "reckon_taking", "reckon_then", "reckon_dyed"]
def N_is_row : List Str := ["thing"]
def m_is_row (call : Calls) : List D → Hd → R D := mkFn 1 1 ((cRet (cBlt isiD (cConsA (cVar 0) (cConsA (cTup (cConsA (cC (.ty "list")) (cConsA (cC (.ty "tuple")) cNilA))) cNilA)))))
def N_is_whole : List Str := ["thing", "least"]
def m_is_whole (call : Calls) : List D → Hd → R D := mkFn 2 2 ((cRet (cAnd (cBlt isiD (cConsA (cVar 0) (cConsA (cC (.ty "int")) cNilA))) (cAnd (cNot (cBlt isiD (cConsA (cVar 0) (cConsA (cC (.ty "bool")) cNilA)))) (cOp2 geD (cVar 0) (cVar 1))))))
def N_is_mark : List Str := ["thing"]
def m_is_mark (call : Calls) : List D → Hd → R D := mkFn 1 1 ((cRet (cAnd (cBlt isiD (cConsA (cVar 0) (cConsA (cC (.ty "str")) cNilA))) (cAnd (cOp2 (eqD false) (cBlt lenD (cConsA (cVar 0) cNilA)) (cC (.int 1))) (cChain leD leD (cC (.str [97])) (cVar 0) (cC (.str [122])))))))
def N_is_mark_or_none : List Str := ["thing"]
def m_is_mark_or_none (call : Calls) : List D → Hd → R D := mkFn 1 1 ((cRet (cOr (cCall call "is_mark" (cArgs 1 (cConsA (cVar 0) cNilA))) (cOp2 (eqD false) (cVar 0) (cC (.str [46]))))))
def m_is_rim (call : Calls) : List D → Hd → R D := mkFn 1 1 (cRet (cAnd (cBlt isiD (cConsA (cVar 0) (cConsA (cC (.ty "str")) cNilA))) (cAnd (cOp2 gtD (cBlt lenD (cConsA (cVar 0) cNilA)) (cC (.int 0))) (cAllS mkN (cVar 0)))))
def N_rolled : List Str := ["work", "first", "many", "roll"]
def m_rolled (call : Calls) : List D → Hd → R D := mkFn 4 3 ((cSeq (cSet 3 (cTab tab_ROLLS (cOp2 ixD (cOp1 (getAt at_press "press") (cVar 0)) (cC (.int 0)))))
    (cRet (cCallV call 3 rolls (cArgs 3 (cConsA (cVar 0) (cConsA (cVar 1) (cConsA (cVar 2) cNilA))))))))
def N_marks_ahead : List Str := ["cam", "place", "rounds", "rest", "in_round"]
def m_marks_ahead (call : Calls) : List D → Hd → R D := mkFn 5 2 ((cSeq (cIfS (cTruB (cOp2 ltD (cVar 1) (cOp1 (getAt at_begin "begin") (cVar 0)))) (cRet (cOp2 ixD (cOp1 (getAt at_tally "tally") (cVar 0)) (cVar 1))) cNil)
    (cSeq (cAsgT (cBlt divmodD (cConsA (cOp2 subD (cVar 1) (cOp1 (getAt at_begin "begin") (cVar 0))) (cConsA (cOp1 (getAt at_length "length") (cVar 0)) cNilA))) (gTupG 2 (gConsG (gN 2) (gConsG (gN 3) gNilG))))
    (cSeq (cSet 4 (cOp2 subD (cOp2 ixD (cOp1 (getAt at_tally "tally") (cVar 0)) (cOp2 addD (cOp1 (getAt at_begin "begin") (cVar 0)) (cOp1 (getAt at_length "length") (cVar 0)))) (cOp2 ixD (cOp1 (getAt at_tally "tally") (cVar 0)) (cOp1 (getAt at_begin "begin") (cVar 0)))))
    (cRet (cOp2 addD (cOp2 ixD (cOp1 (getAt at_tally "tally") (cVar 0)) (cOp2 addD (cOp1 (getAt at_begin "begin") (cVar 0)) (cVar 3))) (cOp2 mulD (cVar 2) (cVar 4))))))))
def N_tally_of : List Str := ["cam", "tally", "marks", "sign"]
def m_tally_of (call : Calls) : List D → Hd → R D := mkFn 4 1 ((cSeq (cSet 1 (cLst (cConsA (cC (.int 0)) cNilA)))
    (cSeq (cSet 2 (cC (.int 0)))
    (cSeq (cFor (cSrc (cCall call "rolled" (cArgs 3 (cConsA (cVar 0) (cConsA (cC (.int 0)) (cConsA (cOp2 addD (cOp1 (getAt at_begin "begin") (cVar 0)) (cOp1 (getAt at_length "length") (cVar 0))) cNilA)))))) (gN 3) (cSeq (cIfS (cTruB (cOp2 (eqD true) (cVar 3) (cC (.str [46])))) (cAug 2 (fun i j => i + j) (cC (.int 1))) cNil)
    (cExp (cMt "list" isLstD appD (cVar 1) (cConsA (cVar 2) cNilA)))))
    (cRet (cVar 1))))))
def N_roll_wheel : List Str := ["work", "first", "many", "rim", "at", "rounds"]
def m_roll_wheel (call : Calls) : List D → Hd → R D := mkFn 6 3 ((cSeq (cSet 3 (cOp2 ixD (cOp1 (getAt at_press "press") (cVar 0)) (cC (.int 1))))
    (cSeq (cSet 4 (cOp2 modD (cVar 1) (cBlt lenD (cConsA (cVar 3) cNilA))))
    (cSeq (cSet 5 (cOp2 addD (cOp2 fdivD (cOp2 addD (cVar 4) (cVar 2)) (cBlt lenD (cConsA (cVar 3) cNilA))) (cC (.int 1))))
    (cRet (cSl (cOp2 mulD (cVar 3) (cVar 5)) (cPart (cVar 4)) (cPart (cOp2 addD (cVar 4) (cVar 2)))))))))
def N_roll_turned : List Str := ["work", "first", "many"]
def m_roll_turned (call : Calls) : List D → Hd → R D := mkFn 3 3 ((cRet (cCall call "rolled" (cArgs 3 (cConsA (cOp2 ixD (cOp1 (getAt at_within "within") (cVar 0)) (cC (.int 0))) (cConsA (cOp2 addD (cVar 1) (cOp2 ixD (cOp1 (getAt at_press "press") (cVar 0)) (cC (.int 2)))) (cConsA (cVar 2) cNilA)))))))
def N_roll_over : List Str := ["work", "first", "many", "lower", "upper", "low", "high"]
def m_roll_over (call : Calls) : List D → Hd → R D := mkFn 7 3 ((cSeq (cSet 3 (cCall call "rolled" (cArgs 3 (cConsA (cOp2 ixD (cOp1 (getAt at_within "within") (cVar 0)) (cC (.int 0))) (cConsA (cVar 1) (cConsA (cVar 2) cNilA))))))
    (cSeq (cSet 4 (cCall call "rolled" (cArgs 3 (cConsA (cOp2 ixD (cOp1 (getAt at_within "within") (cVar 0)) (cC (.int 1))) (cConsA (cVar 1) (cConsA (cVar 2) cNilA))))))
    (cRet (cMt "str" isStrD joinD (cC (.str [])) (cConsA (cLc (cZip (cConsA (cVar 3) (cConsA (cVar 4) cNilA))) (gTupG 2 (gConsG (gN 5) (gConsG (gN 6) gNilG))) cYes (cIf (cTruB (cOp2 (eqD false) (cVar 6) (cC (.str [46])))) (cVar 5) (cVar 6)) [5, 6]) cNilA))))))
def N_roll_cut : List Str := ["work", "first", "many", "printed", "lifts", "sign", "lift"]
def m_roll_cut (call : Calls) : List D → Hd → R D := mkFn 7 3 ((cSeq (cSet 3 (cCall call "rolled" (cArgs 3 (cConsA (cOp2 ixD (cOp1 (getAt at_within "within") (cVar 0)) (cC (.int 0))) (cConsA (cVar 1) (cConsA (cVar 2) cNilA))))))
    (cSeq (cSet 4 (cCall call "rolled" (cArgs 3 (cConsA (cOp2 ixD (cOp1 (getAt at_within "within") (cVar 0)) (cC (.int 1))) (cConsA (cVar 1) (cConsA (cVar 2) cNilA))))))
    (cRet (cMt "str" isStrD joinD (cC (.str [])) (cConsA (cLc (cZip (cConsA (cVar 3) (cConsA (cVar 4) cNilA))) (gTupG 2 (gConsG (gN 5) (gConsG (gN 6) gNilG))) cYes (cIf (cTruB (cOp2 (eqD false) (cVar 6) (cC (.str [46])))) (cC (.str [46])) (cVar 5)) [5, 6]) cNilA))))))
def N_roll_held : List Str := ["work", "first", "many", "press", "cam", "lifts", "printed", "told", "used", "lift"]
def m_roll_held (call : Calls) : List D → Hd → R D := mkFn 10 3 ((cSeq (cAsgT (cOp1 (getAt at_within "within") (cVar 0)) (gTupG 2 (gConsG (gN 3) (gConsG (gN 4) gNilG))))
    (cSeq (cSet 5 (cCall call "rolled" (cArgs 3 (cConsA (cVar 4) (cConsA (cVar 1) (cConsA (cVar 2) cNilA))))))
    (cSeq (cSet 6 (cCall call "rolled" (cArgs 3 (cConsA (cVar 3) (cConsA (cCall call "marks_ahead" (cArgs 2 (cConsA (cVar 4) (cConsA (cVar 1) cNilA)))) (cConsA (cOp2 subD (cVar 2) (cMt "str" isStrD countD (cVar 5) (cConsA (cC (.str [46])) cNilA))) cNilA))))))
    (cSeq (cSet 7 (cLst cNilA))
    (cSeq (cSet 8 (cC (.int 0)))
    (cSeq (cFor (cSrc (cVar 5)) (gN 9) (cIfS (cTruB (cOp2 (eqD false) (cVar 9) (cC (.str [46])))) (cExp (cMt "list" isLstD appD (cVar 7) (cConsA (cC (.str [46])) cNilA))) (cSeq (cExp (cMt "list" isLstD appD (cVar 7) (cConsA (cOp2 ixD (cVar 6) (cVar 8)) cNilA)))
    (cAug 8 (fun i j => i + j) (cC (.int 1))))))
    (cRet (cMt "str" isStrD joinD (cC (.str [])) (cConsA (cVar 7) cNilA))))))))))
def N_roll_taking : List Str := ["work", "first", "many", "turns", "printed", "at", "part", "begin", "pair"]
def m_roll_taking (call : Calls) : List D → Hd → R D := mkFn 9 3 ((cSeq (cSet 3 (cLc (cSrc (cOp2 ixD (cOp1 (getAt at_press "press") (cVar 0)) (cC (.int 1)))) (gN 8) cYes (cOp2 ixD (cVar 8) (cC (.int 1))) [8]))
    (cSeq (cSet 4 (cLst cNilA))
    (cSeq (cFor (cEnum (cConsA (cOp1 (getAt at_within "within") (cVar 0)) cNilA)) (gTupG 2 (gConsG (gN 5) (gConsG (gN 6) gNilG))) (cSeq (cSet 7 (cCall call "places_ahead" (cArgs 3 (cConsA (cVar 3) (cConsA (cVar 5) (cConsA (cVar 1) cNilA))))))
    (cExp (cMt "list" isLstD appD (cVar 4) (cConsA (cCall call "rolled" (cArgs 3 (cConsA (cVar 6) (cConsA (cVar 7) (cConsA (cOp2 subD (cCall call "places_ahead" (cArgs 3 (cConsA (cVar 3) (cConsA (cVar 5) (cConsA (cOp2 addD (cVar 1) (cVar 2)) cNilA))))) (cVar 7)) cNilA))))) cNilA)))))
    (cRet (cCall call "by_turns" (cArgs 4 (cConsA (cVar 3) (cConsA (cVar 4) (cConsA (cVar 1) (cConsA (cVar 2) cNilA)))))))))))
def N_places_ahead : List Str := ["turns", "at", "place", "rounds", "rest", "begun"]
def m_places_ahead (call : Calls) : List D → Hd → R D := mkFn 6 3 ((cSeq (cAsgT (cBlt divmodD (cConsA (cVar 2) (cConsA (cBlt sumD (cConsA (cVar 0) cNilA)) cNilA))) (gTupG 2 (gConsG (gN 3) (gConsG (gN 4) gNilG))))
    (cSeq (cSet 5 (cOp2 subD (cVar 4) (cBlt sumD (cConsA (cSl (cVar 0) cNoPart (cPart (cVar 1))) cNilA))))
    (cRet (cOp2 addD (cOp2 mulD (cVar 3) (cOp2 ixD (cVar 0) (cVar 1))) (cBlt minD (cConsA (cBlt maxD (cConsA (cVar 5) (cConsA (cC (.int 0)) cNilA))) (cConsA (cOp2 ixD (cVar 0) (cVar 1)) cNilA))))))))
def N_by_turns : List Str := ["turns", "printed", "first", "many", "left", "at", "used", "told", "run"]
def m_by_turns (call : Calls) : List D → Hd → R D := mkFn 9 4 ((cSeq (cSet 4 (cOp2 modD (cVar 2) (cBlt sumD (cConsA (cVar 0) cNilA))))
    (cSeq (cSet 5 (cC (.int 0)))
    (cSeq (cWhile (cTruB (cOp2 geD (cVar 4) (cOp2 ixD (cVar 0) (cVar 5)))) (cSeq (cAug 4 (fun i j => i - j) (cOp2 ixD (cVar 0) (cVar 5)))
    (cAug 5 (fun i j => i + j) (cC (.int 1)))))
    (cSeq (cSet 6 (cOp2 mulD (cLst (cConsA (cC (.int 0)) cNilA)) (cBlt lenD (cConsA (cVar 0) cNilA))))
    (cSeq (cSet 7 (cLst cNilA))
    (cSeq (cWhile (cTruB (cOp2 gtD (cVar 3) (cC (.int 0)))) (cSeq (cSet 8 (cBlt minD (cConsA (cOp2 subD (cOp2 ixD (cVar 0) (cVar 5)) (cVar 4)) (cConsA (cVar 3) cNilA))))
    (cSeq (cExp (cMt "list" isLstD appD (cVar 7) (cConsA (cSl (cOp2 ixD (cVar 1) (cVar 5)) (cPart (cOp2 ixD (cVar 6) (cVar 5))) (cPart (cOp2 addD (cOp2 ixD (cVar 6) (cVar 5)) (cVar 8)))) cNilA)))
    (cSeq (cAugIx (fun i j => i + j) (cVar 6) (cVar 5) (cVar 8))
    (cSeq (cAug 3 (fun i j => i - j) (cVar 8))
    (cSeq (cSet 4 (cC (.int 0)))
    (cSet 5 (cOp2 modD (cOp2 addD (cVar 5) (cC (.int 1))) (cBlt lenD (cConsA (cVar 0) cNilA))))))))))
    (cRet (cMt "str" isStrD joinD (cC (.str [])) (cConsA (cVar 7) cNilA))))))))))
def N_roll_then : List Str := ["work", "first", "many", "ahead", "of_first", "printed"]
def m_roll_then (call : Calls) : List D → Hd → R D := mkFn 6 3 ((cSeq (cSet 3 (cOp2 ixD (cOp1 (getAt at_press "press") (cVar 0)) (cC (.int 2))))
    (cSeq (cSet 4 (cBlt minD (cConsA (cBlt maxD (cConsA (cOp2 subD (cVar 3) (cVar 1)) (cConsA (cC (.int 0)) cNilA))) (cConsA (cVar 2) cNilA))))
    (cSeq (cSet 5 (cCall call "rolled" (cArgs 3 (cConsA (cOp2 ixD (cOp1 (getAt at_within "within") (cVar 0)) (cC (.int 0))) (cConsA (cVar 1) (cConsA (cVar 4) cNilA))))))
    (cRet (cOp2 addD (cVar 5) (cCall call "rolled" (cArgs 3 (cConsA (cOp2 ixD (cOp1 (getAt at_within "within") (cVar 0)) (cC (.int 1))) (cConsA (cBlt maxD (cConsA (cOp2 subD (cVar 1) (cVar 3)) (cConsA (cC (.int 0)) cNilA))) (cConsA (cOp2 subD (cVar 2) (cVar 4)) cNilA)))))))))))
def N_roll_dyed : List Str := ["work", "first", "many", "dyes", "old", "new", "sign"]
def m_roll_dyed (call : Calls) : List D → Hd → R D := mkFn 7 3 (cStuckS)
def N_Work_init : List Str := ["self", "press", "within", "part"]
def m_Work_init (call : Calls) : List D → Hd → R D := mkFn 4 3 ((cSeq (cSetAt at_press "press" (cVar 0) (cVar 1))
    (cSeq (cSetAt at_within "within" (cVar 0) (cVar 2))
    (cSeq (cSetAt at_parts "parts" (cVar 0) (cOp2 addD (cC (.int 1)) (cBlt sumD (cConsA (cLc (cSrc (cVar 2)) (gN 3) cYes (cOp1 (getAt at_parts "parts") (cVar 3)) [3]) cNilA))))
    (cSeq (cSetAt at_begin "begin" (cVar 0) (cC (.int 0)))
    (cSeq (cSetAt at_length "length" (cVar 0) (cC (.int 1)))
    (cSetAt at_tally "tally" (cVar 0) (cC .non))))))))
def N_work_of : List Str := ["press", "work", "reckon", "part"]
def m_work_of (call : Calls) : List D → Hd → R D := mkFn 4 1 ((cSeq (cSet 1 (cMake call "Work" "Work.__init__" (cArgs 2 (cConsA (cVar 0) (cConsA (cLc (cSrc (cCall call "presses_within" (cArgs 1 (cConsA (cVar 0) cNilA)))) (gN 3) cYes (cCall call "work_of" (cArgs 1 (cConsA (cVar 3) cNilA))) [3]) cNilA)))))
    (cSeq (cSet 2 (cTab tab_RECKONS (cOp2 ixD (cVar 0) (cC (.int 0)))))
    (cSeq (cAsgT (cCallV call 2 reckons (cArgs 1 (cConsA (cVar 1) cNilA))) (gTupG 2 (gConsG (gAttrG at_begin "begin" (cVar 1)) (gConsG (gAttrG at_length "length" (cVar 1)) gNilG))))
    (cRet (cVar 1))))))
def N_presses_within : List Str := ["press", "inner", "pairs", "other", "pair"]
def m_presses_within (call : Calls) : List D → Hd → R D := mkFn 5 1 ((cMatch (cVar 0) (ccCons N_presses_within (pSeq 2 (psCons (pStr [119, 104, 101, 101, 108]) (psCons pAny psNil))) (cRet (cLst cNilA)) (ccCons N_presses_within (pSeq 3 (psCons (pOr (pStr [116, 117, 114, 110, 101, 100]) (pOr (pStr [100, 121, 101, 100]) pNone)) (psCons (pCap "inner") (psCons pAny psNil)))) (cRet (cLst (cConsA (cVar 1) cNilA))) (ccCons N_presses_within (pSeq 2 (psCons (pStr [116, 97, 107, 105, 110, 103]) (psCons (pCap "pairs") psNil))) (cRet (cLc (cSrc (cVar 2)) (gN 4) cYes (cOp2 ixD (cVar 4) (cC (.int 0))) [4])) (ccCons N_presses_within (pSeq 4 (psCons (pStr [116, 104, 101, 110]) (psCons (pCap "inner") (psCons pAny (psCons (pCap "other") psNil))))) (cRet (cLst (cConsA (cVar 1) (cConsA (cVar 3) cNilA)))) (ccCons N_presses_within (pSeq 3 (psCons pAny (psCons (pCap "inner") (psCons (pCap "other") psNil)))) (cRet (cLst (cConsA (cVar 1) (cConsA (cVar 3) cNilA)))) ccNil)))))))
def N_check_short : List Str := ["begin", "length"]
def m_check_short (call : Calls) : List D → Hd → R D := mkFn 2 2 ((cIfS (cTruB (cOp2 gtD (cOp2 addD (cVar 0) (cVar 1)) (cC (.int 100000)))) (cRaise "TooLong") cNil))
def N_together : List Str := ["one", "other"]
def m_together (call : Calls) : List D → Hd → R D := mkFn 2 2 ((cRet (cTup (cConsA (cBlt maxD (cConsA (cOp1 (getAt at_begin "begin") (cVar 0)) (cConsA (cOp1 (getAt at_begin "begin") (cVar 1)) cNilA))) (cConsA (cBlt lcmD (cConsA (cOp1 (getAt at_length "length") (cVar 0)) (cConsA (cOp1 (getAt at_length "length") (cVar 1)) cNilA))) cNilA)))))
def N_times_to : List Str := ["amount", "step"]
def m_times_to (call : Calls) : List D → Hd → R D := mkFn 2 2 ((cRet (cBlt maxD (cConsA (cC (.int 0)) (cConsA (cOp1 negD (cOp2 fdivD (cOp1 negD (cVar 0)) (cVar 1))) cNilA)))))
def N_reckon_wheel : List Str := ["work"]
def m_reckon_wheel (call : Calls) : List D → Hd → R D := mkFn 1 1 ((cRet (cTup (cConsA (cC (.int 0)) (cConsA (cBlt lenD (cConsA (cOp2 ixD (cOp1 (getAt at_press "press") (cVar 0)) (cC (.int 1))) cNilA)) cNilA)))))
def N_reckon_turned : List Str := ["work", "inner"]
def m_reckon_turned (call : Calls) : List D → Hd → R D := mkFn 2 1 ((cSeq (cSet 1 (cOp2 ixD (cOp1 (getAt at_within "within") (cVar 0)) (cC (.int 0))))
    (cRet (cTup (cConsA (cBlt maxD (cConsA (cC (.int 0)) (cConsA (cOp2 subD (cOp1 (getAt at_begin "begin") (cVar 1)) (cOp2 ixD (cOp1 (getAt at_press "press") (cVar 0)) (cC (.int 2)))) cNilA))) (cConsA (cOp1 (getAt at_length "length") (cVar 1)) cNilA))))))
def N_reckon_dyed : List Str := ["work", "inner"]
def m_reckon_dyed (call : Calls) : List D → Hd → R D := mkFn 2 1 ((cSeq (cSet 1 (cOp2 ixD (cOp1 (getAt at_within "within") (cVar 0)) (cC (.int 0))))
    (cRet (cTup (cConsA (cOp1 (getAt at_begin "begin") (cVar 1)) (cConsA (cOp1 (getAt at_length "length") (cVar 1)) cNilA))))))
def N_reckon_over : List Str := ["work", "one", "other"]
def m_reckon_over (call : Calls) : List D → Hd → R D := mkFn 3 1 ((cSeq (cAsgT (cOp1 (getAt at_within "within") (cVar 0)) (gTupG 2 (gConsG (gN 1) (gConsG (gN 2) gNilG))))
    (cRet (cCall call "together" (cArgs 2 (cConsA (cVar 1) (cConsA (cVar 2) cNilA)))))))
def N_reckon_cut : List Str := ["work", "press", "cam"]
def m_reckon_cut (call : Calls) : List D → Hd → R D := mkFn 3 1 ((cSeq (cAsgT (cOp1 (getAt at_within "within") (cVar 0)) (gTupG 2 (gConsG (gN 1) (gConsG (gN 2) gNilG))))
    (cSeq (cExp (cCall call "check_short" (cArgs 2 (cConsA (cOp1 (getAt at_begin "begin") (cVar 2)) (cConsA (cOp1 (getAt at_length "length") (cVar 2)) cNilA)))))
    (cRet (cCall call "together" (cArgs 2 (cConsA (cVar 1) (cConsA (cVar 2) cNilA))))))))
def N_reckon_held : List Str := ["work", "inner", "cam", "ahead", "in_round", "rounds"]
def m_reckon_held (call : Calls) : List D → Hd → R D := mkFn 6 1 ((cSeq (cAsgT (cOp1 (getAt at_within "within") (cVar 0)) (gTupG 2 (gConsG (gN 1) (gConsG (gN 2) gNilG))))
    (cSeq (cExp (cCall call "check_short" (cArgs 2 (cConsA (cOp1 (getAt at_begin "begin") (cVar 2)) (cConsA (cOp1 (getAt at_length "length") (cVar 2)) cNilA)))))
    (cSeq (cSetAt at_tally "tally" (cVar 2) (cCall call "tally_of" (cArgs 1 (cConsA (cVar 2) cNilA))))
    (cSeq (cSet 3 (cOp2 ixD (cOp1 (getAt at_tally "tally") (cVar 2)) (cOp1 (getAt at_begin "begin") (cVar 2))))
    (cSeq (cSet 4 (cOp2 subD (cOp2 ixD (cOp1 (getAt at_tally "tally") (cVar 2)) (cOp2 addD (cOp1 (getAt at_begin "begin") (cVar 2)) (cOp1 (getAt at_length "length") (cVar 2)))) (cVar 3)))
    (cSeq (cIfS (cTruB (cOp2 (eqD false) (cVar 4) (cC (.int 0)))) (cRet (cTup (cConsA (cOp1 (getAt at_begin "begin") (cVar 2)) (cConsA (cC (.int 1)) cNilA)))) cNil)
    (cSeq (cSet 5 (cCall call "times_to" (cArgs 2 (cConsA (cOp2 subD (cOp1 (getAt at_begin "begin") (cVar 1)) (cVar 3)) (cConsA (cVar 4) cNilA)))))
    (cRet (cTup (cConsA (cOp2 addD (cOp1 (getAt at_begin "begin") (cVar 2)) (cOp2 mulD (cOp1 (getAt at_length "length") (cVar 2)) (cVar 5))) (cConsA (cOp2 mulD (cOp1 (getAt at_length "length") (cVar 2)) (cOp2 fdivD (cOp1 (getAt at_length "length") (cVar 1)) (cBlt gcdD (cConsA (cOp1 (getAt at_length "length") (cVar 1)) (cConsA (cVar 4) cNilA))))) cNilA))))))))))))
def N_reckon_taking : List Str := ["work", "whole_turn", "rounds", "length", "part", "pair", "turn"]
def m_reckon_taking (call : Calls) : List D → Hd → R D := mkFn 7 1 ((cSeq (cSet 1 (cC (.int 0)))
    (cSeq (cSet 2 (cC (.int 0)))
    (cSeq (cSet 3 (cC (.int 1)))
    (cSeq (cFor (cZip (cConsA (cOp1 (getAt at_within "within") (cVar 0)) (cConsA (cOp2 ixD (cOp1 (getAt at_press "press") (cVar 0)) (cC (.int 1))) cNilA))) (gTupG 2 (gConsG (gN 4) (gConsG (gN 5) gNilG))) (cSeq (cSet 6 (cOp2 ixD (cVar 5) (cC (.int 1))))
    (cSeq (cAug 1 (fun i j => i + j) (cVar 6))
    (cSeq (cSet 2 (cBlt maxD (cConsA (cVar 2) (cConsA (cCall call "times_to" (cArgs 2 (cConsA (cOp1 (getAt at_begin "begin") (cVar 4)) (cConsA (cVar 6) cNilA)))) cNilA))))
    (cSet 3 (cBlt lcmD (cConsA (cVar 3) (cConsA (cOp2 fdivD (cOp1 (getAt at_length "length") (cVar 4)) (cBlt gcdD (cConsA (cOp1 (getAt at_length "length") (cVar 4)) (cConsA (cVar 6) cNilA)))) cNilA))))))))
    (cRet (cTup (cConsA (cOp2 mulD (cVar 1) (cVar 2)) (cConsA (cOp2 mulD (cVar 1) (cVar 3)) cNilA)))))))))
def N_reckon_then : List Str := ["work", "other"]
def m_reckon_then (call : Calls) : List D → Hd → R D := mkFn 2 1 ((cSeq (cSet 1 (cOp2 ixD (cOp1 (getAt at_within "within") (cVar 0)) (cC (.int 1))))
    (cRet (cTup (cConsA (cOp2 addD (cOp2 ixD (cOp1 (getAt at_press "press") (cVar 0)) (cC (.int 2))) (cOp1 (getAt at_begin "begin") (cVar 1))) (cConsA (cOp1 (getAt at_length "length") (cVar 1)) cNilA))))))
def N_press_of : List Str := ["thing"]
def m_press_of (call : Calls) : List D → Hd → R D := mkFn 1 1 ((cRet (cOp1 (getAt at_press "press") (cCall call "work_from" (cArgs 1 (cConsA (cVar 0) cNilA))))))
def N_parts_in : List Str := ["press"]
def m_parts_in (call : Calls) : List D → Hd → R D := mkFn 1 1 ((cRet (cOp1 (getAt at_parts "parts") (cCall call "work_from" (cArgs 1 (cConsA (cVar 0) cNilA))))))
def N_work_from : List Str := ["thing"]
def m_work_from (call : Calls) : List D → Hd → R D := mkFn 1 1 ((cRet (cCall call "work_of" (cArgs 1 (cConsA (cCall call "copied" (cArgs 2 (cConsA (cVar 0) (cConsA (cLst cNilA) cNilA)))) cNilA)))))
def N_copied : List Str := ["thing", "found", "rim", "inner", "many", "other", "pairs"]
def m_copied (call : Calls) : List D → Hd → R D := mkFn 7 2 ((cSeq (cIfS (cOrT (cNotT (cTru (cCall call "is_row" (cArgs 1 (cConsA (cVar 0) cNilA))))) (cTruB (cOp2 (eqD false) (cBlt lenD (cConsA (cVar 1) cNilA)) (cC (.int 12))))) (cRaise "NoPress") cNil)
    (cSeq (cExp (cMt "list" isLstD appD (cVar 1) (cConsA (cC (.bl true)) cNilA)))
    (cMatch (cVar 0) (ccCons N_copied (pSeq 2 (psCons (pStr [119, 104, 101, 101, 108]) (psCons (pCap "rim") psNil))) (cRet (cTup (cConsA (cC (.str [119, 104, 101, 101, 108])) (cConsA (cCall call "checked_rim" (cArgs 1 (cConsA (cVar 2) cNilA))) cNilA)))) (ccCons N_copied (pSeq 3 (psCons (pStr [116, 117, 114, 110, 101, 100]) (psCons (pCap "inner") (psCons (pCap "many") psNil)))) (cRet (cTup (cConsA (cC (.str [116, 117, 114, 110, 101, 100])) (cConsA (cCall call "copied" (cArgs 2 (cConsA (cVar 3) (cConsA (cVar 1) cNilA)))) (cConsA (cCall call "checked_whole" (cArgs 2 (cConsA (cVar 4) (cConsA (cC (.int 0)) cNilA)))) cNilA))))) (ccCons N_copied (pSeq 3 (psCons (pOr (pStr [111, 118, 101, 114]) (pOr (pStr [99, 117, 116]) (pOr (pStr [104, 101, 108, 100]) pNone))) (psCons (pCap "inner") (psCons (pCap "other") psNil)))) (cRet (cTup (cConsA (cOp2 ixD (cVar 0) (cC (.int 0))) (cConsA (cCall call "copied" (cArgs 2 (cConsA (cVar 3) (cConsA (cVar 1) cNilA)))) (cConsA (cCall call "copied" (cArgs 2 (cConsA (cVar 5) (cConsA (cVar 1) cNilA)))) cNilA))))) (ccCons N_copied (pSeq 2 (psCons (pStr [116, 97, 107, 105, 110, 103]) (psCons (pCap "pairs") psNil))) (cRet (cTup (cConsA (cC (.str [116, 97, 107, 105, 110, 103])) (cConsA (cCall call "copied_turns" (cArgs 2 (cConsA (cVar 6) (cConsA (cVar 1) cNilA)))) cNilA)))) (ccCons N_copied (pSeq 4 (psCons (pStr [116, 104, 101, 110]) (psCons (pCap "inner") (psCons (pCap "many") (psCons (pCap "other") psNil))))) (cRet (cTup (cConsA (cC (.str [116, 104, 101, 110])) (cConsA (cCall call "copied" (cArgs 2 (cConsA (cVar 3) (cConsA (cVar 1) cNilA)))) (cConsA (cCall call "checked_whole" (cArgs 2 (cConsA (cVar 4) (cConsA (cC (.int 0)) cNilA)))) (cConsA (cCall call "copied" (cArgs 2 (cConsA (cVar 5) (cConsA (cVar 1) cNilA)))) cNilA)))))) (ccCons N_copied (pSeq 3 (psCons (pStr [100, 121, 101, 100]) (psCons (pCap "inner") (psCons (pCap "pairs") psNil)))) (cRet (cTup (cConsA (cC (.str [100, 121, 101, 100])) (cConsA (cCall call "copied" (cArgs 2 (cConsA (cVar 3) (cConsA (cVar 1) cNilA)))) (cConsA (cCall call "copied_dyes" (cArgs 1 (cConsA (cVar 6) cNilA))) cNilA))))) (ccCons N_copied pAny (cRaise "NoPress") ccNil)))))))))))
def N_checked_rim : List Str := ["rim"]
def m_checked_rim (call : Calls) : List D → Hd → R D := mkFn 1 1 ((cSeq (cIfS (cNotT (cTru (cCall call "is_rim" (cArgs 1 (cConsA (cVar 0) cNilA))))) (cRaise "NoPress") cNil)
    (cRet (cVar 0))))
def N_checked_whole : List Str := ["many", "least"]
def m_checked_whole (call : Calls) : List D → Hd → R D := mkFn 2 2 ((cSeq (cIfS (cNotT (cTru (cCall call "is_whole" (cArgs 2 (cConsA (cVar 0) (cConsA (cVar 1) cNilA)))))) (cRaise "NoPress") cNil)
    (cRet (cVar 0))))
def N_checked_pairs : List Str := ["pairs", "pair"]
def m_checked_pairs (call : Calls) : List D → Hd → R D := mkFn 2 1 ((cSeq (cIfS (cNotT (cTru (cCall call "is_row" (cArgs 1 (cConsA (cVar 0) cNilA))))) (cRaise "NoPress") cNil)
    (cSeq (cFor (cSrc (cVar 0)) (gN 1) (cIfS (cOrT (cNotT (cTru (cCall call "is_row" (cArgs 1 (cConsA (cVar 1) cNilA))))) (cTruB (cOp2 (eqD true) (cBlt lenD (cConsA (cVar 1) cNilA)) (cC (.int 2))))) (cRaise "NoPress") cNil))
    (cRet (cVar 0)))))
def N_copied_turns : List Str := ["pairs", "found", "turns", "inner", "many"]
def m_copied_turns (call : Calls) : List D → Hd → R D := mkFn 5 2 ((cSeq (cSet 2 (cCall call "checked_pairs" (cArgs 1 (cConsA (cVar 0) cNilA))))
    (cSeq (cIfS (cNotT (cTruB (cChain leD leD (cC (.int 2)) (cBlt lenD (cConsA (cVar 2) cNilA)) (cC (.int 6))))) (cRaise "NoPress") cNil)
    (cRet (cBlt tupleD (cConsA (cLc (cSrc (cVar 2)) (gTupG 2 (gConsG (gN 3) (gConsG (gN 4) gNilG))) cYes (cTup (cConsA (cCall call "copied" (cArgs 2 (cConsA (cVar 3) (cConsA (cVar 1) cNilA)))) (cConsA (cCall call "checked_whole" (cArgs 2 (cConsA (cVar 4) (cConsA (cC (.int 1)) cNilA)))) cNilA))) [3, 4]) cNilA))))))
def N_copied_dyes : List Str := ["pairs", "dyes", "old", "new"]
def m_copied_dyes (call : Calls) : List D → Hd → R D := mkFn 4 1 (cStuckS)
def N_reckoned : List Str := ["press", "work"]
def m_reckoned (call : Calls) : List D → Hd → R D := mkFn 2 1 ((cSeq (cSet 1 (cCall call "work_from" (cArgs 1 (cConsA (cVar 0) cNilA))))
    (cRet (cTup (cConsA (cOp1 (getAt at_begin "begin") (cVar 1)) (cConsA (cOp1 (getAt at_length "length") (cVar 1)) cNilA))))))
def N_figures_of : List Str := ["number", "pieces", "low"]
def m_figures_of (call : Calls) : List D → Hd → R D := mkFn 3 1 (cStuckS)
def N_press_text : List Str := ["press"]
def m_press_text (call : Calls) : List D → Hd → R D := mkFn 1 1 ((cRet (cCall call "written" (cArgs 1 (cConsA (cCall call "press_of" (cArgs 1 (cConsA (cVar 0) cNilA))) cNilA)))))
def N_written : List Str := ["press", "rim", "inner", "many", "pairs", "other", "word"]
def m_written (call : Calls) : List D → Hd → R D := mkFn 7 1 (cStuckS)
def N_written_turns : List Str := ["pairs", "inner", "many"]
def m_written_turns (call : Calls) : List D → Hd → R D := mkFn 3 1 (cStuckS)
def N_written_dyes : List Str := ["pairs", "old", "new"]
def m_written_dyes (call : Calls) : List D → Hd → R D := mkFn 3 1 (cStuckS)
def N_is_figures : List Str := ["text", "sign"]
def m_is_figures (call : Calls) : List D → Hd → R D := mkFn 2 1 (cStuckS)
def N_number_of : List Str := ["figures", "head", "number", "at"]
def m_number_of (call : Calls) : List D → Hd → R D := mkFn 4 1 ((cSeq (cSet 1 (cOp2 modD (cBlt lenD (cConsA (cVar 0) cNilA)) (cC (.int 64))))
    (cSeq (cSet 2 (cBlt intD (cConsA (cOp2 addD (cC (.str [48])) (cSl (cVar 0) cNoPart (cPart (cVar 1)))) cNilA)))
    (cSeq (cFor (cRng3 (cConsA (cVar 1) (cConsA (cBlt lenD (cConsA (cVar 0) cNilA)) (cConsA (cC (.int 64)) cNilA)))) (gN 3) (cSet 2 (cOp2 addD (cOp2 mulD (cVar 2) (cOp2 powD (cC (.int 10)) (cC (.int 64)))) (cBlt intD (cConsA (cSl (cVar 0) (cPart (cVar 3)) (cPart (cOp2 addD (cVar 3) (cC (.int 64))))) cNilA)))))
    (cRet (cVar 2))))))
def N_is_name : List Str := ["thing", "sign"]
def m_is_name (call : Calls) : List D → Hd → R D := mkFn 2 1 (cStuckS)
def N_read_press : List Str := ["text"]
def m_read_press (call : Calls) : List D → Hd → R D := mkFn 1 1 ((cSeq (cIfS (cNotT (cTru (cBlt isiD (cConsA (cVar 0) (cConsA (cC (.ty "str")) cNilA))))) (cRaise "NoText") cNil)
    (cRet (cCall call "press_of" (cArgs 1 (cConsA (cCall call "parsed" (cArgs 2 (cConsA (cVar 0) (cConsA (cC .non) cNilA)))) cNilA))))))
def N_parsed : List Str := ["text", "names", "rows", "word"]
def m_parsed (call : Calls) : List D → Hd → R D := mkFn 4 2 (cStuckS)
def N_put_word : List Str := ["rows", "word", "names", "bare", "_", "done"]
def m_put_word (call : Calls) : List D → Hd → R D := mkFn 6 3 (cStuckS)
def N_formed : List Str := ["row", "names", "rim", "inner", "many", "other", "turns", "dyes", "dye"]
def m_formed (call : Calls) : List D → Hd → R D := mkFn 9 2 (cStuckS)
def N_part_of : List Str := ["part", "names"]
def m_part_of (call : Calls) : List D → Hd → R D := mkFn 2 2 (cStuckS)
def N_read_number : List Str := ["part"]
def m_read_number (call : Calls) : List D → Hd → R D := mkFn 1 1 ((cSeq (cIfS (cOrT (cNotT (cTru (cBlt isiD (cConsA (cVar 0) (cConsA (cC (.ty "str")) cNilA))))) (cNotT (cTru (cCall call "is_figures" (cArgs 1 (cConsA (cVar 0) cNilA)))))) (cRaise "NoText") cNil)
    (cRet (cCall call "number_of" (cArgs 1 (cConsA (cVar 0) cNilA))))))
def N_read_turns : List Str := ["turns", "names", "inner", "many"]
def m_read_turns (call : Calls) : List D → Hd → R D := mkFn 4 2 (cStuckS)
def N_read_dye : List Str := ["part"]
def m_read_dye (call : Calls) : List D → Hd → R D := mkFn 1 1 ((cSeq (cIfS (cOrT (cNotT (cTru (cBlt isiD (cConsA (cVar 0) (cConsA (cC (.ty "str")) cNilA))))) (cTruB (cOp2 (eqD true) (cBlt lenD (cConsA (cVar 0) cNilA)) (cC (.int 2))))) (cRaise "NoText") cNil)
    (cSeq (cIfS (cOrT (cNotT (cTru (cCall call "is_mark" (cArgs 1 (cConsA (cOp2 ixD (cVar 0) (cC (.int 0))) cNilA))))) (cNotT (cTru (cCall call "is_mark_or_none" (cArgs 1 (cConsA (cOp2 ixD (cVar 0) (cC (.int 1))) cNilA)))))) (cRaise "NoText") cNil)
    (cRet (cTup (cConsA (cOp2 ixD (cVar 0) (cC (.int 0))) (cConsA (cOp2 ixD (cVar 0) (cC (.int 1))) cNilA)))))))
def N_check_place : List Str := ["place"]
def m_check_place (call : Calls) : List D → Hd → R D := mkFn 1 1 ((cIfS (cNotT (cTru (cCall call "is_whole" (cArgs 2 (cConsA (cVar 0) (cConsA (cC (.int 0)) cNilA)))))) (cRaise "NoPlace") cNil))
def N_mark_at : List Str := ["press", "place"]
def m_mark_at (call : Calls) : List D → Hd → R D := mkFn 2 2 ((cRet (cCall call "piece" (cArgs 3 (cConsA (cVar 0) (cConsA (cVar 1) (cConsA (cC (.int 1)) cNilA)))))))
def N_piece : List Str := ["press", "first", "many", "work"]
def m_piece (call : Calls) : List D → Hd → R D := mkFn 4 3 ((cSeq (cSet 3 (cCall call "work_from" (cArgs 1 (cConsA (cVar 0) cNilA))))
    (cSeq (cExp (cCall call "check_place" (cArgs 1 (cConsA (cVar 1) cNilA))))
    (cSeq (cExp (cCall call "check_place" (cArgs 1 (cConsA (cVar 2) cNilA))))
    (cRet (cCall call "rolled" (cArgs 3 (cConsA (cVar 3) (cConsA (cVar 1) (cConsA (cVar 2) cNilA))))))))))
def N_Laid_init : List Str := ["self", "ahead", "lap"]
def m_Laid_init (call : Calls) : List D → Hd → R D := mkFn 3 3 ((cSeq (cSetAt at_ahead "ahead" (cVar 0) (cVar 1))
    (cSeq (cSetAt at_lap "lap" (cVar 0) (cVar 2))
    (cSeq (cSetAt at_begin "begin" (cVar 0) (cBlt lenD (cConsA (cVar 1) cNilA)))
    (cSetAt at_length "length" (cVar 0) (cBlt lenD (cConsA (cVar 2) cNilA)))))))
def N_short_work : List Str := ["thing", "work"]
def m_short_work (call : Calls) : List D → Hd → R D := mkFn 2 1 ((cSeq (cSet 1 (cCall call "work_from" (cArgs 1 (cConsA (cVar 0) cNilA))))
    (cSeq (cExp (cCall call "check_short" (cArgs 2 (cConsA (cOp1 (getAt at_begin "begin") (cVar 1)) (cConsA (cOp1 (getAt at_length "length") (cVar 1)) cNilA)))))
    (cRet (cVar 1)))))
def N_laid_from : List Str := ["thing", "work", "printed", "length", "begin"]
def m_laid_from (call : Calls) : List D → Hd → R D := mkFn 5 1 ((cSeq (cSet 1 (cCall call "short_work" (cArgs 1 (cConsA (cVar 0) cNilA))))
    (cSeq (cSet 2 (cCall call "rolled" (cArgs 3 (cConsA (cVar 1) (cConsA (cC (.int 0)) (cConsA (cOp2 addD (cOp1 (getAt at_begin "begin") (cVar 1)) (cOp1 (getAt at_length "length") (cVar 1))) cNilA))))))
    (cSeq (cSet 3 (cCall call "least_lap" (cArgs 1 (cConsA (cSl (cVar 2) (cPart (cOp1 (getAt at_begin "begin") (cVar 1))) cNoPart) cNilA))))
    (cSeq (cSet 4 (cOp1 (getAt at_begin "begin") (cVar 1)))
    (cSeq (cWhile (cAndT (cTruB (cOp2 gtD (cVar 4) (cC (.int 0)))) (cTruB (cOp2 (eqD false) (cOp2 ixD (cVar 2) (cOp2 subD (cVar 4) (cC (.int 1)))) (cOp2 ixD (cVar 2) (cOp2 addD (cOp2 subD (cVar 4) (cC (.int 1))) (cVar 3)))))) (cAug 4 (fun i j => i - j) (cC (.int 1))))
    (cRet (cMake call "Laid" "Laid.__init__" (cArgs 2 (cConsA (cSl (cVar 2) cNoPart (cPart (cVar 4))) (cConsA (cSl (cVar 2) (cPart (cVar 4)) (cPart (cOp2 addD (cVar 4) (cVar 3)))) cNilA)))))))))))
def N_least_lap : List Str := ["lap"]
def m_least_lap (call : Calls) : List D → Hd → R D := mkFn 1 1 ((cRet (cMt "str" isStrD findD (cOp2 addD (cVar 0) (cVar 0)) (cConsA (cVar 0) (cConsA (cC (.int 1)) cNilA)))))
def N_plain : List Str := ["press", "laid"]
def m_plain (call : Calls) : List D → Hd → R D := mkFn 2 1 ((cSeq (cSet 1 (cCall call "laid_from" (cArgs 1 (cConsA (cVar 0) cNilA))))
    (cRet (cTup (cConsA (cOp1 (getAt at_ahead "ahead") (cVar 1)) (cConsA (cOp1 (getAt at_lap "lap") (cVar 1)) cNilA))))))
def N_press_by : List Str := ["ahead", "lap"]
def m_press_by (call : Calls) : List D → Hd → R D := mkFn 2 2 ((cSeq (cIfS (cOrT (cNotT (cTru (cCall call "is_rim" (cArgs 1 (cConsA (cVar 1) cNilA))))) (cNotT (cOrT (cTruB (cOp2 (eqD false) (cVar 0) (cC (.str [])))) (cTru (cCall call "is_rim" (cArgs 1 (cConsA (cVar 0) cNilA))))))) (cRaise "NoPress") cNil)
    (cSeq (cExp (cCall call "check_short" (cArgs 2 (cConsA (cBlt lenD (cConsA (cVar 0) cNilA)) (cConsA (cBlt lenD (cConsA (cVar 1) cNilA)) cNilA)))))
    (cSeq (cIfS (cTruB (cOp2 (eqD false) (cVar 0) (cC (.str [])))) (cRet (cTup (cConsA (cC (.str [119, 104, 101, 101, 108])) (cConsA (cVar 1) cNilA)))) cNil)
    (cRet (cTup (cConsA (cC (.str [116, 104, 101, 110])) (cConsA (cTup (cConsA (cC (.str [119, 104, 101, 101, 108])) (cConsA (cVar 0) cNilA))) (cConsA (cBlt lenD (cConsA (cVar 0) cNilA)) (cConsA (cTup (cConsA (cC (.str [119, 104, 101, 101, 108])) (cConsA (cVar 1) cNilA))) cNilA))))))))))
def N_round_of : List Str := ["press", "laid"]
def m_round_of (call : Calls) : List D → Hd → R D := mkFn 2 1 ((cSeq (cSet 1 (cCall call "laid_from" (cArgs 1 (cConsA (cVar 0) cNilA))))
    (cRet (cTup (cConsA (cOp1 (getAt at_begin "begin") (cVar 1)) (cConsA (cOp1 (getAt at_length "length") (cVar 1)) cNilA))))))
def N_count_ahead : List Str := ["laid", "letter", "place", "laps", "rest", "ahead"]
def m_count_ahead (call : Calls) : List D → Hd → R D := mkFn 6 3 ((cSeq (cIfS (cTruB (cOp2 leD (cVar 2) (cOp1 (getAt at_begin "begin") (cVar 0)))) (cRet (cCall call "count_in" (cArgs 2 (cConsA (cSl (cOp1 (getAt at_ahead "ahead") (cVar 0)) cNoPart (cPart (cVar 2))) (cConsA (cVar 1) cNilA))))) cNil)
    (cSeq (cAsgT (cBlt divmodD (cConsA (cOp2 subD (cVar 2) (cOp1 (getAt at_begin "begin") (cVar 0))) (cConsA (cOp1 (getAt at_length "length") (cVar 0)) cNilA))) (gTupG 2 (gConsG (gN 3) (gConsG (gN 4) gNilG))))
    (cSeq (cSet 5 (cCall call "count_in" (cArgs 2 (cConsA (cOp1 (getAt at_ahead "ahead") (cVar 0)) (cConsA (cVar 1) cNilA)))))
    (cRet (cOp2 addD (cOp2 addD (cVar 5) (cOp2 mulD (cVar 3) (cCall call "count_in" (cArgs 2 (cConsA (cOp1 (getAt at_lap "lap") (cVar 0)) (cConsA (cVar 1) cNilA)))))) (cCall call "count_in" (cArgs 2 (cConsA (cSl (cOp1 (getAt at_lap "lap") (cVar 0)) cNoPart (cPart (cVar 4))) (cConsA (cVar 1) cNilA))))))))))
def N_place_of : List Str := ["laid", "letter", "number", "places", "in_lap", "laps", "rest"]
def m_place_of (call : Calls) : List D → Hd → R D := mkFn 7 3 ((cSeq (cSet 3 (cCall call "places_in" (cArgs 2 (cConsA (cOp1 (getAt at_ahead "ahead") (cVar 0)) (cConsA (cVar 1) cNilA)))))
    (cSeq (cIfS (cTruB (cOp2 ltD (cVar 2) (cBlt lenD (cConsA (cVar 3) cNilA)))) (cRet (cOp2 ixD (cVar 3) (cVar 2))) cNil)
    (cSeq (cSet 4 (cCall call "places_in" (cArgs 2 (cConsA (cOp1 (getAt at_lap "lap") (cVar 0)) (cConsA (cVar 1) cNilA)))))
    (cSeq (cIfS (cNotT (cTru (cVar 4))) (cRet (cC .non)) cNil)
    (cSeq (cAsgT (cBlt divmodD (cConsA (cOp2 subD (cVar 2) (cBlt lenD (cConsA (cVar 3) cNilA))) (cConsA (cBlt lenD (cConsA (cVar 4) cNilA)) cNilA))) (gTupG 2 (gConsG (gN 5) (gConsG (gN 6) gNilG))))
    (cRet (cOp2 addD (cOp2 addD (cOp1 (getAt at_begin "begin") (cVar 0)) (cOp2 mulD (cVar 5) (cOp1 (getAt at_length "length") (cVar 0)))) (cOp2 ixD (cVar 4) (cVar 6))))))))))
def N_count_in : List Str := ["text", "letter"]
def m_count_in (call : Calls) : List D → Hd → R D := mkFn 2 2 ((cSeq (cIfS (cTruB (cOp2 (isNonD false) (cVar 1) (cC .non))) (cRet (cOp2 subD (cBlt lenD (cConsA (cVar 0) cNilA)) (cMt "str" isStrD countD (cVar 0) (cConsA (cC (.str [46])) cNilA)))) cNil)
    (cRet (cMt "str" isStrD countD (cVar 0) (cConsA (cVar 1) cNilA)))))
def N_places_in : List Str := ["text", "letter", "place", "sign"]
def m_places_in (call : Calls) : List D → Hd → R D := mkFn 4 2 ((cSeq (cIfS (cTruB (cOp2 (isNonD false) (cVar 1) (cC .non))) (cRet (cLc (cEnum (cConsA (cVar 0) cNilA)) (gTupG 2 (gConsG (gN 2) (gConsG (gN 3) gNilG))) (cTruB (cOp2 (eqD true) (cVar 3) (cC (.str [46])))) (cVar 2) [2, 3])) cNil)
    (cRet (cLc (cEnum (cConsA (cVar 0) cNilA)) (gTupG 2 (gConsG (gN 2) (gConsG (gN 3) gNilG))) (cTruB (cOp2 (eqD false) (cVar 3) (cVar 1))) (cVar 2) [2, 3]))))
def N_check_number : List Str := ["number"]
def m_check_number (call : Calls) : List D → Hd → R D := mkFn 1 1 ((cIfS (cNotT (cTru (cCall call "is_whole" (cArgs 2 (cConsA (cVar 0) (cConsA (cC (.int 0)) cNilA)))))) (cRaise "NoNumber") cNil))
def N_check_letter : List Str := ["letter"]
def m_check_letter (call : Calls) : List D → Hd → R D := mkFn 1 1 ((cIfS (cAndT (cTruB (cOp2 (isNonD true) (cVar 0) (cC .non))) (cNotT (cTru (cCall call "is_mark" (cArgs 1 (cConsA (cVar 0) cNilA)))))) (cRaise "NoLetter") cNil))
def N_how_many : List Str := ["press", "letter", "place", "laid"]
def m_how_many (call : Calls) : List D → Hd → R D := mkFn 4 3 ((cSeq (cSet 3 (cCall call "laid_from" (cArgs 1 (cConsA (cVar 0) cNilA))))
    (cSeq (cExp (cCall call "check_letter" (cArgs 1 (cConsA (cVar 1) cNilA))))
    (cSeq (cExp (cCall call "check_place" (cArgs 1 (cConsA (cVar 2) cNilA))))
    (cRet (cCall call "count_ahead" (cArgs 3 (cConsA (cVar 3) (cConsA (cVar 1) (cConsA (cVar 2) cNilA))))))))))
def N_nth : List Str := ["press", "letter", "number", "laid"]
def m_nth (call : Calls) : List D → Hd → R D := mkFn 4 3 ((cSeq (cSet 3 (cCall call "laid_from" (cArgs 1 (cConsA (cVar 0) cNilA))))
    (cSeq (cExp (cCall call "check_letter" (cArgs 1 (cConsA (cVar 1) cNilA))))
    (cSeq (cExp (cCall call "check_number" (cArgs 1 (cConsA (cVar 2) cNilA))))
    (cRet (cCall call "place_of" (cArgs 3 (cConsA (cVar 3) (cConsA (cVar 1) (cConsA (cVar 2) cNilA))))))))))
def N_laid_out : List Str := ["laid", "many", "laps"]
def m_laid_out (call : Calls) : List D → Hd → R D := mkFn 3 2 ((cSeq (cSet 2 (cOp2 addD (cOp2 fdivD (cVar 1) (cOp1 (getAt at_length "length") (cVar 0))) (cC (.int 1))))
    (cRet (cSl (cOp2 addD (cOp1 (getAt at_ahead "ahead") (cVar 0)) (cOp2 mulD (cOp1 (getAt at_lap "lap") (cVar 0)) (cVar 2))) cNoPart (cPart (cVar 1))))))
def N_first_apart : List Str := ["one", "other", "left", "right", "many", "place", "low", "high"]
def m_first_apart (call : Calls) : List D → Hd → R D := mkFn 8 2 ((cSeq (cSet 2 (cCall call "laid_from" (cArgs 1 (cConsA (cVar 0) cNilA))))
    (cSeq (cSet 3 (cCall call "laid_from" (cArgs 1 (cConsA (cVar 1) cNilA))))
    (cSeq (cSet 4 (cOp2 addD (cOp2 addD (cBlt maxD (cConsA (cOp1 (getAt at_begin "begin") (cVar 2)) (cConsA (cOp1 (getAt at_begin "begin") (cVar 3)) cNilA))) (cOp1 (getAt at_length "length") (cVar 2))) (cOp1 (getAt at_length "length") (cVar 3))))
    (cSeq (cFor cStuckI (gTupG 2 (gConsG (gN 5) (gConsG (gTupG 2 (gConsG (gN 6) (gConsG (gN 7) gNilG))) gNilG))) (cIfS (cTruB (cOp2 (eqD true) (cVar 6) (cVar 7))) (cRet (cVar 5)) cNil))
    (cRet (cC .non)))))))
def N_many_apart : List Str := ["one", "other", "place", "left", "right"]
def m_many_apart (call : Calls) : List D → Hd → R D := mkFn 5 3 ((cSeq (cSet 3 (cCall call "laid_from" (cArgs 1 (cConsA (cVar 0) cNilA))))
    (cSeq (cSet 4 (cCall call "laid_from" (cArgs 1 (cConsA (cVar 1) cNilA))))
    (cSeq (cExp (cCall call "check_place" (cArgs 1 (cConsA (cVar 2) cNilA))))
    (cRet (cCall call "count_ahead" (cArgs 3 (cConsA (cCall call "unlike" (cArgs 2 (cConsA (cVar 3) (cConsA (cVar 4) cNilA)))) (cConsA (cC .non) (cConsA (cVar 2) cNilA))))))))))
def N_nth_apart : List Str := ["one", "other", "number", "left", "right"]
def m_nth_apart (call : Calls) : List D → Hd → R D := mkFn 5 3 ((cSeq (cSet 3 (cCall call "laid_from" (cArgs 1 (cConsA (cVar 0) cNilA))))
    (cSeq (cSet 4 (cCall call "laid_from" (cArgs 1 (cConsA (cVar 1) cNilA))))
    (cSeq (cExp (cCall call "check_number" (cArgs 1 (cConsA (cVar 2) cNilA))))
    (cRet (cCall call "place_of" (cArgs 3 (cConsA (cCall call "unlike" (cArgs 2 (cConsA (cVar 3) (cConsA (cVar 4) cNilA)))) (cConsA (cC .non) (cConsA (cVar 2) cNilA))))))))))
def N_unlike : List Str := ["left", "right", "begin", "length", "many", "signs", "low", "high"]
def m_unlike (call : Calls) : List D → Hd → R D := mkFn 8 2 ((cSeq (cAsgT (cCall call "together" (cArgs 2 (cConsA (cVar 0) (cConsA (cVar 1) cNilA)))) (gTupG 2 (gConsG (gN 2) (gConsG (gN 3) gNilG))))
    (cSeq (cExp (cCall call "check_short" (cArgs 2 (cConsA (cVar 2) (cConsA (cVar 3) cNilA)))))
    (cSeq (cSet 4 (cOp2 addD (cVar 2) (cVar 3)))
    (cSeq (cSet 5 (cLc (cZip (cConsA (cCall call "laid_out" (cArgs 2 (cConsA (cVar 0) (cConsA (cVar 4) cNilA)))) (cConsA (cCall call "laid_out" (cArgs 2 (cConsA (cVar 1) (cConsA (cVar 4) cNilA)))) cNilA))) (gTupG 2 (gConsG (gN 6) (gConsG (gN 7) gNilG))) cYes (cIf (cTruB (cOp2 (eqD false) (cVar 6) (cVar 7))) (cC (.str [46])) (cC (.str [120]))) [6, 7]))
    (cRet (cMake call "Laid" "Laid.__init__" (cArgs 2 (cConsA (cMt "str" isStrD joinD (cC (.str [])) (cConsA (cSl (cVar 5) cNoPart (cPart (cVar 2))) cNilA)) (cConsA (cMt "str" isStrD joinD (cC (.str [])) (cConsA (cSl (cVar 5) (cPart (cVar 2)) cNoPart) cNilA)) cNilA))))))))))
def N_turning_of : List Str := ["one", "other", "left", "right", "many"]
def m_turning_of (call : Calls) : List D → Hd → R D := mkFn 5 2 ((cSeq (cSet 2 (cCall call "laid_from" (cArgs 1 (cConsA (cVar 0) cNilA))))
    (cSeq (cSet 3 (cCall call "laid_from" (cArgs 1 (cConsA (cVar 1) cNilA))))
    (cSeq (cIfS (cTruB (cOp2 (eqD false) (cOp1 (getAt at_begin "begin") (cVar 3)) (cC (.int 0)))) (cRet (cCall call "turning_to_lap" (cArgs 2 (cConsA (cVar 2) (cConsA (cOp1 (getAt at_lap "lap") (cVar 3)) cNilA))))) cNil)
    (cSeq (cSet 4 (cOp2 subD (cOp1 (getAt at_begin "begin") (cVar 2)) (cOp1 (getAt at_begin "begin") (cVar 3))))
    (cSeq (cIfS (cOrT (cTruB (cOp2 ltD (cVar 4) (cC (.int 0)))) (cOrT (cTruB (cOp2 (eqD true) (cSl (cOp1 (getAt at_ahead "ahead") (cVar 2)) (cPart (cVar 4)) cNoPart) (cOp1 (getAt at_ahead "ahead") (cVar 3)))) (cTruB (cOp2 (eqD true) (cOp1 (getAt at_lap "lap") (cVar 2)) (cOp1 (getAt at_lap "lap") (cVar 3)))))) (cRet (cC .non)) cNil)
    (cRet (cVar 4))))))))
def N_turning_to_lap : List Str := ["laid", "lap", "many"]
def m_turning_to_lap (call : Calls) : List D → Hd → R D := mkFn 3 2 ((cSeq (cIfS (cTruB (cOp2 (eqD true) (cOp1 (getAt at_length "length") (cVar 0)) (cBlt lenD (cConsA (cVar 1) cNilA)))) (cRet (cC .non)) cNil)
    (cSeq (cSet 2 (cMt "str" isStrD findD (cOp2 addD (cOp1 (getAt at_lap "lap") (cVar 0)) (cOp1 (getAt at_lap "lap") (cVar 0))) (cConsA (cVar 1) cNilA)))
    (cRet (cIf (cTruB (cOp2 ltD (cVar 2) (cC (.int 0)))) (cC .non) (cOp2 addD (cOp1 (getAt at_begin "begin") (cVar 0)) (cVar 2)))))))
def N_order_matters : List Str := ["one", "other", "left", "right", "begin", "length", "many", "place", "low", "high"]
def m_order_matters (call : Calls) : List D → Hd → R D := mkFn 10 2 ((cSeq (cSet 2 (cCall call "short_work" (cArgs 1 (cConsA (cVar 0) cNilA))))
    (cSeq (cSet 3 (cCall call "short_work" (cArgs 1 (cConsA (cVar 1) cNilA))))
    (cSeq (cAsgT (cCall call "together" (cArgs 2 (cConsA (cVar 2) (cConsA (cVar 3) cNilA)))) (gTupG 2 (gConsG (gN 4) (gConsG (gN 5) gNilG))))
    (cSeq (cExp (cCall call "check_short" (cArgs 2 (cConsA (cVar 4) (cConsA (cVar 5) cNilA)))))
    (cSeq (cSet 6 (cOp2 addD (cVar 4) (cVar 5)))
    (cSeq (cFor cStuckI (gTupG 2 (gConsG (gN 7) (gConsG (gTupG 2 (gConsG (gN 8) (gConsG (gN 9) gNilG))) gNilG))) (cIfS (cAndT (cTruB (cOp2 (eqD true) (cVar 8) (cVar 9))) (cAndT (cTruB (cOp2 (eqD true) (cVar 8) (cC (.str [46])))) (cTruB (cOp2 (eqD true) (cVar 9) (cC (.str [46])))))) (cRet (cVar 7)) cNil))
    (cRet (cC .non)))))))))
def N_is_seen : List Str := ["thing"]
def m_is_seen (call : Calls) : List D → Hd → R D := mkFn 1 1 ((cRet (cAnd (cBlt isiD (cConsA (cVar 0) (cConsA (cC (.ty "str")) cNilA))) (cCall call "is_rim" (cArgs 1 (cConsA (cOp1 (replD 63 [46]) (cVar 0)) cNilA))))))
def N_check_seen : List Str := ["seen"]
def m_check_seen (call : Calls) : List D → Hd → R D := mkFn 1 1 ((cIfS (cNotT (cTru (cCall call "is_seen" (cArgs 1 (cConsA (cVar 0) cNilA))))) (cRaise "NoSeen") cNil))
def N_check_length : List Str := ["length", "longest"]
def m_check_length (call : Calls) : List D → Hd → R D := mkFn 2 2 ((cIfS (cOrT (cNotT (cTru (cCall call "is_whole" (cArgs 2 (cConsA (cVar 0) (cConsA (cC (.int 1)) cNilA)))))) (cTruB (cOp2 gtD (cVar 0) (cVar 1)))) (cRaise "NoNumber") cNil))
def N_seen_of : List Str := ["seen", "at", "length"]
def m_seen_of (call : Calls) : List D → Hd → R D := mkFn 3 3 ((cRet (cOp1 (replD 63 []) (cSlS (cVar 0) (cPart (cVar 1)) (cPart (cVar 2))))))
def N_signs_in : List Str := ["text"]
def m_signs_in (call : Calls) : List D → Hd → R D := mkFn 1 1 ((cRet (cOp1 ssD (cVar 0))))
def N_rim_of : List Str := ["seen", "length", "rim", "at", "signs"]
def m_rim_of (call : Calls) : List D → Hd → R D := mkFn 5 2 ((cSeq (cSet 2 (cLst cNilA))
    (cSeq (cFor (cRng1 (cConsA (cVar 1) cNilA)) (gN 3) (cSeq (cSet 4 (cCall call "signs_in" (cArgs 1 (cConsA (cCall call "seen_of" (cArgs 3 (cConsA (cVar 0) (cConsA (cVar 3) (cConsA (cVar 1) cNilA))))) cNilA))))
    (cSeq (cIfS (cTruB (cOp2 gtD (cBlt lenD (cConsA (cVar 4) cNilA)) (cC (.int 1)))) (cRet (cC .non)) cNil)
    (cExp (cMt "list" isLstD appD (cVar 2) (cConsA (cIf (cTru (cVar 4)) (cOp2 ixD (cVar 4) (cC (.int 0))) (cC (.str [63]))) cNilA))))))
    (cRet (cMt "str" isStrD joinD (cC (.str [])) (cConsA (cVar 2) cNilA))))))
def N_lengths_for : List Str := ["seen", "most", "length"]
def m_lengths_for (call : Calls) : List D → Hd → R D := mkFn 3 2 ((cSeq (cExp (cCall call "check_seen" (cArgs 1 (cConsA (cVar 0) cNilA))))
    (cSeq (cExp (cCallO call "check_length" ([40] : List Int) (cArgs 1 (cConsA (cVar 1) cNilA))))
    (cRet (cLc (cRng2 (cConsA (cC (.int 1)) (cConsA (cOp2 addD (cVar 1) (cC (.int 1))) cNilA))) (gN 2) (cTruB (cOp2 (isNonD true) (cCall call "rim_of" (cArgs 2 (cConsA (cVar 0) (cConsA (cVar 2) cNilA)))) (cC .non))) (cVar 2) [2])))))
def N_rim_for : List Str := ["seen", "length"]
def m_rim_for (call : Calls) : List D → Hd → R D := mkFn 2 2 ((cSeq (cExp (cCall call "check_seen" (cArgs 1 (cConsA (cVar 0) cNilA))))
    (cSeq (cExp (cCallO call "check_length" ([40] : List Int) (cArgs 1 (cConsA (cVar 1) cNilA))))
    (cRet (cCall call "rim_of" (cArgs 2 (cConsA (cVar 0) (cConsA (cVar 1) cNilA))))))))
def N_spoilt_for : List Str := ["seen", "length"]
def m_spoilt_for (call : Calls) : List D → Hd → R D := mkFn 2 2 ((cSeq (cExp (cCall call "check_seen" (cArgs 1 (cConsA (cVar 0) cNilA))))
    (cSeq (cExp (cCallO call "check_length" ([40] : List Int) (cArgs 1 (cConsA (cVar 1) cNilA))))
    (cRet (cCall call "spoilt_of" (cArgs 2 (cConsA (cVar 0) (cConsA (cVar 1) cNilA))))))))
def N_least_spoilt : List Str := ["seen", "most", "least", "rim", "best", "length", "many", "other"]
def m_least_spoilt (call : Calls) : List D → Hd → R D := mkFn 8 2 ((cSeq (cExp (cCall call "check_seen" (cArgs 1 (cConsA (cVar 0) cNilA))))
    (cSeq (cExp (cCallO call "check_length" ([40] : List Int) (cArgs 1 (cConsA (cVar 1) cNilA))))
    (cSeq (cAsgT (cCall call "spoilt_of" (cArgs 2 (cConsA (cVar 0) (cConsA (cC (.int 1)) cNilA)))) (gTupG 2 (gConsG (gN 2) (gConsG (gN 3) gNilG))))
    (cSeq (cSet 4 (cC (.int 1)))
    (cSeq (cFor (cRng2 (cConsA (cC (.int 2)) (cConsA (cOp2 addD (cVar 1) (cC (.int 1))) cNilA))) (gN 5) (cSeq (cAsgT (cCall call "spoilt_of" (cArgs 2 (cConsA (cVar 0) (cConsA (cVar 5) cNilA)))) (gTupG 2 (gConsG (gN 6) (gConsG (gN 7) gNilG))))
    (cIfS (cTruB (cOp2 ltD (cVar 6) (cVar 2))) (cAsgT (cTup (cConsA (cVar 6) (cConsA (cVar 5) (cConsA (cVar 7) cNilA)))) (gTupG 3 (gConsG (gN 2) (gConsG (gN 4) (gConsG (gN 3) gNilG))))) cNil)))
    (cRet (cTup (cConsA (cVar 2) (cConsA (cVar 4) (cConsA (cVar 3) cNilA)))))))))))
def N_spoilt_of : List Str := ["seen", "length", "spoilt", "rim", "at", "text", "sign"]
def m_spoilt_of (call : Calls) : List D → Hd → R D := mkFn 7 2 ((cSeq (cSet 2 (cC (.int 0)))
    (cSeq (cSet 3 (cLst cNilA))
    (cSeq (cFor (cRng1 (cConsA (cVar 1) cNilA)) (gN 4) (cSeq (cSet 5 (cCall call "seen_of" (cArgs 3 (cConsA (cVar 0) (cConsA (cVar 4) (cConsA (cVar 1) cNilA))))))
    (cSeq (cSet 6 (cCall call "most_often" (cArgs 1 (cConsA (cVar 5) cNilA))))
    (cSeq (cAug 2 (fun i j => i + j) (cOp2 subD (cBlt lenD (cConsA (cVar 5) cNilA)) (cMt "str" isStrD countD (cVar 5) (cConsA (cVar 6) cNilA))))
    (cExp (cMt "list" isLstD appD (cVar 3) (cConsA (cVar 6) cNilA)))))))
    (cRet (cTup (cConsA (cVar 2) (cConsA (cMt "str" isStrD joinD (cC (.str [])) (cConsA (cVar 3) cNilA)) cNilA))))))))
def N_most_often : List Str := ["text", "best", "sign"]
def m_most_often (call : Calls) : List D → Hd → R D := mkFn 3 1 ((cSeq (cSet 1 (cC (.str [63])))
    (cSeq (cFor (cSrc (cCall call "signs_in" (cArgs 1 (cConsA (cVar 0) cNilA)))) (gN 2) (cIfS (cTruB (cOp2 gtD (cMt "str" isStrD countD (cVar 0) (cConsA (cVar 2) cNilA)) (cMt "str" isStrD countD (cVar 0) (cConsA (cVar 1) cNilA)))) (cSet 1 (cVar 2)) cNil))
    (cRet (cVar 1)))))
def N_two_for : List Str := ["seen", "lower", "upper", "high", "low"]
def m_two_for (call : Calls) : List D → Hd → R D := mkFn 5 3 ((cSeq (cExp (cCall call "check_seen" (cArgs 1 (cConsA (cVar 0) cNilA))))
    (cSeq (cExp (cCallO call "check_length" ([40] : List Int) (cArgs 1 (cConsA (cVar 1) cNilA))))
    (cSeq (cExp (cCallO call "check_length" ([40] : List Int) (cArgs 1 (cConsA (cVar 2) cNilA))))
    (cSeq (cSet 3 (cCall call "upper_rim" (cArgs 2 (cConsA (cVar 0) (cConsA (cVar 2) cNilA)))))
    (cSeq (cSet 4 (cCall call "rim_of" (cArgs 2 (cConsA (cCall call "piece_beneath" (cArgs 2 (cConsA (cVar 0) (cConsA (cVar 3) cNilA)))) (cConsA (cVar 1) cNilA)))))
    (cRet (cIf (cTruB (cOp2 (isNonD false) (cVar 4) (cC .non))) (cC .non) (cTup (cConsA (cVar 4) (cConsA (cVar 3) cNilA)))))))))))
def N_least_two : List Str := ["seen", "most", "lefts", "both", "lower", "upper"]
def m_least_two (call : Calls) : List D → Hd → R D := mkFn 6 2 ((cSeq (cExp (cCall call "check_seen" (cArgs 1 (cConsA (cVar 0) cNilA))))
    (cSeq (cExp (cCallO call "check_length" ([40] : List Int) (cArgs 1 (cConsA (cVar 1) cNilA))))
    (cSeq (cSet 2 (cLc (cRng2 (cConsA (cC (.int 1)) (cConsA (cOp2 addD (cVar 1) (cC (.int 1))) cNilA))) (gN 5) cYes (cCall call "piece_beneath" (cArgs 2 (cConsA (cVar 0) (cConsA (cCall call "upper_rim" (cArgs 2 (cConsA (cVar 0) (cConsA (cVar 5) cNilA)))) cNilA)))) [5]))
    (cSeq (cFor (cRng2 (cConsA (cC (.int 2)) (cConsA (cOp2 addD (cOp2 mulD (cC (.int 2)) (cVar 1)) (cC (.int 1))) cNilA))) (gN 3) (cFor (cRng2 (cConsA (cBlt maxD (cConsA (cC (.int 1)) (cConsA (cOp2 subD (cVar 3) (cVar 1)) cNilA))) (cConsA (cOp2 addD (cBlt minD (cConsA (cOp2 subD (cVar 3) (cC (.int 1))) (cConsA (cVar 1) cNilA))) (cC (.int 1))) cNilA))) (gN 4) (cSeq (cSet 5 (cOp2 subD (cVar 3) (cVar 4)))
    (cIfS (cTruB (cOp2 (isNonD true) (cCall call "rim_of" (cArgs 2 (cConsA (cOp2 ixD (cVar 2) (cOp2 subD (cVar 5) (cC (.int 1)))) (cConsA (cVar 4) cNilA)))) (cC .non))) (cRet (cTup (cConsA (cVar 4) (cConsA (cVar 5) cNilA)))) cNil))))
    (cRet (cC .non)))))))
def N_beneath : List Str := ["seen", "rim"]
def m_beneath (call : Calls) : List D → Hd → R D := mkFn 2 2 ((cSeq (cExp (cCall call "check_seen" (cArgs 1 (cConsA (cVar 0) cNilA))))
    (cSeq (cExp (cCall call "checked_rim" (cArgs 1 (cConsA (cVar 1) cNilA))))
    (cRet (cCall call "piece_beneath" (cArgs 2 (cConsA (cVar 0) (cConsA (cVar 1) cNilA))))))))
def N_upper_rim : List Str := ["seen", "length", "rim", "at", "signs"]
def m_upper_rim (call : Calls) : List D → Hd → R D := mkFn 5 2 ((cSeq (cSet 2 (cLst cNilA))
    (cSeq (cFor (cRng1 (cConsA (cVar 1) cNilA)) (gN 3) (cSeq (cSet 4 (cCall call "signs_in" (cArgs 1 (cConsA (cCall call "seen_of" (cArgs 3 (cConsA (cVar 0) (cConsA (cVar 3) (cConsA (cVar 1) cNilA))))) cNilA))))
    (cIfS (cNotT (cTru (cVar 4))) (cExp (cMt "list" isLstD appD (cVar 2) (cConsA (cC (.str [63])) cNilA))) (cIfS (cTruB (cOp2 (eqD false) (cBlt lenD (cConsA (cVar 4) cNilA)) (cC (.int 1)))) (cExp (cMt "list" isLstD appD (cVar 2) (cConsA (cOp2 ixD (cVar 4) (cC (.int 0))) cNilA))) (cExp (cMt "list" isLstD appD (cVar 2) (cConsA (cC (.str [46])) cNilA)))))))
    (cRet (cMt "str" isStrD joinD (cC (.str [])) (cConsA (cVar 2) cNilA))))))
def N_piece_beneath : List Str := ["seen", "rim", "left", "place", "sign", "mark"]
def m_piece_beneath (call : Calls) : List D → Hd → R D := mkFn 6 2 ((cSeq (cSet 2 (cLst cNilA))
    (cSeq (cFor (cEnum (cConsA (cVar 0) cNilA)) (gTupG 2 (gConsG (gN 3) (gConsG (gN 4) gNilG))) (cSeq (cSet 5 (cOp2 ixD (cVar 1) (cOp2 modD (cVar 3) (cBlt lenD (cConsA (cVar 1) cNilA)))))
    (cIfS (cTruB (cOp2 (eqD false) (cVar 5) (cC (.str [46])))) (cExp (cMt "list" isLstD appD (cVar 2) (cConsA (cVar 4) cNilA))) (cIfS (cOrT (cTruB (cOp2 (eqD false) (cVar 4) (cC (.str [63])))) (cTruB (cOp2 (eqD false) (cVar 4) (cVar 5)))) (cExp (cMt "list" isLstD appD (cVar 2) (cConsA (cC (.str [63])) cNilA))) (cRet (cC .non))))))
    (cRet (cMt "str" isStrD joinD (cC (.str [])) (cConsA (cVar 2) cNilA))))))
def N_check_pieces : List Str := ["pieces", "seen"]
def m_check_pieces (call : Calls) : List D → Hd → R D := mkFn 2 1 ((cSeq (cIfS (cOrT (cNotT (cTru (cCall call "is_row" (cArgs 1 (cConsA (cVar 0) cNilA))))) (cTruB (cOp2 (eqD false) (cBlt lenD (cConsA (cVar 0) cNilA)) (cC (.int 0))))) (cRaise "NoSeen") cNil)
    (cFor (cSrc (cVar 0)) (gN 1) (cExp (cCall call "check_seen" (cArgs 1 (cConsA (cVar 1) cNilA)))))))
def N_known_from : List Str := ["pieces", "length", "rims", "seen"]
def m_known_from (call : Calls) : List D → Hd → R D := mkFn 4 2 ((cSeq (cExp (cCall call "check_pieces" (cArgs 1 (cConsA (cVar 0) cNilA))))
    (cSeq (cExp (cCall call "check_length" (cArgs 2 (cConsA (cVar 1) (cConsA (cC (.int 10)) cNilA)))))
    (cSeq (cSet 2 (cLst (cConsA (cOp2 mulD (cC (.str [63])) (cVar 1)) cNilA)))
    (cSeq (cFor (cSrc (cVar 0)) (gN 3) (cSet 2 (cCall call "laid_on" (cArgs 2 (cConsA (cVar 2) (cConsA (cCall call "rim_of" (cArgs 2 (cConsA (cVar 3) (cConsA (cVar 1) cNilA)))) cNilA))))))
    (cRet (cVar 2)))))))
def N_laid_on : List Str := ["rims", "other", "found", "rim", "turning", "both"]
def m_laid_on (call : Calls) : List D → Hd → R D := mkFn 6 2 (cStuckS)
def N_turnings : List Str := ["rim", "at"]
def m_turnings (call : Calls) : List D → Hd → R D := mkFn 2 1 ((cRet (cLc (cRng1 (cConsA (cBlt lenD (cConsA (cVar 0) cNilA)) cNilA)) (gN 1) cYes (cOp2 addD (cSl (cVar 0) (cPart (cVar 1)) cNoPart) (cSl (cVar 0) cNoPart (cPart (cVar 1)))) [1])))
def N_laid_together : List Str := ["rim", "other", "both", "left", "right"]
def m_laid_together (call : Calls) : List D → Hd → R D := mkFn 5 2 ((cSeq (cSet 2 (cLst cNilA))
    (cSeq (cFor (cZip (cConsA (cVar 0) (cConsA (cVar 1) cNilA))) (gTupG 2 (gConsG (gN 3) (gConsG (gN 4) gNilG))) (cSeq (cIfS (cAndT (cTruB (cOp2 (eqD true) (cVar 3) (cVar 4))) (cAndT (cTruB (cOp2 (eqD true) (cVar 3) (cC (.str [63])))) (cTruB (cOp2 (eqD true) (cVar 4) (cC (.str [63])))))) (cRet (cC .non)) cNil)
    (cExp (cMt "list" isLstD appD (cVar 2) (cConsA (cIf (cTruB (cOp2 (eqD false) (cVar 3) (cC (.str [63])))) (cVar 4) (cVar 3)) cNilA)))))
    (cRet (cMt "str" isStrD joinD (cC (.str [])) (cConsA (cVar 2) cNilA))))))
def N_Names_init : List Str := ["self", "presses"]
def m_Names_init (call : Calls) : List D → Hd → R D := mkFn 2 2 ((cSeq (cSetAt at_presses "presses" (cVar 0) (cVar 1))
    (cSetAt at_missed "missed" (cVar 0) (cC (.bl false)))))
def N_Names_meant : List Str := ["self", "name"]
def m_Names_meant (call : Calls) : List D → Hd → R D := mkFn 2 2 ((cSeq (cIfS (cTruB (cOp2 (inD false) (cVar 1) (cOp1 (getAt at_presses "presses") (cVar 0)))) (cRet (cOp2 ixD (cOp1 (getAt at_presses "presses") (cVar 0)) (cVar 1))) cNil)
    (cSeq (cSetAt at_missed "missed" (cVar 0) (cC (.bl true)))
    (cRet (cC (.ty "STAND_IN"))))))
def N_read_named : List Str := ["text", "presses", "names", "thing"]
def m_read_named (call : Calls) : List D → Hd → R D := mkFn 4 2 ((cSeq (cSet 2 (cMake call "Names" "Names.__init__" (cArgs 1 (cConsA (cVar 1) cNilA))))
    (cSeq (cSet 3 (cCall call "parsed" (cArgs 2 (cConsA (cVar 0) (cConsA (cVar 2) cNilA)))))
    (cSeq (cIfS (cTru (cOp1 (getAt at_missed "missed") (cVar 2))) (cRaise "NoName") cNil)
    (cRet (cCall call "press_of" (cArgs 1 (cConsA (cVar 3) cNilA))))))))
def N_Desk_init : List Str := ["self"]
def m_Desk_init (call : Calls) : List D → Hd → R D := mkFn 1 1 (cStuckS)
def N_Desk_say : List Str := ["self", "row", "name", "text", "other", "word", "more"]
def m_Desk_say (call : Calls) : List D → Hd → R D := mkFn 7 2 (cStuckS)
def N_Desk_named : List Str := ["self", "name"]
def m_Desk_named (call : Calls) : List D → Hd → R D := mkFn 2 2 ((cSeq (cIfS (cTruB (cOp2 (inD true) (cVar 1) (cOp1 (getAt at_presses "presses") (cVar 0)))) (cRaise "NoName") cNil)
    (cRet (cOp2 ixD (cOp1 (getAt at_presses "presses") (cVar 0)) (cVar 1)))))
def N_Desk_put : List Str := ["self", "name", "text", "press"]
def m_Desk_put (call : Calls) : List D → Hd → R D := mkFn 4 3 (cStuckS)
def N_Desk_drop : List Str := ["self", "name"]
def m_Desk_drop (call : Calls) : List D → Hd → R D := mkFn 2 2 (cStuckS)
def N_Desk_undo : List Str := ["self", "name", "press"]
def m_Desk_undo (call : Calls) : List D → Hd → R D := mkFn 3 1 (cStuckS)
def N_checked_words : List Str := ["row", "words", "form", "kind", "word"]
def m_checked_words (call : Calls) : List D → Hd → R D := mkFn 5 1 (cStuckS)
def N_words_of : List Str := ["row"]
def m_words_of (call : Calls) : List D → Hd → R D := mkFn 1 1 (cStuckS)
def N_fits : List Str := ["kind", "word"]
def m_fits (call : Calls) : List D → Hd → R D := mkFn 2 2 ((cSeq (cIfS (cTruB (cOp2 (eqD false) (cVar 0) (cC (.str [78, 65, 77, 69])))) (cRet (cCall call "is_name" (cArgs 1 (cConsA (cVar 1) cNilA)))) cNil)
    (cSeq (cIfS (cTruB (cOp2 (eqD false) (cVar 0) (cC (.str [78])))) (cRet (cCall call "is_figures" (cArgs 1 (cConsA (cVar 1) cNilA)))) cNil)
    (cSeq (cIfS (cTruB (cOp2 (eqD false) (cVar 0) (cC (.str [76])))) (cRet (cOr (cOp2 (eqD false) (cVar 1) (cC (.str [42]))) (cCall call "is_mark" (cArgs 1 (cConsA (cVar 1) cNilA))))) cNil)
    (cRet (cC (.bl true)))))))
def N_told_of : List Str := ["press", "word", "more", "place", "first", "many", "ahead", "lap", "letter", "number"]
def m_told_of (call : Calls) : List D → Hd → R D := mkFn 10 3 (cStuckS)
def N_letter_of : List Str := ["word"]
def m_letter_of (call : Calls) : List D → Hd → R D := mkFn 1 1 ((cRet (cIf (cTruB (cOp2 (eqD false) (cVar 0) (cC (.str [42])))) (cC .non) (cVar 0))))
def N_told_number : List Str := ["number"]
def m_told_number (call : Calls) : List D → Hd → R D := mkFn 1 1 ((cRet (cIf (cTruB (cOp2 (isNonD false) (cVar 0) (cC .non))) (cC (.str [110, 111, 110, 101])) (cCall call "figures_of" (cArgs 1 (cConsA (cVar 0) cNilA))))))
abbrev Bod := List (Str × (Calls → List D → Hd → R D))
/-- the defs, called to a depth -/
def den (bod : Bod) : Nat → Calls
  | 0 => fun _ _ _ => .stuck
  | k + 1 => fun x ds S => match bod.lookup x with
    | some b => b (den bod k) ds S
    | none => .stuck
/-- the program's defs are among them -/
structure HasProg (bod : Bod) : Prop where
  p_is_row : bod.lookup ("is_row" : Str) = some m_is_row
  p_is_whole : bod.lookup ("is_whole" : Str) = some m_is_whole
  p_is_mark : bod.lookup ("is_mark" : Str) = some m_is_mark
  p_is_mark_or_none : bod.lookup ("is_mark_or_none" : Str) = some m_is_mark_or_none
  p_is_rim : bod.lookup ("is_rim" : Str) = some m_is_rim
  p_rolled : bod.lookup ("rolled" : Str) = some m_rolled
  p_marks_ahead : bod.lookup ("marks_ahead" : Str) = some m_marks_ahead
  p_tally_of : bod.lookup ("tally_of" : Str) = some m_tally_of
  p_roll_wheel : bod.lookup ("roll_wheel" : Str) = some m_roll_wheel
  p_roll_turned : bod.lookup ("roll_turned" : Str) = some m_roll_turned
  p_roll_over : bod.lookup ("roll_over" : Str) = some m_roll_over
  p_roll_cut : bod.lookup ("roll_cut" : Str) = some m_roll_cut
  p_roll_held : bod.lookup ("roll_held" : Str) = some m_roll_held
  p_roll_taking : bod.lookup ("roll_taking" : Str) = some m_roll_taking
  p_places_ahead : bod.lookup ("places_ahead" : Str) = some m_places_ahead
  p_by_turns : bod.lookup ("by_turns" : Str) = some m_by_turns
  p_roll_then : bod.lookup ("roll_then" : Str) = some m_roll_then
  p_roll_dyed : bod.lookup ("roll_dyed" : Str) = some m_roll_dyed
  p_Work_init : bod.lookup ("Work.__init__" : Str) = some m_Work_init
  p_work_of : bod.lookup ("work_of" : Str) = some m_work_of
  p_presses_within : bod.lookup ("presses_within" : Str) = some m_presses_within
  p_check_short : bod.lookup ("check_short" : Str) = some m_check_short
  p_together : bod.lookup ("together" : Str) = some m_together
  p_times_to : bod.lookup ("times_to" : Str) = some m_times_to
  p_reckon_wheel : bod.lookup ("reckon_wheel" : Str) = some m_reckon_wheel
  p_reckon_turned : bod.lookup ("reckon_turned" : Str) = some m_reckon_turned
  p_reckon_dyed : bod.lookup ("reckon_dyed" : Str) = some m_reckon_dyed
  p_reckon_over : bod.lookup ("reckon_over" : Str) = some m_reckon_over
  p_reckon_cut : bod.lookup ("reckon_cut" : Str) = some m_reckon_cut
  p_reckon_held : bod.lookup ("reckon_held" : Str) = some m_reckon_held
  p_reckon_taking : bod.lookup ("reckon_taking" : Str) = some m_reckon_taking
  p_reckon_then : bod.lookup ("reckon_then" : Str) = some m_reckon_then
  p_press_of : bod.lookup ("press_of" : Str) = some m_press_of
  p_parts_in : bod.lookup ("parts_in" : Str) = some m_parts_in
  p_work_from : bod.lookup ("work_from" : Str) = some m_work_from
  p_copied : bod.lookup ("copied" : Str) = some m_copied
  p_checked_rim : bod.lookup ("checked_rim" : Str) = some m_checked_rim
  p_checked_whole : bod.lookup ("checked_whole" : Str) = some m_checked_whole
  p_checked_pairs : bod.lookup ("checked_pairs" : Str) = some m_checked_pairs
  p_copied_turns : bod.lookup ("copied_turns" : Str) = some m_copied_turns
  p_copied_dyes : bod.lookup ("copied_dyes" : Str) = some m_copied_dyes
  p_reckoned : bod.lookup ("reckoned" : Str) = some m_reckoned
  p_figures_of : bod.lookup ("figures_of" : Str) = some m_figures_of
  p_press_text : bod.lookup ("press_text" : Str) = some m_press_text
  p_written : bod.lookup ("written" : Str) = some m_written
  p_written_turns : bod.lookup ("written_turns" : Str) = some m_written_turns
  p_written_dyes : bod.lookup ("written_dyes" : Str) = some m_written_dyes
  p_is_figures : bod.lookup ("is_figures" : Str) = some m_is_figures
  p_number_of : bod.lookup ("number_of" : Str) = some m_number_of
  p_is_name : bod.lookup ("is_name" : Str) = some m_is_name
  p_read_press : bod.lookup ("read_press" : Str) = some m_read_press
  p_parsed : bod.lookup ("parsed" : Str) = some m_parsed
  p_put_word : bod.lookup ("put_word" : Str) = some m_put_word
  p_formed : bod.lookup ("formed" : Str) = some m_formed
  p_part_of : bod.lookup ("part_of" : Str) = some m_part_of
  p_read_number : bod.lookup ("read_number" : Str) = some m_read_number
  p_read_turns : bod.lookup ("read_turns" : Str) = some m_read_turns
  p_read_dye : bod.lookup ("read_dye" : Str) = some m_read_dye
  p_check_place : bod.lookup ("check_place" : Str) = some m_check_place
  p_mark_at : bod.lookup ("mark_at" : Str) = some m_mark_at
  p_piece : bod.lookup ("piece" : Str) = some m_piece
  p_Laid_init : bod.lookup ("Laid.__init__" : Str) = some m_Laid_init
  p_short_work : bod.lookup ("short_work" : Str) = some m_short_work
  p_laid_from : bod.lookup ("laid_from" : Str) = some m_laid_from
  p_least_lap : bod.lookup ("least_lap" : Str) = some m_least_lap
  p_plain : bod.lookup ("plain" : Str) = some m_plain
  p_press_by : bod.lookup ("press_by" : Str) = some m_press_by
  p_round_of : bod.lookup ("round_of" : Str) = some m_round_of
  p_count_ahead : bod.lookup ("count_ahead" : Str) = some m_count_ahead
  p_place_of : bod.lookup ("place_of" : Str) = some m_place_of
  p_count_in : bod.lookup ("count_in" : Str) = some m_count_in
  p_places_in : bod.lookup ("places_in" : Str) = some m_places_in
  p_check_number : bod.lookup ("check_number" : Str) = some m_check_number
  p_check_letter : bod.lookup ("check_letter" : Str) = some m_check_letter
  p_how_many : bod.lookup ("how_many" : Str) = some m_how_many
  p_nth : bod.lookup ("nth" : Str) = some m_nth
  p_laid_out : bod.lookup ("laid_out" : Str) = some m_laid_out
  p_first_apart : bod.lookup ("first_apart" : Str) = some m_first_apart
  p_many_apart : bod.lookup ("many_apart" : Str) = some m_many_apart
  p_nth_apart : bod.lookup ("nth_apart" : Str) = some m_nth_apart
  p_unlike : bod.lookup ("unlike" : Str) = some m_unlike
  p_turning_of : bod.lookup ("turning_of" : Str) = some m_turning_of
  p_turning_to_lap : bod.lookup ("turning_to_lap" : Str) = some m_turning_to_lap
  p_order_matters : bod.lookup ("order_matters" : Str) = some m_order_matters
  p_is_seen : bod.lookup ("is_seen" : Str) = some m_is_seen
  p_check_seen : bod.lookup ("check_seen" : Str) = some m_check_seen
  p_check_length : bod.lookup ("check_length" : Str) = some m_check_length
  p_seen_of : bod.lookup ("seen_of" : Str) = some m_seen_of
  p_signs_in : bod.lookup ("signs_in" : Str) = some m_signs_in
  p_rim_of : bod.lookup ("rim_of" : Str) = some m_rim_of
  p_lengths_for : bod.lookup ("lengths_for" : Str) = some m_lengths_for
  p_rim_for : bod.lookup ("rim_for" : Str) = some m_rim_for
  p_spoilt_for : bod.lookup ("spoilt_for" : Str) = some m_spoilt_for
  p_least_spoilt : bod.lookup ("least_spoilt" : Str) = some m_least_spoilt
  p_spoilt_of : bod.lookup ("spoilt_of" : Str) = some m_spoilt_of
  p_most_often : bod.lookup ("most_often" : Str) = some m_most_often
  p_two_for : bod.lookup ("two_for" : Str) = some m_two_for
  p_least_two : bod.lookup ("least_two" : Str) = some m_least_two
  p_beneath : bod.lookup ("beneath" : Str) = some m_beneath
  p_upper_rim : bod.lookup ("upper_rim" : Str) = some m_upper_rim
  p_piece_beneath : bod.lookup ("piece_beneath" : Str) = some m_piece_beneath
  p_check_pieces : bod.lookup ("check_pieces" : Str) = some m_check_pieces
  p_known_from : bod.lookup ("known_from" : Str) = some m_known_from
  p_laid_on : bod.lookup ("laid_on" : Str) = some m_laid_on
  p_turnings : bod.lookup ("turnings" : Str) = some m_turnings
  p_laid_together : bod.lookup ("laid_together" : Str) = some m_laid_together
  p_Names_init : bod.lookup ("Names.__init__" : Str) = some m_Names_init
  p_Names_meant : bod.lookup ("Names.meant" : Str) = some m_Names_meant
  p_read_named : bod.lookup ("read_named" : Str) = some m_read_named
  p_Desk_init : bod.lookup ("Desk.__init__" : Str) = some m_Desk_init
  p_Desk_say : bod.lookup ("Desk.say" : Str) = some m_Desk_say
  p_Desk_named : bod.lookup ("Desk.named" : Str) = some m_Desk_named
  p_Desk_put : bod.lookup ("Desk.put" : Str) = some m_Desk_put
  p_Desk_drop : bod.lookup ("Desk.drop" : Str) = some m_Desk_drop
  p_Desk_undo : bod.lookup ("Desk.undo" : Str) = some m_Desk_undo
  p_checked_words : bod.lookup ("checked_words" : Str) = some m_checked_words
  p_words_of : bod.lookup ("words_of" : Str) = some m_words_of
  p_fits : bod.lookup ("fits" : Str) = some m_fits
  p_told_of : bod.lookup ("told_of" : Str) = some m_told_of
  p_letter_of : bod.lookup ("letter_of" : Str) = some m_letter_of
  p_told_number : bod.lookup ("told_number" : Str) = some m_told_number
def progBod : Bod := [(("is_row" : Str), m_is_row), (("is_whole" : Str), m_is_whole), (("is_mark" : Str), m_is_mark), (("is_mark_or_none" : Str), m_is_mark_or_none), (("is_rim" : Str), m_is_rim), (("rolled" : Str), m_rolled), (("marks_ahead" : Str), m_marks_ahead), (("tally_of" : Str), m_tally_of), (("roll_wheel" : Str), m_roll_wheel), (("roll_turned" : Str), m_roll_turned), (("roll_over" : Str), m_roll_over), (("roll_cut" : Str), m_roll_cut), (("roll_held" : Str), m_roll_held), (("roll_taking" : Str), m_roll_taking), (("places_ahead" : Str), m_places_ahead), (("by_turns" : Str), m_by_turns), (("roll_then" : Str), m_roll_then), (("roll_dyed" : Str), m_roll_dyed), (("Work.__init__" : Str), m_Work_init), (("work_of" : Str), m_work_of), (("presses_within" : Str), m_presses_within), (("check_short" : Str), m_check_short), (("together" : Str), m_together), (("times_to" : Str), m_times_to), (("reckon_wheel" : Str), m_reckon_wheel), (("reckon_turned" : Str), m_reckon_turned), (("reckon_dyed" : Str), m_reckon_dyed), (("reckon_over" : Str), m_reckon_over), (("reckon_cut" : Str), m_reckon_cut), (("reckon_held" : Str), m_reckon_held), (("reckon_taking" : Str), m_reckon_taking), (("reckon_then" : Str), m_reckon_then), (("press_of" : Str), m_press_of), (("parts_in" : Str), m_parts_in), (("work_from" : Str), m_work_from), (("copied" : Str), m_copied), (("checked_rim" : Str), m_checked_rim), (("checked_whole" : Str), m_checked_whole), (("checked_pairs" : Str), m_checked_pairs), (("copied_turns" : Str), m_copied_turns), (("copied_dyes" : Str), m_copied_dyes), (("reckoned" : Str), m_reckoned), (("figures_of" : Str), m_figures_of), (("press_text" : Str), m_press_text), (("written" : Str), m_written), (("written_turns" : Str), m_written_turns), (("written_dyes" : Str), m_written_dyes), (("is_figures" : Str), m_is_figures), (("number_of" : Str), m_number_of), (("is_name" : Str), m_is_name), (("read_press" : Str), m_read_press), (("parsed" : Str), m_parsed), (("put_word" : Str), m_put_word), (("formed" : Str), m_formed), (("part_of" : Str), m_part_of), (("read_number" : Str), m_read_number), (("read_turns" : Str), m_read_turns), (("read_dye" : Str), m_read_dye), (("check_place" : Str), m_check_place), (("mark_at" : Str), m_mark_at), (("piece" : Str), m_piece), (("Laid.__init__" : Str), m_Laid_init), (("short_work" : Str), m_short_work), (("laid_from" : Str), m_laid_from), (("least_lap" : Str), m_least_lap), (("plain" : Str), m_plain), (("press_by" : Str), m_press_by), (("round_of" : Str), m_round_of), (("count_ahead" : Str), m_count_ahead), (("place_of" : Str), m_place_of), (("count_in" : Str), m_count_in), (("places_in" : Str), m_places_in), (("check_number" : Str), m_check_number), (("check_letter" : Str), m_check_letter), (("how_many" : Str), m_how_many), (("nth" : Str), m_nth), (("laid_out" : Str), m_laid_out), (("first_apart" : Str), m_first_apart), (("many_apart" : Str), m_many_apart), (("nth_apart" : Str), m_nth_apart), (("unlike" : Str), m_unlike), (("turning_of" : Str), m_turning_of), (("turning_to_lap" : Str), m_turning_to_lap), (("order_matters" : Str), m_order_matters), (("is_seen" : Str), m_is_seen), (("check_seen" : Str), m_check_seen), (("check_length" : Str), m_check_length), (("seen_of" : Str), m_seen_of), (("signs_in" : Str), m_signs_in), (("rim_of" : Str), m_rim_of), (("lengths_for" : Str), m_lengths_for), (("rim_for" : Str), m_rim_for), (("spoilt_for" : Str), m_spoilt_for), (("least_spoilt" : Str), m_least_spoilt), (("spoilt_of" : Str), m_spoilt_of), (("most_often" : Str), m_most_often), (("two_for" : Str), m_two_for), (("least_two" : Str), m_least_two), (("beneath" : Str), m_beneath), (("upper_rim" : Str), m_upper_rim), (("piece_beneath" : Str), m_piece_beneath), (("check_pieces" : Str), m_check_pieces), (("known_from" : Str), m_known_from), (("laid_on" : Str), m_laid_on), (("turnings" : Str), m_turnings), (("laid_together" : Str), m_laid_together), (("Names.__init__" : Str), m_Names_init), (("Names.meant" : Str), m_Names_meant), (("read_named" : Str), m_read_named), (("Desk.__init__" : Str), m_Desk_init), (("Desk.say" : Str), m_Desk_say), (("Desk.named" : Str), m_Desk_named), (("Desk.put" : Str), m_Desk_put), (("Desk.drop" : Str), m_Desk_drop), (("Desk.undo" : Str), m_Desk_undo), (("checked_words" : Str), m_checked_words), (("words_of" : Str), m_words_of), (("fits" : Str), m_fits), (("told_of" : Str), m_told_of), (("letter_of" : Str), m_letter_of), (("told_number" : Str), m_told_number)]
theorem hasProg (l : Bod) : HasProg (progBod ++ l) where
  p_is_row := by kernel_rfl
  p_is_whole := by kernel_rfl
  p_is_mark := by kernel_rfl
  p_is_mark_or_none := by kernel_rfl
  p_is_rim := by kernel_rfl
  p_rolled := by kernel_rfl
  p_marks_ahead := by kernel_rfl
  p_tally_of := by kernel_rfl
  p_roll_wheel := by kernel_rfl
  p_roll_turned := by kernel_rfl
  p_roll_over := by kernel_rfl
  p_roll_cut := by kernel_rfl
  p_roll_held := by kernel_rfl
  p_roll_taking := by kernel_rfl
  p_places_ahead := by kernel_rfl
  p_by_turns := by kernel_rfl
  p_roll_then := by kernel_rfl
  p_roll_dyed := by kernel_rfl
  p_Work_init := by kernel_rfl
  p_work_of := by kernel_rfl
  p_presses_within := by kernel_rfl
  p_check_short := by kernel_rfl
  p_together := by kernel_rfl
  p_times_to := by kernel_rfl
  p_reckon_wheel := by kernel_rfl
  p_reckon_turned := by kernel_rfl
  p_reckon_dyed := by kernel_rfl
  p_reckon_over := by kernel_rfl
  p_reckon_cut := by kernel_rfl
  p_reckon_held := by kernel_rfl
  p_reckon_taking := by kernel_rfl
  p_reckon_then := by kernel_rfl
  p_press_of := by kernel_rfl
  p_parts_in := by kernel_rfl
  p_work_from := by kernel_rfl
  p_copied := by kernel_rfl
  p_checked_rim := by kernel_rfl
  p_checked_whole := by kernel_rfl
  p_checked_pairs := by kernel_rfl
  p_copied_turns := by kernel_rfl
  p_copied_dyes := by kernel_rfl
  p_reckoned := by kernel_rfl
  p_figures_of := by kernel_rfl
  p_press_text := by kernel_rfl
  p_written := by kernel_rfl
  p_written_turns := by kernel_rfl
  p_written_dyes := by kernel_rfl
  p_is_figures := by kernel_rfl
  p_number_of := by kernel_rfl
  p_is_name := by kernel_rfl
  p_read_press := by kernel_rfl
  p_parsed := by kernel_rfl
  p_put_word := by kernel_rfl
  p_formed := by kernel_rfl
  p_part_of := by kernel_rfl
  p_read_number := by kernel_rfl
  p_read_turns := by kernel_rfl
  p_read_dye := by kernel_rfl
  p_check_place := by kernel_rfl
  p_mark_at := by kernel_rfl
  p_piece := by kernel_rfl
  p_Laid_init := by kernel_rfl
  p_short_work := by kernel_rfl
  p_laid_from := by kernel_rfl
  p_least_lap := by kernel_rfl
  p_plain := by kernel_rfl
  p_press_by := by kernel_rfl
  p_round_of := by kernel_rfl
  p_count_ahead := by kernel_rfl
  p_place_of := by kernel_rfl
  p_count_in := by kernel_rfl
  p_places_in := by kernel_rfl
  p_check_number := by kernel_rfl
  p_check_letter := by kernel_rfl
  p_how_many := by kernel_rfl
  p_nth := by kernel_rfl
  p_laid_out := by kernel_rfl
  p_first_apart := by kernel_rfl
  p_many_apart := by kernel_rfl
  p_nth_apart := by kernel_rfl
  p_unlike := by kernel_rfl
  p_turning_of := by kernel_rfl
  p_turning_to_lap := by kernel_rfl
  p_order_matters := by kernel_rfl
  p_is_seen := by kernel_rfl
  p_check_seen := by kernel_rfl
  p_check_length := by kernel_rfl
  p_seen_of := by kernel_rfl
  p_signs_in := by kernel_rfl
  p_rim_of := by kernel_rfl
  p_lengths_for := by kernel_rfl
  p_rim_for := by kernel_rfl
  p_spoilt_for := by kernel_rfl
  p_least_spoilt := by kernel_rfl
  p_spoilt_of := by kernel_rfl
  p_most_often := by kernel_rfl
  p_two_for := by kernel_rfl
  p_least_two := by kernel_rfl
  p_beneath := by kernel_rfl
  p_upper_rim := by kernel_rfl
  p_piece_beneath := by kernel_rfl
  p_check_pieces := by kernel_rfl
  p_known_from := by kernel_rfl
  p_laid_on := by kernel_rfl
  p_turnings := by kernel_rfl
  p_laid_together := by kernel_rfl
  p_Names_init := by kernel_rfl
  p_Names_meant := by kernel_rfl
  p_read_named := by kernel_rfl
  p_Desk_init := by kernel_rfl
  p_Desk_say := by kernel_rfl
  p_Desk_named := by kernel_rfl
  p_Desk_put := by kernel_rfl
  p_Desk_drop := by kernel_rfl
  p_Desk_undo := by kernel_rfl
  p_checked_words := by kernel_rfl
  p_words_of := by kernel_rfl
  p_fits := by kernel_rfl
  p_told_of := by kernel_rfl
  p_letter_of := by kernel_rfl
  p_told_number := by kernel_rfl
end Dn

set_option Elab.async false
set_option linter.all false
set_option maxRecDepth 100000
set_option maxHeartbeats 4000000
set_option autoImplicit false
/-! # The ends: the defs at every level, from the head's facts -/
namespace Dn
open PySem PySem.Spec PyProof.Rows L2 Kx
def Gk (bod : Bod) (P : Program) (w : World) (K : PySem.W.Frag) (mg : Str → Option Value) (base : Heap) (Pt : Addr) (u : Bool) (cd : Value) (k : Nat) : Gc := ⟨P, w, K, mg, base, [Pt], k, den bod k, u, cd⟩
section
variable {bod : Bod} {P : Program} {w : World} {K : PySem.W.Frag} {mg : Str → Option Value} {base : Heap} {Pt f : Addr} {fd : FuncData} {u u' : Bool} {cd cd' : Value} {k k' n : Nat} {x qual : Str} {params : Arguments} {body : List Stmt} {scope : Scope} {ps N : List Str} {c : CS} {dvs : List V} {kws : List (Str × V)}
theorem fn_zero {Q : CXT} (hn : ps.length = n) : FnOk P w K mg base Q (2 * 0) f fd ps (spD (Gk bod P w K mg base Pt u cd 0) n (den bod 0 x)) := by
  refine ⟨fun vs H Q E h => h.1.trans hn.symm, fun A outer s H args us vs Q E _ _ _ _ h => ?_⟩
  obtain ⟨_, ρ, S, ds, _, _, g⟩ := h
  exact g.elim
theorem cal_zero (F : FunD K x qual params body scope dvs kws f fd) (hm : mg x = some (.ref f)) (hb : Binds K fd ps []) (hn : ps.length = n) : CalD (Gk bod P w K mg base Pt u cd 0) n x :=
  ⟨f, fd, ps, fn_zero (x := x) hn, hm, F.kp, hb⟩
theorem fn_succ {y : Str} (F : FunD K y qual params body scope dvs kws f fd) (Sc : FnScope N ps scope) (hn : ps.length = n) {m : Calls → List D → Hd → R D} (hl : bod.lookup x = some m) (hmc : m (den bod k) = mkFn N.length ps.length c)
    (hb : RSs (Gk bod P w K mg base Pt u' cd' k) N ⟨true, true⟩ scope body c) (hcd : u' = true → fd.code = cd') : FnOk P w K mg base (L2.CX P w) (2 * (k + 1)) f fd ps (spD (Gk bod P w K mg base Pt u cd (k + 1)) n (den bod (k + 1) x)) := by
  have e : den bod (k + 1) x = mkFn N.length ps.length c := by
    funext ds S
    show (match bod.lookup x with | some b => b (den bod k) ds S | none => .stuck) = _
    rw [hl]
    exact congrFun (congrFun hmc ds) S
  rw [e, ← hn]
  exact fn_ok (P := P) (w := w) (G := Gk bod P w K mg base Pt u' cd' k) F Sc hb hcd
theorem fn_succ1 (F : FunD K x qual params body scope dvs kws f fd) (Sc : FnScope N ps scope) (hn : ps.length = n) {m : Calls → List D → Hd → R D} (hl : bod.lookup x = some m) (hmc : m (den bod k) = mkFn N.length ps.length c)
    (hnc : scope.names.all (fun y => match y.2 with | .cell => false | _ => true) = true) (hps : 1 ≤ ps.length)
    (hb : RSs1 (Gk bod P w K mg base Pt u' cd' k) N ⟨true, true⟩ scope body c) (hcd : u' = true → fd.code = cd') : FnOk P w K mg base (L2.CX P w) (2 * (k + 1)) f fd ps (spD (Gk bod P w K mg base Pt u cd (k + 1)) n (den bod (k + 1) x)) := by
  have e : den bod (k + 1) x = mkFn N.length ps.length c := by
    funext ds S
    show (match bod.lookup x with | some b => b (den bod k) ds S | none => .stuck) = _
    rw [hl]
    exact congrFun (congrFun hmc ds) S
  rw [e, ← hn]
  exact fn_ok1 (P := P) (w := w) (G := Gk bod P w K mg base Pt u' cd' k) F Sc hnc hps hb hcd
theorem cal_succ (F : FunD K x qual params body scope dvs kws f fd) (hm : mg x = some (.ref f)) (hbi : Binds K fd ps []) (Sc : FnScope N ps scope) (hn : ps.length = n) {m : Calls → List D → Hd → R D} (hl : bod.lookup x = some m) (hmc : m (den bod k) = mkFn N.length ps.length c)
    (hb : RSs (Gk bod P w K mg base Pt u' cd' k) N ⟨true, true⟩ scope body c) (hcd : u' = true → fd.code = cd') : CalD (Gk bod P w K mg base Pt u cd (k + 1)) n x :=
  ⟨f, fd, ps, fn_succ F Sc hn hl hmc hb hcd, hm, F.kp, hbi⟩
theorem cal_succ1 (F : FunD K x qual params body scope dvs kws f fd) (hm : mg x = some (.ref f)) (hbi : Binds K fd ps []) (Sc : FnScope N ps scope) (hn : ps.length = n) {m : Calls → List D → Hd → R D} (hl : bod.lookup x = some m) (hmc : m (den bod k) = mkFn N.length ps.length c)
    (hnc : scope.names.all (fun y => match y.2 with | .cell => false | _ => true) = true) (hps : 1 ≤ ps.length)
    (hb : RSs1 (Gk bod P w K mg base Pt u' cd' k) N ⟨true, true⟩ scope body c) (hcd : u' = true → fd.code = cd') : CalD (Gk bod P w K mg base Pt u cd (k + 1)) n x := by
  have e : den bod (k + 1) x = mkFn N.length ps.length c := by
    funext ds S
    show (match bod.lookup x with | some b => b (den bod k) ds S | none => .stuck) = _
    rw [hl]
    exact congrFun (congrFun hmc ds) S
  refine ⟨f, fd, ps, ?_, hm, F.kp, hbi⟩
  show FnOk P w K mg base (L2.CX P w) (2 * (k + 1)) f fd ps (spD (Gk bod P w K mg base Pt u cd (k + 1)) n (den bod (k + 1) x))
  rw [e, ← hn]
  exact fn_ok1 (P := P) (w := w) (G := Gk bod P w K mg base Pt u' cd' k) F Sc hnc hps hb hcd
theorem calO_zero (F : FunD K x qual params body scope dvs kws f fd) (hm : mg x = some (.ref f)) {is : List Int} (hb : ∃ us, Vals (is.map V.int) us ∧ Binds K fd ps us) (hn : ps.length = n + is.length) : CalO (Gk bod P w K mg base Pt u cd 0) n is x := by
  obtain ⟨us, r, b⟩ := hb
  exact ⟨f, fd, ps, us, fn_zero (x := x) hn, hm, F.kp, r, b⟩
theorem calO_succ (F : FunD K x qual params body scope dvs kws f fd) (hm : mg x = some (.ref f)) {is : List Int} (hbi : ∃ us, Vals (is.map V.int) us ∧ Binds K fd ps us) (Sc : FnScope N ps scope) (hn : ps.length = n + is.length) {m : Calls → List D → Hd → R D} (hl : bod.lookup x = some m) (hmc : m (den bod k) = mkFn N.length ps.length c)
    (hb : RSs (Gk bod P w K mg base Pt u' cd' k) N ⟨true, true⟩ scope body c) (hcd : u' = true → fd.code = cd') : CalO (Gk bod P w K mg base Pt u cd (k + 1)) n is x := by
  obtain ⟨us, r, b⟩ := hbi
  exact ⟨f, fd, ps, us, fn_succ F Sc hn hl hmc hb hcd, hm, F.kp, r, b⟩
theorem mak_of {G : Gc} {C y : Str} {cl : Addr} (F : FnOk G.P G.w G.K G.mg G.base (L2.CX G.P G.w) (2 * G.k) f fd ps (spD G (n + 1) (G.call y))) (hm : G.mg C = some (.ref cl)) (M : Mk G.K cl f) (hb : Binds G.K fd ps []) : MakD G n C y := ⟨cl, f, fd, ps, F, hm, M, hb⟩
theorem cla_of {G : Gc} {C a : Str} {c : Addr} (hm : G.mg C = some (.ref c)) (h : Cls G.K c) (h2 : NoAttr G.K c a) : ClA G C a := ⟨fun c' e => by
  rw [hm] at e
  cases e
  exact ⟨h, h2⟩⟩
theorem cla_no {G : Gc} {C a : Str} (hm : G.mg C = none) : ClA G C a := ⟨fun c' e => by rw [hm] at e; cases e⟩
theorem exc_of {G : Gc} {x : Str} {C : Addr} (hm : G.mg x = some (.ref C)) (h : PySem.W.excIn G.K C He.veBase "ValueError.__new__" = true ∧ PySem.W.keepIn G.K (.ref C) = true ∧ PySem.W.subIn G.K (.ref C) (.type "BaseException") = some true ∧ PySem.W.typeIn G.K (.ref C) = some (.type "type")) : ExcD G x :=
  ⟨C, _, _, _, _, PySem.F.excBase_ValueError, h.1, hm, h.2.1, h.2.2.1, h.2.2.2⟩
theorem tab_of {G : Gc} {x : Str} {tab : List (List Nat × Str)} {p : Addr} (hp : G.mg x = some (.ref p)) (D : ∃ es n, KDict G.K G.w p es n) (hv : He.valsB G.K p (tab.map fun q => (⟨q.1.toArray⟩, .glo q.2)) = true) (hg : ∀ q ∈ tab, G.mg q.2 = some (.ref (He.ga G.K q.2))) : TabD G x tab := by
  obtain ⟨es, n, D⟩ := D
  refine ⟨p, hp, fun q hq => ⟨_, ?_, hg q hq⟩⟩
  obtain ⟨u, h1, h2⟩ := He.valsB_ok hv (List.mem_map_of_mem (f := fun q : List Nat × Str => ((⟨q.1.toArray⟩, .glo q.2) : Str × He.Dv)) hq)
  exact ⟨es, n, u, D.at_, D.lit, h1, h2⟩
theorem allm {α : Type} {p : α → Prop} {a : α} {l : List α} (h : p a) (t : ∀ x ∈ l, p x) : ∀ x ∈ a :: l, p x := fun x hx => by
  cases hx with
  | head => exact h
  | tail _ m => exact t x m
theorem alln {α : Type} {p : α → Prop} : ∀ x ∈ ([] : List α), p x := fun x hx => by cases hx
theorem bi_of (h : Nat → Prop) : True := trivial
/-- a builtin that the module binds -/
theorem imp_of {h : Heap} (X : K.In h) (Gn : h.Ns mainGlobals mg) {v : Value} (c : He.eqO (PySem.W.nsIn K mainGlobals x) (some (some v)) = true) : mg x = some v := PySem.W.mg_of X Gn (He.eqO_ok c)
/-- a def's code object -/
theorem code_of {p : He.Defn} {y : Str} (F : FunD K y qual params body scope [] [] (He.fAd K p) fd) : fd.code = .ref (He.cT K p).1 := by
  obtain ⟨oc, od, dV, kV, doc, pm, an, cdv, ct, osl, rfl, lk, hcd, _, _⟩ := F.ex
  obtain ⟨c, rfl⟩ := He.codeIn_ref hcd
  have := He.codeOf_eq (c := c) lk rfl
  show (Value.ref c) = Value.ref (He.codeOf K p)
  rw [this]
/-- the law is true of every script: its meaning, called to depth k -/
def Pure (bod : Bod) (k : Nat) : Prop := ∀ (ns : List Int), ns.length ≤ 63 → ∀ o, (o = Ob.lst (ns.map D.int) ∨ o = Ob.ro (ns.map D.int)) → ∃ S, den bod k "law" [.ref 0] [o] = .ok (.bl true) S
theorem reps_ints {ρ : List Addr} {H : Hp} : ∀ ns : List Int, Reps mg ρ H (ns.map V.int) (ns.map D.int)
  | [] => .nil
  | n :: t => .cons (.int n) (reps_ints t)
theorem end_ok {H : Hp} {a : Addr} {ns : List Int} (hl : ns.length ≤ 63) (nl : ∀ o its n, K.lookup a = some o → o.cls = .type "list" → o.dict = none → o.data = .seq its n → False) (hS : SqL K H a (ns.map V.int)) (hT : H Pt = some (.tbl #[])) (hp : Pure bod k) :
    spD (Gk bod P w K mg base Pt u cd k') 1 (den bod k "law") [.ref a] H (fun v _ => v = .bl true) fun _ _ _ => False := by
  have key : ∃ o, (o = Ob.lst (ns.map D.int) ∨ o = Ob.ro (ns.map D.int)) ∧ ObR mg [a] H a o := by
    rcases hS with h | ⟨o, its, n, h1, h2, h3, h4, _⟩
    · rcases h with h | ⟨o, h⟩
      · exact ⟨_, .inl rfl, .lst h (reps_ints ns)⟩
      · exact ⟨_, .inr rfl, .ro h (reps_ints ns)⟩
    · exact (nl o its n h1 h2 h3 h4).elim
  obtain ⟨o, ho, r⟩ := key
  obtain ⟨S', e⟩ := hp ns hl o ho
  refine ⟨rfl, [a], [o], [.ref 0], ⟨rfl, by simp, fun n o' h => ?_, fun P hP => ?_⟩, .cons (.ref rfl) .nil, ?_⟩
  · cases n with
    | zero =>
      cases h
      exact ⟨a, rfl, r⟩
    | succ n => cases h
  · cases hP with
    | head => exact ⟨_, hT, by first | trivial | constructor | exact .nil⟩
    | tail _ m => cases m
  · rw [e]
    intro ρ' H' v _ _ r
    cases r
    rfl
end
end Dn

set_option linter.all false
set_option maxRecDepth 100000
set_option maxHeartbeats 1000000
set_option autoImplicit false
/-! # What the meanings are: rules of evaluation -/
namespace Dn
open PySem PySem.Spec Kx
section
variable {α β : Type} {S : Hd} {Γ : Gm}
theorem v_bo (a : α) (f : α → Hd → R β) : (R.ok a S).bind f = f a S := rfl
theorem v_be (c : Str) (f : α → Hd → R β) : (R.exc c S : R α).bind f = .exc c S := rfl
theorem v_bi {c : Prop} [Decidable c] (a b : R α) (f : α → Hd → R β) : (if c then a else b).bind f = if c then a.bind f else b.bind f := by split <;> rfl
theorem v_so (a : α) (f : α → Hd → RS) : (R.ok a S).bindS Γ f = f a S := rfl
theorem v_se (c : Str) (f : α → Hd → RS) : (R.exc c S : R α).bindS Γ f = .exc c Γ S := rfl
theorem v_si {c : Prop} [Decidable c] (a b : R α) (f : α → Hd → RS) : (if c then a else b).bindS Γ f = if c then a.bindS Γ f else b.bindS Γ f := by split <;> rfl
theorem v_tn (f : Gm → Hd → RS) : (RS.nx Γ S).then f = f Γ S := rfl
theorem v_tr (d : D) (f : Gm → Hd → RS) : (RS.rt d S).then f = .rt d S := rfl
theorem v_te (c : Str) (f : Gm → Hd → RS) : (RS.exc c Γ S).then f = .exc c Γ S := rfl
theorem v_ti {c : Prop} [Decidable c] (a b : RS) (f : Gm → Hd → RS) : (if c then a else b).then f = if c then a.then f else b.then f := by split <;> rfl
theorem v_rn : (RS.nx Γ S).ret = .ok .non S := rfl
theorem v_rr (d : D) : (RS.rt d S).ret = .ok d S := rfl
theorem v_re (c : Str) : (RS.exc c Γ S).ret = .exc c S := rfl
theorem v_ri {c : Prop} [Decidable c] (a b : RS) : (if c then a else b).ret = if c then a.ret else b.ret := by split <;> rfl
theorem v_gn : (RS.nx Γ S).tgt = .nx Γ S := rfl
theorem v_gi {c : Prop} [Decidable c] (a b : RS) : (if c then a else b).tgt = if c then a.tgt else b.tgt := by split <;> rfl
theorem v_ii {c : Prop} [Decidable c] {a b d e : α} : (if (if c then True else False) then a else b) = if c then a else b := by split <;> simp_all
end
def brB (x : D) (t e : R D) : R D := match x with
  | .bl true => t
  | .bl false => e
  | _ => .stuck
theorem v_br (b : Bool) (t e : R D) : brB (.bl b) t e = if b then t else e := by cases b <;> rfl
/-! ### the words -/
section
variable {S : Hd} {Γ : Gm}
theorem w_mk (n m : Nat) (c : CS) (ds : List D) (h : ds.length = m) : mkFn n m c ds S = (c (ds.map some ++ List.replicate (n - m) none) S).ret := if_pos h
theorem w_seq (a b : CS) : cSeq a b Γ S = (a Γ S).then b := rfl
theorem w_set (i : Nat) (m : CE) : cSet i m Γ S = (m Γ S).bindS Γ fun d S1 => .nx (Γ.set i (some d)) S1 := rfl
theorem w_ret (m : CE) : cRet m Γ S = (m Γ S).bindS Γ fun d S1 => .rt d S1 := rfl
theorem w_retN : cRetN Γ S = .rt .non S := rfl
theorem w_exp (m : CE) : cExp m Γ S = (m Γ S).bindS Γ fun _ S1 => .nx Γ S1 := rfl
theorem w_nil : cNil Γ S = .nx Γ S := rfl
theorem w_ifS (t : CT) (a b : CS) : cIfS t a b Γ S = (t Γ S).bindS Γ fun k S1 => if k then a Γ S1 else b Γ S1 := rfl
theorem w_truB (m : CE) : cTruB m Γ S = (m Γ S).bind truB := rfl
theorem w_tru (m : CE) : cTru m Γ S = (m Γ S).bind truD := rfl
theorem w_notT (t : CT) : cNotT t Γ S = (t Γ S).bind fun b S1 => .ok (!b) S1 := rfl
theorem w_andT (t u : CT) : cAndT t u Γ S = (t Γ S).bind fun b S1 => if b then u Γ S1 else .ok false S1 := rfl
theorem w_orT (t u : CT) : cOrT t u Γ S = (t Γ S).bind fun b S1 => if b then .ok true S1 else u Γ S1 := rfl
theorem w_and (a b : CE) : cAnd a b Γ S = (a Γ S).bind fun x S1 => brB x (b Γ S1) (.ok (.bl false) S1) := by
  unfold cAnd
  congr 1
theorem w_or (a b : CE) : cOr a b Γ S = (a Γ S).bind fun x S1 => brB x (.ok (.bl true) S1) (b Γ S1) := by
  unfold cOr
  congr 1
theorem w_not (a : CE) : cNot a Γ S = (a Γ S).bind fun x S1 => (truD x S1).bind fun b S2 => .ok (.bl (!b)) S2 := rfl
theorem w_if (t : CT) (a b : CE) : cIf t a b Γ S = (t Γ S).bind fun c S1 => if c then a Γ S1 else b Γ S1 := rfl
theorem w_c (d : D) : cC d Γ S = .ok d S := rfl
theorem w_op1 (f : D → Hd → R D) (a : CE) : cOp1 f a Γ S = (a Γ S).bind f := rfl
theorem w_op2 (f : D → D → Hd → R D) (a b : CE) : cOp2 f a b Γ S = (a Γ S).bind fun x S1 => (b Γ S1).bind fun y S2 => f x y S2 := rfl
theorem w_call (call : Calls) (x : Str) (ms : CA) : cCall call x ms Γ S = (ms Γ S).bind fun ds S1 => call x ds S1 := rfl
theorem w_args (n : Nat) (ms : CA) : cArgs n ms Γ S = (ms Γ S).bind fun ds S1 => if ds.length = n then .ok ds S1 else .stuck := rfl
theorem w_nilA : cNilA Γ S = .ok [] S := rfl
theorem w_consA (m : CE) (ms : CA) : cConsA m ms Γ S = (m Γ S).bind fun d S1 => (ms Γ S1).bind fun ds S2 => .ok (d :: ds) S2 := rfl
theorem w_tup (ms : CA) : cTup ms Γ S = (ms Γ S).bind fun ds S1 => if ds.length ≤ 16777216 then .ok (.tup ds) S1 else .stuck := rfl
theorem w_lst (ms : CA) : cLst ms Γ S = (ms Γ S).bind fun ds S1 => if ds.length ≤ 16777216 then alloc (.lst ds) S1 else .stuck := rfl
theorem w_blt (f : List D → Hd → R D) (ms : CA) : cBlt f ms Γ S = (ms Γ S).bind f := rfl
theorem w_mt (T : String) (ty : D → Hd → Bool) (f : D → List D → Hd → R D) (m : CE) (ms : CA) : cMt T ty f m ms Γ S = (m Γ S).bind fun d S1 => if ty d S1 then (ms Γ S1).bind fun ds S2 => f d ds S2 else .stuck := rfl
theorem w_raise (x : Str) : cRaise x Γ S = .exc x Γ S := rfl
theorem w_chain (f f' : D → D → Hd → R D) (m1 m2 m3 : CE) : cChain f f' m1 m2 m3 Γ S = (m1 Γ S).bind fun a S1 => (m2 Γ S1).bind fun b S2 => (f a b S2).bind fun k S3 => brB k ((m3 Γ S3).bind fun c S4 => f' b c S4) (.ok (.bl false) S3) := by
  unfold cChain
  congr 1
theorem w_asgT (m : CE) (g : CG) : cAsgT m g Γ S = (m Γ S).bindS Γ fun d S1 => (g d Γ S1).tgt := rfl
theorem w_var (i : Nat) (d : D) (h : Γ[i]? = some (some d)) : cVar i Γ S = .ok d S := by
  unfold cVar
  rw [h]
theorem w_allS (pb : Nat → Bool) (m : CE) : cAllS pb m Γ S = (m Γ S).bind (fun d S => match d with
  | .str l => .ok (.bl (l.all pb)) S
  | _ => .stuck) := rfl
theorem k_si : L2.kitB "str" "str" = some true := rfl
theorem k_ss : L2.kitB "str" "int" = some false := rfl
theorem k_ii : L2.kitB "int" "int" = some true := rfl
theorem k_ib : L2.kitB "int" "bool" = some false := rfl
theorem k_is : L2.kitB "int" "str" = some false := rfl
theorem k_tl : L2.kitB "tuple" "list" = some false := rfl
theorem k_tt : L2.kitB "tuple" "tuple" = some true := rfl
theorem k_ll : L2.kitB "list" "list" = some true := rfl
theorem k_lt : L2.kitB "list" "tuple" = some false := rfl
theorem den_eq {bod : Bod} {x : Str} {m : Calls → List D → Hd → R D} (h : bod.lookup x = some m) (k : Nat) (ds : List D) (S : Hd) : den bod (k + 1) x ds S = m (den bod k) ds S := by
  show (match bod.lookup x with | some b => b (den bod k) ds S | none => .stuck) = _
  rw [h]
theorem one_of {j n : Nat} (h : n + 1 ≤ j) : ∃ k, j = k + 1 ∧ n ≤ k := ⟨j - 1, by omega, by omega⟩
end
end Dn

set_option linter.all false
set_option maxRecDepth 100000
set_option maxHeartbeats 1000000
set_option autoImplicit false
/-! # Loops of meanings -/
namespace Dn
open PySem PySem.Spec Kx L2
section
variable {S : Hd} {Γ : Gm} {src : Src} {g : CG} {b : CS}
/-- a for over a known list, by what holds ahead of each turn -/
theorem forL_inv (ds : List D) (I : Nat → Gm → Hd → Prop) (hsrc : ∀ i Γ S, I i Γ S → i ≤ ds.length → nextS S i src = some ds[i]?)
    (step : ∀ i d Γ S, ds[i]? = some d → I i Γ S → ∃ Γ1 S1 Γ2 S2, g d Γ S = .nx Γ1 S1 ∧ (b Γ1 S1 = .nx Γ2 S2 ∨ b Γ1 S1 = .ct Γ2 S2) ∧ I (i + 1) Γ2 S2) :
    ∀ (m i fuel : Nat) (Γ : Gm) (S : Hd), m = ds.length - i → i ≤ ds.length → m < fuel → I i Γ S → ∃ Γ' S', forL src g b fuel i Γ S = .nx Γ' S' ∧ I ds.length Γ' S'
  | m, i, 0, _, _, _, _, h, _ => absurd h (Nat.not_lt_zero _)
  | 0, i, f + 1, Γ, S, e, hi, _, h => by
    have e1 : i = ds.length := by omega
    subst e1
    refine ⟨Γ, S, ?_, h⟩
    unfold forL
    rw [hsrc _ _ _ h (Nat.le_refl _), List.getElem?_eq_none (Nat.le_refl _)]
  | m + 1, i, f + 1, Γ, S, e, hi, hf, h => by
    have hlt : i < ds.length := by omega
    obtain ⟨Γ1, S1, Γ2, S2, e1, e2, h2⟩ := step i ds[i] Γ S (List.getElem?_eq_getElem hlt) h
    obtain ⟨Γ', S', e3, h3⟩ := forL_inv ds I hsrc step m (i + 1) f Γ2 S2 (by omega) (by omega) (by omega) h2
    refine ⟨Γ', S', ?_, h3⟩
    unfold forL
    rw [hsrc _ _ _ h hi, List.getElem?_eq_getElem hlt]
    dsimp only
    rw [e1, v_gn, v_tn]
    rcases e2 with e2 | e2
    · rw [e2]; exact e3
    · rw [e2]; exact e3
theorem cFor_inv {it : CI} {S0 : Hd} (ds : List D) (I : Nat → Gm → Hd → Prop) (hit : it Γ S0 = .ok src S) (hl : ds.length < 16777300) (hsrc : ∀ i Γ S, I i Γ S → i ≤ ds.length → nextS S i src = some ds[i]?)
    (step : ∀ i d Γ S, ds[i]? = some d → I i Γ S → ∃ Γ1 S1 Γ2 S2, g d Γ S = .nx Γ1 S1 ∧ (b Γ1 S1 = .nx Γ2 S2 ∨ b Γ1 S1 = .ct Γ2 S2) ∧ I (i + 1) Γ2 S2) (h0 : I 0 Γ S) :
    ∃ Γ' S', cFor it g b Γ S0 = .nx Γ' S' ∧ I ds.length Γ' S' := by
  obtain ⟨Γ', S', e, h⟩ := forL_inv ds I hsrc step ds.length 0 forFuel Γ S rfl (Nat.zero_le _) (by unfold forFuel; exact hl) h0
  refine ⟨Γ', S', ?_, h⟩
  unfold cFor
  rw [hit]
  exact e
/-- a comprehension, by what holds ahead of each turn of the list that is built -/
theorem lcL_inv {t : CT} {m : CE} (ds : List D) (I : Nat → List D → Hd → Prop) (hL : ds.length ≤ 16777216) (hsrc : ∀ i acc S, I i acc S → i ≤ ds.length → nextS S i src = some ds[i]?)
    (hlen : ∀ i acc S, I i acc S → acc.length ≤ i)
    (step : ∀ i d acc S, ds[i]? = some d → I i acc S → ∃ Γ1 S1, g d Γ S = .nx Γ1 S1 ∧ ((∃ S2, t Γ1 S1 = .ok false S2 ∧ I (i + 1) acc S2) ∨ ∃ S2 y S3, t Γ1 S1 = .ok true S2 ∧ m Γ1 S2 = .ok y S3 ∧ I (i + 1) (acc ++ [y]) S3)) :
    ∀ (n i fuel : Nat) (acc : List D) (S : Hd), n = ds.length - i → i ≤ ds.length → n < fuel → I i acc S → ∃ acc' S', lcL src g t m Γ fuel i acc S = .ok acc' S' ∧ I ds.length acc' S'
  | n, i, 0, _, _, _, _, h, _ => absurd h (Nat.not_lt_zero _)
  | 0, i, f + 1, acc, S, e, hi, _, h => by
    have e1 : i = ds.length := by omega
    subst e1
    refine ⟨acc, S, ?_, h⟩
    unfold lcL
    rw [hsrc _ _ _ h (Nat.le_refl _), List.getElem?_eq_none (Nat.le_refl _)]
  | n + 1, i, f + 1, acc, S, e, hi, hf, h => by
    have hlt : i < ds.length := by omega
    obtain ⟨Γ1, S1, e1, h2⟩ := step i ds[i] acc S (List.getElem?_eq_getElem hlt) h
    rcases h2 with ⟨S2, e2, h2⟩ | ⟨S2, y, S3, e2, e3, h2⟩
    · obtain ⟨acc', S', e4, h3⟩ := lcL_inv ds I hL hsrc hlen step n (i + 1) f acc S2 (by omega) (by omega) (by omega) h2
      refine ⟨acc', S', ?_, h3⟩
      unfold lcL
      rw [hsrc _ _ _ h hi, List.getElem?_eq_getElem hlt]
      dsimp only
      rw [e1]
      dsimp only
      rw [e2]
      exact e4
    · obtain ⟨acc', S', e4, h3⟩ := lcL_inv ds I hL hsrc hlen step n (i + 1) f (acc ++ [y]) S3 (by omega) (by omega) (by omega) h2
      refine ⟨acc', S', ?_, h3⟩
      have ha := hlen _ _ _ h
      unfold lcL
      rw [hsrc _ _ _ h hi, List.getElem?_eq_getElem hlt]
      dsimp only
      rw [e1]
      dsimp only
      rw [e2]
      simp only [R.noexc, R.bind, if_true, e3]
      rw [if_pos (show acc.length < 16777216 by omega)]
      exact e4
theorem cLc_inv {t : CT} {m : CE} {it : CI} {S0 : Hd} {vs : List Nat} (ds : List D) (I : Nat → List D → Hd → Prop) (hit : it Γ S0 = .ok src S) (hL : ds.length ≤ 16777216) (hsrc : ∀ i acc S, I i acc S → i ≤ ds.length → nextS S i src = some ds[i]?)
    (hlen : ∀ i acc S, I i acc S → acc.length ≤ i)
    (step : ∀ i d acc S, ds[i]? = some d → I i acc S → ∃ Γ1 S1, g d (wipeD Γ vs) S = .nx Γ1 S1 ∧ ((∃ S2, t Γ1 S1 = .ok false S2 ∧ I (i + 1) acc S2) ∨ ∃ S2 y S3, t Γ1 S1 = .ok true S2 ∧ m Γ1 S2 = .ok y S3 ∧ I (i + 1) (acc ++ [y]) S3)) (h0 : I 0 [] S) :
    ∃ acc' S', cLc it g t m vs Γ S0 = .ok (.ref S'.length) (S' ++ [.lst acc']) ∧ I ds.length acc' S' := by
  obtain ⟨acc', S', e, h⟩ := lcL_inv ds I hL hsrc hlen step ds.length 0 forFuel [] S rfl (Nat.zero_le _) (by unfold forFuel; omega) h0
  refine ⟨acc', S', ?_, h⟩
  unfold cLc
  rw [hit]
  show ((lcL src g t m (wipeD Γ vs) forFuel 0 [] S).bind _) = _
  rw [e]
  rfl
end
end Dn

set_option linter.all false
set_option exponentiation.threshold 20000
set_option maxRecDepth 100000
set_option maxHeartbeats 1000000
set_option autoImplicit false
/-! # The draws of whole numbers -/
namespace Dn
open PySem PySem.Spec Kx L2
def m_spring (call : Calls) : List D → Hd → R D := mkFn 4 1 ((cSeq (cSet 1 (cC (.int 0)))
    (cSeq (cSet 2 (cC (.int 88651)))
    (cSeq (cFor (cSrc (cSl (cVar 0) cNoPart (cPart (cC (.int 63))))) (gN 3) (cSeq (cIfS (cTruB (cOp2 geD (cBlt absD (cConsA (cVar 3) cNilA)) (cOp2 powD (cC (.int 10)) (cC (.int 18))))) (cSet 1 (cOp2 addD (cOp2 mulD (cVar 1) (cOp2 powD (cC (.int 10)) (cC (.int 60)))) (cOp2 modD (cBlt absD (cConsA (cVar 3) cNilA)) (cOp2 powD (cC (.int 10)) (cC (.int 60)))))) cNil)
    (cSet 2 (cOp2 modD (cOp2 addD (cOp2 addD (cOp2 mulD (cVar 2) (cC (.int 69069))) (cOp2 modD (cVar 3) (cC (.int 2305843009213693921)))) (cC (.int 7))) (cC (.int 2305843009213693951))))))
    (cRet (cLst (cConsA (cVar 1) (cConsA (cVar 2) (cConsA (cC (.int 0)) cNilA)))))))))
def m_draw (call : Calls) : List D → Hd → R D := mkFn 4 2 ((cSeq (cIfS (cTruB (cOp2 gtD (cOp2 ixD (cVar 0) (cC (.int 0))) (cC (.int 0)))) (cSeq (cSet 2 (cOp2 modD (cOp2 ixD (cVar 0) (cC (.int 0))) (cVar 1)))
    (cSeq (cAsgT (cOp2 fdivD (cOp2 ixD (cVar 0) (cC (.int 0))) (cVar 1)) (gSubG (cVar 0) (cC (.int 0))))
    (cRet (cVar 2)))) cNil)
    (cSeq (cAsgT (cOp2 addD (cOp2 ixD (cVar 0) (cC (.int 2))) (cC (.int 1))) (gSubG (cVar 0) (cC (.int 2))))
    (cSeq (cSet 3 (cOp2 modD (cOp2 mulD (cOp2 ixD (cVar 0) (cC (.int 1))) (cOp2 ixD (cVar 0) (cC (.int 1)))) (cC (.int 2305843009213693951))))
    (cSeq (cAsgT (cOp2 modD (cOp2 addD (cOp2 addD (cVar 3) (cOp2 mulD (cOp2 mulD (cC (.int 7919)) (cOp2 ixD (cVar 0) (cC (.int 2)))) (cOp2 ixD (cVar 0) (cC (.int 1))))) (cC (.int 104729))) (cC (.int 2305843009213693951))) (gSubG (cVar 0) (cC (.int 1))))
    (cRet (cOp2 modD (cOp2 fdivD (cOp2 ixD (cVar 0) (cC (.int 1))) (cC (.int 65537))) (cVar 1))))))))
section
variable {bod : Bod} {S : Hd} {Γ : Gm} {j n : Nat}
theorem u_ixL {ds : List D} {i : Int} {d : D} (h : lstAt S n = some ds) (hi : atI ds i = some d) : ixD (.ref n) (.int i) S = .ok d S := by
  unfold ixD
  dsimp only
  rw [h]
  dsimp only
  rw [hi]
theorem l_lst {ds : List D} (h : S[n]? = some (.lst ds)) : lstAt S n = some ds := by unfold lstAt; rw [h]
theorem u_set {ds : List D} {i : Int} {k : Nat} {d : D} (h : S[n]? = some (.lst ds)) (hi : ixN ds.length i = some k) : setIx d (.ref n) (.int i) Γ S = .nx Γ (S.set n (.lst (ds.set k d))) := by
  unfold setIx
  dsimp only
  rw [h]
  dsimp only
  rw [hi]
theorem w_sub (mo mi : CE) (d : D) : gSubG mo mi d Γ S = (mo Γ S).bindS Γ fun o S1 => (mi Γ S1).bindS Γ fun i S2 => setIx d o i Γ S2 := rfl
theorem at_set {ds es : List D} (h : S[n]? = some (.lst ds)) : (S.set n (.lst es))[n]? = some (.lst es) := by
  have : n < S.length := by
    rcases Nat.lt_or_ge n S.length with h1 | h1
    · exact h1
    · rw [List.getElem?_eq_none h1] at h; cases h
  rw [List.getElem?_set_self this]
theorem u_mul (i k : Int) (h : mulOk i k = true) : mulD (.int i) (.int k) S = .ok (.int (i * k)) S := if_pos h
theorem u_mod (i k : Int) (h : 0 < k) : modD (.int i) (.int k) S = .ok (.int (i % k)) S := if_pos h
theorem u_fdiv (i k : Int) (h : 0 < k) (h2 : k.natAbs.log2 < 9000) : fdivD (.int i) (.int k) S = .ok (.int (i / k)) S := if_pos ⟨h, h2⟩
theorem mul_l {i k : Int} (h : i.natAbs < 18446744073709551616) : mulOk i k = true := by simp [mulOk, h]
theorem mul_r {i k : Int} (h : k.natAbs < 18446744073709551616) : mulOk i k = true := by simp [mulOk, h]
structure SprAt (S : Hd) (n : Nat) (f s c : Int) : Prop where
  at_ : S[n]? = some (.lst [.int f, .int s, .int c])
  f0 : 0 ≤ f
  s0 : 0 ≤ s
  s1 : s < 2305843009213693951
theorem draw_ok (hl : bod.lookup ("_law_draw" : Str) = some m_draw) (hj : 1 ≤ j) {f s c : Int} (h : SprAt S n f s c) {m : Int} (hm : 0 < m) (hb : m.natAbs.log2 < 9000) :
    ∃ v f' s' c' S', 0 ≤ v ∧ v < m ∧ f' ≤ f ∧ S' = S.set n (.lst [.int f', .int s', .int c']) ∧ SprAt S' n f' s' c' ∧ den bod j "_law_draw" [.ref n, .int m] S = .ok (.int v) S' := by
  obtain ⟨j, rfl, hj⟩ := one_of (n := 0) hj
  rw [den_eq hl]
  unfold m_draw
  have h0 : ixD (.ref n) (.int 0) S = .ok (.int f) S := u_ixL (l_lst h.at_) rfl
  have h1 : ixD (.ref n) (.int 1) S = .ok (.int s) S := u_ixL (l_lst h.at_) rfl
  have h2 : ixD (.ref n) (.int 2) S = .ok (.int c) S := u_ixL (l_lst h.at_) rfl
  by_cases hf : 0 < f
  · refine ⟨f % m, f / m, s, c, _, Int.emod_nonneg _ (by omega), Int.emod_lt_of_pos _ hm, Int.ediv_le_self _ h.f0, rfl, ⟨at_set h.at_, Int.ediv_nonneg h.f0 (by omega), h.s0, h.s1⟩, ?_⟩
    simp only [v_bo, v_be, v_bi, v_so, v_se, v_si, v_tn, v_tr, v_te, v_ti, v_rn, v_rr, v_re, v_ri, v_gn, v_br, w_allS, v_gi, w_seq, w_set, w_ret, w_retN, w_exp, w_nil, w_ifS, w_truB, w_tru, w_notT, w_andT, w_orT, w_and, w_or, w_not, w_if, w_c, w_op1, w_op2, w_call, w_args, w_nilA, w_consA, w_tup, w_lst, w_blt, w_mt, w_raise, w_chain, w_asgT, k_si, k_ss, k_ii, k_ib, k_is, k_tl, k_tt, k_ll, k_lt, w_mk, cVar, mkFn, List.length_cons, List.length_nil, List.map_cons, List.map_nil, List.replicate, List.cons_append, List.nil_append, List.getElem?_cons_zero, List.getElem?_cons_succ, List.set_cons_zero, List.set_cons_succ, Nat.reduceAdd, Nat.reduceSub, Nat.reduceEqDiff, Nat.reduceLeDiff, if_true, if_false, truB, truD, leD, ltD, gtD, geD, cmpD, eqD, scE, addD, subD, lenD, isiD, tyN, gTupG, gConsG, gNilG, gN, seqAt, negD, decide_eq_true_eq, Bool.false_xor, Bool.true_xor, maxD, minD, intsD, isNonD, isNon, reduceIte, Bool.not_true, Bool.not_false, ite_true, ite_false, Bool.false_eq_true, decide_true, decide_false, Bool.false_or, Bool.true_or, Bool.or_true, Bool.or_false, h0, hf, u_mod _ _ hm, u_fdiv _ _ hm hb, w_sub, u_set h.at_ (show ixN 3 0 = some 0 from rfl)]
  · have a1 : ∀ d, (S.set n (.lst [.int f, .int s, d]))[n]? = some (.lst [.int f, .int s, d]) := fun d => at_set h.at_
    have i1 : ∀ x d, ixD (.ref n) (.int 1) (S.set n (.lst [.int f, x, d])) = .ok x (S.set n (.lst [.int f, x, d])) := fun x d => u_ixL (l_lst (at_set h.at_)) rfl
    have i2 : ∀ d, ixD (.ref n) (.int 2) (S.set n (.lst [.int f, .int s, d])) = .ok d (S.set n (.lst [.int f, .int s, d])) := fun d => u_ixL (l_lst (a1 d)) rfl
    refine ⟨(s * s % 2305843009213693951 + 7919 * (c + 1) * s + 104729) % 2305843009213693951 / 65537 % m, f, (s * s % 2305843009213693951 + 7919 * (c + 1) * s + 104729) % 2305843009213693951, c + 1, _, Int.emod_nonneg _ (by omega), Int.emod_lt_of_pos _ hm, Int.le_refl _, rfl, ⟨at_set h.at_, h.f0, Int.emod_nonneg _ (by omega), Int.emod_lt_of_pos _ (by omega)⟩, ?_⟩
    have hs : s.natAbs < 18446744073709551616 := by have := h.s0; have := h.s1; omega
    simp only [v_bo, v_be, v_bi, v_so, v_se, v_si, v_tn, v_tr, v_te, v_ti, v_rn, v_rr, v_re, v_ri, v_gn, v_br, w_allS, v_gi, w_seq, w_set, w_ret, w_retN, w_exp, w_nil, w_ifS, w_truB, w_tru, w_notT, w_andT, w_orT, w_and, w_or, w_not, w_if, w_c, w_op1, w_op2, w_call, w_args, w_nilA, w_consA, w_tup, w_lst, w_blt, w_mt, w_raise, w_chain, w_asgT, k_si, k_ss, k_ii, k_ib, k_is, k_tl, k_tt, k_ll, k_lt, w_mk, cVar, mkFn, List.length_cons, List.length_nil, List.map_cons, List.map_nil, List.replicate, List.cons_append, List.nil_append, List.getElem?_cons_zero, List.getElem?_cons_succ, List.set_cons_zero, List.set_cons_succ, Nat.reduceAdd, Nat.reduceSub, Nat.reduceEqDiff, Nat.reduceLeDiff, if_true, if_false, truB, truD, leD, ltD, gtD, geD, cmpD, eqD, scE, addD, subD, lenD, isiD, tyN, gTupG, gConsG, gNilG, gN, seqAt, negD, decide_eq_true_eq, Bool.false_xor, Bool.true_xor, maxD, minD, intsD, isNonD, isNon, reduceIte, Bool.not_true, Bool.not_false, ite_true, ite_false, Bool.false_eq_true, decide_true, decide_false, Bool.false_or, Bool.true_or, Bool.or_true, Bool.or_false, h0, hf, h2, w_sub, u_set h.at_ (show ixN 3 2 = some 2 from rfl), i1, i2, u_mul _ _ (mul_l hs), u_mul _ _ (mul_r hs), u_mul 7919 _ (mul_l (by decide)), u_mod _ 2305843009213693951 (by decide), u_set (a1 (.int (c + 1))) (show ixN 3 1 = some 1 from rfl), List.set_set, u_fdiv _ 65537 (by decide) (by decide), u_mod _ _ hm]
theorem u_slL {xs : List D} {lo hi : Option Int} (h : lstAt S n = some xs) : slD lo hi (.ref n) S = alloc (.lst (cutL xs lo hi)) S := by
  unfold slD
  dsimp only
  rw [h]
theorem u_src {xs : List D} (h : lstAt S n = some xs) : srcD (.ref n) S = .ok (.base (.lst n)) S := by
  unfold srcD
  dsimp only
  rw [h]
theorem u_abs (i : Int) : absD [.int i] S = .ok (.int (if i < 0 then -i else i)) S := rfl
theorem u_add (i k : Int) : addD (.int i) (.int k) S = .ok (.int (i + k)) S := rfl
theorem u_pow {i k : Int} (h : 0 ≤ k ∧ k ≤ 1000000 ∧ i.natAbs < 18446744073709551616) : powD (.int i) (.int k) S = .ok (.int (i ^ k.toNat)) S := if_pos h
theorem p18 : powD (.int 10) (.int 18) S = .ok (.int 1000000000000000000) S := by rw [u_pow (by decide)]; rfl
theorem p60 : powD (.int 10) (.int 60) S = .ok (.int 1000000000000000000000000000000000000000000000000000000000000) S := by rw [u_pow (by decide)]; rfl
theorem fig_mul {f : Int} {i : Nat} (hi : i ≤ 63) (h0 : 0 ≤ f) (h : f < 2 ^ (200 * i)) : mulOk f 1000000000000000000000000000000000000000000000000000000000000 = true := by
  have hl : f.natAbs.log2 ≤ 200 * i := by
    rcases Nat.eq_zero_or_pos f.natAbs with z | z
    · rw [z]; exact Nat.zero_le _
    · have h1 : f.natAbs < 2 ^ (200 * i) := by
        have : (f.natAbs : Int) < ((2 ^ (200 * i) : Nat) : Int) := by rw [Int.natAbs_of_nonneg h0]; exact_mod_cast h
        exact_mod_cast this
      have := (Nat.log2_lt (by omega)).mpr h1
      omega
  have h2 : (1000000000000000000000000000000000000000000000000000000000000 : Int).natAbs.log2 = 199 := by decide +kernel
  unfold mulOk
  rw [h2]
  have : f.natAbs.log2 + 199 < 1000000 := by omega
  rw [decide_eq_true this, Bool.or_true]
theorem fig_step {f r : Int} {i : Nat} (h0 : 0 ≤ f) (h : f < 2 ^ (200 * i)) (r0 : 0 ≤ r) (hr : r < 1000000000000000000000000000000000000000000000000000000000000) : f * 1000000000000000000000000000000000000000000000000000000000000 + r < 2 ^ (200 * (i + 1)) := by
  have e : (2 : Int) ^ (200 * (i + 1)) = 2 ^ (200 * i) * 2 ^ 200 := by rw [show 200 * (i + 1) = 200 * i + 200 by omega, Int.pow_add]
  have h2 : (1000000000000000000000000000000000000000000000000000000000000 : Int) ≤ 2 ^ 200 := by decide +kernel
  rw [e]
  have h3 : (f + 1) * 1000000000000000000000000000000000000000000000000000000000000 ≤ 2 ^ (200 * i) * 1000000000000000000000000000000000000000000000000000000000000 := Int.mul_le_mul_of_nonneg_right (by omega) (by decide)
  have h4 : (2 : Int) ^ (200 * i) * 1000000000000000000000000000000000000000000000000000000000000 ≤ 2 ^ (200 * i) * 2 ^ 200 := Int.mul_le_mul_of_nonneg_left h2 (by omega)
  omega
theorem fig_keep {f : Int} {i : Nat} (h : f < 2 ^ (200 * i)) : f < 2 ^ (200 * (i + 1)) := by
  have e : (2 : Int) ^ (200 * (i + 1)) = 2 ^ (200 * i) * 2 ^ 200 := by rw [show 200 * (i + 1) = 200 * i + 200 by omega, Int.pow_add]
  rw [e]
  have h1 : (0 : Int) < 2 ^ (200 * i) := Int.pow_pos (by decide)
  have h4 : (2 : Int) ^ (200 * i) * 1 ≤ 2 ^ (200 * i) * 2 ^ 200 := Int.mul_le_mul_of_nonneg_left (by decide +kernel) (by omega)
  omega
theorem spring_ok (hl : bod.lookup ("_law_spring" : Str) = some m_spring) (hj : 1 ≤ j) (ns : List Int) (o : Ob) (ho : o = Ob.lst (ns.map D.int) ∨ o = Ob.ro (ns.map D.int)) :
    ∃ S' f s, den bod j "_law_spring" [.ref 0] [o] = .ok (.ref 2) S' ∧ SprAt S' 2 f s 0 ∧ S'.length = 3 ∧ f < 2 ^ 12600 := by
  obtain ⟨j, rfl, hj⟩ := one_of (n := 0) hj
  rw [den_eq hl]
  unfold m_spring
  have hL : lstAt [o] 0 = some (ns.map D.int) := by rcases ho with rfl | rfl <;> rfl
  have hcut : cutL (ns.map D.int) none (some 63) = (ns.take 63).map D.int := by
    unfold cutL
    rw [HT.sIx_none]
    have := HT.sIx_nat (ns.map D.int).length (ns.map D.int).length 63
    rw [show (63 : Int) = ((63 : Nat) : Int) from rfl, this, List.drop_zero, Nat.sub_zero, ← List.map_take]
    congr 1
    rw [List.length_map]
    by_cases h : 63 ≤ ns.length
    · rw [Nat.min_eq_left h]
    · rw [Nat.min_eq_right (by omega), List.take_of_length_le (Nat.le_refl _), List.take_of_length_le (by omega)]
  have hb : ∀ Γ : Gm, Γ[0]? = some (some (.ref 0)) → cSrc (cSl (cVar 0) cNoPart (cPart (cC (.int 63)))) Γ [o] = .ok (.base (.lst 1)) ([o] ++ [.lst ((ns.take 63).map D.int)]) := fun Γ h => by
    unfold cSrc cSl cNoPart cPart
    rw [w_var 0 _ h]
    simp only [R.bind, cC, u_slL hL, hcut, alloc]
    exact u_src rfl
  let I : Nat → Gm → Hd → Prop := fun i Γ S => S = [o] ++ [.lst ((ns.take 63).map D.int)] ∧ ∃ f s x, Γ = [some (.ref 0), some (.int f), some (.int s), x] ∧ 0 ≤ f ∧ f < 2 ^ (200 * i) ∧ 0 ≤ s ∧ s < 2305843009213693951
  have hlen : ((ns.take 63).map D.int).length ≤ 63 := by rw [List.length_map, List.length_take]; omega
  have key := cFor_inv (b := cSeq (cIfS (cTruB (cOp2 geD (cBlt absD (cConsA (cVar 3) cNilA)) (cOp2 powD (cC (.int 10)) (cC (.int 18))))) (cSet 1 (cOp2 addD (cOp2 mulD (cVar 1) (cOp2 powD (cC (.int 10)) (cC (.int 60)))) (cOp2 modD (cBlt absD (cConsA (cVar 3) cNilA)) (cOp2 powD (cC (.int 10)) (cC (.int 60)))))) cNil)
    (cSet 2 (cOp2 modD (cOp2 addD (cOp2 addD (cOp2 mulD (cVar 2) (cC (.int 69069))) (cOp2 modD (cVar 3) (cC (.int 2305843009213693921)))) (cC (.int 7))) (cC (.int 2305843009213693951))))) (g := gN 3) (Γ := [some (.ref 0), some (.int 0), some (.int 88651), none]) ((ns.take 63).map D.int) I (hb _ rfl) (by omega) (fun i Γ S h _ => by rw [h.1]; rfl)
    (fun i d Γ S hd h => by
      obtain ⟨rfl, f, s, x, rfl, f0, f1, s0, s1⟩ := h
      rw [List.getElem?_map] at hd
      obtain ⟨c, hc, rfl⟩ := Option.map_eq_some_iff.mp hd
      have hi : i ≤ 63 := by
        have : i < (ns.take 63).length := by
          rcases Nat.lt_or_ge i (ns.take 63).length with h1 | h1
          · exact h1
          · rw [List.getElem?_eq_none h1] at hc; cases hc
        rw [List.length_take] at this
        omega
      have hs : s.natAbs < 18446744073709551616 := by omega
      have a0 : 0 ≤ (if c < 0 then -c else c) := by split <;> omega
      generalize hcc : (if c < 0 then -c else c) = ac at a0
      by_cases hc : (1000000000000000000 : Int) ≤ ac
      · refine ⟨_, _, _, _, rfl, .inl ?_, rfl, f * 1000000000000000000000000000000000000000000000000000000000000 + ac % 1000000000000000000000000000000000000000000000000000000000000, (s * 69069 + c % 2305843009213693921 + 7) % 2305843009213693951, some (.int c), rfl, by omega, fig_step f0 f1 (by omega) (by omega), by omega, by omega⟩
        simp only [v_bo, v_be, v_bi, v_so, v_se, v_si, v_tn, v_tr, v_te, v_ti, v_rn, v_rr, v_re, v_ri, v_gn, v_br, w_allS, v_gi, w_seq, w_set, w_ret, w_retN, w_exp, w_nil, w_ifS, w_truB, w_tru, w_notT, w_andT, w_orT, w_and, w_or, w_not, w_if, w_c, w_op1, w_op2, w_call, w_args, w_nilA, w_consA, w_tup, w_lst, w_blt, w_mt, w_raise, w_chain, w_asgT, k_si, k_ss, k_ii, k_ib, k_is, k_tl, k_tt, k_ll, k_lt, w_mk, cVar, mkFn, List.length_cons, List.length_nil, List.map_cons, List.map_nil, List.replicate, List.cons_append, List.nil_append, List.getElem?_cons_zero, List.getElem?_cons_succ, List.set_cons_zero, List.set_cons_succ, Nat.reduceAdd, Nat.reduceSub, Nat.reduceEqDiff, Nat.reduceLeDiff, if_true, if_false, truB, truD, leD, ltD, gtD, geD, cmpD, eqD, scE, addD, subD, lenD, isiD, tyN, gTupG, gConsG, gNilG, gN, seqAt, negD, decide_eq_true_eq, Bool.false_xor, Bool.true_xor, maxD, minD, intsD, isNonD, isNon, reduceIte, Bool.not_true, Bool.not_false, ite_true, ite_false, Bool.false_eq_true, decide_true, decide_false, Bool.false_or, Bool.true_or, Bool.or_true, Bool.or_false, u_abs, hcc, p18, p60, u_mul _ _ (fig_mul hi f0 f1), u_mod _ 1000000000000000000000000000000000000000000000000000000000000 (by decide), u_mul _ _ (mul_l hs), u_mod _ 2305843009213693921 (by decide), u_mod _ 2305843009213693951 (by decide), hc]
      · refine ⟨_, _, _, _, rfl, .inl ?_, rfl, f, (s * 69069 + c % 2305843009213693921 + 7) % 2305843009213693951, some (.int c), rfl, f0, fig_keep f1, by omega, by omega⟩
        simp only [v_bo, v_be, v_bi, v_so, v_se, v_si, v_tn, v_tr, v_te, v_ti, v_rn, v_rr, v_re, v_ri, v_gn, v_br, w_allS, v_gi, w_seq, w_set, w_ret, w_retN, w_exp, w_nil, w_ifS, w_truB, w_tru, w_notT, w_andT, w_orT, w_and, w_or, w_not, w_if, w_c, w_op1, w_op2, w_call, w_args, w_nilA, w_consA, w_tup, w_lst, w_blt, w_mt, w_raise, w_chain, w_asgT, k_si, k_ss, k_ii, k_ib, k_is, k_tl, k_tt, k_ll, k_lt, w_mk, cVar, mkFn, List.length_cons, List.length_nil, List.map_cons, List.map_nil, List.replicate, List.cons_append, List.nil_append, List.getElem?_cons_zero, List.getElem?_cons_succ, List.set_cons_zero, List.set_cons_succ, Nat.reduceAdd, Nat.reduceSub, Nat.reduceEqDiff, Nat.reduceLeDiff, if_true, if_false, truB, truD, leD, ltD, gtD, geD, cmpD, eqD, scE, addD, subD, lenD, isiD, tyN, gTupG, gConsG, gNilG, gN, seqAt, negD, decide_eq_true_eq, Bool.false_xor, Bool.true_xor, maxD, minD, intsD, isNonD, isNon, reduceIte, Bool.not_true, Bool.not_false, ite_true, ite_false, Bool.false_eq_true, decide_true, decide_false, Bool.false_or, Bool.true_or, Bool.or_true, Bool.or_false, u_abs, hcc, p18, u_mul _ _ (mul_l hs), u_mod _ 2305843009213693921 (by decide), u_mod _ 2305843009213693951 (by decide), hc]
      ) ⟨rfl, _, _, _, rfl, by decide, by decide, by decide, by decide⟩
  obtain ⟨Γ', S', e, rfl, f, s, x, rfl, f0, f1, s0, s1⟩ := key
  refine ⟨[o] ++ [.lst ((ns.take 63).map D.int)] ++ [.lst [.int f, .int s, .int 0]], f, s, ?_, ⟨rfl, f0, s0, s1⟩, rfl, ?_⟩
  · rw [w_mk 4 1 _ [.ref 0] rfl]
    simp only [w_seq, w_set, w_c, v_so, v_tn, List.map_cons, List.map_nil, List.replicate, Nat.reduceAdd, Nat.reduceSub, List.cons_append, List.nil_append, List.set_cons_succ, List.set_cons_zero]
    rw [show ([o] : Hd) ++ [.lst ((ns.take 63).map D.int)] = [o, .lst ((ns.take 63).map D.int)] from rfl] at e
    rw [e]
    simp only [v_bo, v_be, v_bi, v_so, v_se, v_si, v_tn, v_tr, v_te, v_ti, v_rn, v_rr, v_re, v_ri, v_gn, v_br, w_allS, v_gi, w_seq, w_set, w_ret, w_retN, w_exp, w_nil, w_ifS, w_truB, w_tru, w_notT, w_andT, w_orT, w_and, w_or, w_not, w_if, w_c, w_op1, w_op2, w_call, w_args, w_nilA, w_consA, w_tup, w_lst, w_blt, w_mt, w_raise, w_chain, w_asgT, k_si, k_ss, k_ii, k_ib, k_is, k_tl, k_tt, k_ll, k_lt, w_mk, cVar, mkFn, List.length_cons, List.length_nil, List.map_cons, List.map_nil, List.replicate, List.cons_append, List.nil_append, List.getElem?_cons_zero, List.getElem?_cons_succ, List.set_cons_zero, List.set_cons_succ, Nat.reduceAdd, Nat.reduceSub, Nat.reduceEqDiff, Nat.reduceLeDiff, if_true, if_false, truB, truD, leD, ltD, gtD, geD, cmpD, eqD, scE, addD, subD, lenD, isiD, tyN, gTupG, gConsG, gNilG, gN, seqAt, negD, decide_eq_true_eq, Bool.false_xor, Bool.true_xor, maxD, minD, intsD, isNonD, isNon, reduceIte, Bool.not_true, Bool.not_false, ite_true, ite_false, Bool.false_eq_true, decide_true, decide_false, Bool.false_or, Bool.true_or, Bool.or_true, Bool.or_false, alloc]
  · have h1 : 200 * ((ns.take 63).map D.int).length ≤ 12600 := by omega
    exact Int.lt_of_lt_of_le f1 (by exact_mod_cast Nat.pow_le_pow_right (by decide) h1)
end
end Dn

set_option linter.all false
set_option maxRecDepth 100000
set_option maxHeartbeats 1000000
set_option autoImplicit false
/-! # The small defs -/
namespace Dn
open PySem PySem.Spec Kx L2
section
variable {bod : Bod} {S : Hd} {j : Nat}

theorem uu_fdiv {S : Hd} (i k : Int) (h : 0 < k) (h2 : k.natAbs.log2 < 9000) : fdivD (.int i) (.int k) S = .ok (.int (i / k)) S := if_pos ⟨h, h2⟩
theorem p_is_mark (hp : HasProg bod) (hj : 1 ≤ j) (c : Nat) : den bod j "is_mark" [.str [c]] S = .ok (.bl (mk c)) S := by
  obtain ⟨j, rfl, hj⟩ := one_of (n := 0) hj
  rw [den_eq hp.p_is_mark]
  unfold m_is_mark
  simp only [v_bo, v_be, v_bi, v_so, v_se, v_si, v_tn, v_tr, v_te, v_ti, v_rn, v_rr, v_re, v_ri, v_gn, v_br, w_allS, v_gi, w_seq, w_set, w_ret, w_retN, w_exp, w_nil, w_ifS, w_truB, w_tru, w_notT, w_andT, w_orT, w_and, w_or, w_not, w_if, w_c, w_op1, w_op2, w_call, w_args, w_nilA, w_consA, w_tup, w_lst, w_blt, w_mt, w_raise, w_chain, w_asgT, k_si, k_ss, k_ii, k_ib, k_is, k_tl, k_tt, k_ll, k_lt, w_mk, cVar, mkFn, List.length_cons, List.length_nil, List.map_cons, List.map_nil, List.replicate, List.cons_append, List.nil_append, List.getElem?_cons_zero, List.getElem?_cons_succ, List.set_cons_zero, List.set_cons_succ, Nat.reduceAdd, Nat.reduceSub, Nat.reduceEqDiff, Nat.reduceLeDiff, if_true, if_false, truB, truD, leD, ltD, gtD, geD, cmpD, eqD, scE, addD, subD, lenD, isiD, tyN, gTupG, gConsG, gNilG, gN, seqAt, negD, decide_eq_true_eq, Bool.false_xor, Bool.true_xor, maxD, minD, intsD, isNonD, isNon, reduceIte, Bool.not_true, Bool.not_false, ite_true, ite_false, Bool.false_eq_true, decide_true, decide_false, Bool.false_or, Bool.true_or, Bool.or_true, Bool.or_false]
  by_cases h : 97 ≤ c <;> by_cases h2 : c ≤ 122 <;> simp [mk, h, h2, List.cons_lt_cons_iff, List.cons_le_cons_iff] <;> omega
theorem p_is_mark_or_none (hp : HasProg bod) (hj : 2 ≤ j) (c : Nat) : den bod j "is_mark_or_none" [.str [c]] S = .ok (.bl (mkN c)) S := by
  obtain ⟨j, rfl, hj⟩ := one_of (n := 1) hj
  rw [den_eq hp.p_is_mark_or_none]
  unfold m_is_mark_or_none
  simp only [v_bo, v_be, v_bi, v_so, v_se, v_si, v_tn, v_tr, v_te, v_ti, v_rn, v_rr, v_re, v_ri, v_gn, v_br, w_allS, v_gi, w_seq, w_set, w_ret, w_retN, w_exp, w_nil, w_ifS, w_truB, w_tru, w_notT, w_andT, w_orT, w_and, w_or, w_not, w_if, w_c, w_op1, w_op2, w_call, w_args, w_nilA, w_consA, w_tup, w_lst, w_blt, w_mt, w_raise, w_chain, w_asgT, k_si, k_ss, k_ii, k_ib, k_is, k_tl, k_tt, k_ll, k_lt, w_mk, cVar, mkFn, List.length_cons, List.length_nil, List.map_cons, List.map_nil, List.replicate, List.cons_append, List.nil_append, List.getElem?_cons_zero, List.getElem?_cons_succ, List.set_cons_zero, List.set_cons_succ, Nat.reduceAdd, Nat.reduceSub, Nat.reduceEqDiff, Nat.reduceLeDiff, if_true, if_false, truB, truD, leD, ltD, gtD, geD, cmpD, eqD, scE, addD, subD, lenD, isiD, tyN, gTupG, gConsG, gNilG, gN, seqAt, negD, decide_eq_true_eq, Bool.false_xor, Bool.true_xor, maxD, minD, intsD, isNonD, isNon, reduceIte, Bool.not_true, Bool.not_false, ite_true, ite_false, Bool.false_eq_true, decide_true, decide_false, Bool.false_or, Bool.true_or, Bool.or_true, Bool.or_false]
  simp only [v_bo, v_be, v_bi, v_so, v_se, v_si, v_tn, v_tr, v_te, v_ti, v_rn, v_rr, v_re, v_ri, v_gn, v_br, w_allS, v_gi, w_seq, w_set, w_ret, w_retN, w_exp, w_nil, w_ifS, w_truB, w_tru, w_notT, w_andT, w_orT, w_and, w_or, w_not, w_if, w_c, w_op1, w_op2, w_call, w_args, w_nilA, w_consA, w_tup, w_lst, w_blt, w_mt, w_raise, w_chain, w_asgT, k_si, k_ss, k_ii, k_ib, k_is, k_tl, k_tt, k_ll, k_lt, w_mk, cVar, mkFn, List.length_cons, List.length_nil, List.map_cons, List.map_nil, List.replicate, List.cons_append, List.nil_append, List.getElem?_cons_zero, List.getElem?_cons_succ, List.set_cons_zero, List.set_cons_succ, Nat.reduceAdd, Nat.reduceSub, Nat.reduceEqDiff, Nat.reduceLeDiff, if_true, if_false, truB, truD, leD, ltD, gtD, geD, cmpD, eqD, scE, addD, subD, lenD, isiD, tyN, gTupG, gConsG, gNilG, gN, seqAt, negD, decide_eq_true_eq, Bool.false_xor, Bool.true_xor, maxD, minD, intsD, isNonD, isNon, reduceIte, Bool.not_true, Bool.not_false, ite_true, ite_false, Bool.false_eq_true, decide_true, decide_false, Bool.false_or, Bool.true_or, Bool.or_true, Bool.or_false, p_is_mark (S := S) hp (show 1 ≤ j by omega)]
  cases h : mk c <;> simp [mkN, h] <;> rfl
theorem p_is_rim (hp : HasProg bod) (hj : 1 ≤ j) (l : List Nat) (hl : l.length ≤ 16777216) : den bod j "is_rim" [.str l] S = .ok (.bl (decide (0 < l.length) && l.all mkN)) S := by
  obtain ⟨j, rfl, hj⟩ := one_of (n := 0) hj
  rw [den_eq hp.p_is_rim]
  unfold m_is_rim
  simp only [v_bo, v_be, v_bi, v_so, v_se, v_si, v_tn, v_tr, v_te, v_ti, v_rn, v_rr, v_re, v_ri, v_gn, v_br, w_allS, v_gi, w_seq, w_set, w_ret, w_retN, w_exp, w_nil, w_ifS, w_truB, w_tru, w_notT, w_andT, w_orT, w_and, w_or, w_not, w_if, w_c, w_op1, w_op2, w_call, w_args, w_nilA, w_consA, w_tup, w_lst, w_blt, w_mt, w_raise, w_chain, w_asgT, k_si, k_ss, k_ii, k_ib, k_is, k_tl, k_tt, k_ll, k_lt, w_mk, cVar, mkFn, List.length_cons, List.length_nil, List.map_cons, List.map_nil, List.replicate, List.cons_append, List.nil_append, List.getElem?_cons_zero, List.getElem?_cons_succ, List.set_cons_zero, List.set_cons_succ, Nat.reduceAdd, Nat.reduceSub, Nat.reduceEqDiff, Nat.reduceLeDiff, if_true, if_false, truB, truD, leD, ltD, gtD, geD, cmpD, eqD, scE, addD, subD, lenD, isiD, tyN, gTupG, gConsG, gNilG, gN, seqAt, negD, decide_eq_true_eq, Bool.false_xor, Bool.true_xor, maxD, minD, intsD, isNonD, isNon, reduceIte, Bool.not_true, Bool.not_false, ite_true, ite_false, Bool.false_eq_true, decide_true, decide_false, Bool.false_or, Bool.true_or, Bool.or_true, Bool.or_false, hl]
  by_cases h : 0 < l.length <;> simp [h]
theorem p_is_whole (hp : HasProg bod) (hj : 1 ≤ j) (n m : Int) : den bod j "is_whole" [.int n, .int m] S = .ok (.bl (decide (m ≤ n))) S := by
  obtain ⟨j, rfl, hj⟩ := one_of (n := 0) hj
  rw [den_eq hp.p_is_whole]
  unfold m_is_whole
  simp only [v_bo, v_be, v_bi, v_so, v_se, v_si, v_tn, v_tr, v_te, v_ti, v_rn, v_rr, v_re, v_ri, v_gn, v_br, w_allS, v_gi, w_seq, w_set, w_ret, w_retN, w_exp, w_nil, w_ifS, w_truB, w_tru, w_notT, w_andT, w_orT, w_and, w_or, w_not, w_if, w_c, w_op1, w_op2, w_call, w_args, w_nilA, w_consA, w_tup, w_lst, w_blt, w_mt, w_raise, w_chain, w_asgT, k_si, k_ss, k_ii, k_ib, k_is, k_tl, k_tt, k_ll, k_lt, w_mk, cVar, mkFn, List.length_cons, List.length_nil, List.map_cons, List.map_nil, List.replicate, List.cons_append, List.nil_append, List.getElem?_cons_zero, List.getElem?_cons_succ, List.set_cons_zero, List.set_cons_succ, Nat.reduceAdd, Nat.reduceSub, Nat.reduceEqDiff, Nat.reduceLeDiff, if_true, if_false, truB, truD, leD, ltD, gtD, geD, cmpD, eqD, scE, addD, subD, lenD, isiD, tyN, gTupG, gConsG, gNilG, gN, seqAt, negD, decide_eq_true_eq, Bool.false_xor, Bool.true_xor, maxD, minD, intsD, isNonD, isNon, reduceIte, Bool.not_true, Bool.not_false, ite_true, ite_false, Bool.false_eq_true, decide_true, decide_false, Bool.false_or, Bool.true_or, Bool.or_true, Bool.or_false]
theorem p_is_row (hp : HasProg bod) (hj : 1 ≤ j) (ds : List D) : den bod j "is_row" [.tup ds] S = .ok (.bl true) S := by
  obtain ⟨j, rfl, hj⟩ := one_of (n := 0) hj
  rw [den_eq hp.p_is_row]
  unfold m_is_row
  simp only [v_bo, v_be, v_bi, v_so, v_se, v_si, v_tn, v_tr, v_te, v_ti, v_rn, v_rr, v_re, v_ri, v_gn, v_br, w_allS, v_gi, w_seq, w_set, w_ret, w_retN, w_exp, w_nil, w_ifS, w_truB, w_tru, w_notT, w_andT, w_orT, w_and, w_or, w_not, w_if, w_c, w_op1, w_op2, w_call, w_args, w_nilA, w_consA, w_tup, w_lst, w_blt, w_mt, w_raise, w_chain, w_asgT, k_si, k_ss, k_ii, k_ib, k_is, k_tl, k_tt, k_ll, k_lt, w_mk, cVar, mkFn, List.length_cons, List.length_nil, List.map_cons, List.map_nil, List.replicate, List.cons_append, List.nil_append, List.getElem?_cons_zero, List.getElem?_cons_succ, List.set_cons_zero, List.set_cons_succ, Nat.reduceAdd, Nat.reduceSub, Nat.reduceEqDiff, Nat.reduceLeDiff, if_true, if_false, truB, truD, leD, ltD, gtD, geD, cmpD, eqD, scE, addD, subD, lenD, isiD, tyN, gTupG, gConsG, gNilG, gN, seqAt, negD, decide_eq_true_eq, Bool.false_xor, Bool.true_xor, maxD, minD, intsD, isNonD, isNon, reduceIte, Bool.not_true, Bool.not_false, ite_true, ite_false, Bool.false_eq_true, decide_true, decide_false, Bool.false_or, Bool.true_or, Bool.or_true, Bool.or_false]
theorem p_check_short (hp : HasProg bod) (hj : 1 ≤ j) (a b : Int) (h : a + b ≤ 100000) : den bod j "check_short" [.int a, .int b] S = .ok .non S := by
  obtain ⟨j, rfl, hj⟩ := one_of (n := 0) hj
  rw [den_eq hp.p_check_short]
  unfold m_check_short
  simp only [v_bo, v_be, v_bi, v_so, v_se, v_si, v_tn, v_tr, v_te, v_ti, v_rn, v_rr, v_re, v_ri, v_gn, v_br, w_allS, v_gi, w_seq, w_set, w_ret, w_retN, w_exp, w_nil, w_ifS, w_truB, w_tru, w_notT, w_andT, w_orT, w_and, w_or, w_not, w_if, w_c, w_op1, w_op2, w_call, w_args, w_nilA, w_consA, w_tup, w_lst, w_blt, w_mt, w_raise, w_chain, w_asgT, k_si, k_ss, k_ii, k_ib, k_is, k_tl, k_tt, k_ll, k_lt, w_mk, cVar, mkFn, List.length_cons, List.length_nil, List.map_cons, List.map_nil, List.replicate, List.cons_append, List.nil_append, List.getElem?_cons_zero, List.getElem?_cons_succ, List.set_cons_zero, List.set_cons_succ, Nat.reduceAdd, Nat.reduceSub, Nat.reduceEqDiff, Nat.reduceLeDiff, if_true, if_false, truB, truD, leD, ltD, gtD, geD, cmpD, eqD, scE, addD, subD, lenD, isiD, tyN, gTupG, gConsG, gNilG, gN, seqAt, negD, decide_eq_true_eq, Bool.false_xor, Bool.true_xor, maxD, minD, intsD, isNonD, isNon, reduceIte, Bool.not_true, Bool.not_false, ite_true, ite_false, Bool.false_eq_true, decide_true, decide_false, Bool.false_or, Bool.true_or, Bool.or_true, Bool.or_false]
  rw [if_neg (by omega)]
theorem p_times_to (hp : HasProg bod) (hj : 1 ≤ j) (a b : Int) (h : 0 < b) (h2 : b.natAbs.log2 < 9000) : den bod j "times_to" [.int a, .int b] S = .ok (.int (max 0 (-(-a / b)))) S := by
  obtain ⟨j, rfl, hj⟩ := one_of (n := 0) hj
  rw [den_eq hp.p_times_to]
  unfold m_times_to
  simp only [v_bo, v_be, v_bi, v_so, v_se, v_si, v_tn, v_tr, v_te, v_ti, v_rn, v_rr, v_re, v_ri, v_gn, v_br, w_allS, v_gi, w_seq, w_set, w_ret, w_retN, w_exp, w_nil, w_ifS, w_truB, w_tru, w_notT, w_andT, w_orT, w_and, w_or, w_not, w_if, w_c, w_op1, w_op2, w_call, w_args, w_nilA, w_consA, w_tup, w_lst, w_blt, w_mt, w_raise, w_chain, w_asgT, k_si, k_ss, k_ii, k_ib, k_is, k_tl, k_tt, k_ll, k_lt, w_mk, cVar, mkFn, List.length_cons, List.length_nil, List.map_cons, List.map_nil, List.replicate, List.cons_append, List.nil_append, List.getElem?_cons_zero, List.getElem?_cons_succ, List.set_cons_zero, List.set_cons_succ, Nat.reduceAdd, Nat.reduceSub, Nat.reduceEqDiff, Nat.reduceLeDiff, if_true, if_false, truB, truD, leD, ltD, gtD, geD, cmpD, eqD, scE, addD, subD, lenD, isiD, tyN, gTupG, gConsG, gNilG, gN, seqAt, negD, decide_eq_true_eq, Bool.false_xor, Bool.true_xor, maxD, minD, intsD, isNonD, isNon, reduceIte, Bool.not_true, Bool.not_false, ite_true, ite_false, Bool.false_eq_true, decide_true, decide_false, Bool.false_or, Bool.true_or, Bool.or_true, Bool.or_false, uu_fdiv _ _ h h2]
  rw [show (if -(-a / b) > 0 then -(-a / b) else 0) = max 0 (-(-a / b)) by omega]
end
end Dn

set_option linter.all false
set_option maxRecDepth 100000
set_option maxHeartbeats 1000000
set_option autoImplicit false
/-! # The draws of a bag -/
namespace Dn
open PySem PySem.Spec Kx L2
def mb_bag (call : Calls) : List D → Hd → R D := mkFn 3 1 ((cSeq (cSet 1 (cC (.int 1)))
    (cSeq (cFor (cSrc (cVar 0)) (gN 2) (cSet 1 (cOp2 modD (cOp2 addD (cOp2 addD (cOp2 mulD (cVar 1) (cC (.int 1000003))) (cOp2 modD (cVar 2) (cC (.int 2305843009213693951)))) (cC (.int 1))) (cC (.int 2305843009213693951)))))
    (cRet (cLst (cConsA (cBlt listD (cConsA (cVar 0) cNilA)) (cConsA (cC (.int 0)) (cConsA (cC (.int 0)) (cConsA (cC (.int 0)) (cConsA (cVar 1) cNilA))))))))))
def mb_stir (call : Calls) : List D → Hd → R D := mkFn 4 2 ((cSeq (cSet 2 (cOp2 modD (cOp2 addD (cOp2 addD (cOp2 mulD (cVar 0) (cC (.int 998244353))) (cOp2 mulD (cVar 1) (cC (.int 1000000007)))) (cC (.int 5))) (cC (.int 2305843009213693951))))
    (cSeq (cSet 3 (cOp2 modD (cOp2 mulD (cVar 2) (cVar 2)) (cC (.int 2305843009213693951))))
    (cRet (cOp2 fdivD (cOp2 modD (cOp2 addD (cOp2 addD (cOp2 mulD (cVar 3) (cC (.int 2860486313))) (cOp2 mulD (cOp2 mulD (cVar 1) (cVar 1)) (cC (.int 48271)))) (cOp2 fdivD (cVar 2) (cC (.int 3)))) (cC (.int 2305843009213693921))) (cC (.int 1024)))))))
def mb_draw (call : Calls) : List D → Hd → R D := mkFn 4 2 ((cSeq (cIfS (cTruB (cOp2 (eqD false) (cVar 1) (cC (.int 1)))) (cRet (cC (.int 0))) cNil)
    (cSeq (cAsgT (cOp2 addD (cOp2 ixD (cVar 0) (cC (.int 3))) (cC (.int 1))) (gSubG (cVar 0) (cC (.int 3))))
    (cSeq (cIfS (cAndT (cTruB (cOp2 ltD (cOp2 ixD (cVar 0) (cC (.int 2))) (cC (.int 2)))) (cTruB (cOp2 (eqD false) (cOp2 ixD (cVar 0) (cC (.int 1))) (cBlt lenD (cConsA (cOp2 ixD (cVar 0) (cC (.int 0))) cNilA))))) (cRet (cOp2 modD (cCall call "_law_stir" (cArgs 2 (cConsA (cOp2 ixD (cVar 0) (cC (.int 4))) (cConsA (cOp2 ixD (cVar 0) (cC (.int 3))) cNilA)))) (cVar 1))) cNil)
    (cSeq (cIfS (cTruB (cOp2 ltD (cOp2 ixD (cVar 0) (cC (.int 2))) (cC (.int 2)))) (cSeq (cSet 2 (cOp2 ixD (cOp2 ixD (cVar 0) (cC (.int 0))) (cOp2 ixD (cVar 0) (cC (.int 1)))))
    (cSeq (cAsgT (cOp2 addD (cOp2 ixD (cVar 0) (cC (.int 1))) (cC (.int 1))) (gSubG (cVar 0) (cC (.int 1))))
    (cSeq (cIfS (cTruB (cOp2 ltD (cVar 2) (cOp2 powD (cC (.int 10)) (cC (.int 18))))) (cRet (cOp2 modD (cCall call "_law_stir" (cArgs 2 (cConsA (cOp2 modD (cVar 2) (cC (.int 2305843009213693951))) (cConsA (cOp2 ixD (cVar 0) (cC (.int 3))) cNilA)))) (cVar 1))) cNil)
    (cAsgT (cOp2 subD (cVar 2) (cOp2 powD (cC (.int 10)) (cC (.int 18)))) (gSubG (cVar 0) (cC (.int 2))))))) cNil)
    (cSeq (cSet 3 (cOp2 modD (cOp2 ixD (cVar 0) (cC (.int 2))) (cVar 1)))
    (cSeq (cAsgT (cOp2 fdivD (cOp2 ixD (cVar 0) (cC (.int 2))) (cVar 1)) (gSubG (cVar 0) (cC (.int 2))))
    (cRet (cVar 3)))))))))

structure HasBag (bod : Bod) : Prop where
  b_bag : bod.lookup ("_law_bag" : Str) = some mb_bag
  b_stir : bod.lookup ("_law_stir" : Str) = some mb_stir
  b_draw : bod.lookup ("_law_draw" : Str) = some mb_draw
/-- the bag's state: the cells at 1, the bag at 2, at most C draws so far -/
def BagS (ns : List Int) (C : Nat) (S : Hd) : Prop := ∃ i b c t : Int, S[1]? = some (.lst (ns.map D.int)) ∧ S[2]? = some (.lst [.ref 1, .int i, .int b, .int c, .int t]) ∧ 0 ≤ i ∧ i ≤ ns.length ∧ 0 ≤ b ∧ 0 ≤ c ∧ c ≤ C
/-- all but the bag stays -/
def Keep (S S' : Hd) : Prop := S.length ≤ S'.length ∧ ∀ k o, k ≠ 2 → S[k]? = some o → S'[k]? = some o
theorem Keep.refl (S : Hd) : Keep S S := ⟨Nat.le_refl _, fun _ _ _ h => h⟩
theorem Keep.trans {S S1 S2 : Hd} (a : Keep S S1) (b : Keep S1 S2) : Keep S S2 := ⟨Nat.le_trans a.1 b.1, fun k o n h => b.2 k o n (a.2 k o n h)⟩
theorem Keep.push (S : Hd) (o : Ob) : Keep S (S ++ [o]) := ⟨by simp, fun k q _ h => by
  rw [List.getElem?_append_left (List.getElem?_eq_some_iff.mp h).1]; exact h⟩
theorem Keep.set2 (S : Hd) (o : Ob) : Keep S (S.set 2 o) := ⟨by simp, fun k q n h => by rw [List.getElem?_set_ne (Ne.symm n)]; exact h⟩
theorem get_push {S : Hd} {k : Nat} {o q : Ob} (h : S[k]? = some q) : (S ++ [o])[k]? = some q := by
  rw [List.getElem?_append_left (List.getElem?_eq_some_iff.mp h).1]; exact h
theorem BagS.push {ns : List Int} {C : Nat} {S : Hd} (h : BagS ns C S) (o : Ob) : BagS ns C (S ++ [o]) := by
  obtain ⟨i, b, c, t, h1, h2, h3⟩ := h
  exact ⟨i, b, c, t, get_push h1, get_push h2, h3⟩
theorem BagS.mono {ns : List Int} {C C' : Nat} {S : Hd} (h : BagS ns C S) (hc : C ≤ C') : BagS ns C' S := by
  obtain ⟨i, b, c, t, h1, h2, h3, h4, h5, h6, h7⟩ := h
  exact ⟨i, b, c, t, h1, h2, h3, h4, h5, h6, by omega⟩
theorem BagS.len {ns : List Int} {C : Nat} {S : Hd} (h : BagS ns C S) : 3 ≤ S.length := by
  obtain ⟨i, b, c, t, h1, h2, h3⟩ := h
  exact (List.getElem?_eq_some_iff.mp h2).1
section
variable {bod : Bod} {S : Hd} {Γ : Gm} {j n : Nat}
theorem stir_ok (hl : HasBag bod) (hj : 1 ≤ j) (a c : Int) (h1 : c.natAbs < 18446744073709551616) : ∃ v, den bod j "_law_stir" [.int a, .int c] S = .ok (.int v) S := by
  obtain ⟨j, rfl, hj⟩ := one_of (n := 0) hj
  rw [den_eq hl.b_stir]
  unfold mb_stir
  have k1 : ∀ i : Int, mulD (.int i) (.int 998244353) S = .ok (.int (i * 998244353)) S := fun i => u_mul _ _ (mul_r (by decide))
  have k2 : ∀ i : Int, mulD (.int i) (.int 1000000007) S = .ok (.int (i * 1000000007)) S := fun i => u_mul _ _ (mul_r (by decide))
  have k3 : ∀ i : Int, mulD (.int i) (.int 2860486313) S = .ok (.int (i * 2860486313)) S := fun i => u_mul _ _ (mul_r (by decide))
  have k4 : ∀ i : Int, mulD (.int i) (.int 48271) S = .ok (.int (i * 48271)) S := fun i => u_mul _ _ (mul_r (by decide))
  have k5 : mulD (.int c) (.int c) S = .ok (.int (c * c)) S := u_mul _ _ (mul_r h1)
  have k6 : ∀ i : Int, mulD (.int (i % 2305843009213693951)) (.int (i % 2305843009213693951)) S = .ok (.int (i % 2305843009213693951 * (i % 2305843009213693951))) S := fun i => u_mul _ _ (mul_r (by omega))
  have d1 : ∀ i : Int, fdivD (.int i) (.int 3) S = .ok (.int (i / 3)) S := fun i => u_fdiv _ _ (by decide) (by decide)
  have d2 : ∀ i : Int, fdivD (.int i) (.int 1024) S = .ok (.int (i / 1024)) S := fun i => u_fdiv _ _ (by decide) (by decide)
  have r1 : ∀ i : Int, modD (.int i) (.int 2305843009213693951) S = .ok (.int (i % 2305843009213693951)) S := fun i => u_mod _ _ (by decide)
  have r2 : ∀ i : Int, modD (.int i) (.int 2305843009213693921) S = .ok (.int (i % 2305843009213693921)) S := fun i => u_mod _ _ (by decide)
  refine ⟨((a * 998244353 + c * 1000000007 + 5) % 2305843009213693951 * ((a * 998244353 + c * 1000000007 + 5) % 2305843009213693951) % 2305843009213693951 * 2860486313 + c * c * 48271 + (a * 998244353 + c * 1000000007 + 5) % 2305843009213693951 / 3) % 2305843009213693921 / 1024, ?_⟩
  simp only [v_bo, v_be, v_bi, v_so, v_se, v_si, v_tn, v_tr, v_te, v_ti, v_rn, v_rr, v_re, v_ri, v_gn, v_br, w_allS, v_gi, w_seq, w_set, w_ret, w_retN, w_exp, w_nil, w_ifS, w_truB, w_tru, w_notT, w_andT, w_orT, w_and, w_or, w_not, w_if, w_c, w_op1, w_op2, w_call, w_args, w_nilA, w_consA, w_tup, w_lst, w_blt, w_mt, w_raise, w_chain, w_asgT, k_si, k_ss, k_ii, k_ib, k_is, k_tl, k_tt, k_ll, k_lt, w_mk, cVar, mkFn, List.length_cons, List.length_nil, List.map_cons, List.map_nil, List.replicate, List.cons_append, List.nil_append, List.getElem?_cons_zero, List.getElem?_cons_succ, List.set_cons_zero, List.set_cons_succ, Nat.reduceAdd, Nat.reduceSub, Nat.reduceEqDiff, Nat.reduceLeDiff, if_true, if_false, truB, truD, leD, ltD, gtD, geD, cmpD, eqD, scE, addD, subD, lenD, isiD, tyN, gTupG, gConsG, gNilG, gN, seqAt, negD, decide_eq_true_eq, Bool.false_xor, Bool.true_xor, maxD, minD, intsD, isNonD, isNon, reduceIte, Bool.not_true, Bool.not_false, ite_true, ite_false, Bool.false_eq_true, decide_true, decide_false, Bool.false_or, Bool.true_or, Bool.or_true, Bool.or_false, k1, k2, k3, k4, k5, k6, d1, d2, r1, r2]
theorem draw_okB (hl : HasBag bod) (hj : 2 ≤ j) {ns : List Int} {C : Nat} (h : BagS ns C S) (hC : C ≤ 1000000) {m : Int} (hm : 0 < m) (hb : m.natAbs.log2 < 9000) :
    ∃ v S', 0 ≤ v ∧ v < m ∧ BagS ns (C + 1) S' ∧ Keep S S' ∧ den bod j "_law_draw" [.ref 2, .int m] S = .ok (.int v) S' := by
  obtain ⟨j, rfl, hj⟩ := one_of (n := 1) hj
  rw [den_eq hl.b_draw]
  unfold mb_draw
  by_cases hm1 : m = 1
  · subst hm1
    refine ⟨0, S, by decide, by decide, h.mono (Nat.le_succ _), Keep.refl _, ?_⟩
    simp only [v_bo, v_be, v_bi, v_so, v_se, v_si, v_tn, v_tr, v_te, v_ti, v_rn, v_rr, v_re, v_ri, v_gn, v_br, w_allS, v_gi, w_seq, w_set, w_ret, w_retN, w_exp, w_nil, w_ifS, w_truB, w_tru, w_notT, w_andT, w_orT, w_and, w_or, w_not, w_if, w_c, w_op1, w_op2, w_call, w_args, w_nilA, w_consA, w_tup, w_lst, w_blt, w_mt, w_raise, w_chain, w_asgT, k_si, k_ss, k_ii, k_ib, k_is, k_tl, k_tt, k_ll, k_lt, w_mk, cVar, mkFn, List.length_cons, List.length_nil, List.map_cons, List.map_nil, List.replicate, List.cons_append, List.nil_append, List.getElem?_cons_zero, List.getElem?_cons_succ, List.set_cons_zero, List.set_cons_succ, Nat.reduceAdd, Nat.reduceSub, Nat.reduceEqDiff, Nat.reduceLeDiff, if_true, if_false, truB, truD, leD, ltD, gtD, geD, cmpD, eqD, scE, addD, subD, lenD, isiD, tyN, gTupG, gConsG, gNilG, gN, seqAt, negD, decide_eq_true_eq, Bool.false_xor, Bool.true_xor, maxD, minD, intsD, isNonD, isNon, reduceIte, Bool.not_true, Bool.not_false, ite_true, ite_false, Bool.false_eq_true, decide_true, decide_false, Bool.false_or, Bool.true_or, Bool.or_true, Bool.or_false]
  obtain ⟨i, b, c, t, e1, e2, i0, i1, b0, c0, c1⟩ := h
  obtain ⟨B, hB⟩ : ∃ B : Int → Int → Int → Hd, B = fun i b c => S.set 2 (.lst [.ref 1, .int i, .int b, .int c, .int t]) := ⟨_, rfl⟩
  have hS : S = B i b c := by
    rw [hB]
    apply List.ext_getElem?
    intro k
    rcases Nat.decEq k 2 with hk | hk
    · rw [List.getElem?_set_ne (Ne.symm hk)]
    · subst hk; rw [e2]; exact (at_set e2).symm
  have b1 : ∀ i b c, (B i b c)[1]? = some (.lst (ns.map D.int)) := fun i b c => by rw [hB]; show (S.set 2 _)[1]? = _; rw [List.getElem?_set_ne (by decide)]; exact e1
  have b2 : ∀ i b c, (B i b c)[2]? = some (.lst [.ref 1, .int i, .int b, .int c, .int t]) := fun i b c => by rw [hB]; exact at_set e2
  have x0 : ∀ i b c, ixD (.ref 2) (.int 0) (B i b c) = .ok (.ref 1) (B i b c) := fun i b c => u_ixL (l_lst (b2 i b c)) rfl
  have x1 : ∀ i b c, ixD (.ref 2) (.int 1) (B i b c) = .ok (.int i) (B i b c) := fun i b c => u_ixL (l_lst (b2 i b c)) rfl
  have x2 : ∀ i b c, ixD (.ref 2) (.int 2) (B i b c) = .ok (.int b) (B i b c) := fun i b c => u_ixL (l_lst (b2 i b c)) rfl
  have x3 : ∀ i b c, ixD (.ref 2) (.int 3) (B i b c) = .ok (.int c) (B i b c) := fun i b c => u_ixL (l_lst (b2 i b c)) rfl
  have x4 : ∀ i b c, ixD (.ref 2) (.int 4) (B i b c) = .ok (.int t) (B i b c) := fun i b c => u_ixL (l_lst (b2 i b c)) rfl
  have ss : ∀ i b c o, (B i b c).set 2 o = S.set 2 o := fun i b c o => by rw [hB]; exact List.set_set ..
  have s1 : ∀ Γ i b c d, setIx (.int d) (.ref 2) (.int 1) Γ (B i b c) = .nx Γ (B d b c) := fun Γ i b c d => by
    rw [u_set (b2 i b c) (show ixN 5 1 = some 1 from rfl), ss, hB]; rfl
  have s2 : ∀ Γ i b c d, setIx (.int d) (.ref 2) (.int 2) Γ (B i b c) = .nx Γ (B i d c) := fun Γ i b c d => by
    rw [u_set (b2 i b c) (show ixN 5 2 = some 2 from rfl), ss, hB]; rfl
  have s3 : ∀ Γ i b c d, setIx (.int d) (.ref 2) (.int 3) Γ (B i b c) = .nx Γ (B i b d) := fun Γ i b c d => by
    rw [u_set (b2 i b c) (show ixN 5 3 = some 3 from rfl), ss, hB]; rfl
  have ln : ∀ i b c, lenD [.ref 1] (B i b c) = .ok (.int ns.length) (B i b c) := fun i b c => by
    unfold lenD
    dsimp only
    rw [b1]
    simp
  have md : ∀ S' k, modD (.int k) (.int m) S' = .ok (.int (k % m)) S' := fun S' k => u_mod _ _ hm
  have fd : ∀ S' k, fdivD (.int k) (.int m) S' = .ok (.int (k / m)) S' := fun S' k => u_fdiv _ _ hm hb
  have st : ∀ S' a, ∃ v, den bod j "_law_stir" [.int a, .int (c + 1)] S' = .ok (.int v) S' := fun S' a => stir_ok hl (by omega) a (c + 1) (by omega)
  have kp : ∀ i b c, Keep S (B i b c) := fun i b c => by rw [hB]; exact Keep.set2 _ _
  have bs : ∀ i' b' c' : Int, 0 ≤ i' → i' ≤ ns.length → 0 ≤ b' → 0 ≤ c' → c' ≤ (C + 1 : Nat) → BagS ns (C + 1) (B i' b' c') := fun i' b' c' h1 h2 h3 h4 h5 => ⟨i', b', c', t, b1 _ _ _, b2 _ _ _, h1, h2, h3, h4, h5⟩
  have em : ∀ k : Int, 0 ≤ k % m ∧ k % m < m := fun k => ⟨Int.emod_nonneg _ (by omega), Int.emod_lt_of_pos _ hm⟩
  have hne : decide (m = 1) = false := decide_eq_false hm1
  by_cases hb2 : b < 2
  · by_cases hi : i = ns.length
    · obtain ⟨v, hv⟩ := st (B i b (c + 1)) t
      refine ⟨v % m, B i b (c + 1), (em v).1, (em v).2, bs _ _ _ i0 i1 b0 (by omega) (by omega), kp _ _ _, ?_⟩
      have q2 : decide (b < 2) = true := decide_eq_true hb2
      have q3 : decide (i = (ns.length : Int)) = true := decide_eq_true hi
      have p2 := eq_true hb2
      have p3 := eq_true hi
      rw [hS]
      simp only [v_bo, v_be, v_bi, v_so, v_se, v_si, v_tn, v_tr, v_te, v_ti, v_rn, v_rr, v_re, v_ri, v_gn, v_br, w_allS, v_gi, w_seq, w_set, w_ret, w_retN, w_exp, w_nil, w_ifS, w_truB, w_tru, w_notT, w_andT, w_orT, w_and, w_or, w_not, w_if, w_c, w_op1, w_op2, w_call, w_args, w_nilA, w_consA, w_tup, w_lst, w_blt, w_mt, w_raise, w_chain, w_asgT, k_si, k_ss, k_ii, k_ib, k_is, k_tl, k_tt, k_ll, k_lt, w_mk, cVar, mkFn, List.length_cons, List.length_nil, List.map_cons, List.map_nil, List.replicate, List.cons_append, List.nil_append, List.getElem?_cons_zero, List.getElem?_cons_succ, List.set_cons_zero, List.set_cons_succ, Nat.reduceAdd, Nat.reduceSub, Nat.reduceEqDiff, Nat.reduceLeDiff, if_true, if_false, truB, truD, leD, ltD, gtD, geD, cmpD, eqD, scE, addD, subD, lenD, isiD, tyN, gTupG, gConsG, gNilG, gN, seqAt, negD, decide_eq_true_eq, Bool.false_xor, Bool.true_xor, maxD, minD, intsD, isNonD, isNon, reduceIte, Bool.not_true, Bool.not_false, ite_true, ite_false, Bool.false_eq_true, decide_true, decide_false, Bool.false_or, Bool.true_or, Bool.or_true, Bool.or_false, x0, x1, x2, x3, x4, s1, s2, s3, b1, List.length_map, md, fd, w_sub, hm1, hv, p2, p3, q2, q3]
    · have hlt : i.toNat < ns.length := by omega
      have at_ : ∀ i' b c, ixD (.ref 1) (.int i) (B i' b c) = .ok (.int ns[i.toNat]) (B i' b c) := fun i' b c => u_ixL (l_lst (b1 i' b c)) (by
        unfold atI ixN
        rw [List.length_map]
        simp [i0, hlt, show i < (ns.length : Int) by omega])
      obtain ⟨cell, hcell⟩ : ∃ cell, cell = ns[i.toNat] := ⟨_, rfl⟩
      rw [← hcell] at at_
      have q2 : decide (b < 2) = true := decide_eq_true hb2
      have q3 : decide (i = (ns.length : Int)) = false := decide_eq_false hi
      have p2 := eq_true hb2
      have p3 := eq_false hi
      have mc : ∀ S' k, modD (.int k) (.int 2305843009213693951) S' = .ok (.int (k % 2305843009213693951)) S' := fun S' k => u_mod _ _ (by decide)
      have p18' : ∀ S' : Hd, powD (.int 10) (.int 18) S' = .ok (.int 1000000000000000000) S' := fun S' => p18
      by_cases hc : cell < 1000000000000000000
      · obtain ⟨v, hv⟩ := st (B (i + 1) b (c + 1)) (cell % 2305843009213693951)
        refine ⟨v % m, B (i + 1) b (c + 1), (em v).1, (em v).2, bs _ _ _ (by omega) (by omega) b0 (by omega) (by omega), kp _ _ _, ?_⟩
        rw [hS]
        simp only [v_bo, v_be, v_bi, v_so, v_se, v_si, v_tn, v_tr, v_te, v_ti, v_rn, v_rr, v_re, v_ri, v_gn, v_br, w_allS, v_gi, w_seq, w_set, w_ret, w_retN, w_exp, w_nil, w_ifS, w_truB, w_tru, w_notT, w_andT, w_orT, w_and, w_or, w_not, w_if, w_c, w_op1, w_op2, w_call, w_args, w_nilA, w_consA, w_tup, w_lst, w_blt, w_mt, w_raise, w_chain, w_asgT, k_si, k_ss, k_ii, k_ib, k_is, k_tl, k_tt, k_ll, k_lt, w_mk, cVar, mkFn, List.length_cons, List.length_nil, List.map_cons, List.map_nil, List.replicate, List.cons_append, List.nil_append, List.getElem?_cons_zero, List.getElem?_cons_succ, List.set_cons_zero, List.set_cons_succ, Nat.reduceAdd, Nat.reduceSub, Nat.reduceEqDiff, Nat.reduceLeDiff, if_true, if_false, truB, truD, leD, ltD, gtD, geD, cmpD, eqD, scE, addD, subD, lenD, isiD, tyN, gTupG, gConsG, gNilG, gN, seqAt, negD, decide_eq_true_eq, Bool.false_xor, Bool.true_xor, maxD, minD, intsD, isNonD, isNon, reduceIte, Bool.not_true, Bool.not_false, ite_true, ite_false, Bool.false_eq_true, decide_true, decide_false, Bool.false_or, Bool.true_or, Bool.or_true, Bool.or_false, x0, x1, x2, x3, x4, s1, s2, s3, b1, List.length_map, md, fd, w_sub, hm1, hv, p2, p3, q2, q3, at_, mc, p18', eq_true hc]
      · refine ⟨(cell - 1000000000000000000) % m, B (i + 1) ((cell - 1000000000000000000) / m) (c + 1), (em _).1, (em _).2, bs _ _ _ (by omega) (by omega) (Int.ediv_nonneg (by omega) (by omega)) (by omega) (by omega), kp _ _ _, ?_⟩
        rw [hS]
        simp only [v_bo, v_be, v_bi, v_so, v_se, v_si, v_tn, v_tr, v_te, v_ti, v_rn, v_rr, v_re, v_ri, v_gn, v_br, w_allS, v_gi, w_seq, w_set, w_ret, w_retN, w_exp, w_nil, w_ifS, w_truB, w_tru, w_notT, w_andT, w_orT, w_and, w_or, w_not, w_if, w_c, w_op1, w_op2, w_call, w_args, w_nilA, w_consA, w_tup, w_lst, w_blt, w_mt, w_raise, w_chain, w_asgT, k_si, k_ss, k_ii, k_ib, k_is, k_tl, k_tt, k_ll, k_lt, w_mk, cVar, mkFn, List.length_cons, List.length_nil, List.map_cons, List.map_nil, List.replicate, List.cons_append, List.nil_append, List.getElem?_cons_zero, List.getElem?_cons_succ, List.set_cons_zero, List.set_cons_succ, Nat.reduceAdd, Nat.reduceSub, Nat.reduceEqDiff, Nat.reduceLeDiff, if_true, if_false, truB, truD, leD, ltD, gtD, geD, cmpD, eqD, scE, addD, subD, lenD, isiD, tyN, gTupG, gConsG, gNilG, gN, seqAt, negD, decide_eq_true_eq, Bool.false_xor, Bool.true_xor, maxD, minD, intsD, isNonD, isNon, reduceIte, Bool.not_true, Bool.not_false, ite_true, ite_false, Bool.false_eq_true, decide_true, decide_false, Bool.false_or, Bool.true_or, Bool.or_true, Bool.or_false, x0, x1, x2, x3, x4, s1, s2, s3, b1, List.length_map, md, fd, w_sub, hm1, p2, p3, q2, q3, at_, mc, p18', eq_false hc]
  · refine ⟨b % m, B i (b / m) (c + 1), (em _).1, (em _).2, bs _ _ _ i0 i1 (Int.ediv_nonneg b0 (by omega)) (by omega) (by omega), kp _ _ _, ?_⟩
    have q2 : decide (b < 2) = false := decide_eq_false hb2
    have p2 := eq_false hb2
    rw [hS]
    simp only [v_bo, v_be, v_bi, v_so, v_se, v_si, v_tn, v_tr, v_te, v_ti, v_rn, v_rr, v_re, v_ri, v_gn, v_br, w_allS, v_gi, w_seq, w_set, w_ret, w_retN, w_exp, w_nil, w_ifS, w_truB, w_tru, w_notT, w_andT, w_orT, w_and, w_or, w_not, w_if, w_c, w_op1, w_op2, w_call, w_args, w_nilA, w_consA, w_tup, w_lst, w_blt, w_mt, w_raise, w_chain, w_asgT, k_si, k_ss, k_ii, k_ib, k_is, k_tl, k_tt, k_ll, k_lt, w_mk, cVar, mkFn, List.length_cons, List.length_nil, List.map_cons, List.map_nil, List.replicate, List.cons_append, List.nil_append, List.getElem?_cons_zero, List.getElem?_cons_succ, List.set_cons_zero, List.set_cons_succ, Nat.reduceAdd, Nat.reduceSub, Nat.reduceEqDiff, Nat.reduceLeDiff, if_true, if_false, truB, truD, leD, ltD, gtD, geD, cmpD, eqD, scE, addD, subD, lenD, isiD, tyN, gTupG, gConsG, gNilG, gN, seqAt, negD, decide_eq_true_eq, Bool.false_xor, Bool.true_xor, maxD, minD, intsD, isNonD, isNon, reduceIte, Bool.not_true, Bool.not_false, ite_true, ite_false, Bool.false_eq_true, decide_true, decide_false, Bool.false_or, Bool.true_or, Bool.or_true, Bool.or_false, x0, x1, x2, x3, x4, s1, s2, s3, b1, List.length_map, md, fd, w_sub, hm1, p2, q2]
theorem ub_list {xs : List D} (h : lstAt S n = some xs) : listD [.ref n] S = alloc (.lst xs) S := by
  unfold listD
  dsimp only
  rw [h]
theorem bag_ok (hl : HasBag bod) (hj : 1 ≤ j) (ns : List Int) (hn : ns.length ≤ 63) (o : Ob) (ho : o = Ob.lst (ns.map D.int) ∨ o = Ob.ro (ns.map D.int)) :
    ∃ S', den bod j "_law_bag" [.ref 0] [o] = .ok (.ref 2) S' ∧ BagS ns 0 S' ∧ S'[0]? = some o := by
  obtain ⟨j, rfl, hj⟩ := one_of (n := 0) hj
  rw [den_eq hl.b_bag]
  unfold mb_bag
  have hL : lstAt [o] 0 = some (ns.map D.int) := by rcases ho with rfl | rfl <;> rfl
  let I : Nat → Gm → Hd → Prop := fun i Γ S => S = [o] ∧ ∃ t x, Γ = [some (.ref 0), some (.int t), x]
  have key := cFor_inv (it := cSrc (cVar 0)) (S0 := [o]) (S := [o]) (src := .base (.lst 0)) (g := gN 2) (b := cSet 1 (cOp2 modD (cOp2 addD (cOp2 addD (cOp2 mulD (cVar 1) (cC (.int 1000003))) (cOp2 modD (cVar 2) (cC (.int 2305843009213693951)))) (cC (.int 1))) (cC (.int 2305843009213693951)))) (Γ := [some (.ref 0), some (.int 1), none]) (ns.map D.int) I
    (by unfold cSrc; rw [w_var 0 _ rfl]; exact u_src hL) (by rw [List.length_map]; omega) (fun i Γ S h _ => by rw [h.1]; simp only [nextS, cont, hL])
    (fun i d Γ S hd h => by
      obtain ⟨rfl, t, x, rfl⟩ := h
      rw [List.getElem?_map] at hd
      obtain ⟨c, hc, rfl⟩ := Option.map_eq_some_iff.mp hd
      have k1 : ∀ i : Int, mulD (.int i) (.int 1000003) [o] = .ok (.int (i * 1000003)) [o] := fun i => u_mul _ _ (mul_r (by decide))
      have r1 : ∀ i : Int, modD (.int i) (.int 2305843009213693951) [o] = .ok (.int (i % 2305843009213693951)) [o] := fun i => u_mod _ _ (by decide)
      refine ⟨_, _, _, _, rfl, .inl ?_, rfl, (t * 1000003 + c % 2305843009213693951 + 1) % 2305843009213693951, some (.int c), rfl⟩
      simp only [v_bo, v_be, v_bi, v_so, v_se, v_si, v_tn, v_tr, v_te, v_ti, v_rn, v_rr, v_re, v_ri, v_gn, v_br, w_allS, v_gi, w_seq, w_set, w_ret, w_retN, w_exp, w_nil, w_ifS, w_truB, w_tru, w_notT, w_andT, w_orT, w_and, w_or, w_not, w_if, w_c, w_op1, w_op2, w_call, w_args, w_nilA, w_consA, w_tup, w_lst, w_blt, w_mt, w_raise, w_chain, w_asgT, k_si, k_ss, k_ii, k_ib, k_is, k_tl, k_tt, k_ll, k_lt, w_mk, cVar, mkFn, List.length_cons, List.length_nil, List.map_cons, List.map_nil, List.replicate, List.cons_append, List.nil_append, List.getElem?_cons_zero, List.getElem?_cons_succ, List.set_cons_zero, List.set_cons_succ, Nat.reduceAdd, Nat.reduceSub, Nat.reduceEqDiff, Nat.reduceLeDiff, if_true, if_false, truB, truD, leD, ltD, gtD, geD, cmpD, eqD, scE, addD, subD, lenD, isiD, tyN, gTupG, gConsG, gNilG, gN, seqAt, negD, decide_eq_true_eq, Bool.false_xor, Bool.true_xor, maxD, minD, intsD, isNonD, isNon, reduceIte, Bool.not_true, Bool.not_false, ite_true, ite_false, Bool.false_eq_true, decide_true, decide_false, Bool.false_or, Bool.true_or, Bool.or_true, Bool.or_false, k1, r1]) ⟨rfl, _, _, rfl⟩
  obtain ⟨Γ', S', e, rfl, t, x, rfl⟩ := key
  refine ⟨[o] ++ [.lst (ns.map D.int)] ++ [.lst [.ref 1, .int 0, .int 0, .int 0, .int t]], ?_, ⟨0, 0, 0, t, rfl, rfl, by decide, by omega, by decide, by decide, by decide⟩, rfl⟩
  rw [w_mk 3 1 _ [.ref 0] rfl]
  simp only [w_seq, w_set, w_c, v_so, v_tn, List.map_cons, List.map_nil, List.replicate, Nat.reduceAdd, Nat.reduceSub, List.cons_append, List.nil_append, List.set_cons_succ, List.set_cons_zero]
  rw [e]
  simp only [v_bo, v_be, v_bi, v_so, v_se, v_si, v_tn, v_tr, v_te, v_ti, v_rn, v_rr, v_re, v_ri, v_gn, v_br, w_allS, v_gi, w_seq, w_set, w_ret, w_retN, w_exp, w_nil, w_ifS, w_truB, w_tru, w_notT, w_andT, w_orT, w_and, w_or, w_not, w_if, w_c, w_op1, w_op2, w_call, w_args, w_nilA, w_consA, w_tup, w_lst, w_blt, w_mt, w_raise, w_chain, w_asgT, k_si, k_ss, k_ii, k_ib, k_is, k_tl, k_tt, k_ll, k_lt, w_mk, cVar, mkFn, List.length_cons, List.length_nil, List.map_cons, List.map_nil, List.replicate, List.cons_append, List.nil_append, List.getElem?_cons_zero, List.getElem?_cons_succ, List.set_cons_zero, List.set_cons_succ, Nat.reduceAdd, Nat.reduceSub, Nat.reduceEqDiff, Nat.reduceLeDiff, if_true, if_false, truB, truD, leD, ltD, gtD, geD, cmpD, eqD, scE, addD, subD, lenD, isiD, tyN, gTupG, gConsG, gNilG, gN, seqAt, negD, decide_eq_true_eq, Bool.false_xor, Bool.true_xor, maxD, minD, intsD, isNonD, isNon, reduceIte, Bool.not_true, Bool.not_false, ite_true, ite_false, Bool.false_eq_true, decide_true, decide_false, Bool.false_or, Bool.true_or, Bool.or_true, Bool.or_false, alloc, ub_list hL]
end
end Dn

set_option linter.all false
set_option maxRecDepth 100000
set_option maxHeartbeats 1000000
set_option autoImplicit false
/-! # Rims and seen pieces of a bag -/
namespace Dn
open PySem PySem.Spec Kx L2
theorem w_sl {S : Hd} {Γ : Gm} (m : CE) (lo hi : CO) : cSl m lo hi Γ S = (m Γ S).bind fun d S1 => (lo Γ S1).bind fun l S2 => (hi Γ S2).bind fun u S3 => slD l u d S3 := rfl
theorem ux_sub {S : Hd} (i k : Int) : subD (.int i) (.int k) S = .ok (.int (i - k)) S := rfl
def mb_rim (call : Calls) : List D → Hd → R D := mkFn 7 2 ((cSeq (cSet 2 (cOp2 addD (cC (.int 1)) (cCall call "_law_draw" (cArgs 2 (cConsA (cVar 0) (cConsA (cVar 1) cNilA))))))
    (cSeq (cSet 3 (cCall call "_law_draw" (cArgs 2 (cConsA (cVar 0) (cConsA (cC (.int 4)) cNilA)))))
    (cSeq (cIfS (cTruB (cOp2 (eqD false) (cVar 3) (cC (.int 1)))) (cSeq (cSet 4 (cCall call "_law_draw" (cArgs 2 (cConsA (cVar 0) (cConsA (cVar 2) cNilA)))))
    (cRet (cOp2 addD (cOp2 addD (cOp2 mulD (cC (.str [46])) (cVar 4)) (cOp2 ixD (cC (.str [97, 98, 122])) (cCall call "_law_draw" (cArgs 2 (cConsA (cVar 0) (cConsA (cC (.int 3)) cNilA)))))) (cOp2 mulD (cC (.str [46])) (cOp2 subD (cOp2 subD (cVar 2) (cVar 4)) (cC (.int 1))))))) cNil)
    (cSeq (cIfS (cTruB (cOp2 (eqD false) (cVar 3) (cC (.int 2)))) (cRet (cSl (cOp2 mulD (cOp2 ixD (cLst (cConsA (cC (.str [97])) (cConsA (cC (.str [97, 98])) (cConsA (cC (.str [46])) (cConsA (cC (.str [97, 46])) cNilA))))) (cCall call "_law_draw" (cArgs 2 (cConsA (cVar 0) (cConsA (cC (.int 4)) cNilA))))) (cVar 2)) cNoPart (cPart (cVar 2)))) cNil)
    (cSeq (cSet 5 (cOp2 ixD (cLst (cConsA (cC (.str [97, 98, 46])) (cConsA (cC (.str [])) (cConsA (cC (.str [])) (cConsA (cC (.str [97, 98, 99, 100, 101, 102, 103, 104, 105, 106, 107, 108, 109, 110, 111, 112, 113, 114, 115, 116, 117, 118, 119, 120, 121, 122, 46])) cNilA))))) (cVar 3)))
    (cRet (cMt "str" isStrD joinD (cC (.str [])) (cConsA (cLc (cRng1 (cConsA (cVar 2) cNilA)) (gN 6) cYes (cOp2 ixD (cVar 5) (cCall call "_law_draw" (cArgs 2 (cConsA (cVar 0) (cConsA (cBlt lenD (cConsA (cVar 5) cNilA)) cNilA))))) [6]) cNilA)))))))))

/-- a sign of a seen piece -/
def skN (c : Nat) : Bool := mkN c || c == 63
section
variable {bod : Bod} {S : Hd} {Γ : Gm} {j n : Nat}
theorem at_ok {α : Type} {l : List α} {v : Int} (h0 : 0 ≤ v) (h1 : v < l.length) : atI l v = l[v.toNat]? := by
  unfold atI ixN
  rw [if_pos h0, if_pos h1]
  rfl
theorem xS {l : List Nat} (hl : l.length ≤ 16777216) {v : Int} (h0 : 0 ≤ v) (h1 : v < l.length) : ∃ c, c ∈ l ∧ l[v.toNat]? = some c ∧ ∀ S, ixD (.str l) (.int v) S = .ok (.str [c]) S := by
  have hlt : v.toNat < l.length := by omega
  refine ⟨l[v.toNat], List.getElem_mem hlt, List.getElem?_eq_getElem hlt, fun S => ?_⟩
  unfold ixD
  dsimp only
  rw [if_pos hl, at_ok h0 h1, List.getElem?_eq_getElem hlt]
theorem xL {ds : List D} {v : Int} (h0 : 0 ≤ v) (h1 : v < ds.length) : ∃ d, d ∈ ds ∧ ∀ S n, lstAt S n = some ds → ixD (.ref n) (.int v) S = .ok d S := by
  have hlt : v.toNat < ds.length := by omega
  refine ⟨ds[v.toNat], List.getElem_mem hlt, fun S n h => ?_⟩
  unfold ixD
  dsimp only
  rw [h]
  dsimp only
  rw [at_ok h0 h1, List.getElem?_eq_getElem hlt]
theorem rep1 (k : Nat) (c : Nat) : (List.replicate k [c]).flatten = List.replicate k c := by
  induction k with
  | zero => rfl
  | succ k ih => rw [List.replicate_succ, List.flatten_cons, ih]; rfl
theorem xM {l : List Nat} {k : Int} (h0 : 0 ≤ k) (h1 : k ≤ 100000) (hl : l.length ≤ 100) : mulD (.str l) (.int k) S = .ok (.str (List.replicate k.toNat l).flatten) S := by
  refine if_pos ⟨h0, ?_, by omega⟩
  have : l.length * k.toNat ≤ 100 * 100000 := Nat.mul_le_mul hl (by omega)
  omega
theorem xA {x y : List Nat} (h : x.length + y.length ≤ 16777216) : addD (.str x) (.str y) S = .ok (.str (x ++ y)) S := if_pos h
theorem xN {l : List Nat} (h : l.length ≤ 16777216) : lenD [.str l] S = .ok (.int l.length) S := if_pos h
theorem xNL {xs : List D} (h : S[n]? = some (.lst xs)) : lenD [.ref n] S = .ok (.int xs.length) S := by
  unfold lenD
  dsimp only
  rw [h]
theorem xT {l : List Nat} {k : Nat} (h : l.length ≤ 16777216) : slD none (some (k : Int)) (.str l) S = .ok (.str (l.take k)) S := by
  unfold slD
  dsimp only
  rw [if_pos h]
  unfold cutL
  rw [HT.sIx_none, HT.sIx_nat, List.drop_zero, Nat.sub_zero]
  congr 2
  by_cases hk : k ≤ l.length
  · rw [Nat.min_eq_left hk]
  · rw [Nat.min_eq_right (by omega), List.take_of_length_le (Nat.le_refl _), List.take_of_length_le (by omega)]
theorem strs_ch : ∀ l : List Nat, strsD (l.map fun c => D.str [c]) = some (l.map fun c => [c])
  | [] => rfl
  | c :: r => by
    rw [List.map_cons, strsD, strs_ch r]
    rfl
theorem flat1 : ∀ l : List Nat, (l.map fun c => [c]).flatten = l
  | [] => rfl
  | c :: r => by rw [List.map_cons, List.flatten_cons, flat1 r]; rfl
theorem join_ch (l : List Nat) : joinL [] (l.map fun c => [c]) = l := by
  cases l with
  | nil => rfl
  | cons c r =>
    show [c] ++ (((r.map fun c => [c]).map fun q => [] ++ q).flatten) = _
    rw [show ((r.map fun c => [c]).map fun q => [] ++ q) = (r.map fun c => [c]) by simp, flat1]
    rfl
theorem sum1 : ∀ l : List Nat, ((l.map fun c => [c]).map (·.length)).sum = l.length
  | [] => rfl
  | c :: r => by
    rw [List.map_cons, List.map_cons, List.sum_cons, sum1 r]
    show 1 + r.length = r.length + 1
    omega
theorem xJ {l : List Nat} (hl : l.length ≤ 16777216) (h : S[n]? = some (.lst (l.map fun c => D.str [c]))) : joinD (.str []) [.ref n] S = .ok (.str l) S := by
  unfold joinD
  have hs : seqAt S (.ref n) = some (l.map fun c => D.str [c]) := by
    show lstAt S n = _
    unfold lstAt
    rw [h]
  dsimp only
  rw [hs]
  dsimp only
  rw [strs_ch]
  dsimp only
  rw [if_pos (by rw [sum1]; simpa using hl), join_ch]
theorem all_rep {k : Nat} : (List.replicate k 46).all mkN = true := by
  rw [List.all_eq_true]
  intro x hx
  rw [(List.mem_replicate.mp hx).2]
  decide
theorem flat_all {l : List Nat} (h : l.all mkN = true) : ∀ k, ((List.replicate k l).flatten).all mkN = true
  | 0 => rfl
  | k + 1 => by
    rw [List.replicate_succ, List.flatten_cons, List.all_append, h, flat_all h k]
    rfl
theorem flat_len {l : List Nat} : ∀ k, ((List.replicate k l).flatten).length = k * l.length
  | 0 => by simp
  | k + 1 => by
    rw [List.replicate_succ, List.flatten_cons, List.length_append, flat_len k, Nat.succ_mul, Nat.add_comm]
theorem take_all {l : List Nat} (h : l.all mkN = true) (k : Nat) : (l.take k).all mkN = true := by
  rw [List.all_eq_true] at h ⊢
  exact fun x hx => h x (List.mem_of_mem_take hx)
theorem lg {m : Int} (h0 : 0 < m) (h : m ≤ 2000000) : m.natAbs.log2 < 9000 := by
  have h1 : m.natAbs.log2 ≤ m.natAbs := Nat.log2_le_self _
  have : m.natAbs.log2 < 21 := (Nat.log2_lt (by omega)).mpr (by omega)
  omega
/-- a comprehension of drawn signs -/
theorem signs_ok (hl : HasBag bod) (hj : 2 ≤ j) {ns : List Int} {C : Nat} (h : BagS ns C S) {sg : List Nat} (hs : 0 < sg.length) (hs2 : sg.length ≤ 100) (ha : sg.all mkN = true) {sz : Int} (z0 : 0 ≤ sz) (z1 : sz ≤ 400) (hC : C + 400 ≤ 1000000)
    (hΓ0 : Γ[0]? = some (some (.ref 2))) (hΓ2 : Γ[2]? = some (some (.int sz))) (hΓ5 : Γ[5]? = some (some (.str sg))) :
    ∃ (l : List Nat) (S' : Hd), BagS ns (C + sz.toNat) S' ∧ Keep S S' ∧ l.length = sz.toNat ∧ l.all mkN = true ∧
      cLc (cRng1 (cConsA (cVar 2) cNilA)) (gN 6) cYes (cOp2 ixD (cVar 5) (cCall (den bod j) "_law_draw" (cArgs 2 (cConsA (cVar 0) (cConsA (cBlt lenD (cConsA (cVar 5) cNilA)) cNilA))))) [6] Γ S = .ok (.ref S'.length) (S' ++ [.lst (l.map fun c => D.str [c])]) := by
  have key := cLc_inv (Γ := Γ) (S0 := S) (S := S) (src := .base (.items (rngL 0 sz.toNat))) (g := gN 6) (t := cYes) (m := cOp2 ixD (cVar 5) (cCall (den bod j) "_law_draw" (cArgs 2 (cConsA (cVar 0) (cConsA (cBlt lenD (cConsA (cVar 5) cNilA)) cNilA))))) (it := cRng1 (cConsA (cVar 2) cNilA)) (vs := [6])
    (rngL 0 sz.toNat) (fun i acc S' => ∃ l : List Nat, acc = (l.map fun c => D.str [c]) ∧ l.length = i ∧ l.all mkN = true ∧ BagS ns (C + i) S' ∧ Keep S S')
    (by
      unfold cRng1
      have hsm : smI sz = true := by unfold smI; simp; omega
      simp only [w_consA, w_nilA, cVar, hΓ2, v_bo, hsm, if_true]) (by simp [rngL]; omega) (fun i acc S' _ _ => rfl)
    (fun i acc S' h => by obtain ⟨l, rfl, h2, _⟩ := h; rw [List.length_map, h2]; exact Nat.le_refl _)
    (fun i d acc S' hd h => by
      obtain ⟨l, rfl, h2, h3, h4, h5⟩ := h
      have hi : i < sz.toNat := by
        have := (List.getElem?_eq_some_iff.mp hd).1
        simpa [rngL] using this
      refine ⟨(wipeD Γ [6]).set 6 (some d), S', rfl, .inr ?_⟩
      obtain ⟨v, S2, v0, v1, B2, K2, e2⟩ := draw_okB hl hj h4 (by omega) (m := (sg.length : Int)) (by omega) (lg (by omega) (by omega))
      obtain ⟨c, hc, _, hx⟩ := xS (l := sg) (by omega) v0 v1
      have g0 : ((wipeD Γ [6]).set 6 (some d))[0]? = some (some (.ref 2)) := by
        show ((Γ.set 6 none).set 6 (some d))[0]? = _
        rw [List.set_set, List.getElem?_set_ne (by decide)]; exact hΓ0
      have g5 : ((wipeD Γ [6]).set 6 (some d))[5]? = some (some (.str sg)) := by
        show ((Γ.set 6 none).set 6 (some d))[5]? = _
        rw [List.set_set, List.getElem?_set_ne (by decide)]; exact hΓ5
      refine ⟨S', .str [c], S2, rfl, ?_, l ++ [c], by rw [List.map_append]; rfl, by rw [List.length_append, h2]; rfl, ?_, B2.mono (by omega), h5.trans K2⟩
      · simp only [w_op2, w_call, w_args, w_consA, w_nilA, w_blt, cVar, g0, g5, v_bo, xN (S := S') (l := sg) (by omega), List.length_cons, List.length_nil, Nat.reduceAdd, if_true, e2, hx]
      · rw [List.all_append, h3]
        simp only [List.all_cons, List.all_nil, Bool.and_true, Bool.true_and]
        exact (List.all_eq_true.mp ha) c hc) ⟨[], rfl, rfl, rfl, h, Keep.refl _⟩
  obtain ⟨acc, S', e, l, rfl, h2, h3, h4, h5⟩ := key
  have hlen : (rngL 0 sz.toNat).length = sz.toNat := by simp [rngL]
  rw [hlen] at h2 h4
  exact ⟨l, S', h4, h5, h2, h3, e⟩
theorem rim_okB (hl : HasBag bod) (hr : bod.lookup ("_law_rim" : Str) = some mb_rim) (hj : 3 ≤ j) {ns : List Int} {C : Nat} (h : BagS ns C S) (hC : C ≤ 900000) {m : Int} (hm : 0 < m) (hm2 : m ≤ 100) :
    ∃ (l : List Nat) (S' : Hd), BagS ns (C + 110) S' ∧ Keep S S' ∧ 0 < l.length ∧ (l.length : Int) ≤ m ∧ l.all mkN = true ∧ den bod j "_law_rim" [.ref 2, .int m] S = .ok (.str l) S' := by
  obtain ⟨j, rfl, hj2⟩ := one_of (n := 2) hj
  rw [den_eq hr]
  unfold mb_rim
  obtain ⟨v1, S1, a0, a1, B1, K1, e1⟩ := draw_okB hl hj2 h (by omega) (m := m) hm (lg hm (by omega))
  obtain ⟨v2, S2, b0, b1, B2, K2, e2⟩ := draw_okB hl hj2 B1 (by omega) (m := 4) (by decide) (by decide)
  by_cases k1 : v2 = 1
  · obtain ⟨v3, S3, c0, c1, B3, K3, e3⟩ := draw_okB hl hj2 B2 (by omega) (m := 1 + v1) (by omega) (lg (by omega) (by omega))
    obtain ⟨v4, S4, d0, d1, B4, K4, e4⟩ := draw_okB hl hj2 B3 (by omega) (m := 3) (by decide) (by decide)
    obtain ⟨c, hc, _, hx⟩ := xS (l := [97, 98, 122]) (by decide) d0 d1
    have m1 : ∀ S : Hd, mulD (.str [46]) (.int v3) S = .ok (.str (List.replicate v3.toNat 46)) S := fun S => by rw [xM c0 (by omega) (by decide), rep1]
    have m2 : ∀ S : Hd, mulD (.str [46]) (.int (1 + v1 - v3 - 1)) S = .ok (.str (List.replicate (1 + v1 - v3 - 1).toNat 46)) S := fun S => by rw [xM (by omega) (by omega) (by decide), rep1]
    have q1 : ∀ S : Hd, addD (.str (List.replicate v3.toNat 46)) (.str [c]) S = .ok (.str (List.replicate v3.toNat 46 ++ [c])) S := fun S => xA (by simp; omega)
    have q2 : ∀ S : Hd, addD (.str (List.replicate v3.toNat 46 ++ [c])) (.str (List.replicate (1 + v1 - v3 - 1).toNat 46)) S = .ok (.str (List.replicate v3.toNat 46 ++ [c] ++ List.replicate (1 + v1 - v3 - 1).toNat 46)) S := fun S => xA (by simp; omega)
    refine ⟨List.replicate v3.toNat 46 ++ [c] ++ List.replicate (1 + v1 - v3 - 1).toNat 46, S4, B4.mono (by omega), ((K1.trans K2).trans K3).trans K4, by simp; omega, by simp; omega, ?_, ?_⟩
    · rw [List.all_append, List.all_append, all_rep, all_rep]
      have : ([97, 98, 122] : List Nat).all mkN = true := by decide
      have := (List.all_eq_true.mp this) c hc
      simp [this]
    · simp only [v_bo, v_be, v_bi, v_so, v_se, v_si, v_tn, v_tr, v_te, v_ti, v_rn, v_rr, v_re, v_ri, v_gn, v_br, w_allS, v_gi, w_seq, w_set, w_ret, w_retN, w_exp, w_nil, w_ifS, w_truB, w_tru, w_notT, w_andT, w_orT, w_and, w_or, w_not, w_if, w_c, w_op1, w_op2, w_call, w_args, w_nilA, w_consA, w_tup, w_lst, w_blt, w_mt, w_raise, w_chain, w_asgT, k_si, k_ss, k_ii, k_ib, k_is, k_tl, k_tt, k_ll, k_lt, w_mk, cVar, mkFn, List.length_cons, List.length_nil, List.map_cons, List.map_nil, List.replicate, List.cons_append, List.nil_append, List.getElem?_cons_zero, List.getElem?_cons_succ, List.set_cons_zero, List.set_cons_succ, Nat.reduceAdd, Nat.reduceSub, Nat.reduceEqDiff, Nat.reduceLeDiff, if_true, if_false, truB, truD, leD, ltD, gtD, geD, cmpD, eqD, scE, subD, isiD, tyN, u_add,  gTupG, gConsG, gNilG, gN, seqAt, negD, decide_eq_true_eq, Bool.false_xor, Bool.true_xor, maxD, minD, intsD, isNonD, isNon, reduceIte, Bool.not_true, Bool.not_false, ite_true, ite_false, Bool.false_eq_true, decide_true, decide_false, Bool.false_or, Bool.true_or, Bool.or_true, Bool.or_false, e1, e2, e3, e4, eq_true k1, hx, m1, m2, q1, q2]
  · by_cases k2 : v2 = 2
    · have p1 : (2 : Int) = 1 ↔ False := by decide
      subst k2
      obtain ⟨v3, S3, c0, c1, B3, K3, e3⟩ := draw_okB hl hj2 (B2.push (.lst [.str [97], .str [97, 98], .str [46], .str [97, 46]])) (by omega) (m := 4) (by decide) (by decide)
      obtain ⟨d, hd, hx⟩ := xL (ds := [.str [97], .str [97, 98], .str [46], .str [97, 46]]) c0 c1
      have hne : S2.length ≠ 2 := by have := B2.len; omega
      have hL : lstAt S3 S2.length = some [.str [97], .str [97, 98], .str [46], .str [97, 46]] := l_lst (K3.2 _ _ hne (by simp))
      have hx := hx S3 S2.length hL
      obtain ⟨w, rfl, hw, hw1, hw2⟩ : ∃ w : List Nat, d = .str w ∧ w.all mkN = true ∧ 0 < w.length ∧ w.length ≤ 2 := by
        simp only [List.mem_cons, List.not_mem_nil, or_false] at hd
        rcases hd with rfl | rfl | rfl | rfl
        · exact ⟨_, rfl, by decide, by decide, by decide⟩
        · exact ⟨_, rfl, by decide, by decide, by decide⟩
        · exact ⟨_, rfl, by decide, by decide, by decide⟩
        · exact ⟨_, rfl, by decide, by decide, by decide⟩
      have m1 : mulD (.str w) (.int (1 + v1)) S3 = .ok (.str (List.replicate (1 + v1).toNat w).flatten) S3 := xM (by omega) (by omega) (by omega)
      have hfl : ((List.replicate (1 + v1).toNat w).flatten).length = (1 + v1).toNat * w.length := flat_len _
      have hmu : (1 + v1).toNat * 1 ≤ (1 + v1).toNat * w.length := Nat.mul_le_mul_left _ hw1
      have hmu2 : (1 + v1).toNat * w.length ≤ (1 + v1).toNat * 2 := Nat.mul_le_mul_left _ hw2
      have tk : slD none (some (1 + v1)) (.str (List.replicate (1 + v1).toNat w).flatten) S3 = .ok (.str ((List.replicate (1 + v1).toNat w).flatten.take (1 + v1).toNat)) S3 := by
        have := xT (S := S3) (l := (List.replicate (1 + v1).toNat w).flatten) (k := (1 + v1).toNat) (by omega)
        rw [Int.toNat_of_nonneg (by omega)] at this
        exact this
      refine ⟨(List.replicate (1 + v1).toNat w).flatten.take (1 + v1).toNat, S3, B3.mono (by omega), ((K1.trans K2).trans (Keep.push _ _)).trans K3, ?_, ?_, take_all (flat_all hw _) _, ?_⟩
      · rw [List.length_take]; omega
      · rw [List.length_take]; omega
      · have h4 : (4 ≤ 16777216) = True := by simp
        simp only [v_bo, v_be, v_bi, v_so, v_se, v_si, v_tn, v_tr, v_te, v_ti, v_rn, v_rr, v_re, v_ri, v_gn, v_br, w_allS, v_gi, w_seq, w_set, w_ret, w_retN, w_exp, w_nil, w_ifS, w_truB, w_tru, w_notT, w_andT, w_orT, w_and, w_or, w_not, w_if, w_c, w_op1, w_op2, w_call, w_args, w_nilA, w_consA, w_tup, w_lst, w_blt, w_mt, w_raise, w_chain, w_asgT, k_si, k_ss, k_ii, k_ib, k_is, k_tl, k_tt, k_ll, k_lt, w_mk, cVar, mkFn, List.length_cons, List.length_nil, List.map_cons, List.map_nil, List.replicate, List.cons_append, List.nil_append, List.getElem?_cons_zero, List.getElem?_cons_succ, List.set_cons_zero, List.set_cons_succ, Nat.reduceAdd, Nat.reduceSub, Nat.reduceEqDiff, Nat.reduceLeDiff, if_true, if_false, truB, truD, leD, ltD, gtD, geD, cmpD, eqD, scE, subD, isiD, tyN, u_add,  gTupG, gConsG, gNilG, gN, seqAt, negD, decide_eq_true_eq, Bool.false_xor, Bool.true_xor, maxD, minD, intsD, isNonD, isNon, reduceIte, Bool.not_true, Bool.not_false, ite_true, ite_false, Bool.false_eq_true, decide_true, decide_false, Bool.false_or, Bool.true_or, Bool.or_true, Bool.or_false, e1, e2, e3, p1, hx, m1, tk, alloc, cPart, cNoPart, w_sl]
    · have hk : v2 = 0 ∨ v2 = 3 := by omega
      obtain ⟨d, hd, hx⟩ := xL (ds := [.str [97, 98, 46], .str [], .str [], .str [97, 98, 99, 100, 101, 102, 103, 104, 105, 106, 107, 108, 109, 110, 111, 112, 113, 114, 115, 116, 117, 118, 119, 120, 121, 122, 46]]) b0 b1
      obtain ⟨sg, hsg, s1, s2, s3⟩ : ∃ sg : List Nat, ixD (.ref S2.length) (.int v2) (S2 ++ [.lst [.str [97, 98, 46], .str [], .str [], .str [97, 98, 99, 100, 101, 102, 103, 104, 105, 106, 107, 108, 109, 110, 111, 112, 113, 114, 115, 116, 117, 118, 119, 120, 121, 122, 46]]]) = .ok (.str sg) (S2 ++ [.lst [.str [97, 98, 46], .str [], .str [], .str [97, 98, 99, 100, 101, 102, 103, 104, 105, 106, 107, 108, 109, 110, 111, 112, 113, 114, 115, 116, 117, 118, 119, 120, 121, 122, 46]]]) ∧ 0 < sg.length ∧ sg.length ≤ 100 ∧ sg.all mkN = true := by
        rcases hk with rfl | rfl
        · exact ⟨_, u_ixL (l_lst (List.getElem?_concat_length)) rfl, by decide, by decide, by decide⟩
        · exact ⟨_, u_ixL (l_lst (List.getElem?_concat_length)) rfl, by decide, by decide, by decide⟩
      obtain ⟨l, S3, B3, K3, l1, l2, e3⟩ := signs_ok (Γ := [some (.ref 2), some (.int m), some (.int (1 + v1)), some (.int v2), none, some (.str sg), none]) hl hj2 (B2.push (.lst [.str [97, 98, 46], .str [], .str [], .str [97, 98, 99, 100, 101, 102, 103, 104, 105, 106, 107, 108, 109, 110, 111, 112, 113, 114, 115, 116, 117, 118, 119, 120, 121, 122, 46]])) s1 s2 s3 (sz := 1 + v1) (by omega) (by omega) (by omega) rfl rfl rfl
      have n1 : (v2 = 1) = False := eq_false k1
      have n2 : (v2 = 2) = False := eq_false k2
      refine ⟨l, S3 ++ [.lst (l.map fun c => D.str [c])], (B3.push _).mono (by omega), (((K1.trans K2).trans (Keep.push _ _)).trans K3).trans (Keep.push _ _), by omega, by omega, l2, ?_⟩
      have jn := xJ (S := S3 ++ [.lst (l.map fun c => D.str [c])]) (n := S3.length) (l := l) (by omega) (List.getElem?_concat_length)
      simp only [v_bo, v_be, v_bi, v_so, v_se, v_si, v_tn, v_tr, v_te, v_ti, v_rn, v_rr, v_re, v_ri, v_gn, v_br, w_allS, v_gi, w_seq, w_set, w_ret, w_retN, w_exp, w_nil, w_ifS, w_truB, w_tru, w_notT, w_andT, w_orT, w_and, w_or, w_not, w_if, w_c, w_op1, w_op2, w_call, w_args, w_nilA, w_consA, w_tup, w_lst, w_blt, w_mt, w_raise, w_chain, w_asgT, k_si, k_ss, k_ii, k_ib, k_is, k_tl, k_tt, k_ll, k_lt, w_mk, cVar, mkFn, List.length_cons, List.length_nil, List.map_cons, List.map_nil, List.replicate, List.cons_append, List.nil_append, List.getElem?_cons_zero, List.getElem?_cons_succ, List.set_cons_zero, List.set_cons_succ, Nat.reduceAdd, Nat.reduceSub, Nat.reduceEqDiff, Nat.reduceLeDiff, if_true, if_false, truB, truD, leD, ltD, gtD, geD, cmpD, eqD, scE, subD, isiD, tyN, u_add,  gTupG, gConsG, gNilG, gN, seqAt, negD, decide_eq_true_eq, Bool.false_xor, Bool.true_xor, maxD, minD, intsD, isNonD, isNon, reduceIte, Bool.not_true, Bool.not_false, ite_true, ite_false, Bool.false_eq_true, decide_true, decide_false, Bool.false_or, Bool.true_or, Bool.or_true, Bool.or_false, e1, e2, n1, n2, alloc, hsg, e3, jn, isStrD]
end
end Dn

set_option linter.all false
set_option maxRecDepth 100000
set_option maxHeartbeats 1000000
set_option autoImplicit false
/-! # Seen pieces: what lies beneath a wheel -/
namespace Dn
open PySem PySem.Spec Kx L2

section
variable {S : Hd} {Γ : Gm} {src : Src} {g : CG} {b : CS}
/-- a for over a known list that may end by a return -/
theorem forL_run (ds : List D) (I : Nat → Gm → Hd → Prop) (P : D → Hd → Prop) (hsrc : ∀ i Γ S, I i Γ S → i ≤ ds.length → nextS S i src = some ds[i]?)
    (step : ∀ i d Γ S, ds[i]? = some d → I i Γ S → ∃ Γ1 S1, g d Γ S = .nx Γ1 S1 ∧ ((∃ Γ2 S2, (b Γ1 S1 = .nx Γ2 S2 ∨ b Γ1 S1 = .ct Γ2 S2) ∧ I (i + 1) Γ2 S2) ∨ ∃ r S2, b Γ1 S1 = .rt r S2 ∧ P r S2)) :
    ∀ (m i fuel : Nat) (Γ : Gm) (S : Hd), m = ds.length - i → i ≤ ds.length → m < fuel → I i Γ S → (∃ Γ' S', forL src g b fuel i Γ S = .nx Γ' S' ∧ I ds.length Γ' S') ∨ ∃ r S', forL src g b fuel i Γ S = .rt r S' ∧ P r S'
  | m, i, 0, _, _, _, _, h, _ => absurd h (Nat.not_lt_zero _)
  | 0, i, f + 1, Γ, S, e, hi, _, h => by
    have e1 : i = ds.length := by omega
    subst e1
    refine .inl ⟨Γ, S, ?_, h⟩
    unfold forL
    rw [hsrc _ _ _ h (Nat.le_refl _), List.getElem?_eq_none (Nat.le_refl _)]
  | m + 1, i, f + 1, Γ, S, e, hi, hf, h => by
    have hlt : i < ds.length := by omega
    obtain ⟨Γ1, S1, e1, h2⟩ := step i ds[i] Γ S (List.getElem?_eq_getElem hlt) h
    rcases h2 with ⟨Γ2, S2, e2, h2⟩ | ⟨r, S2, e2, h2⟩
    · rcases forL_run ds I P hsrc step m (i + 1) f Γ2 S2 (by omega) (by omega) (by omega) h2 with ⟨Γ', S', e3, h3⟩ | ⟨r, S', e3, h3⟩
      · refine .inl ⟨Γ', S', ?_, h3⟩
        unfold forL
        rw [hsrc _ _ _ h hi, List.getElem?_eq_getElem hlt]
        dsimp only
        rw [e1, v_gn, v_tn]
        rcases e2 with e2 | e2
        · rw [e2]; exact e3
        · rw [e2]; exact e3
      · refine .inr ⟨r, S', ?_, h3⟩
        unfold forL
        rw [hsrc _ _ _ h hi, List.getElem?_eq_getElem hlt]
        dsimp only
        rw [e1, v_gn, v_tn]
        rcases e2 with e2 | e2
        · rw [e2]; exact e3
        · rw [e2]; exact e3
    · refine .inr ⟨r, S2, ?_, h2⟩
      unfold forL
      rw [hsrc _ _ _ h hi, List.getElem?_eq_getElem hlt]
      dsimp only
      rw [e1, v_gn, v_tn, e2]
theorem cFor_run {it : CI} {S0 : Hd} (ds : List D) (I : Nat → Gm → Hd → Prop) (P : D → Hd → Prop) (hit : it Γ S0 = .ok src S) (hl : ds.length < 16777300) (hsrc : ∀ i Γ S, I i Γ S → i ≤ ds.length → nextS S i src = some ds[i]?)
    (step : ∀ i d Γ S, ds[i]? = some d → I i Γ S → ∃ Γ1 S1, g d Γ S = .nx Γ1 S1 ∧ ((∃ Γ2 S2, (b Γ1 S1 = .nx Γ2 S2 ∨ b Γ1 S1 = .ct Γ2 S2) ∧ I (i + 1) Γ2 S2) ∨ ∃ r S2, b Γ1 S1 = .rt r S2 ∧ P r S2)) (h0 : I 0 Γ S) :
    (∃ Γ' S', cFor it g b Γ S0 = .nx Γ' S' ∧ I ds.length Γ' S') ∨ ∃ r S', cFor it g b Γ S0 = .rt r S' ∧ P r S' := by
  have key := forL_run ds I P hsrc step ds.length 0 forFuel Γ S rfl (Nat.zero_le _) (by unfold forFuel; exact hl) h0
  have e0 : cFor it g b Γ S0 = forL src g b forFuel 0 Γ S := by
    unfold cFor
    rw [hit]
    rfl
  rw [e0]
  exact key
end
section
variable {bod : Bod} {S : Hd} {Γ : Gm} {j n : Nat}
/-- enumerate of a text -/
def enumL (l : List Nat) : List D := (List.range l.length).map fun i : Nat => D.tup [.int (i : Int), .str [l.getD i 46]]
theorem enum_src (l : List Nat) (i : Nat) (hi : i ≤ (enumL l).length) : nextS S i (.enum (.items (chD l))) = some (enumL l)[i]? := by
  unfold enumL at hi ⊢
  rw [List.length_map, List.length_range] at hi
  have hc : (chD l)[i]? = (l[i]?).map fun c => D.str [c] := List.getElem?_map ..
  have lc : (chD l).length = l.length := List.length_map ..
  show (match (chD l)[i]? with
    | some d => some (some (D.tup [.int (i : Int), d]))
    | none => if i = (chD l).length then some none else none) = _
  rw [hc, List.getElem?_map]
  rcases Nat.lt_or_ge i l.length with h1 | h1
  · rw [List.getElem?_eq_getElem h1, List.getElem?_range h1]
    show some (some (D.tup [.int (i : Int), .str [l[i]]])) = some (some (D.tup [.int (i : Int), .str [l.getD i 46]]))
    rw [List.getD_eq_getElem?_getD, List.getElem?_eq_getElem h1]
    rfl
  · rw [List.getElem?_eq_none h1, List.getElem?_eq_none (by rw [List.length_range]; exact h1)]
    show (if i = (chD l).length then some none else none) = _
    rw [if_pos (by omega)]
    rfl
theorem enum_at {l : List Nat} {i : Nat} {d : D} (h : (enumL l)[i]? = some d) : i < l.length ∧ d = .tup [.int (i : Int), .str [l.getD i 46]] := by
  unfold enumL at h
  rw [List.getElem?_map] at h
  obtain ⟨k, hk, rfl⟩ := Option.map_eq_some_iff.mp h
  have hi := (List.getElem?_eq_some_iff.mp hk).1
  rw [List.length_range] at hi
  rw [List.getElem?_range hi] at hk
  cases hk
  exact ⟨hi, rfl⟩
/-- what a wheel leaves of a piece, from the place k on -/
def dueL (rim : List Nat) : Nat → List Nat → Option (List Nat)
  | _, [] => some []
  | k, s :: r => if rim.getD (k % rim.length) 46 = 46 then (dueL rim (k + 1) r).map (s :: ·) else if s = rim.getD (k % rim.length) 46 ∨ s = 63 then (dueL rim (k + 1) r).map (63 :: ·) else none
theorem due_cons {rim : List Nat} {k s : Nat} {r : List Nat} : dueL rim k (s :: r) = if rim.getD (k % rim.length) 46 = 46 then (dueL rim (k + 1) r).map (s :: ·) else if s = rim.getD (k % rim.length) 46 ∨ s = 63 then (dueL rim (k + 1) r).map (63 :: ·) else none := rfl
theorem due_len {rim : List Nat} : ∀ {l : List Nat} {k : Nat} {r : List Nat}, dueL rim k l = some r → r.length = l.length
  | [], k, r, h => by cases h; rfl
  | s :: t, k, r, h => by
    unfold dueL at h
    split at h
    · obtain ⟨q, h1, rfl⟩ := Option.map_eq_some_iff.mp h
      rw [List.length_cons, List.length_cons, due_len h1]
    · split at h
      · obtain ⟨q, h1, rfl⟩ := Option.map_eq_some_iff.mp h
        rw [List.length_cons, List.length_cons, due_len h1]
      · cases h
theorem due_all {rim : List Nat} : ∀ {l : List Nat} {k : Nat} {r : List Nat}, dueL rim k l = some r → l.all skN = true → r.all skN = true
  | [], k, r, h, _ => by cases h; rfl
  | s :: t, k, r, h, ha => by
    rw [List.all_cons, Bool.and_eq_true] at ha
    unfold dueL at h
    split at h
    · obtain ⟨q, h1, rfl⟩ := Option.map_eq_some_iff.mp h
      rw [List.all_cons, ha.1, due_all h1 ha.2]
      rfl
    · split at h
      · obtain ⟨q, h1, rfl⟩ := Option.map_eq_some_iff.mp h
        rw [List.all_cons, due_all h1 ha.2]
        rfl
      · cases h
theorem due_again {rim : List Nat} : ∀ {l : List Nat} {k : Nat} {r : List Nat}, dueL rim k l = some r → dueL rim k r = some r
  | [], k, r, h => by cases h; rfl
  | s :: t, k, r, h => by
    unfold dueL at h
    split at h
    · rename_i hm
      obtain ⟨q, h1, rfl⟩ := Option.map_eq_some_iff.mp h
      unfold dueL
      rw [if_pos hm, due_again h1]
      rfl
    · rename_i hm
      split at h
      · obtain ⟨q, h1, rfl⟩ := Option.map_eq_some_iff.mp h
        unfold dueL
        rw [if_neg hm, if_pos (.inr rfl), due_again h1]
        rfl
      · cases h
theorem due_dots {rim : List Nat} (hd : ∀ k, rim.getD k 46 = 46) : ∀ (l : List Nat) (k : Nat), dueL rim k l = some l
  | [], k => rfl
  | s :: t, k => by
    unfold dueL
    rw [if_pos (hd _), due_dots hd t]
    rfl
theorem repl_ok : ∀ l : List Nat, l.all skN = true → (repL 63 [46] l).length = l.length ∧ (repL 63 [46] l).all mkN = true
  | [], _ => ⟨rfl, rfl⟩
  | c :: r, h => by
    rw [List.all_cons, Bool.and_eq_true] at h
    obtain ⟨h1, h2⟩ := repl_ok r h.2
    have e : repL 63 [46] (c :: r) = (if c = 63 then [46] else [c]) ++ repL 63 [46] r := rfl
    rw [e]
    by_cases hc : c = 63
    · rw [if_pos hc]
      exact ⟨by simp [h1], by rw [List.all_append, h2]; rfl⟩
    · rw [if_neg hc]
      have hm : mkN c = true := by
        have := h.1
        unfold skN at this
        simpa [hc] using this
      exact ⟨by simp [h1], by rw [List.all_append, h2]; simp [hm]⟩
theorem is_seen_ok (hp : HasProg bod) (hj : 2 ≤ j) (l : List Nat) (h0 : 0 < l.length) (hl : l.length ≤ 1000000) (ha : l.all skN = true) : den bod j "is_seen" [.str l] S = .ok (.bl true) S := by
  obtain ⟨j, rfl, hj⟩ := one_of (n := 1) hj
  rw [den_eq hp.p_is_seen]
  unfold m_is_seen
  obtain ⟨r1, r2⟩ := repl_ok l ha
  have rp : replD 63 [46] (.str l) S = .ok (.str (repL 63 [46] l)) S := if_pos (by simp; omega)
  have ir := p_is_rim (S := S) hp (by omega) (repL 63 [46] l) (by omega)
  have hr : (decide (0 < (repL 63 [46] l).length) && (repL 63 [46] l).all mkN) = true := by rw [r1, r2]; simp [h0]
  rw [hr] at ir
  simp only [v_bo, v_be, v_bi, v_so, v_se, v_si, v_tn, v_tr, v_te, v_ti, v_rn, v_rr, v_re, v_ri, v_gn, v_br, w_allS, v_gi, w_seq, w_set, w_ret, w_retN, w_exp, w_nil, w_ifS, w_truB, w_tru, w_notT, w_andT, w_orT, w_and, w_or, w_not, w_if, w_c, w_op1, w_op2, w_call, w_args, w_nilA, w_consA, w_tup, w_lst, w_blt, w_mt, w_raise, w_chain, w_asgT, k_si, k_ss, k_ii, k_ib, k_is, k_tl, k_tt, k_ll, k_lt, w_mk, cVar, mkFn, List.length_cons, List.length_nil, List.map_cons, List.map_nil, List.replicate, List.cons_append, List.nil_append, List.getElem?_cons_zero, List.getElem?_cons_succ, List.set_cons_zero, List.set_cons_succ, Nat.reduceAdd, Nat.reduceSub, Nat.reduceEqDiff, Nat.reduceLeDiff, if_true, if_false, truB, truD, leD, ltD, gtD, geD, cmpD, eqD, scE, addD, subD, lenD, isiD, tyN, gTupG, gConsG, gNilG, gN, seqAt, negD, decide_eq_true_eq, Bool.false_xor, Bool.true_xor, maxD, minD, intsD, isNonD, isNon, reduceIte, Bool.not_true, Bool.not_false, ite_true, ite_false, Bool.false_eq_true, decide_true, decide_false, Bool.false_or, Bool.true_or, Bool.or_true, Bool.or_false, rp, ir]
theorem check_seen_ok (hp : HasProg bod) (hj : 3 ≤ j) (l : List Nat) (h0 : 0 < l.length) (hl : l.length ≤ 1000000) (ha : l.all skN = true) : den bod j "check_seen" [.str l] S = .ok .non S := by
  obtain ⟨j, rfl, hj⟩ := one_of (n := 2) hj
  rw [den_eq hp.p_check_seen]
  unfold m_check_seen
  simp only [v_bo, v_be, v_bi, v_so, v_se, v_si, v_tn, v_tr, v_te, v_ti, v_rn, v_rr, v_re, v_ri, v_gn, v_br, w_allS, v_gi, w_seq, w_set, w_ret, w_retN, w_exp, w_nil, w_ifS, w_truB, w_tru, w_notT, w_andT, w_orT, w_and, w_or, w_not, w_if, w_c, w_op1, w_op2, w_call, w_args, w_nilA, w_consA, w_tup, w_lst, w_blt, w_mt, w_raise, w_chain, w_asgT, k_si, k_ss, k_ii, k_ib, k_is, k_tl, k_tt, k_ll, k_lt, w_mk, cVar, mkFn, List.length_cons, List.length_nil, List.map_cons, List.map_nil, List.replicate, List.cons_append, List.nil_append, List.getElem?_cons_zero, List.getElem?_cons_succ, List.set_cons_zero, List.set_cons_succ, Nat.reduceAdd, Nat.reduceSub, Nat.reduceEqDiff, Nat.reduceLeDiff, if_true, if_false, truB, truD, leD, ltD, gtD, geD, cmpD, eqD, scE, addD, subD, lenD, isiD, tyN, gTupG, gConsG, gNilG, gN, seqAt, negD, decide_eq_true_eq, Bool.false_xor, Bool.true_xor, maxD, minD, intsD, isNonD, isNon, reduceIte, Bool.not_true, Bool.not_false, ite_true, ite_false, Bool.false_eq_true, decide_true, decide_false, Bool.false_or, Bool.true_or, Bool.or_true, Bool.or_false, is_seen_ok (S := S) hp (by omega) l h0 hl ha]
theorem checked_rim_ok' (hp : HasProg bod) (hj : 2 ≤ j) (l : List Nat) (h0 : 0 < l.length) (hl : l.length ≤ 1000000) (ha : l.all mkN = true) : den bod j "checked_rim" [.str l] S = .ok (.str l) S := by
  obtain ⟨j, rfl, hj⟩ := one_of (n := 1) hj
  rw [den_eq hp.p_checked_rim]
  unfold m_checked_rim
  have ir := p_is_rim (S := S) hp (by omega) l (by omega)
  have hr : (decide (0 < l.length) && l.all mkN) = true := by rw [ha]; simp [h0]
  rw [hr] at ir
  simp only [v_bo, v_be, v_bi, v_so, v_se, v_si, v_tn, v_tr, v_te, v_ti, v_rn, v_rr, v_re, v_ri, v_gn, v_br, w_allS, v_gi, w_seq, w_set, w_ret, w_retN, w_exp, w_nil, w_ifS, w_truB, w_tru, w_notT, w_andT, w_orT, w_and, w_or, w_not, w_if, w_c, w_op1, w_op2, w_call, w_args, w_nilA, w_consA, w_tup, w_lst, w_blt, w_mt, w_raise, w_chain, w_asgT, k_si, k_ss, k_ii, k_ib, k_is, k_tl, k_tt, k_ll, k_lt, w_mk, cVar, mkFn, List.length_cons, List.length_nil, List.map_cons, List.map_nil, List.replicate, List.cons_append, List.nil_append, List.getElem?_cons_zero, List.getElem?_cons_succ, List.set_cons_zero, List.set_cons_succ, Nat.reduceAdd, Nat.reduceSub, Nat.reduceEqDiff, Nat.reduceLeDiff, if_true, if_false, truB, truD, leD, ltD, gtD, geD, cmpD, eqD, scE, addD, subD, lenD, isiD, tyN, gTupG, gConsG, gNilG, gN, seqAt, negD, decide_eq_true_eq, Bool.false_xor, Bool.true_xor, maxD, minD, intsD, isNonD, isNon, reduceIte, Bool.not_true, Bool.not_false, ite_true, ite_false, Bool.false_eq_true, decide_true, decide_false, Bool.false_or, Bool.true_or, Bool.or_true, Bool.or_false, ir]
def oD : Option (List Nat) → D
  | none => .non
  | some l => .str l
theorem drop_at {l : List Nat} {i : Nat} (h : i < l.length) : l.drop i = l.getD i 46 :: l.drop (i + 1) := by
  rw [List.drop_eq_getElem_cons h, List.getD_eq_getElem?_getD, List.getElem?_eq_getElem h]
  rfl
theorem sgl {a b : Nat} : (([a] : List Nat) = [b]) = (a = b) := by simp
theorem xJ2 {ds : List D} {l : List Nat} (hl : l.length ≤ 16777216) (hd : ds = l.map fun c => D.str [c]) (h : S[n]? = some (.lst ds)) : joinD (.str []) [.ref n] S = .ok (.str l) S := xJ hl (by rw [h, hd])
theorem ux_app {xs : List D} {d : D} (h : S[n]? = some (.lst xs)) (hl : xs.length < 16777216) : appD (.ref n) [d] S = .ok .non (S.set n (.lst (xs ++ [d]))) := by
  unfold appD
  dsimp only
  rw [h]
  dsimp only
  rw [if_pos hl]
theorem ux_isL {xs : List D} (h : S[n]? = some (.lst xs)) : isLstD (.ref n) S = true := by
  unfold isLstD
  dsimp only
  rw [h]
theorem pb_ok (hp : HasProg bod) (hj : 1 ≤ j) (seen rim : List Nat) (h1 : seen.length ≤ 1000000) (r0 : 0 < rim.length) (r1 : rim.length ≤ 1000000) :
    ∃ S', Keep S S' ∧ (∀ o, S[2]? = some o → S'[2]? = some o) ∧ den bod j "piece_beneath" [.str seen, .str rim] S = .ok (oD (dueL rim 0 seen)) S' := by
  obtain ⟨j, rfl, hj⟩ := one_of (n := 0) hj
  rw [den_eq hp.p_piece_beneath]
  unfold m_piece_beneath
  let I : Nat → Gm → Hd → Prop := fun i Γ S' => ∃ (a : List Nat) (x y z : Option D), Γ = [some (.str seen), some (.str rim), some (.ref S.length), x, y, z] ∧ S' = S ++ [.lst (a.map fun c => D.str [c])] ∧ a.length = i ∧ dueL rim 0 seen = (dueL rim i (seen.drop i)).map (a ++ ·)
  let P : D → Hd → Prop := fun r S' => r = .non ∧ dueL rim 0 seen = none ∧ ∃ o, S' = S ++ [o]
  have key := cFor_run (it := cEnum (cConsA (cVar 0) cNilA)) (S0 := S ++ [.lst []]) (S := S ++ [.lst []]) (src := .enum (.items (chD seen))) (g := gTupG 2 (gConsG (gN 3) (gConsG (gN 4) gNilG))) (b := cSeq (cSet 5 (cOp2 ixD (cVar 1) (cOp2 modD (cVar 3) (cBlt lenD (cConsA (cVar 1) cNilA)))))
    (cIfS (cTruB (cOp2 (eqD false) (cVar 5) (cC (.str [46])))) (cExp (cMt "list" isLstD appD (cVar 2) (cConsA (cVar 4) cNilA))) (cIfS (cOrT (cTruB (cOp2 (eqD false) (cVar 4) (cC (.str [63])))) (cTruB (cOp2 (eqD false) (cVar 4) (cVar 5)))) (cExp (cMt "list" isLstD appD (cVar 2) (cConsA (cC (.str [63])) cNilA))) (cRet (cC .non))))) (Γ := [some (.str seen), some (.str rim), some (.ref S.length), none, none, none]) (enumL seen) I P
    (by unfold cEnum cVar; simp only [v_bo, v_be, v_bi, v_so, v_se, v_si, v_tn, v_tr, v_te, v_ti, v_rn, v_rr, v_re, v_ri, v_gn, v_br, w_allS, v_gi, w_seq, w_set, w_ret, w_retN, w_exp, w_nil, w_ifS, w_truB, w_tru, w_notT, w_andT, w_orT, w_and, w_or, w_not, w_if, w_c, w_op1, w_op2, w_call, w_args, w_nilA, w_consA, w_tup, w_lst, w_blt, w_mt, w_raise, w_chain, w_asgT, k_si, k_ss, k_ii, k_ib, k_is, k_tl, k_tt, k_ll, k_lt, w_mk, cVar, mkFn, List.length_cons, List.length_nil, List.map_cons, List.map_nil, List.replicate, List.cons_append, List.nil_append, List.getElem?_cons_zero, List.getElem?_cons_succ, List.set_cons_zero, List.set_cons_succ, Nat.reduceAdd, Nat.reduceSub, Nat.reduceEqDiff, Nat.reduceLeDiff, if_true, if_false, truB, truD, leD, ltD, gtD, geD, cmpD, eqD, scE, addD, subD, lenD, isiD, tyN, gTupG, gConsG, gNilG, gN, seqAt, negD, decide_eq_true_eq, Bool.false_xor, Bool.true_xor, maxD, minD, intsD, isNonD, isNon, reduceIte, Bool.not_true, Bool.not_false, ite_true, ite_false, Bool.false_eq_true, decide_true, decide_false, Bool.false_or, Bool.true_or, Bool.or_true, Bool.or_false, baseD]) (by unfold enumL; rw [List.length_map, List.length_range]; omega) (fun i Γ S' _ hi => enum_src seen i hi)
    (fun i d Γ S' hd h => by
      obtain ⟨a, x, y, z, rfl, rfl, ha, hdue⟩ := h
      obtain ⟨hi, rfl⟩ := enum_at hd
      have hm0 : (0 : Int) ≤ (i : Int) % (rim.length : Int) := Int.emod_nonneg _ (by omega)
      have hm1 : (i : Int) % (rim.length : Int) < (rim.length : Int) := Int.emod_lt_of_pos _ (by omega)
      obtain ⟨c, _, hc, hx⟩ := xS (l := rim) (by omega) hm0 hm1
      have hc2 : rim.getD (i % rim.length) 46 = c := by
        rw [List.getD_eq_getElem?_getD, show i % rim.length = ((i : Int) % (rim.length : Int)).toNat by rw [← Int.natCast_emod, Int.toNat_natCast], hc]
        rfl
      have md : ∀ S' : Hd, modD (.int (i : Int)) (.int (rim.length : Int)) S' = .ok (.int ((i : Int) % (rim.length : Int))) S' := fun S' => u_mod _ _ (by omega)
      have ln : ∀ S' : Hd, lenD [.str rim] S' = .ok (.int rim.length) S' := fun S' => xN (by omega)
      have gt : (S ++ [.lst (a.map fun c => D.str [c])])[S.length]? = some (.lst (a.map fun c => D.str [c])) := List.getElem?_concat_length
      have ap : ∀ d, appD (.ref S.length) [d] (S ++ [.lst (a.map fun c => D.str [c])]) = .ok .non (S ++ [.lst ((a.map fun c => D.str [c]) ++ [d])]) := fun d => by
        rw [ux_app gt (by rw [List.length_map]; omega)]
        congr 1
        simp
      have il := ux_isL gt
      have dr := drop_at hi
      rw [dr, due_cons, hc2] at hdue
      refine ⟨[some (.str seen), some (.str rim), some (.ref S.length), some (.int (i : Int)), some (.str [seen.getD i 46]), z], _, rfl, ?_⟩
      generalize seen.getD i 46 = s at hdue ⊢
      by_cases k1 : c = 46
      · rw [if_pos k1] at hdue
        refine .inl ⟨_, _, .inl ?_, a ++ [s], some (.int (i : Int)), some (.str [s]), some (.str [c]), rfl, rfl, by rw [List.length_append, ha]; rfl, ?_⟩
        · simp only [v_bo, v_be, v_bi, v_so, v_se, v_si, v_tn, v_tr, v_te, v_ti, v_rn, v_rr, v_re, v_ri, v_gn, v_br, w_allS, v_gi, w_seq, w_set, w_ret, w_retN, w_exp, w_nil, w_ifS, w_truB, w_tru, w_notT, w_andT, w_orT, w_and, w_or, w_not, w_if, w_c, w_op1, w_op2, w_call, w_args, w_nilA, w_consA, w_tup, w_lst, w_blt, w_mt, w_raise, w_chain, w_asgT, k_si, k_ss, k_ii, k_ib, k_is, k_tl, k_tt, k_ll, k_lt, w_mk, cVar, mkFn, List.length_cons, List.length_nil, List.map_cons, List.map_nil, List.replicate, List.cons_append, List.nil_append, List.getElem?_cons_zero, List.getElem?_cons_succ, List.set_cons_zero, List.set_cons_succ, Nat.reduceAdd, Nat.reduceSub, Nat.reduceEqDiff, Nat.reduceLeDiff, if_true, if_false, truB, truD, leD, ltD, gtD, geD, cmpD, eqD, scE, subD, isiD, tyN, u_add,  gTupG, gConsG, gNilG, gN, seqAt, negD, decide_eq_true_eq, Bool.false_xor, Bool.true_xor, maxD, minD, intsD, isNonD, isNon, reduceIte, Bool.not_true, Bool.not_false, ite_true, ite_false, Bool.false_eq_true, decide_true, decide_false, Bool.false_or, Bool.true_or, Bool.or_true, Bool.or_false, ln, md, hx, sgl, eq_true k1, ap, il, List.map_append]
        · rw [hdue]
          cases dueL rim (i + 1) (List.drop (i + 1) seen) <;> simp
      · rw [if_neg k1] at hdue
        by_cases k2 : s = c ∨ s = 63
        · rw [if_pos k2] at hdue
          refine .inl ⟨_, _, .inl ?_, a ++ [63], some (.int (i : Int)), some (.str [s]), some (.str [c]), rfl, rfl, by rw [List.length_append, ha]; rfl, ?_⟩
          · by_cases k3 : s = 63
            · simp only [v_bo, v_be, v_bi, v_so, v_se, v_si, v_tn, v_tr, v_te, v_ti, v_rn, v_rr, v_re, v_ri, v_gn, v_br, w_allS, v_gi, w_seq, w_set, w_ret, w_retN, w_exp, w_nil, w_ifS, w_truB, w_tru, w_notT, w_andT, w_orT, w_and, w_or, w_not, w_if, w_c, w_op1, w_op2, w_call, w_args, w_nilA, w_consA, w_tup, w_lst, w_blt, w_mt, w_raise, w_chain, w_asgT, k_si, k_ss, k_ii, k_ib, k_is, k_tl, k_tt, k_ll, k_lt, w_mk, cVar, mkFn, List.length_cons, List.length_nil, List.map_cons, List.map_nil, List.replicate, List.cons_append, List.nil_append, List.getElem?_cons_zero, List.getElem?_cons_succ, List.set_cons_zero, List.set_cons_succ, Nat.reduceAdd, Nat.reduceSub, Nat.reduceEqDiff, Nat.reduceLeDiff, if_true, if_false, truB, truD, leD, ltD, gtD, geD, cmpD, eqD, scE, subD, isiD, tyN, u_add,  gTupG, gConsG, gNilG, gN, seqAt, negD, decide_eq_true_eq, Bool.false_xor, Bool.true_xor, maxD, minD, intsD, isNonD, isNon, reduceIte, Bool.not_true, Bool.not_false, ite_true, ite_false, Bool.false_eq_true, decide_true, decide_false, Bool.false_or, Bool.true_or, Bool.or_true, Bool.or_false, ln, md, hx, sgl, eq_false k1, eq_true k3, ap, il, List.map_append]
            · have k4 : s = c := k2.resolve_right k3
              simp only [v_bo, v_be, v_bi, v_so, v_se, v_si, v_tn, v_tr, v_te, v_ti, v_rn, v_rr, v_re, v_ri, v_gn, v_br, w_allS, v_gi, w_seq, w_set, w_ret, w_retN, w_exp, w_nil, w_ifS, w_truB, w_tru, w_notT, w_andT, w_orT, w_and, w_or, w_not, w_if, w_c, w_op1, w_op2, w_call, w_args, w_nilA, w_consA, w_tup, w_lst, w_blt, w_mt, w_raise, w_chain, w_asgT, k_si, k_ss, k_ii, k_ib, k_is, k_tl, k_tt, k_ll, k_lt, w_mk, cVar, mkFn, List.length_cons, List.length_nil, List.map_cons, List.map_nil, List.replicate, List.cons_append, List.nil_append, List.getElem?_cons_zero, List.getElem?_cons_succ, List.set_cons_zero, List.set_cons_succ, Nat.reduceAdd, Nat.reduceSub, Nat.reduceEqDiff, Nat.reduceLeDiff, if_true, if_false, truB, truD, leD, ltD, gtD, geD, cmpD, eqD, scE, subD, isiD, tyN, u_add,  gTupG, gConsG, gNilG, gN, seqAt, negD, decide_eq_true_eq, Bool.false_xor, Bool.true_xor, maxD, minD, intsD, isNonD, isNon, reduceIte, Bool.not_true, Bool.not_false, ite_true, ite_false, Bool.false_eq_true, decide_true, decide_false, Bool.false_or, Bool.true_or, Bool.or_true, Bool.or_false, ln, md, hx, sgl, eq_false k1, eq_false k3, eq_true k4, ap, il, List.map_append]
          · rw [hdue]
            cases dueL rim (i + 1) (List.drop (i + 1) seen) <;> simp
        · rw [if_neg k2] at hdue
          refine .inr ⟨.non, S ++ [.lst (a.map fun c => D.str [c])], ?_, rfl, hdue, .lst (a.map fun c => D.str [c]), rfl⟩
          have k3 : ¬ s = 63 := fun z => k2 (.inr z)
          have k4 : ¬ s = c := fun z => k2 (.inl z)
          simp only [v_bo, v_be, v_bi, v_so, v_se, v_si, v_tn, v_tr, v_te, v_ti, v_rn, v_rr, v_re, v_ri, v_gn, v_br, w_allS, v_gi, w_seq, w_set, w_ret, w_retN, w_exp, w_nil, w_ifS, w_truB, w_tru, w_notT, w_andT, w_orT, w_and, w_or, w_not, w_if, w_c, w_op1, w_op2, w_call, w_args, w_nilA, w_consA, w_tup, w_lst, w_blt, w_mt, w_raise, w_chain, w_asgT, k_si, k_ss, k_ii, k_ib, k_is, k_tl, k_tt, k_ll, k_lt, w_mk, cVar, mkFn, List.length_cons, List.length_nil, List.map_cons, List.map_nil, List.replicate, List.cons_append, List.nil_append, List.getElem?_cons_zero, List.getElem?_cons_succ, List.set_cons_zero, List.set_cons_succ, Nat.reduceAdd, Nat.reduceSub, Nat.reduceEqDiff, Nat.reduceLeDiff, if_true, if_false, truB, truD, leD, ltD, gtD, geD, cmpD, eqD, scE, subD, isiD, tyN, u_add,  gTupG, gConsG, gNilG, gN, seqAt, negD, decide_eq_true_eq, Bool.false_xor, Bool.true_xor, maxD, minD, intsD, isNonD, isNon, reduceIte, Bool.not_true, Bool.not_false, ite_true, ite_false, Bool.false_eq_true, decide_true, decide_false, Bool.false_or, Bool.true_or, Bool.or_true, Bool.or_false, ln, md, hx, sgl, eq_false k1, eq_false k3, eq_false k4, ap, il]) ⟨[], none, none, none, rfl, rfl, rfl, by rw [List.drop_zero]; cases dueL rim 0 seen <;> simp⟩
  have hlen : (enumL seen).length = seen.length := by unfold enumL; rw [List.length_map, List.length_range]
  have k2 : ∀ o' : Ob, ∀ o, S[2]? = some o → (S ++ [o'])[2]? = some o := fun o' o h => get_push h
  rcases key with ⟨Γ', S', e, a, x, y, z, rfl, rfl, ha, hdue⟩ | ⟨r, S', e, rfl, hdue, o, rfl⟩
  · rw [hlen] at hdue ha
    rw [List.drop_length] at hdue
    have hda : dueL rim 0 seen = some a := by rw [hdue]; simp [dueL]
    refine ⟨S ++ [.lst (a.map fun c => D.str [c])], Keep.push _ _, k2 _, ?_⟩
    rw [w_mk 6 2 _ [.str seen, .str rim] rfl]
    have jn := xJ2 (S := S ++ [.lst (a.map fun c => D.str [c])]) (n := S.length) (l := a) (by omega) rfl List.getElem?_concat_length
    simp only [w_seq, w_set, w_lst, w_nilA, v_bo, alloc, List.length_nil, v_so, v_tn, List.map_cons, List.map_nil, List.replicate, Nat.reduceAdd, Nat.reduceSub, List.cons_append, List.nil_append, List.set_cons_succ, List.set_cons_zero, Nat.zero_le, if_true]
    rw [e, v_tn, hda]
    simp only [v_bo, v_be, v_bi, v_so, v_se, v_si, v_tn, v_tr, v_te, v_ti, v_rn, v_rr, v_re, v_ri, v_gn, v_br, w_allS, v_gi, w_seq, w_set, w_ret, w_retN, w_exp, w_nil, w_ifS, w_truB, w_tru, w_notT, w_andT, w_orT, w_and, w_or, w_not, w_if, w_c, w_op1, w_op2, w_call, w_args, w_nilA, w_consA, w_tup, w_lst, w_blt, w_mt, w_raise, w_chain, w_asgT, k_si, k_ss, k_ii, k_ib, k_is, k_tl, k_tt, k_ll, k_lt, w_mk, cVar, mkFn, List.length_cons, List.length_nil, List.map_cons, List.map_nil, List.replicate, List.cons_append, List.nil_append, List.getElem?_cons_zero, List.getElem?_cons_succ, List.set_cons_zero, List.set_cons_succ, Nat.reduceAdd, Nat.reduceSub, Nat.reduceEqDiff, Nat.reduceLeDiff, if_true, if_false, truB, truD, leD, ltD, gtD, geD, cmpD, eqD, scE, subD, isiD, tyN, u_add,  gTupG, gConsG, gNilG, gN, seqAt, negD, decide_eq_true_eq, Bool.false_xor, Bool.true_xor, maxD, minD, intsD, isNonD, isNon, reduceIte, Bool.not_true, Bool.not_false, ite_true, ite_false, Bool.false_eq_true, decide_true, decide_false, Bool.false_or, Bool.true_or, Bool.or_true, Bool.or_false, jn, isStrD, oD]
  · refine ⟨S ++ [o], Keep.push _ _, k2 _, ?_⟩
    rw [w_mk 6 2 _ [.str seen, .str rim] rfl]
    simp only [w_seq, w_set, w_lst, w_nilA, v_bo, alloc, List.length_nil, v_so, v_tn, List.map_cons, List.map_nil, List.replicate, Nat.reduceAdd, Nat.reduceSub, List.cons_append, List.nil_append, List.set_cons_succ, List.set_cons_zero, Nat.zero_le, if_true]
    rw [e, v_tr, v_rr, hdue]
    rfl
theorem beneath_ok (hp : HasProg bod) (hj : 4 ≤ j) (seen rim : List Nat) (s0 : 0 < seen.length) (h1 : seen.length ≤ 1000000) (hs : seen.all skN = true) (r0 : 0 < rim.length) (r1 : rim.length ≤ 1000000) (hr : rim.all mkN = true) :
    ∃ S', Keep S S' ∧ (∀ o, S[2]? = some o → S'[2]? = some o) ∧ den bod j "beneath" [.str seen, .str rim] S = .ok (oD (dueL rim 0 seen)) S' := by
  obtain ⟨j, rfl, hj⟩ := one_of (n := 3) hj
  rw [den_eq hp.p_beneath]
  unfold m_beneath
  obtain ⟨S', k1, k2, e⟩ := pb_ok (S := S) hp (show 1 ≤ j by omega) seen rim h1 r0 r1
  refine ⟨S', k1, k2, ?_⟩
  simp only [v_bo, v_be, v_bi, v_so, v_se, v_si, v_tn, v_tr, v_te, v_ti, v_rn, v_rr, v_re, v_ri, v_gn, v_br, w_allS, v_gi, w_seq, w_set, w_ret, w_retN, w_exp, w_nil, w_ifS, w_truB, w_tru, w_notT, w_andT, w_orT, w_and, w_or, w_not, w_if, w_c, w_op1, w_op2, w_call, w_args, w_nilA, w_consA, w_tup, w_lst, w_blt, w_mt, w_raise, w_chain, w_asgT, k_si, k_ss, k_ii, k_ib, k_is, k_tl, k_tt, k_ll, k_lt, w_mk, cVar, mkFn, List.length_cons, List.length_nil, List.map_cons, List.map_nil, List.replicate, List.cons_append, List.nil_append, List.getElem?_cons_zero, List.getElem?_cons_succ, List.set_cons_zero, List.set_cons_succ, Nat.reduceAdd, Nat.reduceSub, Nat.reduceEqDiff, Nat.reduceLeDiff, if_true, if_false, truB, truD, leD, ltD, gtD, geD, cmpD, eqD, scE, addD, subD, lenD, isiD, tyN, gTupG, gConsG, gNilG, gN, seqAt, negD, decide_eq_true_eq, Bool.false_xor, Bool.true_xor, maxD, minD, intsD, isNonD, isNon, reduceIte, Bool.not_true, Bool.not_false, ite_true, ite_false, Bool.false_eq_true, decide_true, decide_false, Bool.false_or, Bool.true_or, Bool.or_true, Bool.or_false, check_seen_ok (S := S) hp (by omega) seen s0 h1 hs, checked_rim_ok' (S := S) hp (show 2 ≤ j by omega) rim r0 r1 hr, e]
end
end Dn

set_option linter.all false
set_option maxRecDepth 100000
set_option maxHeartbeats 1000000
set_option autoImplicit false
/-! # Seen pieces drawn -/
namespace Dn
open PySem PySem.Spec Kx L2
def mb_seen2 (call : Calls) : List D → Hd → R D := mkFn 11 2 ((cSeq (cSet 2 (cOp2 addD (cC (.int 1)) (cCall call "_law_draw" (cArgs 2 (cConsA (cVar 0) (cConsA (cVar 1) cNilA))))))
    (cSeq (cSet 3 (cCall call "_law_rim" (cArgs 2 (cConsA (cVar 0) (cConsA (cC (.int 9)) cNilA)))))
    (cSeq (cSet 4 (cCall call "_law_rim" (cArgs 2 (cConsA (cVar 0) (cConsA (cC (.int 9)) cNilA)))))
    (cSeq (cSet 5 (cOp2 ixD (cLst (cConsA (cC (.int 1)) (cConsA (cC (.int 3)) (cConsA (cC (.int 40)) cNilA)))) (cCall call "_law_draw" (cArgs 2 (cConsA (cVar 0) (cConsA (cC (.int 3)) cNilA))))))
    (cSeq (cSet 6 (cOp2 ixD (cLst (cConsA (cC (.int 0)) (cConsA (cC (.int 0)) (cConsA (cC (.int 30)) cNilA)))) (cCall call "_law_draw" (cArgs 2 (cConsA (cVar 0) (cConsA (cC (.int 3)) cNilA))))))
    (cSeq (cSet 7 (cOp2 (eqD false) (cCall call "_law_draw" (cArgs 2 (cConsA (cVar 0) (cConsA (cC (.int 6)) cNilA)))) (cC (.int 0))))
    (cSeq (cSet 8 (cC (.str [])))
    (cSeq (cFor (cRng1 (cConsA (cVar 2) cNilA)) (gN 9) (cSeq (cSet 10 (cOp2 ixD (cVar 4) (cOp2 modD (cVar 9) (cBlt lenD (cConsA (cVar 4) cNilA)))))
    (cSeq (cSet 10 (cIf (cTruB (cOp2 (eqD false) (cVar 10) (cC (.str [46])))) (cOp2 ixD (cVar 3) (cOp2 modD (cVar 9) (cBlt lenD (cConsA (cVar 3) cNilA)))) (cVar 10)))
    (cSeq (cIfS (cOrT (cTru (cVar 7)) (cAndT (cTruB (cOp2 gtD (cVar 6) (cC (.int 0)))) (cTruB (cOp2 (eqD false) (cCall call "_law_draw" (cArgs 2 (cConsA (cVar 0) (cConsA (cVar 6) cNilA)))) (cC (.int 0)))))) (cSet 10 (cOp2 ixD (cC (.str [97, 98, 46, 99])) (cCall call "_law_draw" (cArgs 2 (cConsA (cVar 0) (cConsA (cC (.int 4)) cNilA)))))) cNil)
    (cSet 8 (cOp2 addD (cVar 8) (cIf (cTruB (cOp2 gtD (cCall call "_law_draw" (cArgs 2 (cConsA (cVar 0) (cConsA (cOp2 addD (cVar 5) (cC (.int 1))) cNilA)))) (cC (.int 0)))) (cVar 10) (cC (.str [63])))))))))
    (cRet (cVar 8)))))))))))
def mb_due (call : Calls) : List D → Hd → R D := mkFn 6 2 ((cSeq (cSet 2 (cC (.str [])))
    (cSeq (cFor (cEnum (cConsA (cVar 0) cNilA)) (gTupG 2 (gConsG (gN 3) (gConsG (gN 4) gNilG))) (cSeq (cSet 5 (cOp2 ixD (cVar 1) (cOp2 modD (cVar 3) (cBlt lenD (cConsA (cVar 1) cNilA)))))
    (cIfS (cTruB (cOp2 (eqD false) (cVar 5) (cC (.str [46])))) (cSet 2 (cOp2 addD (cVar 2) (cVar 4))) (cIfS (cTruB (cOp2 (inD false) (cVar 4) (cTup (cConsA (cVar 5) (cConsA (cC (.str [63])) cNilA))))) (cSet 2 (cOp2 addD (cVar 2) (cC (.str [63])))) (cRet (cC .non))))))
    (cRet (cVar 2)))))

section
variable {bod : Bod} {S : Hd} {Γ : Gm} {j n : Nat}
theorem BagS.keep2 {ns : List Int} {C : Nat} {S S' : Hd} (h : BagS ns C S) (k : Keep S S') (k2 : ∀ o, S[2]? = some o → S'[2]? = some o) : BagS ns C S' := by
  obtain ⟨i, b, c, t, h1, h2, h3⟩ := h
  exact ⟨i, b, c, t, k.2 _ _ (by decide) h1, k2 _ h2, h3⟩
/-- one of a list is drawn -/
theorem pick_ok (hl : HasBag bod) (hj : 2 ≤ j) {ns : List Int} {C : Nat} (h : BagS ns C S) (hC : C ≤ 1000000) (ds : List D) (h0 : 0 < ds.length) (h1 : ds.length ≤ 100) :
    ∃ (v : Int) (d : D) (S' : Hd), d ∈ ds ∧ BagS ns (C + 1) S' ∧ Keep S S' ∧ den bod j "_law_draw" [.ref 2, .int (ds.length : Nat)] (S ++ [.lst ds]) = .ok (.int v) S' ∧ ixD (.ref S.length) (.int v) S' = .ok d S' := by
  obtain ⟨v, S', c0, c1, B, K, e⟩ := draw_okB hl hj (h.push (.lst ds)) hC (m := (ds.length : Nat)) (by omega) (lg (by omega) (by omega))
  obtain ⟨d, hd, hx⟩ := xL c0 c1
  have hne : S.length ≠ 2 := by have := h.len; omega
  exact ⟨v, d, S', hd, B, (Keep.push _ _).trans K, e, hx S' S.length (l_lst (K.2 _ _ hne List.getElem?_concat_length))⟩
def midS (j : Nat) (bod : Bod) : CS := (cIfS (cOrT (cTru (cVar 7)) (cAndT (cTruB (cOp2 gtD (cVar 6) (cC (.int 0)))) (cTruB (cOp2 (eqD false) (cCall (den bod j) "_law_draw" (cArgs 2 (cConsA (cVar 0) (cConsA (cVar 6) cNilA)))) (cC (.int 0)))))) (cSet 10 (cOp2 ixD (cC (.str [97, 98, 46, 99])) (cCall (den bod j) "_law_draw" (cArgs 2 (cConsA (cVar 0) (cConsA (cC (.int 4)) cNilA)))))) cNil)
theorem mid_ok (hl : HasBag bod) (hj : 2 ≤ j) {ns : List Int} {C : Nat} (h : BagS ns C S) (hC : C ≤ 900000) {x0 x1 x2 x3 x4 x8 x9 : Option D} {sp : Int} {any : Bool} {c : Nat} (hc : mkN c = true) (s0 : 0 ≤ sp) (s1 : sp ≤ 100) :
    ∃ (c' : Nat) (S' : Hd), mkN c' = true ∧ BagS ns (C + 2) S' ∧ Keep S S' ∧ midS j bod [some (.ref 2), x1, x2, x3, x4, x0, some (.int sp), some (.bl any), x8, x9, some (.str [c])] S = .nx [some (.ref 2), x1, x2, x3, x4, x0, some (.int sp), some (.bl any), x8, x9, some (.str [c'])] S' := by
  unfold midS
  have pick : ∀ {S : Hd} {C : Nat}, BagS ns C S → C ≤ 1000000 → ∃ (v : Int) (c' : Nat) (S' : Hd), mkN c' = true ∧ BagS ns (C + 1) S' ∧ Keep S S' ∧ den bod j "_law_draw" [.ref 2, .int 4] S = .ok (.int v) S' ∧ ixD (.str [97, 98, 46, 99]) (.int v) S' = .ok (.str [c']) S' := fun {S C} h hC => by
    obtain ⟨v, S', c0, c1, B, K, e⟩ := draw_okB hl hj h hC (m := 4) (by decide) (by decide)
    obtain ⟨c', hc', _, hx⟩ := xS (l := [97, 98, 46, 99]) (by decide) c0 c1
    exact ⟨v, c', S', (List.all_eq_true.mp (show ([97, 98, 46, 99] : List Nat).all mkN = true by decide)) c' hc', B, K, e, hx S'⟩
  cases any with
  | true =>
    obtain ⟨v, c', S', hm, B, K, e, hx⟩ := pick h (by omega)
    refine ⟨c', S', hm, B.mono (by omega), K, ?_⟩
    simp only [v_bo, v_be, v_bi, v_so, v_se, v_si, v_tn, v_tr, v_te, v_ti, v_rn, v_rr, v_re, v_ri, v_gn, v_br, w_allS, v_gi, w_seq, w_set, w_ret, w_retN, w_exp, w_nil, w_ifS, w_truB, w_tru, w_notT, w_andT, w_orT, w_and, w_or, w_not, w_if, w_c, w_op1, w_op2, w_call, w_args, w_nilA, w_consA, w_tup, w_lst, w_blt, w_mt, w_raise, w_chain, w_asgT, k_si, k_ss, k_ii, k_ib, k_is, k_tl, k_tt, k_ll, k_lt, w_mk, cVar, mkFn, List.length_cons, List.length_nil, List.map_cons, List.map_nil, List.replicate, List.cons_append, List.nil_append, List.getElem?_cons_zero, List.getElem?_cons_succ, List.set_cons_zero, List.set_cons_succ, Nat.reduceAdd, Nat.reduceSub, Nat.reduceEqDiff, Nat.reduceLeDiff, if_true, if_false, truB, truD, leD, ltD, gtD, geD, cmpD, eqD, scE, subD, isiD, tyN, u_add,  gTupG, gConsG, gNilG, gN, seqAt, negD, decide_eq_true_eq, Bool.false_xor, Bool.true_xor, maxD, minD, intsD, isNonD, isNon, reduceIte, Bool.not_true, Bool.not_false, ite_true, ite_false, Bool.false_eq_true, decide_true, decide_false, Bool.false_or, Bool.true_or, Bool.or_true, Bool.or_false, e, hx]
  | false =>
    by_cases hsp : 0 < sp
    · obtain ⟨w, S1, w0, w1, B1, K1, e1⟩ := draw_okB hl hj h (by omega) (m := sp) hsp (lg hsp (by omega))
      by_cases hw : w = 0
      · obtain ⟨v, c', S', hm, B, K, e, hx⟩ := pick B1 (by omega)
        refine ⟨c', S', hm, B, K1.trans K, ?_⟩
        simp only [v_bo, v_be, v_bi, v_so, v_se, v_si, v_tn, v_tr, v_te, v_ti, v_rn, v_rr, v_re, v_ri, v_gn, v_br, w_allS, v_gi, w_seq, w_set, w_ret, w_retN, w_exp, w_nil, w_ifS, w_truB, w_tru, w_notT, w_andT, w_orT, w_and, w_or, w_not, w_if, w_c, w_op1, w_op2, w_call, w_args, w_nilA, w_consA, w_tup, w_lst, w_blt, w_mt, w_raise, w_chain, w_asgT, k_si, k_ss, k_ii, k_ib, k_is, k_tl, k_tt, k_ll, k_lt, w_mk, cVar, mkFn, List.length_cons, List.length_nil, List.map_cons, List.map_nil, List.replicate, List.cons_append, List.nil_append, List.getElem?_cons_zero, List.getElem?_cons_succ, List.set_cons_zero, List.set_cons_succ, Nat.reduceAdd, Nat.reduceSub, Nat.reduceEqDiff, Nat.reduceLeDiff, if_true, if_false, truB, truD, leD, ltD, gtD, geD, cmpD, eqD, scE, subD, isiD, tyN, u_add,  gTupG, gConsG, gNilG, gN, seqAt, negD, decide_eq_true_eq, Bool.false_xor, Bool.true_xor, maxD, minD, intsD, isNonD, isNon, reduceIte, Bool.not_true, Bool.not_false, ite_true, ite_false, Bool.false_eq_true, decide_true, decide_false, Bool.false_or, Bool.true_or, Bool.or_true, Bool.or_false, eq_true hsp, e1, eq_true hw, e, hx]
      · refine ⟨c, S1, hc, B1.mono (by omega), K1, ?_⟩
        simp only [v_bo, v_be, v_bi, v_so, v_se, v_si, v_tn, v_tr, v_te, v_ti, v_rn, v_rr, v_re, v_ri, v_gn, v_br, w_allS, v_gi, w_seq, w_set, w_ret, w_retN, w_exp, w_nil, w_ifS, w_truB, w_tru, w_notT, w_andT, w_orT, w_and, w_or, w_not, w_if, w_c, w_op1, w_op2, w_call, w_args, w_nilA, w_consA, w_tup, w_lst, w_blt, w_mt, w_raise, w_chain, w_asgT, k_si, k_ss, k_ii, k_ib, k_is, k_tl, k_tt, k_ll, k_lt, w_mk, cVar, mkFn, List.length_cons, List.length_nil, List.map_cons, List.map_nil, List.replicate, List.cons_append, List.nil_append, List.getElem?_cons_zero, List.getElem?_cons_succ, List.set_cons_zero, List.set_cons_succ, Nat.reduceAdd, Nat.reduceSub, Nat.reduceEqDiff, Nat.reduceLeDiff, if_true, if_false, truB, truD, leD, ltD, gtD, geD, cmpD, eqD, scE, subD, isiD, tyN, u_add,  gTupG, gConsG, gNilG, gN, seqAt, negD, decide_eq_true_eq, Bool.false_xor, Bool.true_xor, maxD, minD, intsD, isNonD, isNon, reduceIte, Bool.not_true, Bool.not_false, ite_true, ite_false, Bool.false_eq_true, decide_true, decide_false, Bool.false_or, Bool.true_or, Bool.or_true, Bool.or_false, eq_true hsp, e1, eq_false hw]
    · refine ⟨c, S, hc, h.mono (by omega), Keep.refl _, ?_⟩
      simp only [v_bo, v_be, v_bi, v_so, v_se, v_si, v_tn, v_tr, v_te, v_ti, v_rn, v_rr, v_re, v_ri, v_gn, v_br, w_allS, v_gi, w_seq, w_set, w_ret, w_retN, w_exp, w_nil, w_ifS, w_truB, w_tru, w_notT, w_andT, w_orT, w_and, w_or, w_not, w_if, w_c, w_op1, w_op2, w_call, w_args, w_nilA, w_consA, w_tup, w_lst, w_blt, w_mt, w_raise, w_chain, w_asgT, k_si, k_ss, k_ii, k_ib, k_is, k_tl, k_tt, k_ll, k_lt, w_mk, cVar, mkFn, List.length_cons, List.length_nil, List.map_cons, List.map_nil, List.replicate, List.cons_append, List.nil_append, List.getElem?_cons_zero, List.getElem?_cons_succ, List.set_cons_zero, List.set_cons_succ, Nat.reduceAdd, Nat.reduceSub, Nat.reduceEqDiff, Nat.reduceLeDiff, if_true, if_false, truB, truD, leD, ltD, gtD, geD, cmpD, eqD, scE, subD, isiD, tyN, u_add,  gTupG, gConsG, gNilG, gN, seqAt, negD, decide_eq_true_eq, Bool.false_xor, Bool.true_xor, maxD, minD, intsD, isNonD, isNon, reduceIte, Bool.not_true, Bool.not_false, ite_true, ite_false, Bool.false_eq_true, decide_true, decide_false, Bool.false_or, Bool.true_or, Bool.or_true, Bool.or_false, eq_false hsp]
def seenB (j : Nat) (bod : Bod) : CS := (cSeq (cSet 10 (cOp2 ixD (cVar 4) (cOp2 modD (cVar 9) (cBlt lenD (cConsA (cVar 4) cNilA)))))
    (cSeq (cSet 10 (cIf (cTruB (cOp2 (eqD false) (cVar 10) (cC (.str [46])))) (cOp2 ixD (cVar 3) (cOp2 modD (cVar 9) (cBlt lenD (cConsA (cVar 3) cNilA)))) (cVar 10)))
    (cSeq (cIfS (cOrT (cTru (cVar 7)) (cAndT (cTruB (cOp2 gtD (cVar 6) (cC (.int 0)))) (cTruB (cOp2 (eqD false) (cCall (den bod j) "_law_draw" (cArgs 2 (cConsA (cVar 0) (cConsA (cVar 6) cNilA)))) (cC (.int 0)))))) (cSet 10 (cOp2 ixD (cC (.str [97, 98, 46, 99])) (cCall (den bod j) "_law_draw" (cArgs 2 (cConsA (cVar 0) (cConsA (cC (.int 4)) cNilA)))))) cNil)
    (cSet 8 (cOp2 addD (cVar 8) (cIf (cTruB (cOp2 gtD (cCall (den bod j) "_law_draw" (cArgs 2 (cConsA (cVar 0) (cConsA (cOp2 addD (cVar 5) (cC (.int 1))) cNilA)))) (cC (.int 0)))) (cVar 10) (cC (.str [63]))))))))
theorem seenB_eq : seenB j bod = cSeq (cSet 10 (cOp2 ixD (cVar 4) (cOp2 modD (cVar 9) (cBlt lenD (cConsA (cVar 4) cNilA))))) (cSeq (cSet 10 (cIf (cTruB (cOp2 (eqD false) (cVar 10) (cC (.str [46])))) (cOp2 ixD (cVar 3) (cOp2 modD (cVar 9) (cBlt lenD (cConsA (cVar 3) cNilA)))) (cVar 10))) (cSeq (midS j bod) (cSet 8 (cOp2 addD (cVar 8) (cIf (cTruB (cOp2 gtD (cCall (den bod j) "_law_draw" (cArgs 2 (cConsA (cVar 0) (cConsA (cOp2 addD (cVar 5) (cC (.int 1))) cNilA)))) (cC (.int 0)))) (cVar 10) (cC (.str [63]))))))) := rfl
theorem seenB_ok (hl : HasBag bod) (hj : 2 ≤ j) {ns : List Int} {C : Nat} (h : BagS ns C S) (hC : C ≤ 900000) {x1 x2 x10 : Option D} {l1 l2 a : List Nat} {k hid sp : Int} {any : Bool} (n1 : 0 < l1.length) (n2 : 0 < l2.length) (o1 : l1.length ≤ 1000) (o2 : l2.length ≤ 1000) (a1 : l1.all mkN = true) (a2 : l2.all mkN = true)
    (h0 : 0 < hid) (h1 : hid ≤ 100) (s0 : 0 ≤ sp) (s1 : sp ≤ 100) (ha : a.length ≤ 1000) (k0 : 0 ≤ k) :
    ∃ (c : Nat) (y : Option D) (S' : Hd), skN c = true ∧ BagS ns (C + 3) S' ∧ Keep S S' ∧
      seenB j bod [some (.ref 2), x1, x2, some (.str l1), some (.str l2), some (.int hid), some (.int sp), some (.bl any), some (.str a), some (.int k), x10] S = .nx [some (.ref 2), x1, x2, some (.str l1), some (.str l2), some (.int hid), some (.int sp), some (.bl any), some (.str (a ++ [c])), some (.int k), y] S' := by
  have md : ∀ (l : List Nat) (S' : Hd), 0 < l.length → modD (.int k) (.int (l.length : Nat)) S' = .ok (.int (k % (l.length : Nat))) S' := fun l S' h => u_mod _ _ (by omega)
  have em : ∀ l : List Nat, 0 < l.length → l.length ≤ 1000 → l.all mkN = true → ∃ c, mkN c = true ∧ ∀ S, ixD (.str l) (.int (k % (l.length : Nat))) S = .ok (.str [c]) S := fun l hl ho ha => by
    obtain ⟨c, hc, _, hx⟩ := xS (l := l) (v := k % (l.length : Nat)) (by omega) (Int.emod_nonneg _ (by omega)) (Int.emod_lt_of_pos _ (by omega))
    exact ⟨c, List.all_eq_true.mp ha c hc, hx⟩
  obtain ⟨c1, m1, e1⟩ := em l1 n1 o1 a1
  obtain ⟨c2, m2, e2⟩ := em l2 n2 o2 a2
  have ln : ∀ (l : List Nat) (S' : Hd), l.length ≤ 1000 → lenD [.str l] S' = .ok (.int l.length) S' := fun l S' h => xN (by omega)
  obtain ⟨c3, m3, e3⟩ : ∃ c3, mkN c3 = true ∧ (cSet 10 (cIf (cTruB (cOp2 (eqD false) (cVar 10) (cC (.str [46])))) (cOp2 ixD (cVar 3) (cOp2 modD (cVar 9) (cBlt lenD (cConsA (cVar 3) cNilA)))) (cVar 10))) [some (.ref 2), x1, x2, some (.str l1), some (.str l2), some (.int hid), some (.int sp), some (.bl any), some (.str a), some (.int k), some (.str [c2])] S = .nx [some (.ref 2), x1, x2, some (.str l1), some (.str l2), some (.int hid), some (.int sp), some (.bl any), some (.str a), some (.int k), some (.str [c3])] S := by
    by_cases hc : c2 = 46
    · refine ⟨c1, m1, ?_⟩
      simp only [v_bo, v_be, v_bi, v_so, v_se, v_si, v_tn, v_tr, v_te, v_ti, v_rn, v_rr, v_re, v_ri, v_gn, v_br, w_allS, v_gi, w_seq, w_set, w_ret, w_retN, w_exp, w_nil, w_ifS, w_truB, w_tru, w_notT, w_andT, w_orT, w_and, w_or, w_not, w_if, w_c, w_op1, w_op2, w_call, w_args, w_nilA, w_consA, w_tup, w_lst, w_blt, w_mt, w_raise, w_chain, w_asgT, k_si, k_ss, k_ii, k_ib, k_is, k_tl, k_tt, k_ll, k_lt, w_mk, cVar, mkFn, List.length_cons, List.length_nil, List.map_cons, List.map_nil, List.replicate, List.cons_append, List.nil_append, List.getElem?_cons_zero, List.getElem?_cons_succ, List.set_cons_zero, List.set_cons_succ, Nat.reduceAdd, Nat.reduceSub, Nat.reduceEqDiff, Nat.reduceLeDiff, if_true, if_false, truB, truD, leD, ltD, gtD, geD, cmpD, eqD, scE, subD, isiD, tyN, u_add,  gTupG, gConsG, gNilG, gN, seqAt, negD, decide_eq_true_eq, Bool.false_xor, Bool.true_xor, maxD, minD, intsD, isNonD, isNon, reduceIte, Bool.not_true, Bool.not_false, ite_true, ite_false, Bool.false_eq_true, decide_true, decide_false, Bool.false_or, Bool.true_or, Bool.or_true, Bool.or_false, sgl, eq_true hc, ln l1 S o1, md l1 S n1, e1]
    · refine ⟨c2, m2, ?_⟩
      simp only [v_bo, v_be, v_bi, v_so, v_se, v_si, v_tn, v_tr, v_te, v_ti, v_rn, v_rr, v_re, v_ri, v_gn, v_br, w_allS, v_gi, w_seq, w_set, w_ret, w_retN, w_exp, w_nil, w_ifS, w_truB, w_tru, w_notT, w_andT, w_orT, w_and, w_or, w_not, w_if, w_c, w_op1, w_op2, w_call, w_args, w_nilA, w_consA, w_tup, w_lst, w_blt, w_mt, w_raise, w_chain, w_asgT, k_si, k_ss, k_ii, k_ib, k_is, k_tl, k_tt, k_ll, k_lt, w_mk, cVar, mkFn, List.length_cons, List.length_nil, List.map_cons, List.map_nil, List.replicate, List.cons_append, List.nil_append, List.getElem?_cons_zero, List.getElem?_cons_succ, List.set_cons_zero, List.set_cons_succ, Nat.reduceAdd, Nat.reduceSub, Nat.reduceEqDiff, Nat.reduceLeDiff, if_true, if_false, truB, truD, leD, ltD, gtD, geD, cmpD, eqD, scE, subD, isiD, tyN, u_add,  gTupG, gConsG, gNilG, gN, seqAt, negD, decide_eq_true_eq, Bool.false_xor, Bool.true_xor, maxD, minD, intsD, isNonD, isNon, reduceIte, Bool.not_true, Bool.not_false, ite_true, ite_false, Bool.false_eq_true, decide_true, decide_false, Bool.false_or, Bool.true_or, Bool.or_true, Bool.or_false, sgl, eq_false hc]
  obtain ⟨c4, S1, m4, B1, K1, e4⟩ := mid_ok (x0 := some (.int hid)) (x1 := x1) (x2 := x2) (x3 := some (.str l1)) (x4 := some (.str l2)) (x8 := some (.str a)) (x9 := some (.int k)) (any := any) hl hj h (by omega) m3 s0 s1
  obtain ⟨v, S2, v0, v1, B2, K2, e5⟩ := draw_okB hl hj B1 (by omega) (m := hid + 1) (by omega) (lg (by omega) (by omega))
  have ad : ∀ c : Nat, addD (.str a) (.str [c]) S2 = .ok (.str (a ++ [c])) S2 := fun c => xA (by simp; omega)
  have eA : (cSet 10 (cOp2 ixD (cVar 4) (cOp2 modD (cVar 9) (cBlt lenD (cConsA (cVar 4) cNilA))))) [some (.ref 2), x1, x2, some (.str l1), some (.str l2), some (.int hid), some (.int sp), some (.bl any), some (.str a), some (.int k), x10] S = .nx [some (.ref 2), x1, x2, some (.str l1), some (.str l2), some (.int hid), some (.int sp), some (.bl any), some (.str a), some (.int k), some (.str [c2])] S := by
    simp only [v_bo, v_be, v_bi, v_so, v_se, v_si, v_tn, v_tr, v_te, v_ti, v_rn, v_rr, v_re, v_ri, v_gn, v_br, w_allS, v_gi, w_seq, w_set, w_ret, w_retN, w_exp, w_nil, w_ifS, w_truB, w_tru, w_notT, w_andT, w_orT, w_and, w_or, w_not, w_if, w_c, w_op1, w_op2, w_call, w_args, w_nilA, w_consA, w_tup, w_lst, w_blt, w_mt, w_raise, w_chain, w_asgT, k_si, k_ss, k_ii, k_ib, k_is, k_tl, k_tt, k_ll, k_lt, w_mk, cVar, mkFn, List.length_cons, List.length_nil, List.map_cons, List.map_nil, List.replicate, List.cons_append, List.nil_append, List.getElem?_cons_zero, List.getElem?_cons_succ, List.set_cons_zero, List.set_cons_succ, Nat.reduceAdd, Nat.reduceSub, Nat.reduceEqDiff, Nat.reduceLeDiff, if_true, if_false, truB, truD, leD, ltD, gtD, geD, cmpD, eqD, scE, subD, isiD, tyN, u_add,  gTupG, gConsG, gNilG, gN, seqAt, negD, decide_eq_true_eq, Bool.false_xor, Bool.true_xor, maxD, minD, intsD, isNonD, isNon, reduceIte, Bool.not_true, Bool.not_false, ite_true, ite_false, Bool.false_eq_true, decide_true, decide_false, Bool.false_or, Bool.true_or, Bool.or_true, Bool.or_false, ln l2 S o2, md l2 S n2, e2]
  rw [seenB_eq, w_seq, eA, v_tn, w_seq, e3, v_tn, w_seq, e4, v_tn]
  by_cases hv : 0 < v
  · refine ⟨c4, some (.str [c4]), S2, by unfold skN; rw [m4]; rfl, B2, K1.trans K2, ?_⟩
    simp only [v_bo, v_be, v_bi, v_so, v_se, v_si, v_tn, v_tr, v_te, v_ti, v_rn, v_rr, v_re, v_ri, v_gn, v_br, w_allS, v_gi, w_seq, w_set, w_ret, w_retN, w_exp, w_nil, w_ifS, w_truB, w_tru, w_notT, w_andT, w_orT, w_and, w_or, w_not, w_if, w_c, w_op1, w_op2, w_call, w_args, w_nilA, w_consA, w_tup, w_lst, w_blt, w_mt, w_raise, w_chain, w_asgT, k_si, k_ss, k_ii, k_ib, k_is, k_tl, k_tt, k_ll, k_lt, w_mk, cVar, mkFn, List.length_cons, List.length_nil, List.map_cons, List.map_nil, List.replicate, List.cons_append, List.nil_append, List.getElem?_cons_zero, List.getElem?_cons_succ, List.set_cons_zero, List.set_cons_succ, Nat.reduceAdd, Nat.reduceSub, Nat.reduceEqDiff, Nat.reduceLeDiff, if_true, if_false, truB, truD, leD, ltD, gtD, geD, cmpD, eqD, scE, subD, isiD, tyN, u_add,  gTupG, gConsG, gNilG, gN, seqAt, negD, decide_eq_true_eq, Bool.false_xor, Bool.true_xor, maxD, minD, intsD, isNonD, isNon, reduceIte, Bool.not_true, Bool.not_false, ite_true, ite_false, Bool.false_eq_true, decide_true, decide_false, Bool.false_or, Bool.true_or, Bool.or_true, Bool.or_false, e5, eq_true hv, ad]
  · refine ⟨63, some (.str [c4]), S2, rfl, B2, K1.trans K2, ?_⟩
    simp only [v_bo, v_be, v_bi, v_so, v_se, v_si, v_tn, v_tr, v_te, v_ti, v_rn, v_rr, v_re, v_ri, v_gn, v_br, w_allS, v_gi, w_seq, w_set, w_ret, w_retN, w_exp, w_nil, w_ifS, w_truB, w_tru, w_notT, w_andT, w_orT, w_and, w_or, w_not, w_if, w_c, w_op1, w_op2, w_call, w_args, w_nilA, w_consA, w_tup, w_lst, w_blt, w_mt, w_raise, w_chain, w_asgT, k_si, k_ss, k_ii, k_ib, k_is, k_tl, k_tt, k_ll, k_lt, w_mk, cVar, mkFn, List.length_cons, List.length_nil, List.map_cons, List.map_nil, List.replicate, List.cons_append, List.nil_append, List.getElem?_cons_zero, List.getElem?_cons_succ, List.set_cons_zero, List.set_cons_succ, Nat.reduceAdd, Nat.reduceSub, Nat.reduceEqDiff, Nat.reduceLeDiff, if_true, if_false, truB, truD, leD, ltD, gtD, geD, cmpD, eqD, scE, subD, isiD, tyN, u_add,  gTupG, gConsG, gNilG, gN, seqAt, negD, decide_eq_true_eq, Bool.false_xor, Bool.true_xor, maxD, minD, intsD, isNonD, isNon, reduceIte, Bool.not_true, Bool.not_false, ite_true, ite_false, Bool.false_eq_true, decide_true, decide_false, Bool.false_or, Bool.true_or, Bool.or_true, Bool.or_false, e5, eq_false hv, ad]
theorem seen2_ok (hl : HasBag bod) (hr : bod.lookup ("_law_rim" : Str) = some mb_rim) (hs : bod.lookup ("_law_seen_two" : Str) = some mb_seen2) (hj : 4 ≤ j) {ns : List Int} {C : Nat} (h : BagS ns C S) (hC : C ≤ 800000) {m : Int} (hm : 0 < m) (hm2 : m ≤ 300) :
    ∃ (l : List Nat) (S' : Hd), BagS ns (C + 2000) S' ∧ Keep S S' ∧ 0 < l.length ∧ l.length ≤ 300 ∧ l.all skN = true ∧ den bod j "_law_seen_two" [.ref 2, .int m] S = .ok (.str l) S' := by
  obtain ⟨j, rfl, hj2⟩ := one_of (n := 3) hj
  rw [den_eq hs]
  unfold mb_seen2
  obtain ⟨v1, S1, a0, a1, B1, K1, e1⟩ := draw_okB hl (show 2 ≤ j by omega) h (by omega) (m := m) hm (lg hm (by omega))
  obtain ⟨l1, S2, B2, K2, n1, o1, p1, e2⟩ := rim_okB hl hr hj2 B1 (by omega) (m := 9) (by decide) (by decide)
  obtain ⟨l2, S3, B3, K3, n2, o2, p2, e3⟩ := rim_okB hl hr hj2 B2 (by omega) (m := 9) (by decide) (by decide)
  obtain ⟨v4, d4, S4, i4, B4, K4, e4, x4⟩ := pick_ok hl (show 2 ≤ j by omega) B3 (by omega) [.int 1, .int 3, .int 40] (by decide) (by decide)
  obtain ⟨hid, rfl, h0, h1⟩ : ∃ hid : Int, d4 = .int hid ∧ 0 < hid ∧ hid ≤ 100 := by
    simp only [List.mem_cons, List.not_mem_nil, or_false] at i4
    rcases i4 with rfl | rfl | rfl <;> exact ⟨_, rfl, by decide, by decide⟩
  obtain ⟨v5, d5, S5, i5, B5, K5, e5, x5⟩ := pick_ok hl (show 2 ≤ j by omega) B4 (by omega) [.int 0, .int 0, .int 30] (by decide) (by decide)
  obtain ⟨sp, rfl, s0, s1⟩ : ∃ sp : Int, d5 = .int sp ∧ 0 ≤ sp ∧ sp ≤ 100 := by
    simp only [List.mem_cons, List.not_mem_nil, or_false] at i5
    rcases i5 with rfl | rfl | rfl <;> exact ⟨_, rfl, by decide, by decide⟩
  obtain ⟨v6, S6, f0, f1, B6, K6, e6⟩ := draw_okB hl (show 2 ≤ j by omega) B5 (by omega) (m := 6) (by decide) (by decide)
  obtain ⟨C6, hC6⟩ : ∃ C6, C6 = C + 1 + 110 + 110 + 1 + 1 + 1 := ⟨_, rfl⟩
  rw [← hC6] at B6
  have hsm : smI (1 + v1) = true := by unfold smI; simp; omega
  let I : Nat → Gm → Hd → Prop := fun i Γ S' => ∃ (a : List Nat) (x y : Option D), Γ = [some (.ref 2), some (.int m), some (.int (1 + v1)), some (.str l1), some (.str l2), some (.int hid), some (.int sp), some (.bl (decide (v6 = 0))), some (.str a), x, y] ∧ a.length = i ∧ a.all skN = true ∧ BagS ns (C6 + 3 * i) S' ∧ Keep S6 S'
  have hlr : (rngL 0 (1 + v1).toNat).length = (1 + v1).toNat := by simp [rngL]
  obtain ⟨Γ', S', e7, a, x, y, rfl, ha, hb, B7, K7⟩ := cFor_inv (it := cRng1 (cConsA (cVar 2) cNilA)) (S0 := S6) (S := S6) (src := .base (.items (rngL 0 (1 + v1).toNat))) (g := gN 9) (b := seenB j bod) (Γ := [some (.ref 2), some (.int m), some (.int (1 + v1)), some (.str l1), some (.str l2), some (.int hid), some (.int sp), some (.bl (decide (v6 = 0))), some (.str []), none, none]) (rngL 0 (1 + v1).toNat) I
    (by unfold cRng1; simp only [v_bo, v_be, v_bi, v_so, v_se, v_si, v_tn, v_tr, v_te, v_ti, v_rn, v_rr, v_re, v_ri, v_gn, v_br, w_allS, v_gi, w_seq, w_set, w_ret, w_retN, w_exp, w_nil, w_ifS, w_truB, w_tru, w_notT, w_andT, w_orT, w_and, w_or, w_not, w_if, w_c, w_op1, w_op2, w_call, w_args, w_nilA, w_consA, w_tup, w_lst, w_blt, w_mt, w_raise, w_chain, w_asgT, k_si, k_ss, k_ii, k_ib, k_is, k_tl, k_tt, k_ll, k_lt, w_mk, cVar, mkFn, List.length_cons, List.length_nil, List.map_cons, List.map_nil, List.replicate, List.cons_append, List.nil_append, List.getElem?_cons_zero, List.getElem?_cons_succ, List.set_cons_zero, List.set_cons_succ, Nat.reduceAdd, Nat.reduceSub, Nat.reduceEqDiff, Nat.reduceLeDiff, if_true, if_false, truB, truD, leD, ltD, gtD, geD, cmpD, eqD, scE, subD, isiD, tyN, u_add,  gTupG, gConsG, gNilG, gN, seqAt, negD, decide_eq_true_eq, Bool.false_xor, Bool.true_xor, maxD, minD, intsD, isNonD, isNon, reduceIte, Bool.not_true, Bool.not_false, ite_true, ite_false, Bool.false_eq_true, decide_true, decide_false, Bool.false_or, Bool.true_or, Bool.or_true, Bool.or_false, hsm]) (by rw [hlr]; omega) (fun i Γ S' _ _ => rfl)
    (fun i d Γ S' hd h => by
      obtain ⟨a, x, y, rfl, ha, hb, hB, hK⟩ := h
      have hi : i < (1 + v1).toNat := by
        have := (List.getElem?_eq_some_iff.mp hd).1
        rw [hlr] at this
        exact this
      have hdd : d = .int (0 + (i : Int)) := by
        unfold rngL at hd
        rw [List.getElem?_map, List.getElem?_range hi] at hd
        cases hd
        rfl
      subst hdd
      obtain ⟨c, z, S2', hc, hB2, hK2, e⟩ := seenB_ok (x1 := some (.int m)) (x2 := some (.int (1 + v1))) (x10 := y) (any := decide (v6 = 0)) (k := 0 + (i : Int)) hl (show 2 ≤ j by omega) hB (by omega) n1 n2 (by omega) (by omega) p1 p2 h0 h1 s0 s1 (a := a) (by omega) (by omega)
      exact ⟨_, _, _, _, rfl, .inl e, a ++ [c], _, _, rfl, by rw [List.length_append, ha]; rfl, by rw [List.all_append, hb]; simp [hc], hB2.mono (by omega), hK.trans hK2⟩) ⟨[], none, none, rfl, rfl, rfl, B6, Keep.refl _⟩
  rw [hlr] at ha B7
  refine ⟨a, S', B7.mono (by omega), (((((K1.trans K2).trans K3).trans K4).trans K5).trans K6).trans K7, by omega, by omega, hb, ?_⟩
  have l3 : ([.int 1, .int 3, .int 40] : List D).length = 3 := rfl
  have l4 : ([.int 0, .int 0, .int 30] : List D).length = 3 := rfl
  have e4' : den bod j "_law_draw" [.ref 2, .int 3] (S3 ++ [.lst [.int 1, .int 3, .int 40]]) = .ok (.int v4) S4 := e4
  have e5' : den bod j "_law_draw" [.ref 2, .int 3] (S4 ++ [.lst [.int 0, .int 0, .int 30]]) = .ok (.int v5) S5 := e5
  unfold seenB at e7
  simp only [gtD] at e7
  simp only [v_bo, v_be, v_bi, v_so, v_se, v_si, v_tn, v_tr, v_te, v_ti, v_rn, v_rr, v_re, v_ri, v_gn, v_br, w_allS, v_gi, w_seq, w_set, w_ret, w_retN, w_exp, w_nil, w_ifS, w_truB, w_tru, w_notT, w_andT, w_orT, w_and, w_or, w_not, w_if, w_c, w_op1, w_op2, w_call, w_args, w_nilA, w_consA, w_tup, w_lst, w_blt, w_mt, w_raise, w_chain, w_asgT, k_si, k_ss, k_ii, k_ib, k_is, k_tl, k_tt, k_ll, k_lt, w_mk, cVar, mkFn, List.length_cons, List.length_nil, List.map_cons, List.map_nil, List.replicate, List.cons_append, List.nil_append, List.getElem?_cons_zero, List.getElem?_cons_succ, List.set_cons_zero, List.set_cons_succ, Nat.reduceAdd, Nat.reduceSub, Nat.reduceEqDiff, Nat.reduceLeDiff, if_true, if_false, truB, truD, leD, ltD, gtD, geD, cmpD, eqD, scE, subD, isiD, tyN, u_add,  gTupG, gConsG, gNilG, gN, seqAt, negD, decide_eq_true_eq, Bool.false_xor, Bool.true_xor, maxD, minD, intsD, isNonD, isNon, reduceIte, Bool.not_true, Bool.not_false, ite_true, ite_false, Bool.false_eq_true, decide_true, decide_false, Bool.false_or, Bool.true_or, Bool.or_true, Bool.or_false, e1, e2, e3, alloc, e4', x4, e5', x5, e6]
  rw [e7]
  simp only [v_bo, v_be, v_bi, v_so, v_se, v_si, v_tn, v_tr, v_te, v_ti, v_rn, v_rr, v_re, v_ri, v_gn, v_br, w_allS, v_gi, w_seq, w_set, w_ret, w_retN, w_exp, w_nil, w_ifS, w_truB, w_tru, w_notT, w_andT, w_orT, w_and, w_or, w_not, w_if, w_c, w_op1, w_op2, w_call, w_args, w_nilA, w_consA, w_tup, w_lst, w_blt, w_mt, w_raise, w_chain, w_asgT, k_si, k_ss, k_ii, k_ib, k_is, k_tl, k_tt, k_ll, k_lt, w_mk, cVar, mkFn, List.length_cons, List.length_nil, List.map_cons, List.map_nil, List.replicate, List.cons_append, List.nil_append, List.getElem?_cons_zero, List.getElem?_cons_succ, List.set_cons_zero, List.set_cons_succ, Nat.reduceAdd, Nat.reduceSub, Nat.reduceEqDiff, Nat.reduceLeDiff, if_true, if_false, truB, truD, leD, ltD, gtD, geD, cmpD, eqD, scE, subD, isiD, tyN, u_add,  gTupG, gConsG, gNilG, gN, seqAt, negD, decide_eq_true_eq, Bool.false_xor, Bool.true_xor, maxD, minD, intsD, isNonD, isNon, reduceIte, Bool.not_true, Bool.not_false, ite_true, ite_false, Bool.false_eq_true, decide_true, decide_false, Bool.false_or, Bool.true_or, Bool.or_true, Bool.or_false]
theorem in_two (s c : Nat) : inD false (.str [s]) (.tup [.str [c], .str [63]]) S = .ok (.bl (decide (s = c ∨ s = 63))) S := by
  unfold inD
  dsimp only [seqAt, inE, strsD, Option.map]
  congr 2
  by_cases h1 : s = c
  · subst h1; simp
  · by_cases h2 : s = 63
    · subst h2; simp
    · simp [h1, h2, Ne.symm h1, Ne.symm h2, eq_comm]
theorem due_ok (hd : bod.lookup ("_law_due" : Str) = some mb_due) (hj : 1 ≤ j) (seen rim : List Nat) (h1 : seen.length ≤ 1000000) (r0 : 0 < rim.length) (r1 : rim.length ≤ 1000000) :
    den bod j "_law_due" [.str seen, .str rim] S = .ok (oD (dueL rim 0 seen)) S := by
  obtain ⟨j, rfl, hj⟩ := one_of (n := 0) hj
  rw [den_eq hd]
  unfold mb_due
  let I : Nat → Gm → Hd → Prop := fun i Γ S' => ∃ (a : List Nat) (x y z : Option D), Γ = [some (.str seen), some (.str rim), some (.str a), x, y, z] ∧ S' = S ∧ a.length = i ∧ dueL rim 0 seen = (dueL rim i (seen.drop i)).map (a ++ ·)
  let P : D → Hd → Prop := fun r S' => r = .non ∧ dueL rim 0 seen = none ∧ S' = S
  have key := cFor_run (it := cEnum (cConsA (cVar 0) cNilA)) (S0 := S) (S := S) (src := .enum (.items (chD seen))) (g := gTupG 2 (gConsG (gN 3) (gConsG (gN 4) gNilG))) (b := (cSeq (cSet 5 (cOp2 ixD (cVar 1) (cOp2 modD (cVar 3) (cBlt lenD (cConsA (cVar 1) cNilA)))))
    (cIfS (cTruB (cOp2 (eqD false) (cVar 5) (cC (.str [46])))) (cSet 2 (cOp2 addD (cVar 2) (cVar 4))) (cIfS (cTruB (cOp2 (inD false) (cVar 4) (cTup (cConsA (cVar 5) (cConsA (cC (.str [63])) cNilA))))) (cSet 2 (cOp2 addD (cVar 2) (cC (.str [63])))) (cRet (cC .non)))))) (Γ := [some (.str seen), some (.str rim), some (.str []), none, none, none]) (enumL seen) I P
    (by unfold cEnum cVar; simp only [v_bo, v_be, v_bi, v_so, v_se, v_si, v_tn, v_tr, v_te, v_ti, v_rn, v_rr, v_re, v_ri, v_gn, v_br, w_allS, v_gi, w_seq, w_set, w_ret, w_retN, w_exp, w_nil, w_ifS, w_truB, w_tru, w_notT, w_andT, w_orT, w_and, w_or, w_not, w_if, w_c, w_op1, w_op2, w_call, w_args, w_nilA, w_consA, w_tup, w_lst, w_blt, w_mt, w_raise, w_chain, w_asgT, k_si, k_ss, k_ii, k_ib, k_is, k_tl, k_tt, k_ll, k_lt, w_mk, cVar, mkFn, List.length_cons, List.length_nil, List.map_cons, List.map_nil, List.replicate, List.cons_append, List.nil_append, List.getElem?_cons_zero, List.getElem?_cons_succ, List.set_cons_zero, List.set_cons_succ, Nat.reduceAdd, Nat.reduceSub, Nat.reduceEqDiff, Nat.reduceLeDiff, if_true, if_false, truB, truD, leD, ltD, gtD, geD, cmpD, eqD, scE, addD, subD, lenD, isiD, tyN, gTupG, gConsG, gNilG, gN, seqAt, negD, decide_eq_true_eq, Bool.false_xor, Bool.true_xor, maxD, minD, intsD, isNonD, isNon, reduceIte, Bool.not_true, Bool.not_false, ite_true, ite_false, Bool.false_eq_true, decide_true, decide_false, Bool.false_or, Bool.true_or, Bool.or_true, Bool.or_false, baseD]) (by unfold enumL; rw [List.length_map, List.length_range]; omega) (fun i Γ S' _ hi => enum_src seen i hi)
    (fun i d Γ S' hd h => by
      obtain ⟨a, x, y, z, rfl, rfl, ha, hdue⟩ := h
      obtain ⟨hi, rfl⟩ := enum_at hd
      have hm0 : (0 : Int) ≤ (i : Int) % (rim.length : Int) := Int.emod_nonneg _ (by omega)
      have hm1 : (i : Int) % (rim.length : Int) < (rim.length : Int) := Int.emod_lt_of_pos _ (by omega)
      obtain ⟨c, _, hc, hx⟩ := xS (l := rim) (by omega) hm0 hm1
      have hc2 : rim.getD (i % rim.length) 46 = c := by
        rw [List.getD_eq_getElem?_getD, show i % rim.length = ((i : Int) % (rim.length : Int)).toNat by rw [← Int.natCast_emod, Int.toNat_natCast], hc]
        rfl
      have md : ∀ S' : Hd, modD (.int (i : Int)) (.int (rim.length : Int)) S' = .ok (.int ((i : Int) % (rim.length : Int))) S' := fun S' => u_mod _ _ (by omega)
      have ln : ∀ S' : Hd, lenD [.str rim] S' = .ok (.int rim.length) S' := fun S' => xN (by omega)
      have ad : ∀ (c : Nat) (S' : Hd), addD (.str a) (.str [c]) S' = .ok (.str (a ++ [c])) S' := fun c S' => xA (by simp; omega)
      have dr := drop_at hi
      rw [dr, due_cons, hc2] at hdue
      refine ⟨[some (.str seen), some (.str rim), some (.str a), some (.int (i : Int)), some (.str [seen.getD i 46]), z], _, rfl, ?_⟩
      generalize seen.getD i 46 = s at hdue ⊢
      by_cases k1 : c = 46
      · rw [if_pos k1] at hdue
        refine .inl ⟨_, _, .inl ?_, a ++ [s], some (.int (i : Int)), some (.str [s]), some (.str [c]), rfl, rfl, by rw [List.length_append, ha]; rfl, ?_⟩
        · simp only [v_bo, v_be, v_bi, v_so, v_se, v_si, v_tn, v_tr, v_te, v_ti, v_rn, v_rr, v_re, v_ri, v_gn, v_br, w_allS, v_gi, w_seq, w_set, w_ret, w_retN, w_exp, w_nil, w_ifS, w_truB, w_tru, w_notT, w_andT, w_orT, w_and, w_or, w_not, w_if, w_c, w_op1, w_op2, w_call, w_args, w_nilA, w_consA, w_tup, w_lst, w_blt, w_mt, w_raise, w_chain, w_asgT, k_si, k_ss, k_ii, k_ib, k_is, k_tl, k_tt, k_ll, k_lt, w_mk, cVar, mkFn, List.length_cons, List.length_nil, List.map_cons, List.map_nil, List.replicate, List.cons_append, List.nil_append, List.getElem?_cons_zero, List.getElem?_cons_succ, List.set_cons_zero, List.set_cons_succ, Nat.reduceAdd, Nat.reduceSub, Nat.reduceEqDiff, Nat.reduceLeDiff, if_true, if_false, truB, truD, leD, ltD, gtD, geD, cmpD, eqD, scE, subD, isiD, tyN, u_add,  gTupG, gConsG, gNilG, gN, seqAt, negD, decide_eq_true_eq, Bool.false_xor, Bool.true_xor, maxD, minD, intsD, isNonD, isNon, reduceIte, Bool.not_true, Bool.not_false, ite_true, ite_false, Bool.false_eq_true, decide_true, decide_false, Bool.false_or, Bool.true_or, Bool.or_true, Bool.or_false, ln, md, hx, sgl, eq_true k1, ad]
        · rw [hdue]
          cases dueL rim (i + 1) (List.drop (i + 1) seen) <;> simp
      · rw [if_neg k1] at hdue
        by_cases k2 : s = c ∨ s = 63
        · rw [if_pos k2] at hdue
          refine .inl ⟨_, _, .inl ?_, a ++ [63], some (.int (i : Int)), some (.str [s]), some (.str [c]), rfl, rfl, by rw [List.length_append, ha]; rfl, ?_⟩
          · simp only [v_bo, v_be, v_bi, v_so, v_se, v_si, v_tn, v_tr, v_te, v_ti, v_rn, v_rr, v_re, v_ri, v_gn, v_br, w_allS, v_gi, w_seq, w_set, w_ret, w_retN, w_exp, w_nil, w_ifS, w_truB, w_tru, w_notT, w_andT, w_orT, w_and, w_or, w_not, w_if, w_c, w_op1, w_op2, w_call, w_args, w_nilA, w_consA, w_tup, w_lst, w_blt, w_mt, w_raise, w_chain, w_asgT, k_si, k_ss, k_ii, k_ib, k_is, k_tl, k_tt, k_ll, k_lt, w_mk, cVar, mkFn, List.length_cons, List.length_nil, List.map_cons, List.map_nil, List.replicate, List.cons_append, List.nil_append, List.getElem?_cons_zero, List.getElem?_cons_succ, List.set_cons_zero, List.set_cons_succ, Nat.reduceAdd, Nat.reduceSub, Nat.reduceEqDiff, Nat.reduceLeDiff, if_true, if_false, truB, truD, leD, ltD, gtD, geD, cmpD, eqD, scE, subD, isiD, tyN, u_add,  gTupG, gConsG, gNilG, gN, seqAt, negD, decide_eq_true_eq, Bool.false_xor, Bool.true_xor, maxD, minD, intsD, isNonD, isNon, reduceIte, Bool.not_true, Bool.not_false, ite_true, ite_false, Bool.false_eq_true, decide_true, decide_false, Bool.false_or, Bool.true_or, Bool.or_true, Bool.or_false, ln, md, hx, sgl, eq_false k1, in_two, eq_true k2, ad]
          · rw [hdue]
            cases dueL rim (i + 1) (List.drop (i + 1) seen) <;> simp
        · rw [if_neg k2] at hdue
          refine .inr ⟨.non, S', ?_, rfl, hdue, rfl⟩
          simp only [v_bo, v_be, v_bi, v_so, v_se, v_si, v_tn, v_tr, v_te, v_ti, v_rn, v_rr, v_re, v_ri, v_gn, v_br, w_allS, v_gi, w_seq, w_set, w_ret, w_retN, w_exp, w_nil, w_ifS, w_truB, w_tru, w_notT, w_andT, w_orT, w_and, w_or, w_not, w_if, w_c, w_op1, w_op2, w_call, w_args, w_nilA, w_consA, w_tup, w_lst, w_blt, w_mt, w_raise, w_chain, w_asgT, k_si, k_ss, k_ii, k_ib, k_is, k_tl, k_tt, k_ll, k_lt, w_mk, cVar, mkFn, List.length_cons, List.length_nil, List.map_cons, List.map_nil, List.replicate, List.cons_append, List.nil_append, List.getElem?_cons_zero, List.getElem?_cons_succ, List.set_cons_zero, List.set_cons_succ, Nat.reduceAdd, Nat.reduceSub, Nat.reduceEqDiff, Nat.reduceLeDiff, if_true, if_false, truB, truD, leD, ltD, gtD, geD, cmpD, eqD, scE, subD, isiD, tyN, u_add,  gTupG, gConsG, gNilG, gN, seqAt, negD, decide_eq_true_eq, Bool.false_xor, Bool.true_xor, maxD, minD, intsD, isNonD, isNon, reduceIte, Bool.not_true, Bool.not_false, ite_true, ite_false, Bool.false_eq_true, decide_true, decide_false, Bool.false_or, Bool.true_or, Bool.or_true, Bool.or_false, ln, md, hx, sgl, eq_false k1, in_two, eq_false k2]) ⟨[], none, none, none, rfl, rfl, rfl, by rw [List.drop_zero]; cases dueL rim 0 seen <;> simp⟩
  have hlen : (enumL seen).length = seen.length := by unfold enumL; rw [List.length_map, List.length_range]
  rcases key with ⟨Γ', S', e, a, x, y, z, rfl, rfl, ha, hdue⟩ | ⟨r, S', e, rfl, hdue, rfl⟩
  · rw [hlen] at hdue ha
    rw [List.drop_length] at hdue
    have hda : dueL rim 0 seen = some a := by rw [hdue]; simp [dueL]
    rw [w_mk 6 2 _ [.str seen, .str rim] rfl]
    simp only [w_seq, w_set, w_c, v_so, v_tn, List.map_cons, List.map_nil, List.replicate, Nat.reduceAdd, Nat.reduceSub, List.cons_append, List.nil_append, List.set_cons_succ, List.set_cons_zero]
    rw [e, v_tn, hda]
    simp only [v_bo, v_be, v_bi, v_so, v_se, v_si, v_tn, v_tr, v_te, v_ti, v_rn, v_rr, v_re, v_ri, v_gn, v_br, w_allS, v_gi, w_seq, w_set, w_ret, w_retN, w_exp, w_nil, w_ifS, w_truB, w_tru, w_notT, w_andT, w_orT, w_and, w_or, w_not, w_if, w_c, w_op1, w_op2, w_call, w_args, w_nilA, w_consA, w_tup, w_lst, w_blt, w_mt, w_raise, w_chain, w_asgT, k_si, k_ss, k_ii, k_ib, k_is, k_tl, k_tt, k_ll, k_lt, w_mk, cVar, mkFn, List.length_cons, List.length_nil, List.map_cons, List.map_nil, List.replicate, List.cons_append, List.nil_append, List.getElem?_cons_zero, List.getElem?_cons_succ, List.set_cons_zero, List.set_cons_succ, Nat.reduceAdd, Nat.reduceSub, Nat.reduceEqDiff, Nat.reduceLeDiff, if_true, if_false, truB, truD, leD, ltD, gtD, geD, cmpD, eqD, scE, subD, isiD, tyN, u_add,  gTupG, gConsG, gNilG, gN, seqAt, negD, decide_eq_true_eq, Bool.false_xor, Bool.true_xor, maxD, minD, intsD, isNonD, isNon, reduceIte, Bool.not_true, Bool.not_false, ite_true, ite_false, Bool.false_eq_true, decide_true, decide_false, Bool.false_or, Bool.true_or, Bool.or_true, Bool.or_false, oD]
  · rw [w_mk 6 2 _ [.str seen, .str rim] rfl]
    simp only [w_seq, w_set, w_c, v_so, v_tn, List.map_cons, List.map_nil, List.replicate, Nat.reduceAdd, Nat.reduceSub, List.cons_append, List.nil_append, List.set_cons_succ, List.set_cons_zero]
    rw [e, v_tr, v_rr, hdue]
    rfl
end
end Dn

set_option Elab.async false
set_option linter.all false
set_option maxRecDepth 100000
set_option maxHeartbeats 4000000
set_option autoImplicit false

namespace Dn
open PySem PySem.Spec PyProof.Rows L2 Kx
namespace L57
def N__law_bag : List Str := ["script", "total", "cell"]
def m__law_bag (call : Calls) : List D → Hd → R D := mkFn 3 1 ((cSeq (cSet 1 (cC (.int 1)))
    (cSeq (cFor (cSrc (cVar 0)) (gN 2) (cSet 1 (cOp2 modD (cOp2 addD (cOp2 addD (cOp2 mulD (cVar 1) (cC (.int 1000003))) (cOp2 modD (cVar 2) (cC (.int 2305843009213693951)))) (cC (.int 1))) (cC (.int 2305843009213693951)))))
    (cRet (cLst (cConsA (cBlt listD (cConsA (cVar 0) cNilA)) (cConsA (cC (.int 0)) (cConsA (cC (.int 0)) (cConsA (cC (.int 0)) (cConsA (cVar 1) cNilA))))))))))
def N__law_stir : List Str := ["number", "place", "one", "two"]
def m__law_stir (call : Calls) : List D → Hd → R D := mkFn 4 2 ((cSeq (cSet 2 (cOp2 modD (cOp2 addD (cOp2 addD (cOp2 mulD (cVar 0) (cC (.int 998244353))) (cOp2 mulD (cVar 1) (cC (.int 1000000007)))) (cC (.int 5))) (cC (.int 2305843009213693951))))
    (cSeq (cSet 3 (cOp2 modD (cOp2 mulD (cVar 2) (cVar 2)) (cC (.int 2305843009213693951))))
    (cRet (cOp2 fdivD (cOp2 modD (cOp2 addD (cOp2 addD (cOp2 mulD (cVar 3) (cC (.int 2860486313))) (cOp2 mulD (cOp2 mulD (cVar 1) (cVar 1)) (cC (.int 48271)))) (cOp2 fdivD (cVar 2) (cC (.int 3)))) (cC (.int 2305843009213693921))) (cC (.int 1024)))))))
def N__law_draw : List Str := ["bag", "many", "cell", "found"]
def m__law_draw (call : Calls) : List D → Hd → R D := mkFn 4 2 ((cSeq (cIfS (cTruB (cOp2 (eqD false) (cVar 1) (cC (.int 1)))) (cRet (cC (.int 0))) cNil)
    (cSeq (cAsgT (cOp2 addD (cOp2 ixD (cVar 0) (cC (.int 3))) (cC (.int 1))) (gSubG (cVar 0) (cC (.int 3))))
    (cSeq (cIfS (cAndT (cTruB (cOp2 ltD (cOp2 ixD (cVar 0) (cC (.int 2))) (cC (.int 2)))) (cTruB (cOp2 (eqD false) (cOp2 ixD (cVar 0) (cC (.int 1))) (cBlt lenD (cConsA (cOp2 ixD (cVar 0) (cC (.int 0))) cNilA))))) (cRet (cOp2 modD (cCall call "_law_stir" (cArgs 2 (cConsA (cOp2 ixD (cVar 0) (cC (.int 4))) (cConsA (cOp2 ixD (cVar 0) (cC (.int 3))) cNilA)))) (cVar 1))) cNil)
    (cSeq (cIfS (cTruB (cOp2 ltD (cOp2 ixD (cVar 0) (cC (.int 2))) (cC (.int 2)))) (cSeq (cSet 2 (cOp2 ixD (cOp2 ixD (cVar 0) (cC (.int 0))) (cOp2 ixD (cVar 0) (cC (.int 1)))))
    (cSeq (cAsgT (cOp2 addD (cOp2 ixD (cVar 0) (cC (.int 1))) (cC (.int 1))) (gSubG (cVar 0) (cC (.int 1))))
    (cSeq (cIfS (cTruB (cOp2 ltD (cVar 2) (cOp2 powD (cC (.int 10)) (cC (.int 18))))) (cRet (cOp2 modD (cCall call "_law_stir" (cArgs 2 (cConsA (cOp2 modD (cVar 2) (cC (.int 2305843009213693951))) (cConsA (cOp2 ixD (cVar 0) (cC (.int 3))) cNilA)))) (cVar 1))) cNil)
    (cAsgT (cOp2 subD (cVar 2) (cOp2 powD (cC (.int 10)) (cC (.int 18)))) (gSubG (cVar 0) (cC (.int 2))))))) cNil)
    (cSeq (cSet 3 (cOp2 modD (cOp2 ixD (cVar 0) (cC (.int 2))) (cVar 1)))
    (cSeq (cAsgT (cOp2 fdivD (cOp2 ixD (cVar 0) (cC (.int 2))) (cVar 1)) (gSubG (cVar 0) (cC (.int 2))))
    (cRet (cVar 3)))))))))
def N__law_mixed : List Str := ["bag", "row", "left", "k"]
def m__law_mixed (call : Calls) : List D → Hd → R D := mkFn 4 2 ((cSeq (cSet 2 (cBlt listD (cConsA (cVar 1) cNilA)))
    (cRet (cLc (cRng1 (cConsA (cBlt lenD (cConsA (cVar 1) cNilA)) cNilA)) (gN 3) cYes (cMt "list" isLstD popAtD (cVar 2) (cConsA (cCall call "_law_draw" (cArgs 2 (cConsA (cVar 0) (cConsA (cBlt lenD (cConsA (cVar 2) cNilA)) cNilA)))) cNilA)) [3]))))
def N__law_rim : List Str := ["bag", "most", "size", "kind", "at", "signs", "k"]
def m__law_rim (call : Calls) : List D → Hd → R D := mkFn 7 2 ((cSeq (cSet 2 (cOp2 addD (cC (.int 1)) (cCall call "_law_draw" (cArgs 2 (cConsA (cVar 0) (cConsA (cVar 1) cNilA))))))
    (cSeq (cSet 3 (cCall call "_law_draw" (cArgs 2 (cConsA (cVar 0) (cConsA (cC (.int 4)) cNilA)))))
    (cSeq (cIfS (cTruB (cOp2 (eqD false) (cVar 3) (cC (.int 1)))) (cSeq (cSet 4 (cCall call "_law_draw" (cArgs 2 (cConsA (cVar 0) (cConsA (cVar 2) cNilA)))))
    (cRet (cOp2 addD (cOp2 addD (cOp2 mulD (cC (.str [46])) (cVar 4)) (cOp2 ixD (cC (.str [97, 98, 122])) (cCall call "_law_draw" (cArgs 2 (cConsA (cVar 0) (cConsA (cC (.int 3)) cNilA)))))) (cOp2 mulD (cC (.str [46])) (cOp2 subD (cOp2 subD (cVar 2) (cVar 4)) (cC (.int 1))))))) cNil)
    (cSeq (cIfS (cTruB (cOp2 (eqD false) (cVar 3) (cC (.int 2)))) (cRet (cSl (cOp2 mulD (cOp2 ixD (cLst (cConsA (cC (.str [97])) (cConsA (cC (.str [97, 98])) (cConsA (cC (.str [46])) (cConsA (cC (.str [97, 46])) cNilA))))) (cCall call "_law_draw" (cArgs 2 (cConsA (cVar 0) (cConsA (cC (.int 4)) cNilA))))) (cVar 2)) cNoPart (cPart (cVar 2)))) cNil)
    (cSeq (cSet 5 (cOp2 ixD (cLst (cConsA (cC (.str [97, 98, 46])) (cConsA (cC (.str [])) (cConsA (cC (.str [])) (cConsA (cC (.str [97, 98, 99, 100, 101, 102, 103, 104, 105, 106, 107, 108, 109, 110, 111, 112, 113, 114, 115, 116, 117, 118, 119, 120, 121, 122, 46])) cNilA))))) (cVar 3)))
    (cRet (cMt "str" isStrD joinD (cC (.str [])) (cConsA (cLc (cRng1 (cConsA (cVar 2) cNilA)) (gN 6) cYes (cOp2 ixD (cVar 5) (cCall call "_law_draw" (cArgs 2 (cConsA (cVar 0) (cConsA (cBlt lenD (cConsA (cVar 5) cNilA)) cNilA))))) [6]) cNilA)))))))))
def N__law_seen_two : List Str := ["bag", "most", "size", "lower", "upper", "hidden", "spoilt", "any_signs", "found", "place", "sign"]
def m__law_seen_two (call : Calls) : List D → Hd → R D := mkFn 11 2 ((cSeq (cSet 2 (cOp2 addD (cC (.int 1)) (cCall call "_law_draw" (cArgs 2 (cConsA (cVar 0) (cConsA (cVar 1) cNilA))))))
    (cSeq (cSet 3 (cCall call "_law_rim" (cArgs 2 (cConsA (cVar 0) (cConsA (cC (.int 9)) cNilA)))))
    (cSeq (cSet 4 (cCall call "_law_rim" (cArgs 2 (cConsA (cVar 0) (cConsA (cC (.int 9)) cNilA)))))
    (cSeq (cSet 5 (cOp2 ixD (cLst (cConsA (cC (.int 1)) (cConsA (cC (.int 3)) (cConsA (cC (.int 40)) cNilA)))) (cCall call "_law_draw" (cArgs 2 (cConsA (cVar 0) (cConsA (cC (.int 3)) cNilA))))))
    (cSeq (cSet 6 (cOp2 ixD (cLst (cConsA (cC (.int 0)) (cConsA (cC (.int 0)) (cConsA (cC (.int 30)) cNilA)))) (cCall call "_law_draw" (cArgs 2 (cConsA (cVar 0) (cConsA (cC (.int 3)) cNilA))))))
    (cSeq (cSet 7 (cOp2 (eqD false) (cCall call "_law_draw" (cArgs 2 (cConsA (cVar 0) (cConsA (cC (.int 6)) cNilA)))) (cC (.int 0))))
    (cSeq (cSet 8 (cC (.str [])))
    (cSeq (cFor (cRng1 (cConsA (cVar 2) cNilA)) (gN 9) (cSeq (cSet 10 (cOp2 ixD (cVar 4) (cOp2 modD (cVar 9) (cBlt lenD (cConsA (cVar 4) cNilA)))))
    (cSeq (cSet 10 (cIf (cTruB (cOp2 (eqD false) (cVar 10) (cC (.str [46])))) (cOp2 ixD (cVar 3) (cOp2 modD (cVar 9) (cBlt lenD (cConsA (cVar 3) cNilA)))) (cVar 10)))
    (cSeq (cIfS (cOrT (cTru (cVar 7)) (cAndT (cTruB (cOp2 gtD (cVar 6) (cC (.int 0)))) (cTruB (cOp2 (eqD false) (cCall call "_law_draw" (cArgs 2 (cConsA (cVar 0) (cConsA (cVar 6) cNilA)))) (cC (.int 0)))))) (cSet 10 (cOp2 ixD (cC (.str [97, 98, 46, 99])) (cCall call "_law_draw" (cArgs 2 (cConsA (cVar 0) (cConsA (cC (.int 4)) cNilA)))))) cNil)
    (cSet 8 (cOp2 addD (cVar 8) (cIf (cTruB (cOp2 gtD (cCall call "_law_draw" (cArgs 2 (cConsA (cVar 0) (cConsA (cOp2 addD (cVar 5) (cC (.int 1))) cNilA)))) (cC (.int 0)))) (cVar 10) (cC (.str [63])))))))))
    (cRet (cVar 8)))))))))))
def N__law_due : List Str := ["seen", "rim", "found", "place", "sign", "mark"]
def m__law_due (call : Calls) : List D → Hd → R D := mkFn 6 2 ((cSeq (cSet 2 (cC (.str [])))
    (cSeq (cFor (cEnum (cConsA (cVar 0) cNilA)) (gTupG 2 (gConsG (gN 3) (gConsG (gN 4) gNilG))) (cSeq (cSet 5 (cOp2 ixD (cVar 1) (cOp2 modD (cVar 3) (cBlt lenD (cConsA (cVar 1) cNilA)))))
    (cIfS (cTruB (cOp2 (eqD false) (cVar 5) (cC (.str [46])))) (cSet 2 (cOp2 addD (cVar 2) (cVar 4))) (cIfS (cTruB (cOp2 (inD false) (cVar 4) (cTup (cConsA (cVar 5) (cConsA (cC (.str [63])) cNilA))))) (cSet 2 (cOp2 addD (cVar 2) (cC (.str [63])))) (cRet (cC .non))))))
    (cRet (cVar 2)))))
def N__law_near : List Str := ["bag", "seen", "size", "rim", "at", "some"]
def m__law_near (call : Calls) : List D → Hd → R D := mkFn 6 3 ((cSeq (cSet 3 (cC (.str [])))
    (cSeq (cFor (cRng1 (cConsA (cVar 2) cNilA)) (gN 4) (cSeq (cSet 5 (cOp2 addD (cOp1 (replD 46 []) (cOp1 (replD 63 []) (cSlS (cVar 1) (cPart (cVar 4)) (cPart (cVar 2))))) (cC (.str [46]))))
    (cSet 3 (cOp2 addD (cVar 3) (cOp2 ixD (cLst (cConsA (cOp2 ixD (cVar 5) (cC (.int 0))) (cConsA (cC (.str [46])) (cConsA (cOp2 ixD (cVar 5) (cC (.int 0))) cNilA)))) (cCall call "_law_draw" (cArgs 2 (cConsA (cVar 0) (cConsA (cC (.int 3)) cNilA)))))))))
    (cRet (cVar 3)))))
def N_law : List Str := ["script", "bag", "turn", "seen", "rim", "due", "found"]
def m_law (call : Calls) : List D → Hd → R D := mkFn 7 1 ((cSeq (cSet 1 (cCall call "_law_bag" (cArgs 1 (cConsA (cVar 0) cNilA))))
    (cSeq (cFor (cRng1 (cConsA (cOp2 addD (cC (.int 3)) (cBlt minD (cConsA (cC (.int 6)) (cConsA (cBlt lenD (cConsA (cVar 0) cNilA)) cNilA)))) cNilA)) (gN 2) (cSeq (cSet 3 (cCall call "_law_seen_two" (cArgs 2 (cConsA (cVar 1) (cConsA (cOp2 ixD (cLst (cConsA (cC (.int 12)) (cConsA (cC (.int 60)) (cConsA (cC (.int 300)) cNilA)))) (cCall call "_law_draw" (cArgs 2 (cConsA (cVar 1) (cConsA (cC (.int 3)) cNilA))))) cNilA)))))
    (cSeq (cSet 4 (cCall call "_law_rim" (cArgs 2 (cConsA (cVar 1) (cConsA (cC (.int 60)) cNilA)))))
    (cSeq (cIfS (cTruB (cOp2 gtD (cCall call "_law_draw" (cArgs 2 (cConsA (cVar 1) (cConsA (cC (.int 4)) cNilA)))) (cC (.int 0)))) (cSet 4 (cCall call "_law_near" (cArgs 3 (cConsA (cVar 1) (cConsA (cVar 3) (cConsA (cOp2 addD (cC (.int 1)) (cCall call "_law_draw" (cArgs 2 (cConsA (cVar 1) (cConsA (cC (.int 20)) cNilA))))) cNilA)))))) cNil)
    (cSeq (cSet 5 (cCall call "_law_due" (cArgs 2 (cConsA (cVar 3) (cConsA (cVar 4) cNilA)))))
    (cSeq (cSet 6 (cCall call "beneath" (cArgs 2 (cConsA (cVar 3) (cConsA (cVar 4) cNilA)))))
    (cSeq (cIfS (cOrT (cTruB (cOp2 (eqD true) (cVar 6) (cVar 5))) (cAndT (cTruB (cOp2 (isNonD true) (cVar 5) (cC .non))) (cNotT (cTru (cBlt isiD (cConsA (cVar 6) (cConsA (cC (.ty "str")) cNilA))))))) (cRet (cC (.bl false))) cNil)
    (cSeq (cIfS (cAndT (cTruB (cOp2 (isNonD true) (cVar 5) (cC .non))) (cTruB (cOp2 (eqD true) (cCall call "beneath" (cArgs 2 (cConsA (cVar 6) (cConsA (cVar 4) cNilA)))) (cVar 5)))) (cRet (cC (.bl false))) cNil)
    (cIfS (cTruB (cOp2 (eqD true) (cCall call "beneath" (cArgs 2 (cConsA (cVar 3) (cConsA (cOp2 mulD (cC (.str [46])) (cOp2 addD (cC (.int 1)) (cCall call "_law_draw" (cArgs 2 (cConsA (cVar 1) (cConsA (cC (.int 9)) cNilA)))))) cNilA)))) (cVar 3))) (cRet (cC (.bl false))) cNil)))))))))
    (cRet (cC (.bl true))))))
def bod : Bod := progBod ++ [(("_law_bag" : Str), m__law_bag), (("_law_stir" : Str), m__law_stir), (("_law_draw" : Str), m__law_draw), (("_law_mixed" : Str), m__law_mixed), (("_law_rim" : Str), m__law_rim), (("_law_seen_two" : Str), m__law_seen_two), (("_law_due" : Str), m__law_due), (("_law_near" : Str), m__law_near), (("law" : Str), m_law)]
end L57
end Dn

set_option linter.all false
set_option maxRecDepth 100000
set_option maxHeartbeats 1000000
set_option autoImplicit false
/-! # The law of what stands beneath -/
namespace Dn
open PySem PySem.Spec Kx L2
def mb_near (call : Calls) : List D → Hd → R D := mkFn 6 3 ((cSeq (cSet 3 (cC (.str [])))
    (cSeq (cFor (cRng1 (cConsA (cVar 2) cNilA)) (gN 4) (cSeq (cSet 5 (cOp2 addD (cOp1 (replD 46 []) (cOp1 (replD 63 []) (cSlS (cVar 1) (cPart (cVar 4)) (cPart (cVar 2))))) (cC (.str [46]))))
    (cSet 3 (cOp2 addD (cVar 3) (cOp2 ixD (cLst (cConsA (cOp2 ixD (cVar 5) (cC (.int 0))) (cConsA (cC (.str [46])) (cConsA (cOp2 ixD (cVar 5) (cC (.int 0))) cNilA)))) (cCall call "_law_draw" (cArgs 2 (cConsA (cVar 0) (cConsA (cC (.int 3)) cNilA)))))))))
    (cRet (cVar 3)))))

section
variable {bod : Bod} {S : Hd} {Γ : Gm} {j n : Nat}
theorem step_mem {l : List Nat} {a k c : Nat} (h : c ∈ stepL l a k) : c ∈ l := by
  unfold stepL at h
  obtain ⟨i, _, h⟩ := List.mem_filterMap.mp h
  exact List.mem_of_getElem? h
theorem step_len {l : List Nat} {a k : Nat} : (stepL l a k).length ≤ l.length := by
  unfold stepL
  exact Nat.le_trans (List.length_filterMap_le _ _) (by rw [List.length_range]; exact Nat.le_refl _)
theorem drop_mem {c x : Nat} : ∀ {l : List Nat}, x ∈ repL c [] l → x ∈ l ∧ x ≠ c := fun {l} h => by
  unfold repL at h
  obtain ⟨d, hd, h⟩ := List.mem_flatMap.mp h
  by_cases e : d = c
  · rw [if_pos e] at h; cases h
  · rw [if_neg e] at h
    cases List.mem_singleton.mp h
    exact ⟨hd, e⟩
theorem drop_len {c : Nat} : ∀ {l : List Nat}, (repL c [] l).length ≤ l.length
  | [] => Nat.le_refl _
  | d :: r => by
    have e : repL c [] (d :: r) = (if d = c then [] else [d]) ++ repL c [] r := rfl
    have := drop_len (c := c) (l := r)
    rw [e]
    by_cases h : d = c
    · rw [if_pos h, List.nil_append, List.length_cons]; omega
    · rw [if_neg h, List.length_append, List.length_cons, List.length_cons, List.length_nil]; omega
def nearB (j : Nat) (bod : Bod) : CS := (cSeq (cSet 5 (cOp2 addD (cOp1 (replD 46 []) (cOp1 (replD 63 []) (cSlS (cVar 1) (cPart (cVar 4)) (cPart (cVar 2))))) (cC (.str [46]))))
    (cSet 3 (cOp2 addD (cVar 3) (cOp2 ixD (cLst (cConsA (cOp2 ixD (cVar 5) (cC (.int 0))) (cConsA (cC (.str [46])) (cConsA (cOp2 ixD (cVar 5) (cC (.int 0))) cNilA)))) (cCall (den bod j) "_law_draw" (cArgs 2 (cConsA (cVar 0) (cConsA (cC (.int 3)) cNilA))))))))
theorem nearB_ok (hl : HasBag bod) (hj : 2 ≤ j) {ns : List Int} {C : Nat} (h : BagS ns C S) (hC : C ≤ 900000) {x5 : Option D} {seen r : List Nat} (h1 : seen.length ≤ 300) (hs : seen.all skN = true) {at_ sz : Int} (a0 : 0 ≤ at_) (z0 : 0 < sz) (hr : r.length ≤ 1000) :
    ∃ (c : Nat) (y : Option D) (S' : Hd), mkN c = true ∧ BagS ns (C + 1) S' ∧ Keep S S' ∧ nearB j bod [some (.ref 2), some (.str seen), some (.int sz), some (.str r), some (.int at_), x5] S = .nx [some (.ref 2), some (.str seen), some (.int sz), some (.str (r ++ [c])), some (.int at_), y] S' := by
  obtain ⟨st, hst⟩ : ∃ st, st = stepL seen at_.toNat sz.toNat := ⟨_, rfl⟩
  have l1 : st.length ≤ 300 := by rw [hst]; exact Nat.le_trans step_len h1
  have e1 : slsD (some at_) (some sz) (.str seen) S = .ok (.str st) S := by
    unfold slsD
    dsimp only
    rw [if_pos ⟨a0, z0, by omega⟩, hst]
  have l2 : (repL 63 [] st).length ≤ 300 := Nat.le_trans drop_len l1
  have l3 : (repL 46 [] (repL 63 [] st)).length ≤ 300 := Nat.le_trans drop_len l2
  have e2 : replD 63 [] (.str st) S = .ok (.str (repL 63 [] st)) S := if_pos (by simp; omega)
  have e3 : replD 46 [] (.str (repL 63 [] st)) S = .ok (.str (repL 46 [] (repL 63 [] st))) S := if_pos (by simp; omega)
  obtain ⟨sm, hsm⟩ : ∃ sm, sm = repL 46 [] (repL 63 [] st) ++ [46] := ⟨_, rfl⟩
  have e4 : addD (.str (repL 46 [] (repL 63 [] st))) (.str [46]) S = .ok (.str sm) S := by rw [hsm]; exact xA (by simp; omega)
  have hm : ∀ c ∈ sm, mkN c = true := fun c hc => by
    rw [hsm] at hc
    rcases List.mem_append.mp hc with hc | hc
    · obtain ⟨h2, n2⟩ := drop_mem hc
      obtain ⟨h3, n3⟩ := drop_mem h2
      rw [hst] at h3
      have := List.all_eq_true.mp hs c (step_mem h3)
      unfold skN at this
      simpa [n3] using this
    · cases List.mem_singleton.mp hc
      rfl
  obtain ⟨c0, hc0, _, x0⟩ := xS (l := sm) (v := 0) (by rw [hsm]; simp; omega) (by decide) (by rw [hsm]; simp)
  obtain ⟨v, d, S1, hd, B1, K1, e5, x5'⟩ := pick_ok hl hj h (by omega) [.str [c0], .str [46], .str [c0]] (by simp) (by simp)
  obtain ⟨c, rfl, hc⟩ : ∃ c, d = .str [c] ∧ mkN c = true := by
    simp only [List.mem_cons, List.not_mem_nil, or_false] at hd
    rcases hd with rfl | rfl | rfl
    · exact ⟨_, rfl, hm _ hc0⟩
    · exact ⟨_, rfl, rfl⟩
    · exact ⟨_, rfl, hm _ hc0⟩
  have e5' : den bod j "_law_draw" [.ref 2, .int 3] (S ++ [.lst [.str [c0], .str [46], .str [c0]]]) = .ok (.int v) S1 := e5
  have e6 : addD (.str r) (.str [c]) S1 = .ok (.str (r ++ [c])) S1 := xA (by simp; omega)
  refine ⟨c, some (.str sm), S1, hc, B1, K1, ?_⟩
  unfold nearB
  simp only [v_bo, v_be, v_bi, v_so, v_se, v_si, v_tn, v_tr, v_te, v_ti, v_rn, v_rr, v_re, v_ri, v_gn, v_br, w_allS, v_gi, w_seq, w_set, w_ret, w_retN, w_exp, w_nil, w_ifS, w_truB, w_tru, w_notT, w_andT, w_orT, w_and, w_or, w_not, w_if, w_c, w_op1, w_op2, w_call, w_args, w_nilA, w_consA, w_tup, w_lst, w_blt, w_mt, w_raise, w_chain, w_asgT, k_si, k_ss, k_ii, k_ib, k_is, k_tl, k_tt, k_ll, k_lt, w_mk, cVar, mkFn, List.length_cons, List.length_nil, List.map_cons, List.map_nil, List.replicate, List.cons_append, List.nil_append, List.getElem?_cons_zero, List.getElem?_cons_succ, List.set_cons_zero, List.set_cons_succ, Nat.reduceAdd, Nat.reduceSub, Nat.reduceEqDiff, Nat.reduceLeDiff, if_true, if_false, truB, truD, leD, ltD, gtD, geD, cmpD, eqD, scE, subD, isiD, tyN, u_add,  gTupG, gConsG, gNilG, gN, seqAt, negD, decide_eq_true_eq, Bool.false_xor, Bool.true_xor, maxD, minD, intsD, isNonD, isNon, reduceIte, Bool.not_true, Bool.not_false, ite_true, ite_false, Bool.false_eq_true, decide_true, decide_false, Bool.false_or, Bool.true_or, Bool.or_true, Bool.or_false, cSlS, cPart, e1, e2, e3, e4, x0, alloc, e5', x5', e6]
theorem near_ok (hl : HasBag bod) (hn : bod.lookup ("_law_near" : Str) = some mb_near) (hj : 3 ≤ j) {ns : List Int} {C : Nat} (h : BagS ns C S) (hC : C ≤ 800000) {seen : List Nat} (h1 : seen.length ≤ 300) (hs : seen.all skN = true) {sz : Int} (z0 : 0 < sz) (z1 : sz ≤ 100) :
    ∃ (l : List Nat) (S' : Hd), BagS ns (C + 100) S' ∧ Keep S S' ∧ 0 < l.length ∧ l.length ≤ 100 ∧ l.all mkN = true ∧ den bod j "_law_near" [.ref 2, .str seen, .int sz] S = .ok (.str l) S' := by
  obtain ⟨j, rfl, hj2⟩ := one_of (n := 2) hj
  rw [den_eq hn]
  unfold mb_near
  have hsm : smI sz = true := by unfold smI; simp; omega
  let I : Nat → Gm → Hd → Prop := fun i Γ S' => ∃ (r : List Nat) (x y : Option D), Γ = [some (.ref 2), some (.str seen), some (.int sz), some (.str r), x, y] ∧ r.length = i ∧ r.all mkN = true ∧ BagS ns (C + i) S' ∧ Keep S S'
  have hlr : (rngL 0 sz.toNat).length = sz.toNat := by simp [rngL]
  obtain ⟨Γ', S', e7, r, x, y, rfl, ha, hb, B7, K7⟩ := cFor_inv (it := cRng1 (cConsA (cVar 2) cNilA)) (S0 := S) (S := S) (src := .base (.items (rngL 0 sz.toNat))) (g := gN 4) (b := nearB j bod) (Γ := [some (.ref 2), some (.str seen), some (.int sz), some (.str []), none, none]) (rngL 0 sz.toNat) I
    (by unfold cRng1; simp only [v_bo, v_be, v_bi, v_so, v_se, v_si, v_tn, v_tr, v_te, v_ti, v_rn, v_rr, v_re, v_ri, v_gn, v_br, w_allS, v_gi, w_seq, w_set, w_ret, w_retN, w_exp, w_nil, w_ifS, w_truB, w_tru, w_notT, w_andT, w_orT, w_and, w_or, w_not, w_if, w_c, w_op1, w_op2, w_call, w_args, w_nilA, w_consA, w_tup, w_lst, w_blt, w_mt, w_raise, w_chain, w_asgT, k_si, k_ss, k_ii, k_ib, k_is, k_tl, k_tt, k_ll, k_lt, w_mk, cVar, mkFn, List.length_cons, List.length_nil, List.map_cons, List.map_nil, List.replicate, List.cons_append, List.nil_append, List.getElem?_cons_zero, List.getElem?_cons_succ, List.set_cons_zero, List.set_cons_succ, Nat.reduceAdd, Nat.reduceSub, Nat.reduceEqDiff, Nat.reduceLeDiff, if_true, if_false, truB, truD, leD, ltD, gtD, geD, cmpD, eqD, scE, subD, isiD, tyN, u_add,  gTupG, gConsG, gNilG, gN, seqAt, negD, decide_eq_true_eq, Bool.false_xor, Bool.true_xor, maxD, minD, intsD, isNonD, isNon, reduceIte, Bool.not_true, Bool.not_false, ite_true, ite_false, Bool.false_eq_true, decide_true, decide_false, Bool.false_or, Bool.true_or, Bool.or_true, Bool.or_false, hsm]) (by rw [hlr]; omega) (fun i Γ S' _ _ => rfl)
    (fun i d Γ S' hd h => by
      obtain ⟨r, x, y, rfl, ha, hb, hB, hK⟩ := h
      have hi : i < sz.toNat := by
        have := (List.getElem?_eq_some_iff.mp hd).1
        rw [hlr] at this
        exact this
      have hdd : d = .int (0 + (i : Int)) := by
        unfold rngL at hd
        rw [List.getElem?_map, List.getElem?_range hi] at hd
        cases hd
        rfl
      subst hdd
      obtain ⟨c, z, S2', hc, hB2, hK2, e⟩ := nearB_ok (x5 := y) hl (show 2 ≤ j by omega) hB (by omega) h1 hs (at_ := 0 + (i : Int)) (sz := sz) (by omega) z0 (r := r) (by omega)
      exact ⟨_, _, _, _, rfl, .inl e, r ++ [c], _, _, rfl, by rw [List.length_append, ha]; rfl, by rw [List.all_append, hb]; simp [hc], hB2.mono (by omega), hK.trans hK2⟩) ⟨[], none, none, rfl, rfl, rfl, h, Keep.refl _⟩
  rw [hlr] at ha B7
  refine ⟨r, S', B7.mono (by omega), K7, by omega, by omega, hb, ?_⟩
  unfold nearB at e7
  simp only [v_bo, v_be, v_bi, v_so, v_se, v_si, v_tn, v_tr, v_te, v_ti, v_rn, v_rr, v_re, v_ri, v_gn, v_br, w_allS, v_gi, w_seq, w_set, w_ret, w_retN, w_exp, w_nil, w_ifS, w_truB, w_tru, w_notT, w_andT, w_orT, w_and, w_or, w_not, w_if, w_c, w_op1, w_op2, w_call, w_args, w_nilA, w_consA, w_tup, w_lst, w_blt, w_mt, w_raise, w_chain, w_asgT, k_si, k_ss, k_ii, k_ib, k_is, k_tl, k_tt, k_ll, k_lt, w_mk, cVar, mkFn, List.length_cons, List.length_nil, List.map_cons, List.map_nil, List.replicate, List.cons_append, List.nil_append, List.getElem?_cons_zero, List.getElem?_cons_succ, List.set_cons_zero, List.set_cons_succ, Nat.reduceAdd, Nat.reduceSub, Nat.reduceEqDiff, Nat.reduceLeDiff, if_true, if_false, truB, truD, leD, ltD, gtD, geD, cmpD, eqD, scE, subD, isiD, tyN, u_add,  gTupG, gConsG, gNilG, gN, seqAt, negD, decide_eq_true_eq, Bool.false_xor, Bool.true_xor, maxD, minD, intsD, isNonD, isNon, reduceIte, Bool.not_true, Bool.not_false, ite_true, ite_false, Bool.false_eq_true, decide_true, decide_false, Bool.false_or, Bool.true_or, Bool.or_true, Bool.or_false]
  rw [e7]
  simp only [v_bo, v_be, v_bi, v_so, v_se, v_si, v_tn, v_tr, v_te, v_ti, v_rn, v_rr, v_re, v_ri, v_gn, v_br, w_allS, v_gi, w_seq, w_set, w_ret, w_retN, w_exp, w_nil, w_ifS, w_truB, w_tru, w_notT, w_andT, w_orT, w_and, w_or, w_not, w_if, w_c, w_op1, w_op2, w_call, w_args, w_nilA, w_consA, w_tup, w_lst, w_blt, w_mt, w_raise, w_chain, w_asgT, k_si, k_ss, k_ii, k_ib, k_is, k_tl, k_tt, k_ll, k_lt, w_mk, cVar, mkFn, List.length_cons, List.length_nil, List.map_cons, List.map_nil, List.replicate, List.cons_append, List.nil_append, List.getElem?_cons_zero, List.getElem?_cons_succ, List.set_cons_zero, List.set_cons_succ, Nat.reduceAdd, Nat.reduceSub, Nat.reduceEqDiff, Nat.reduceLeDiff, if_true, if_false, truB, truD, leD, ltD, gtD, geD, cmpD, eqD, scE, subD, isiD, tyN, u_add,  gTupG, gConsG, gNilG, gN, seqAt, negD, decide_eq_true_eq, Bool.false_xor, Bool.true_xor, maxD, minD, intsD, isNonD, isNon, reduceIte, Bool.not_true, Bool.not_false, ite_true, ite_false, Bool.false_eq_true, decide_true, decide_false, Bool.false_or, Bool.true_or, Bool.or_true, Bool.or_false]
end
namespace L57
theorem hasBag : HasBag bod where
  b_bag := by kernel_rfl
  b_stir := by kernel_rfl
  b_draw := by kernel_rfl
theorem hp : HasProg bod := hasProg _
def lawB (j : Nat) (bod : Bod) : CS := (cSeq (cSet 3 (cCall (den bod j) "_law_seen_two" (cArgs 2 (cConsA (cVar 1) (cConsA (cOp2 ixD (cLst (cConsA (cC (.int 12)) (cConsA (cC (.int 60)) (cConsA (cC (.int 300)) cNilA)))) (cCall (den bod j) "_law_draw" (cArgs 2 (cConsA (cVar 1) (cConsA (cC (.int 3)) cNilA))))) cNilA)))))
    (cSeq (cSet 4 (cCall (den bod j) "_law_rim" (cArgs 2 (cConsA (cVar 1) (cConsA (cC (.int 60)) cNilA)))))
    (cSeq (cIfS (cTruB (cOp2 gtD (cCall (den bod j) "_law_draw" (cArgs 2 (cConsA (cVar 1) (cConsA (cC (.int 4)) cNilA)))) (cC (.int 0)))) (cSet 4 (cCall (den bod j) "_law_near" (cArgs 3 (cConsA (cVar 1) (cConsA (cVar 3) (cConsA (cOp2 addD (cC (.int 1)) (cCall (den bod j) "_law_draw" (cArgs 2 (cConsA (cVar 1) (cConsA (cC (.int 20)) cNilA))))) cNilA)))))) cNil)
    (cSeq (cSet 5 (cCall (den bod j) "_law_due" (cArgs 2 (cConsA (cVar 3) (cConsA (cVar 4) cNilA)))))
    (cSeq (cSet 6 (cCall (den bod j) "beneath" (cArgs 2 (cConsA (cVar 3) (cConsA (cVar 4) cNilA)))))
    (cSeq (cIfS (cOrT (cTruB (cOp2 (eqD true) (cVar 6) (cVar 5))) (cAndT (cTruB (cOp2 (isNonD true) (cVar 5) (cC .non))) (cNotT (cTru (cBlt isiD (cConsA (cVar 6) (cConsA (cC (.ty "str")) cNilA))))))) (cRet (cC (.bl false))) cNil)
    (cSeq (cIfS (cAndT (cTruB (cOp2 (isNonD true) (cVar 5) (cC .non))) (cTruB (cOp2 (eqD true) (cCall (den bod j) "beneath" (cArgs 2 (cConsA (cVar 6) (cConsA (cVar 4) cNilA)))) (cVar 5)))) (cRet (cC (.bl false))) cNil)
    (cIfS (cTruB (cOp2 (eqD true) (cCall (den bod j) "beneath" (cArgs 2 (cConsA (cVar 3) (cConsA (cOp2 mulD (cC (.str [46])) (cOp2 addD (cC (.int 1)) (cCall (den bod j) "_law_draw" (cArgs 2 (cConsA (cVar 1) (cConsA (cC (.int 9)) cNilA)))))) cNilA)))) (cVar 3))) (cRet (cC (.bl false))) cNil))))))))
theorem len0 {S : Hd} {ns : List Int} {o : Ob} (ho : o = Ob.lst (ns.map D.int) ∨ o = Ob.ro (ns.map D.int)) (h : S[0]? = some o) : lenD [.ref 0] S = .ok (.int ns.length) S := by
  unfold lenD
  dsimp only
  rw [h]
  rcases ho with rfl | rfl <;> simp
theorem eq_oD {S : Hd} (o : Option (List Nat)) : eqD true (oD o) (oD o) S = .ok (.bl false) S := by
  cases o with
  | none => rfl
  | some l =>
    unfold eqD oD
    simp [scE]
theorem lawB_ok {S : Hd} {j : Nat} (hj : 10 ≤ j) {ns : List Int} {C : Nat} (h : BagS ns C S) (hC : C ≤ 500000) {x0 x2 x3 x4 x5 x6 : Option D} :
    ∃ (y3 y4 y5 y6 : Option D) (S' : Hd), BagS ns (C + 4000) S' ∧ Keep S S' ∧ lawB j bod [x0, some (.ref 2), x2, x3, x4, x5, x6] S = .nx [x0, some (.ref 2), x2, y3, y4, y5, y6] S' := by
  have hl := hasBag
  obtain ⟨v1, d1, S1, i1, B1, K1, e1, q1⟩ := pick_ok hl (show 2 ≤ j by omega) h (by omega) [.int 12, .int 60, .int 300] (by decide) (by decide)
  obtain ⟨m, rfl, m0, m1⟩ : ∃ m : Int, d1 = .int m ∧ 0 < m ∧ m ≤ 300 := by
    simp only [List.mem_cons, List.not_mem_nil, or_false] at i1
    rcases i1 with rfl | rfl | rfl <;> exact ⟨_, rfl, by decide, by decide⟩
  have e1' : den bod j "_law_draw" [.ref 2, .int 3] (S ++ [.lst [.int 12, .int 60, .int 300]]) = .ok (.int v1) S1 := e1
  obtain ⟨seen, S2, B2, K2, s0, s1, hs, e2⟩ := seen2_ok (bod := bod) hl (by kernel_rfl) (by kernel_rfl) (show 4 ≤ j by omega) B1 (by omega) m0 m1
  obtain ⟨rim, S3, B3, K3, r0, r1, hr, e3⟩ := rim_okB (bod := bod) hl (by kernel_rfl) (show 3 ≤ j by omega) B2 (by omega) (m := 60) (by decide) (by decide)
  obtain ⟨v4, S4, a0, a1, B4, K4, e4⟩ := draw_okB hl (show 2 ≤ j by omega) B3 (by omega) (m := 4) (by decide) (by decide)
  obtain ⟨rm, S5, B5, K5, t0, t1, hrm, e5⟩ : ∃ (rm : List Nat) (S5 : Hd), BagS ns (C + 3000) S5 ∧ Keep S4 S5 ∧ 0 < rm.length ∧ rm.length ≤ 100 ∧ rm.all mkN = true ∧ (cIfS (cTruB (cOp2 gtD (cCall (den bod j) "_law_draw" (cArgs 2 (cConsA (cVar 1) (cConsA (cC (.int 4)) cNilA)))) (cC (.int 0)))) (cSet 4 (cCall (den bod j) "_law_near" (cArgs 3 (cConsA (cVar 1) (cConsA (cVar 3) (cConsA (cOp2 addD (cC (.int 1)) (cCall (den bod j) "_law_draw" (cArgs 2 (cConsA (cVar 1) (cConsA (cC (.int 20)) cNilA))))) cNilA)))))) cNil) [x0, some (.ref 2), x2, some (.str seen), some (.str rim), x5, x6] S3 = .nx [x0, some (.ref 2), x2, some (.str seen), some (.str rm), x5, x6] S5 := by
    by_cases hv : 0 < v4
    · obtain ⟨v6, S6, b0, b1, B6, K6, e6⟩ := draw_okB hl (show 2 ≤ j by omega) B4 (by omega) (m := 20) (by decide) (by decide)
      obtain ⟨rm, S7, B7, K7, t0, t1, hrm, e7⟩ := near_ok (bod := bod) hl (by kernel_rfl) (show 3 ≤ j by omega) B6 (by omega) (seen := seen) s1 hs (sz := 1 + v6) (by omega) (by omega)
      refine ⟨rm, S7, B7.mono (by omega), K6.trans K7, t0, t1, hrm, ?_⟩
      simp only [v_bo, v_be, v_bi, v_so, v_se, v_si, v_tn, v_tr, v_te, v_ti, v_rn, v_rr, v_re, v_ri, v_gn, v_br, w_allS, v_gi, w_seq, w_set, w_ret, w_retN, w_exp, w_nil, w_ifS, w_truB, w_tru, w_notT, w_andT, w_orT, w_and, w_or, w_not, w_if, w_c, w_op1, w_op2, w_call, w_args, w_nilA, w_consA, w_tup, w_lst, w_blt, w_mt, w_raise, w_chain, w_asgT, k_si, k_ss, k_ii, k_ib, k_is, k_tl, k_tt, k_ll, k_lt, w_mk, cVar, mkFn, List.length_cons, List.length_nil, List.map_cons, List.map_nil, List.replicate, List.cons_append, List.nil_append, List.getElem?_cons_zero, List.getElem?_cons_succ, List.set_cons_zero, List.set_cons_succ, Nat.reduceAdd, Nat.reduceSub, Nat.reduceEqDiff, Nat.reduceLeDiff, if_true, if_false, truB, truD, leD, ltD, gtD, geD, cmpD, eqD, scE, subD, isiD, tyN, u_add,  gTupG, gConsG, gNilG, gN, seqAt, negD, decide_eq_true_eq, Bool.false_xor, Bool.true_xor, maxD, minD, intsD, isNonD, isNon, reduceIte, Bool.not_true, Bool.not_false, ite_true, ite_false, Bool.false_eq_true, decide_true, decide_false, Bool.false_or, Bool.true_or, Bool.or_true, Bool.or_false, e4, eq_true hv, e6, e7]
    · refine ⟨rim, S4, B4.mono (by omega), Keep.refl _, r0, by omega, hr, ?_⟩
      simp only [v_bo, v_be, v_bi, v_so, v_se, v_si, v_tn, v_tr, v_te, v_ti, v_rn, v_rr, v_re, v_ri, v_gn, v_br, w_allS, v_gi, w_seq, w_set, w_ret, w_retN, w_exp, w_nil, w_ifS, w_truB, w_tru, w_notT, w_andT, w_orT, w_and, w_or, w_not, w_if, w_c, w_op1, w_op2, w_call, w_args, w_nilA, w_consA, w_tup, w_lst, w_blt, w_mt, w_raise, w_chain, w_asgT, k_si, k_ss, k_ii, k_ib, k_is, k_tl, k_tt, k_ll, k_lt, w_mk, cVar, mkFn, List.length_cons, List.length_nil, List.map_cons, List.map_nil, List.replicate, List.cons_append, List.nil_append, List.getElem?_cons_zero, List.getElem?_cons_succ, List.set_cons_zero, List.set_cons_succ, Nat.reduceAdd, Nat.reduceSub, Nat.reduceEqDiff, Nat.reduceLeDiff, if_true, if_false, truB, truD, leD, ltD, gtD, geD, cmpD, eqD, scE, subD, isiD, tyN, u_add,  gTupG, gConsG, gNilG, gN, seqAt, negD, decide_eq_true_eq, Bool.false_xor, Bool.true_xor, maxD, minD, intsD, isNonD, isNon, reduceIte, Bool.not_true, Bool.not_false, ite_true, ite_false, Bool.false_eq_true, decide_true, decide_false, Bool.false_or, Bool.true_or, Bool.or_true, Bool.or_false, e4, eq_false hv]
  have e8 := due_ok (bod := bod) (S := S5) (by kernel_rfl) (show 1 ≤ j by omega) seen rm (by omega) t0 (by omega)
  obtain ⟨S6, K6, k6, e9⟩ := beneath_ok (bod := bod) (S := S5) hp (show 4 ≤ j by omega) seen rm s0 (by omega) hs t0 (by omega) hrm
  have B6 := B5.keep2 K6 k6
  have eA : lawB j bod [x0, some (.ref 2), x2, x3, x4, x5, x6] S = (cSeq (cIfS (cOrT (cTruB (cOp2 (eqD true) (cVar 6) (cVar 5))) (cAndT (cTruB (cOp2 (isNonD true) (cVar 5) (cC .non))) (cNotT (cTru (cBlt isiD (cConsA (cVar 6) (cConsA (cC (.ty "str")) cNilA))))))) (cRet (cC (.bl false))) cNil) (cSeq (cIfS (cAndT (cTruB (cOp2 (isNonD true) (cVar 5) (cC .non))) (cTruB (cOp2 (eqD true) (cCall (den bod j) "beneath" (cArgs 2 (cConsA (cVar 6) (cConsA (cVar 4) cNilA)))) (cVar 5)))) (cRet (cC (.bl false))) cNil) (cIfS (cTruB (cOp2 (eqD true) (cCall (den bod j) "beneath" (cArgs 2 (cConsA (cVar 3) (cConsA (cOp2 mulD (cC (.str [46])) (cOp2 addD (cC (.int 1)) (cCall (den bod j) "_law_draw" (cArgs 2 (cConsA (cVar 1) (cConsA (cC (.int 9)) cNilA)))))) cNilA)))) (cVar 3))) (cRet (cC (.bl false))) cNil))) [x0, some (.ref 2), x2, some (.str seen), some (.str rm), some (oD (dueL rm 0 seen)), some (oD (dueL rm 0 seen))] S6 := by
    unfold lawB
    rw [w_seq, show (cSet 3 (cCall (den bod j) "_law_seen_two" (cArgs 2 (cConsA (cVar 1) (cConsA (cOp2 ixD (cLst (cConsA (cC (.int 12)) (cConsA (cC (.int 60)) (cConsA (cC (.int 300)) cNilA)))) (cCall (den bod j) "_law_draw" (cArgs 2 (cConsA (cVar 1) (cConsA (cC (.int 3)) cNilA))))) cNilA))))) [x0, some (.ref 2), x2, x3, x4, x5, x6] S = .nx [x0, some (.ref 2), x2, some (.str seen), x4, x5, x6] S2 by simp only [v_bo, v_be, v_bi, v_so, v_se, v_si, v_tn, v_tr, v_te, v_ti, v_rn, v_rr, v_re, v_ri, v_gn, v_br, w_allS, v_gi, w_seq, w_set, w_ret, w_retN, w_exp, w_nil, w_ifS, w_truB, w_tru, w_notT, w_andT, w_orT, w_and, w_or, w_not, w_if, w_c, w_op1, w_op2, w_call, w_args, w_nilA, w_consA, w_tup, w_lst, w_blt, w_mt, w_raise, w_chain, w_asgT, k_si, k_ss, k_ii, k_ib, k_is, k_tl, k_tt, k_ll, k_lt, w_mk, cVar, mkFn, List.length_cons, List.length_nil, List.map_cons, List.map_nil, List.replicate, List.cons_append, List.nil_append, List.getElem?_cons_zero, List.getElem?_cons_succ, List.set_cons_zero, List.set_cons_succ, Nat.reduceAdd, Nat.reduceSub, Nat.reduceEqDiff, Nat.reduceLeDiff, if_true, if_false, truB, truD, leD, ltD, gtD, geD, cmpD, eqD, scE, subD, isiD, tyN, u_add,  gTupG, gConsG, gNilG, gN, seqAt, negD, decide_eq_true_eq, Bool.false_xor, Bool.true_xor, maxD, minD, intsD, isNonD, isNon, reduceIte, Bool.not_true, Bool.not_false, ite_true, ite_false, Bool.false_eq_true, decide_true, decide_false, Bool.false_or, Bool.true_or, Bool.or_true, Bool.or_false, alloc, e1', q1, e2], v_tn,
      w_seq, show (cSet 4 (cCall (den bod j) "_law_rim" (cArgs 2 (cConsA (cVar 1) (cConsA (cC (.int 60)) cNilA))))) [x0, some (.ref 2), x2, some (.str seen), x4, x5, x6] S2 = .nx [x0, some (.ref 2), x2, some (.str seen), some (.str rim), x5, x6] S3 by simp only [v_bo, v_be, v_bi, v_so, v_se, v_si, v_tn, v_tr, v_te, v_ti, v_rn, v_rr, v_re, v_ri, v_gn, v_br, w_allS, v_gi, w_seq, w_set, w_ret, w_retN, w_exp, w_nil, w_ifS, w_truB, w_tru, w_notT, w_andT, w_orT, w_and, w_or, w_not, w_if, w_c, w_op1, w_op2, w_call, w_args, w_nilA, w_consA, w_tup, w_lst, w_blt, w_mt, w_raise, w_chain, w_asgT, k_si, k_ss, k_ii, k_ib, k_is, k_tl, k_tt, k_ll, k_lt, w_mk, cVar, mkFn, List.length_cons, List.length_nil, List.map_cons, List.map_nil, List.replicate, List.cons_append, List.nil_append, List.getElem?_cons_zero, List.getElem?_cons_succ, List.set_cons_zero, List.set_cons_succ, Nat.reduceAdd, Nat.reduceSub, Nat.reduceEqDiff, Nat.reduceLeDiff, if_true, if_false, truB, truD, leD, ltD, gtD, geD, cmpD, eqD, scE, subD, isiD, tyN, u_add,  gTupG, gConsG, gNilG, gN, seqAt, negD, decide_eq_true_eq, Bool.false_xor, Bool.true_xor, maxD, minD, intsD, isNonD, isNon, reduceIte, Bool.not_true, Bool.not_false, ite_true, ite_false, Bool.false_eq_true, decide_true, decide_false, Bool.false_or, Bool.true_or, Bool.or_true, Bool.or_false, e3], v_tn, w_seq, e5, v_tn,
      w_seq, show (cSet 5 (cCall (den bod j) "_law_due" (cArgs 2 (cConsA (cVar 3) (cConsA (cVar 4) cNilA))))) [x0, some (.ref 2), x2, some (.str seen), some (.str rm), x5, x6] S5 = .nx [x0, some (.ref 2), x2, some (.str seen), some (.str rm), some (oD (dueL rm 0 seen)), x6] S5 by simp only [v_bo, v_be, v_bi, v_so, v_se, v_si, v_tn, v_tr, v_te, v_ti, v_rn, v_rr, v_re, v_ri, v_gn, v_br, w_allS, v_gi, w_seq, w_set, w_ret, w_retN, w_exp, w_nil, w_ifS, w_truB, w_tru, w_notT, w_andT, w_orT, w_and, w_or, w_not, w_if, w_c, w_op1, w_op2, w_call, w_args, w_nilA, w_consA, w_tup, w_lst, w_blt, w_mt, w_raise, w_chain, w_asgT, k_si, k_ss, k_ii, k_ib, k_is, k_tl, k_tt, k_ll, k_lt, w_mk, cVar, mkFn, List.length_cons, List.length_nil, List.map_cons, List.map_nil, List.replicate, List.cons_append, List.nil_append, List.getElem?_cons_zero, List.getElem?_cons_succ, List.set_cons_zero, List.set_cons_succ, Nat.reduceAdd, Nat.reduceSub, Nat.reduceEqDiff, Nat.reduceLeDiff, if_true, if_false, truB, truD, leD, ltD, gtD, geD, cmpD, eqD, scE, subD, isiD, tyN, u_add,  gTupG, gConsG, gNilG, gN, seqAt, negD, decide_eq_true_eq, Bool.false_xor, Bool.true_xor, maxD, minD, intsD, isNonD, isNon, reduceIte, Bool.not_true, Bool.not_false, ite_true, ite_false, Bool.false_eq_true, decide_true, decide_false, Bool.false_or, Bool.true_or, Bool.or_true, Bool.or_false, e8], v_tn,
      w_seq, show (cSet 6 (cCall (den bod j) "beneath" (cArgs 2 (cConsA (cVar 3) (cConsA (cVar 4) cNilA))))) [x0, some (.ref 2), x2, some (.str seen), some (.str rm), some (oD (dueL rm 0 seen)), x6] S5 = .nx [x0, some (.ref 2), x2, some (.str seen), some (.str rm), some (oD (dueL rm 0 seen)), some (oD (dueL rm 0 seen))] S6 by simp only [v_bo, v_be, v_bi, v_so, v_se, v_si, v_tn, v_tr, v_te, v_ti, v_rn, v_rr, v_re, v_ri, v_gn, v_br, w_allS, v_gi, w_seq, w_set, w_ret, w_retN, w_exp, w_nil, w_ifS, w_truB, w_tru, w_notT, w_andT, w_orT, w_and, w_or, w_not, w_if, w_c, w_op1, w_op2, w_call, w_args, w_nilA, w_consA, w_tup, w_lst, w_blt, w_mt, w_raise, w_chain, w_asgT, k_si, k_ss, k_ii, k_ib, k_is, k_tl, k_tt, k_ll, k_lt, w_mk, cVar, mkFn, List.length_cons, List.length_nil, List.map_cons, List.map_nil, List.replicate, List.cons_append, List.nil_append, List.getElem?_cons_zero, List.getElem?_cons_succ, List.set_cons_zero, List.set_cons_succ, Nat.reduceAdd, Nat.reduceSub, Nat.reduceEqDiff, Nat.reduceLeDiff, if_true, if_false, truB, truD, leD, ltD, gtD, geD, cmpD, eqD, scE, subD, isiD, tyN, u_add,  gTupG, gConsG, gNilG, gN, seqAt, negD, decide_eq_true_eq, Bool.false_xor, Bool.true_xor, maxD, minD, intsD, isNonD, isNon, reduceIte, Bool.not_true, Bool.not_false, ite_true, ite_false, Bool.false_eq_true, decide_true, decide_false, Bool.false_or, Bool.true_or, Bool.or_true, Bool.or_false, e9], v_tn]
  -- the last comparison: beneath a wheel without marks
  have last : ∀ {S : Hd} {C : Nat} {x5 x6 : Option D}, BagS ns C S → C ≤ 900000 → ∃ S', BagS ns (C + 1) S' ∧ Keep S S' ∧ (cIfS (cTruB (cOp2 (eqD true) (cCall (den bod j) "beneath" (cArgs 2 (cConsA (cVar 3) (cConsA (cOp2 mulD (cC (.str [46])) (cOp2 addD (cC (.int 1)) (cCall (den bod j) "_law_draw" (cArgs 2 (cConsA (cVar 1) (cConsA (cC (.int 9)) cNilA)))))) cNilA)))) (cVar 3))) (cRet (cC (.bl false))) cNil) [x0, some (.ref 2), x2, some (.str seen), some (.str rm), x5, x6] S = .nx [x0, some (.ref 2), x2, some (.str seen), some (.str rm), x5, x6] S' := fun {S C x5 x6} h hC => by
    obtain ⟨v, S1, c0, c1, B1, K1, e1⟩ := draw_okB hl (show 2 ≤ j by omega) h (by omega) (m := 9) (by decide) (by decide)
    have m1 : mulD (.str [46]) (.int (1 + v)) S1 = .ok (.str (List.replicate (1 + v).toNat 46)) S1 := by rw [xM (by omega) (by omega) (by decide), rep1]
    obtain ⟨S2, K2, k2, e2⟩ := beneath_ok (bod := bod) (S := S1) hp (show 4 ≤ j by omega) seen (List.replicate (1 + v).toNat 46) s0 (by omega) hs (by simp; omega) (by simp; omega) all_rep
    have hd : dueL (List.replicate (1 + v).toNat 46) 0 seen = some seen := due_dots (fun k => by
      rw [List.getD_eq_getElem?_getD, List.getElem?_replicate]
      split <;> rfl) seen 0
    rw [hd] at e2
    refine ⟨S2, B1.keep2 K2 k2, K1.trans K2, ?_⟩
    simp only [v_bo, v_be, v_bi, v_so, v_se, v_si, v_tn, v_tr, v_te, v_ti, v_rn, v_rr, v_re, v_ri, v_gn, v_br, w_allS, v_gi, w_seq, w_set, w_ret, w_retN, w_exp, w_nil, w_ifS, w_truB, w_tru, w_notT, w_andT, w_orT, w_and, w_or, w_not, w_if, w_c, w_op1, w_op2, w_call, w_args, w_nilA, w_consA, w_tup, w_lst, w_blt, w_mt, w_raise, w_chain, w_asgT, k_si, k_ss, k_ii, k_ib, k_is, k_tl, k_tt, k_ll, k_lt, w_mk, cVar, mkFn, List.length_cons, List.length_nil, List.map_cons, List.map_nil, List.replicate, List.cons_append, List.nil_append, List.getElem?_cons_zero, List.getElem?_cons_succ, List.set_cons_zero, List.set_cons_succ, Nat.reduceAdd, Nat.reduceSub, Nat.reduceEqDiff, Nat.reduceLeDiff, if_true, if_false, truB, truD, leD, ltD, gtD, geD, cmpD, eqD, scE, subD, isiD, tyN, u_add,  gTupG, gConsG, gNilG, gN, seqAt, negD, decide_eq_true_eq, Bool.false_xor, Bool.true_xor, maxD, minD, intsD, isNonD, isNon, reduceIte, Bool.not_true, Bool.not_false, ite_true, ite_false, Bool.false_eq_true, decide_true, decide_false, Bool.false_or, Bool.true_or, Bool.or_true, Bool.or_false, e1, m1, e2, oD]
  cases hdue : dueL rm 0 seen with
  | none =>
    rw [hdue] at eA
    obtain ⟨S7, B7, K7, e7⟩ := last (x5 := some (oD none)) (x6 := some (oD none)) B6 (by omega)
    refine ⟨some (.str seen), some (.str rm), some (oD none), some (oD none), S7, B7.mono (by omega), (((((K1.trans K2).trans K3).trans K4).trans K5).trans K6).trans K7, ?_⟩
    rw [eA, w_seq, show (cIfS (cOrT (cTruB (cOp2 (eqD true) (cVar 6) (cVar 5))) (cAndT (cTruB (cOp2 (isNonD true) (cVar 5) (cC .non))) (cNotT (cTru (cBlt isiD (cConsA (cVar 6) (cConsA (cC (.ty "str")) cNilA))))))) (cRet (cC (.bl false))) cNil) [x0, some (.ref 2), x2, some (.str seen), some (.str rm), some (oD none), some (oD none)] S6 = .nx [x0, some (.ref 2), x2, some (.str seen), some (.str rm), some (oD none), some (oD none)] S6 by simp only [v_bo, v_be, v_bi, v_so, v_se, v_si, v_tn, v_tr, v_te, v_ti, v_rn, v_rr, v_re, v_ri, v_gn, v_br, w_allS, v_gi, w_seq, w_set, w_ret, w_retN, w_exp, w_nil, w_ifS, w_truB, w_tru, w_notT, w_andT, w_orT, w_and, w_or, w_not, w_if, w_c, w_op1, w_op2, w_call, w_args, w_nilA, w_consA, w_tup, w_lst, w_blt, w_mt, w_raise, w_chain, w_asgT, k_si, k_ss, k_ii, k_ib, k_is, k_tl, k_tt, k_ll, k_lt, w_mk, cVar, mkFn, List.length_cons, List.length_nil, List.map_cons, List.map_nil, List.replicate, List.cons_append, List.nil_append, List.getElem?_cons_zero, List.getElem?_cons_succ, List.set_cons_zero, List.set_cons_succ, Nat.reduceAdd, Nat.reduceSub, Nat.reduceEqDiff, Nat.reduceLeDiff, if_true, if_false, truB, truD, leD, ltD, gtD, geD, cmpD, eqD, scE, subD, isiD, tyN, u_add,  gTupG, gConsG, gNilG, gN, seqAt, negD, decide_eq_true_eq, Bool.false_xor, Bool.true_xor, maxD, minD, intsD, isNonD, isNon, reduceIte, Bool.not_true, Bool.not_false, ite_true, ite_false, Bool.false_eq_true, decide_true, decide_false, Bool.false_or, Bool.true_or, Bool.or_true, Bool.or_false, oD], v_tn,
      w_seq, show (cIfS (cAndT (cTruB (cOp2 (isNonD true) (cVar 5) (cC .non))) (cTruB (cOp2 (eqD true) (cCall (den bod j) "beneath" (cArgs 2 (cConsA (cVar 6) (cConsA (cVar 4) cNilA)))) (cVar 5)))) (cRet (cC (.bl false))) cNil) [x0, some (.ref 2), x2, some (.str seen), some (.str rm), some (oD none), some (oD none)] S6 = .nx [x0, some (.ref 2), x2, some (.str seen), some (.str rm), some (oD none), some (oD none)] S6 by simp only [v_bo, v_be, v_bi, v_so, v_se, v_si, v_tn, v_tr, v_te, v_ti, v_rn, v_rr, v_re, v_ri, v_gn, v_br, w_allS, v_gi, w_seq, w_set, w_ret, w_retN, w_exp, w_nil, w_ifS, w_truB, w_tru, w_notT, w_andT, w_orT, w_and, w_or, w_not, w_if, w_c, w_op1, w_op2, w_call, w_args, w_nilA, w_consA, w_tup, w_lst, w_blt, w_mt, w_raise, w_chain, w_asgT, k_si, k_ss, k_ii, k_ib, k_is, k_tl, k_tt, k_ll, k_lt, w_mk, cVar, mkFn, List.length_cons, List.length_nil, List.map_cons, List.map_nil, List.replicate, List.cons_append, List.nil_append, List.getElem?_cons_zero, List.getElem?_cons_succ, List.set_cons_zero, List.set_cons_succ, Nat.reduceAdd, Nat.reduceSub, Nat.reduceEqDiff, Nat.reduceLeDiff, if_true, if_false, truB, truD, leD, ltD, gtD, geD, cmpD, eqD, scE, subD, isiD, tyN, u_add,  gTupG, gConsG, gNilG, gN, seqAt, negD, decide_eq_true_eq, Bool.false_xor, Bool.true_xor, maxD, minD, intsD, isNonD, isNon, reduceIte, Bool.not_true, Bool.not_false, ite_true, ite_false, Bool.false_eq_true, decide_true, decide_false, Bool.false_or, Bool.true_or, Bool.or_true, Bool.or_false, oD], v_tn, e7]
  | some r =>
    rw [hdue] at eA
    have hlen := due_len hdue
    obtain ⟨S8, K8, k8, e8⟩ := beneath_ok (bod := bod) (S := S6) hp (show 4 ≤ j by omega) r rm (by omega) (by omega) (due_all hdue hs) t0 (by omega) hrm
    rw [due_again hdue] at e8
    have B8 := B6.keep2 K8 k8
    obtain ⟨S7, B7, K7, e7⟩ := last (x5 := some (oD (some r))) (x6 := some (oD (some r))) B8 (by omega)
    refine ⟨some (.str seen), some (.str rm), some (oD (some r)), some (oD (some r)), S7, B7.mono (by omega), ((((((K1.trans K2).trans K3).trans K4).trans K5).trans K6).trans K8).trans K7, ?_⟩
    rw [eA, w_seq, show (cIfS (cOrT (cTruB (cOp2 (eqD true) (cVar 6) (cVar 5))) (cAndT (cTruB (cOp2 (isNonD true) (cVar 5) (cC .non))) (cNotT (cTru (cBlt isiD (cConsA (cVar 6) (cConsA (cC (.ty "str")) cNilA))))))) (cRet (cC (.bl false))) cNil) [x0, some (.ref 2), x2, some (.str seen), some (.str rm), some (oD (some r)), some (oD (some r))] S6 = .nx [x0, some (.ref 2), x2, some (.str seen), some (.str rm), some (oD (some r)), some (oD (some r))] S6 by simp only [v_bo, v_be, v_bi, v_so, v_se, v_si, v_tn, v_tr, v_te, v_ti, v_rn, v_rr, v_re, v_ri, v_gn, v_br, w_allS, v_gi, w_seq, w_set, w_ret, w_retN, w_exp, w_nil, w_ifS, w_truB, w_tru, w_notT, w_andT, w_orT, w_and, w_or, w_not, w_if, w_c, w_op1, w_op2, w_call, w_args, w_nilA, w_consA, w_tup, w_lst, w_blt, w_mt, w_raise, w_chain, w_asgT, k_si, k_ss, k_ii, k_ib, k_is, k_tl, k_tt, k_ll, k_lt, w_mk, cVar, mkFn, List.length_cons, List.length_nil, List.map_cons, List.map_nil, List.replicate, List.cons_append, List.nil_append, List.getElem?_cons_zero, List.getElem?_cons_succ, List.set_cons_zero, List.set_cons_succ, Nat.reduceAdd, Nat.reduceSub, Nat.reduceEqDiff, Nat.reduceLeDiff, if_true, if_false, truB, truD, leD, ltD, gtD, geD, cmpD, eqD, scE, subD, isiD, tyN, u_add,  gTupG, gConsG, gNilG, gN, seqAt, negD, decide_eq_true_eq, Bool.false_xor, Bool.true_xor, maxD, minD, intsD, isNonD, isNon, reduceIte, Bool.not_true, Bool.not_false, ite_true, ite_false, Bool.false_eq_true, decide_true, decide_false, Bool.false_or, Bool.true_or, Bool.or_true, Bool.or_false, oD], v_tn,
      w_seq, show (cIfS (cAndT (cTruB (cOp2 (isNonD true) (cVar 5) (cC .non))) (cTruB (cOp2 (eqD true) (cCall (den bod j) "beneath" (cArgs 2 (cConsA (cVar 6) (cConsA (cVar 4) cNilA)))) (cVar 5)))) (cRet (cC (.bl false))) cNil) [x0, some (.ref 2), x2, some (.str seen), some (.str rm), some (oD (some r)), some (oD (some r))] S6 = .nx [x0, some (.ref 2), x2, some (.str seen), some (.str rm), some (oD (some r)), some (oD (some r))] S8 by simp only [v_bo, v_be, v_bi, v_so, v_se, v_si, v_tn, v_tr, v_te, v_ti, v_rn, v_rr, v_re, v_ri, v_gn, v_br, w_allS, v_gi, w_seq, w_set, w_ret, w_retN, w_exp, w_nil, w_ifS, w_truB, w_tru, w_notT, w_andT, w_orT, w_and, w_or, w_not, w_if, w_c, w_op1, w_op2, w_call, w_args, w_nilA, w_consA, w_tup, w_lst, w_blt, w_mt, w_raise, w_chain, w_asgT, k_si, k_ss, k_ii, k_ib, k_is, k_tl, k_tt, k_ll, k_lt, w_mk, cVar, mkFn, List.length_cons, List.length_nil, List.map_cons, List.map_nil, List.replicate, List.cons_append, List.nil_append, List.getElem?_cons_zero, List.getElem?_cons_succ, List.set_cons_zero, List.set_cons_succ, Nat.reduceAdd, Nat.reduceSub, Nat.reduceEqDiff, Nat.reduceLeDiff, if_true, if_false, truB, truD, leD, ltD, gtD, geD, cmpD, eqD, scE, subD, isiD, tyN, u_add,  gTupG, gConsG, gNilG, gN, seqAt, negD, decide_eq_true_eq, Bool.false_xor, Bool.true_xor, maxD, minD, intsD, isNonD, isNon, reduceIte, Bool.not_true, Bool.not_false, ite_true, ite_false, Bool.false_eq_true, decide_true, decide_false, Bool.false_or, Bool.true_or, Bool.or_true, Bool.or_false, oD, e8], v_tn, e7]
theorem pure57 : Dn.Pure L57.bod 30 := fun ns hn o ho => by
  show ∃ S, den bod (29 + 1) "law" [.ref 0] [o] = .ok (.bl true) S
  rw [den_eq (m := m_law) (by kernel_rfl)]
  unfold m_law
  obtain ⟨S1, e1, B1, z1⟩ := bag_ok hasBag (show 1 ≤ 29 by decide) ns hn o ho
  have hln := len0 ho z1
  obtain ⟨q, hq, q9⟩ : ∃ q : Int, q = 3 + (if (ns.length : Int) < 6 then (ns.length : Int) else 6) ∧ 0 ≤ q ∧ q ≤ 9 := ⟨_, rfl, by split <;> omega, by split <;> omega⟩
  have hsm : smI q = true := by unfold smI; simp; omega
  let I : Nat → Gm → Hd → Prop := fun i Γ S' => ∃ (x2 x3 x4 x5 x6 : Option D), Γ = [some (.ref 0), some (.ref 2), x2, x3, x4, x5, x6] ∧ BagS ns (4000 * i) S'
  have hlr : (rngL 0 q.toNat).length = q.toNat := by simp [rngL]
  obtain ⟨Γ', S', e7, x2, x3, x4, x5, x6, rfl, B7⟩ := cFor_inv (it := (cRng1 (cConsA (cOp2 addD (cC (.int 3)) (cBlt minD (cConsA (cC (.int 6)) (cConsA (cBlt lenD (cConsA (cVar 0) cNilA)) cNilA)))) cNilA))) (S0 := S1) (S := S1) (src := .base (.items (rngL 0 q.toNat))) (g := gN 2) (b := lawB 29 bod) (Γ := [some (.ref 0), some (.ref 2), none, none, none, none, none]) (rngL 0 q.toNat) I
    (by unfold cRng1; simp only [v_bo, v_be, v_bi, v_so, v_se, v_si, v_tn, v_tr, v_te, v_ti, v_rn, v_rr, v_re, v_ri, v_gn, v_br, w_allS, v_gi, w_seq, w_set, w_ret, w_retN, w_exp, w_nil, w_ifS, w_truB, w_tru, w_notT, w_andT, w_orT, w_and, w_or, w_not, w_if, w_c, w_op1, w_op2, w_call, w_args, w_nilA, w_consA, w_tup, w_lst, w_blt, w_mt, w_raise, w_chain, w_asgT, k_si, k_ss, k_ii, k_ib, k_is, k_tl, k_tt, k_ll, k_lt, w_mk, cVar, mkFn, List.length_cons, List.length_nil, List.map_cons, List.map_nil, List.replicate, List.cons_append, List.nil_append, List.getElem?_cons_zero, List.getElem?_cons_succ, List.set_cons_zero, List.set_cons_succ, Nat.reduceAdd, Nat.reduceSub, Nat.reduceEqDiff, Nat.reduceLeDiff, if_true, if_false, truB, truD, leD, ltD, gtD, geD, cmpD, eqD, scE, subD, isiD, tyN, u_add,  gTupG, gConsG, gNilG, gN, seqAt, negD, decide_eq_true_eq, Bool.false_xor, Bool.true_xor, maxD, minD, intsD, isNonD, isNon, reduceIte, Bool.not_true, Bool.not_false, ite_true, ite_false, Bool.false_eq_true, decide_true, decide_false, Bool.false_or, Bool.true_or, Bool.or_true, Bool.or_false, hln, ← hq, hsm]) (by rw [hlr]; omega) (fun i Γ S' _ _ => rfl)
    (fun i d Γ S' hd h => by
      obtain ⟨x2, x3, x4, x5, x6, rfl, hB⟩ := h
      have hi : i < q.toNat := by
        have := (List.getElem?_eq_some_iff.mp hd).1
        rw [hlr] at this
        exact this
      obtain ⟨y3, y4, y5, y6, S2', hB2, hK2, e⟩ := lawB_ok (x0 := some (.ref 0)) (x2 := some d) (x3 := x3) (x4 := x4) (x5 := x5) (x6 := x6) (show 10 ≤ 29 by decide) hB (by omega)
      exact ⟨_, _, _, _, rfl, .inl e, _, _, _, _, _, rfl, hB2.mono (by omega)⟩) ⟨none, none, none, none, none, rfl, B1⟩
  refine ⟨S', ?_⟩
  unfold lawB at e7
  rw [w_mk 7 1 _ [.ref 0] rfl, w_seq]
  rw [show (cSet 1 (cCall (den bod 29) "_law_bag" (cArgs 1 (cConsA (cVar 0) cNilA)))) ([D.ref 0].map some ++ List.replicate (7 - 1) none) [o] = .nx [some (.ref 0), some (.ref 2), none, none, none, none, none] S1 by simp only [v_bo, v_be, v_bi, v_so, v_se, v_si, v_tn, v_tr, v_te, v_ti, v_rn, v_rr, v_re, v_ri, v_gn, v_br, w_allS, v_gi, w_seq, w_set, w_ret, w_retN, w_exp, w_nil, w_ifS, w_truB, w_tru, w_notT, w_andT, w_orT, w_and, w_or, w_not, w_if, w_c, w_op1, w_op2, w_call, w_args, w_nilA, w_consA, w_tup, w_lst, w_blt, w_mt, w_raise, w_chain, w_asgT, k_si, k_ss, k_ii, k_ib, k_is, k_tl, k_tt, k_ll, k_lt, w_mk, cVar, mkFn, List.length_cons, List.length_nil, List.map_cons, List.map_nil, List.replicate, List.cons_append, List.nil_append, List.getElem?_cons_zero, List.getElem?_cons_succ, List.set_cons_zero, List.set_cons_succ, Nat.reduceAdd, Nat.reduceSub, Nat.reduceEqDiff, Nat.reduceLeDiff, if_true, if_false, truB, truD, leD, ltD, gtD, geD, cmpD, eqD, scE, subD, isiD, tyN, u_add,  gTupG, gConsG, gNilG, gN, seqAt, negD, decide_eq_true_eq, Bool.false_xor, Bool.true_xor, maxD, minD, intsD, isNonD, isNon, reduceIte, Bool.not_true, Bool.not_false, ite_true, ite_false, Bool.false_eq_true, decide_true, decide_false, Bool.false_or, Bool.true_or, Bool.or_true, Bool.or_false, e1], v_tn, w_seq, e7]
  simp only [v_bo, v_be, v_bi, v_so, v_se, v_si, v_tn, v_tr, v_te, v_ti, v_rn, v_rr, v_re, v_ri, v_gn, v_br, w_allS, v_gi, w_seq, w_set, w_ret, w_retN, w_exp, w_nil, w_ifS, w_truB, w_tru, w_notT, w_andT, w_orT, w_and, w_or, w_not, w_if, w_c, w_op1, w_op2, w_call, w_args, w_nilA, w_consA, w_tup, w_lst, w_blt, w_mt, w_raise, w_chain, w_asgT, k_si, k_ss, k_ii, k_ib, k_is, k_tl, k_tt, k_ll, k_lt, w_mk, cVar, mkFn, List.length_cons, List.length_nil, List.map_cons, List.map_nil, List.replicate, List.cons_append, List.nil_append, List.getElem?_cons_zero, List.getElem?_cons_succ, List.set_cons_zero, List.set_cons_succ, Nat.reduceAdd, Nat.reduceSub, Nat.reduceEqDiff, Nat.reduceLeDiff, if_true, if_false, truB, truD, leD, ltD, gtD, geD, cmpD, eqD, scE, subD, isiD, tyN, u_add,  gTupG, gConsG, gNilG, gN, seqAt, negD, decide_eq_true_eq, Bool.false_xor, Bool.true_xor, maxD, minD, intsD, isNonD, isNon, reduceIte, Bool.not_true, Bool.not_false, ite_true, ite_false, Bool.false_eq_true, decide_true, decide_false, Bool.false_or, Bool.true_or, Bool.or_true, Bool.or_false]
end L57
end Dn

set_option linter.all false
set_option maxRecDepth 100000
set_option maxHeartbeats 1000000
set_option autoImplicit false
/-! # One wheel: the rim of a length, the lengths -/
namespace Dn
open PySem PySem.Spec Kx L2

/-- all objects stay; new ones -/
def Gro (S S' : Hd) : Prop := S.length ≤ S'.length ∧ ∀ (k : Nat) (o : Ob), S[k]? = some o → S'[k]? = some o
theorem Gro.refl (S : Hd) : Gro S S := ⟨Nat.le_refl _, fun _ _ h => h⟩
theorem Gro.trans {S S1 S2 : Hd} (a : Gro S S1) (b : Gro S1 S2) : Gro S S2 := ⟨Nat.le_trans a.1 b.1, fun k o h => b.2 k o (a.2 k o h)⟩
theorem Gro.push (S : Hd) (o : Ob) : Gro S (S ++ [o]) := ⟨by simp, fun _ _ h => get_push h⟩
theorem Gro.keep {S S' : Hd} (g : Gro S S') : Keep S S' := ⟨g.1, fun k o _ h => g.2 k o h⟩
theorem BagS.gro {ns : List Int} {C : Nat} {S S' : Hd} (h : BagS ns C S) (g : Gro S S') : BagS ns C S' := by
  obtain ⟨i, b, c, t, h1, h2, h3⟩ := h
  exact ⟨i, b, c, t, g.2 _ _ h1, g.2 _ _ h2, h3⟩
/-- a new object of one's own written -/
theorem Gro.own {S S' : Hd} {n : Nat} {o : Ob} (g : Gro S S') (h : S.length ≤ n) : Gro S (S'.set n o) := ⟨by rw [List.length_set]; exact g.1, fun k q e => by
  have := (List.getElem?_eq_some_iff.mp e).1
  rw [List.getElem?_set_ne (by omega)]
  exact g.2 k q e⟩
section
variable {bod : Bod} {S : Hd} {Γ : Gm} {j n : Nat}
theorem smI_ok {i : Int} (h0 : 0 ≤ i) (h1 : i ≤ 100000) : smI i = true := by
  unfold smI
  rw [decide_eq_true (show (-4611686018427387904 : Int) ≤ i by omega), decide_eq_true (show i < (4611686018427387904 : Int) by omega)]
  rfl
theorem w_callO (call : Calls) (x : Str) (is : List Int) (ms : CA) : cCallO call x is ms Γ S = (ms Γ S).bind fun ds S1 => call x (ds ++ is.map D.int) S1 := rfl
/-- what is seen of a rim's place -/
def sn (l : List Nat) (a k : Nat) : List Nat := repL 63 [] (stepL l a k)
theorem rep_mem {c x : Nat} {l : List Nat} : x ∈ repL c [] l ↔ x ∈ l ∧ x ≠ c := by
  unfold repL
  rw [List.mem_flatMap]
  constructor
  · rintro ⟨d, hd, h⟩
    by_cases e : d = c
    · rw [if_pos e] at h; cases h
    · rw [if_neg e] at h
      cases List.mem_singleton.mp h
      exact ⟨hd, e⟩
  · rintro ⟨h, e⟩
    exact ⟨x, h, by rw [if_neg e]; exact List.mem_singleton.mpr rfl⟩
theorem rep_len {c : Nat} : ∀ {l : List Nat}, (repL c [] l).length ≤ l.length
  | [] => Nat.le_refl _
  | d :: r => by
    have e : repL c [] (d :: r) = (if d = c then [] else [d]) ++ repL c [] r := rfl
    have := rep_len (c := c) (l := r)
    rw [e]
    by_cases h : d = c
    · rw [if_pos h, List.nil_append, List.length_cons]; omega
    · rw [if_neg h, List.length_append, List.length_cons, List.length_cons, List.length_nil]; omega
theorem stp_mem {l : List Nat} {a k c : Nat} (hk : 0 < k) : c ∈ stepL l a k ↔ ∃ i, l[a + k * i]? = some c := by
  unfold stepL
  rw [List.mem_filterMap]
  constructor
  · rintro ⟨i, _, h⟩; exact ⟨i, h⟩
  · rintro ⟨i, h⟩
    have hi := (List.getElem?_eq_some_iff.mp h).1
    have : i ≤ k * i := Nat.le_mul_of_pos_left i hk
    exact ⟨i, List.mem_range.mpr (by omega), h⟩
theorem stp_len {l : List Nat} {a k : Nat} : (stepL l a k).length ≤ l.length := by
  unfold stepL
  exact Nat.le_trans (List.length_filterMap_le _ _) (by rw [List.length_range]; exact Nat.le_refl _)
theorem sn_mem {l : List Nat} {a k c : Nat} (hk : 0 < k) : c ∈ sn l a k ↔ ∃ i, l[a + k * i]? = some c ∧ c ≠ 63 := by
  unfold sn
  rw [rep_mem, stp_mem hk]
  constructor
  · rintro ⟨⟨i, h⟩, e⟩; exact ⟨i, h, e⟩
  · rintro ⟨i, h, e⟩; exact ⟨⟨i, h⟩, e⟩
theorem sn_len {l : List Nat} {a k : Nat} : (sn l a k).length ≤ l.length := Nat.le_trans rep_len stp_len
theorem sn_mk {l : List Nat} {a k c : Nat} (hk : 0 < k) (ha : l.all skN = true) (h : c ∈ sn l a k) : mkN c = true := by
  obtain ⟨i, h1, h2⟩ := (sn_mem hk).mp h
  have := List.all_eq_true.mp ha c (List.mem_of_getElem? h1)
  unfold skN at this
  simpa [h2] using this
theorem sgn_nodup (l : List Nat) : (sgn l).Nodup := (sgn_lt l).imp fun h => by omega
theorem sgn_few {t : List Nat} (ha : ∀ c ∈ t, mkN c = true) : (sgn t).length < 64 := by
  have h := nodup_le (sgn_nodup t) (m := 46 :: List.range' 97 26) fun c hc => by
    have hm := ha c (sgn_mem.mp hc)
    unfold mkN mk at hm
    simp only [Bool.or_eq_true, Bool.and_eq_true, decide_eq_true_eq, beq_iff_eq] at hm
    rw [List.mem_cons, List.mem_range'_1]
    omega
  have : (46 :: List.range' 97 26).length = 27 := by decide
  omega
theorem seen_of_ok (hp : HasProg bod) (hj : 1 ≤ j) (l : List Nat) (hl : l.length ≤ 1000) {a k : Int} (a0 : 0 ≤ a) (k0 : 0 < k) : den bod j "seen_of" [.str l, .int a, .int k] S = .ok (.str (sn l a.toNat k.toNat)) S := by
  obtain ⟨j, rfl, hj2⟩ := one_of (n := 0) hj
  rw [den_eq hp.p_seen_of]
  unfold m_seen_of
  have e1 : slsD (some a) (some k) (.str l) S = .ok (.str (stepL l a.toNat k.toNat)) S := if_pos ⟨a0, k0, by omega⟩
  have e2 : replD 63 [] (.str (stepL l a.toNat k.toNat)) S = .ok (.str (sn l a.toNat k.toNat)) S := if_pos (by have := @stp_len l a.toNat k.toNat; simp; omega)
  simp only [v_bo, v_be, v_bi, v_so, v_se, v_si, v_tn, v_tr, v_te, v_ti, v_rn, v_rr, v_re, v_ri, v_gn, v_br, w_allS, v_gi, w_seq, w_set, w_ret, w_retN, w_exp, w_nil, w_ifS, w_truB, w_tru, w_notT, w_andT, w_orT, w_and, w_or, w_not, w_if, w_c, w_op1, w_op2, w_call, w_args, w_nilA, w_consA, w_tup, w_lst, w_blt, w_mt, w_raise, w_chain, w_asgT, k_si, k_ss, k_ii, k_ib, k_is, k_tl, k_tt, k_ll, k_lt, w_mk, cVar, mkFn, List.length_cons, List.length_nil, List.map_cons, List.map_nil, List.replicate, List.cons_append, List.nil_append, List.getElem?_cons_zero, List.getElem?_cons_succ, List.set_cons_zero, List.set_cons_succ, Nat.reduceAdd, Nat.reduceSub, Nat.reduceEqDiff, Nat.reduceLeDiff, if_true, if_false, truB, truD, leD, ltD, gtD, geD, cmpD, eqD, scE, subD, isiD, tyN, u_add,  gTupG, gConsG, gNilG, gN, seqAt, negD, decide_eq_true_eq, Bool.false_xor, Bool.true_xor, maxD, minD, intsD, isNonD, isNon, reduceIte, Bool.not_true, Bool.not_false, ite_true, ite_false, Bool.false_eq_true, decide_true, decide_false, Bool.false_or, Bool.true_or, Bool.or_true, Bool.or_false, cSlS, cPart, e1, e2]
def chs (l : List Nat) : List D := l.map fun c => .str [c]
theorem signs_in_ok (hp : HasProg bod) (hj : 1 ≤ j) (t : List Nat) (h1 : t.length ≤ 1000) (h2 : (sgn t).length < 64) : den bod j "signs_in" [.str t] S = .ok (.ref S.length) (S ++ [.lst (chs (sgn t))]) := by
  obtain ⟨j, rfl, hj2⟩ := one_of (n := 0) hj
  rw [den_eq hp.p_signs_in]
  unfold m_signs_in
  have e1 : ssD (.str t) S = alloc (.lst (chs (sgn t))) S := if_pos ⟨by omega, h2⟩
  simp only [v_bo, v_be, v_bi, v_so, v_se, v_si, v_tn, v_tr, v_te, v_ti, v_rn, v_rr, v_re, v_ri, v_gn, v_br, w_allS, v_gi, w_seq, w_set, w_ret, w_retN, w_exp, w_nil, w_ifS, w_truB, w_tru, w_notT, w_andT, w_orT, w_and, w_or, w_not, w_if, w_c, w_op1, w_op2, w_call, w_args, w_nilA, w_consA, w_tup, w_lst, w_blt, w_mt, w_raise, w_chain, w_asgT, k_si, k_ss, k_ii, k_ib, k_is, k_tl, k_tt, k_ll, k_lt, w_mk, cVar, mkFn, List.length_cons, List.length_nil, List.map_cons, List.map_nil, List.replicate, List.cons_append, List.nil_append, List.getElem?_cons_zero, List.getElem?_cons_succ, List.set_cons_zero, List.set_cons_succ, Nat.reduceAdd, Nat.reduceSub, Nat.reduceEqDiff, Nat.reduceLeDiff, if_true, if_false, truB, truD, leD, ltD, gtD, geD, cmpD, eqD, scE, subD, isiD, tyN, u_add,  gTupG, gConsG, gNilG, gN, seqAt, negD, decide_eq_true_eq, Bool.false_xor, Bool.true_xor, maxD, minD, intsD, isNonD, isNon, reduceIte, Bool.not_true, Bool.not_false, ite_true, ite_false, Bool.false_eq_true, decide_true, decide_false, Bool.false_or, Bool.true_or, Bool.or_true, Bool.or_false, e1, alloc]
/-- the one sign of a place, ? for none -/
def oneC : List Nat → Option Nat
  | [] => some 63
  | [c] => some c
  | _ => none
def rimF (l : List Nat) (k : Nat) : Nat → Option (List Nat)
  | 0 => some []
  | n + 1 => match rimF l k n, oneC (sgn (sn l n k)) with
    | some r, some c => some (r ++ [c])
    | _, _ => none
def rimD (l : List Nat) (k : Nat) : Option (List Nat) := rimF l k k
theorem rimF_none {l : List Nat} {k n : Nat} (h : rimF l k n = none) : ∀ d, rimF l k (n + d) = none
  | 0 => h
  | d + 1 => by
    show (match rimF l k (n + d), oneC (sgn (sn l (n + d) k)) with
      | some r, some c => some (r ++ [c])
      | _, _ => none) = none
    rw [rimF_none h d]
theorem rimF_len {l : List Nat} {k : Nat} : ∀ {n : Nat} {r : List Nat}, rimF l k n = some r → r.length = n
  | 0, r, h => by cases h; rfl
  | n + 1, r, h => by
    unfold rimF at h
    split at h
    · rename_i r1 c h1 h2
      cases h
      rw [List.length_append, rimF_len h1]
      rfl
    · cases h
theorem rimF_some {l r : List Nat} {k n c : Nat} (h : rimF l k n = some r) (hc : oneC (sgn (sn l n k)) = some c) : rimF l k (n + 1) = some (r ++ [c]) := by
  unfold rimF
  rw [h, hc]
theorem rimF_no {l : List Nat} {k n : Nat} (hc : oneC (sgn (sn l n k)) = none) : rimF l k (n + 1) = none := by
  unfold rimF
  rw [hc]
  cases rimF l k n <;> rfl
theorem rimD_no {l : List Nat} {k n : Nat} (hn : n < k) (hc : oneC (sgn (sn l n k)) = none) : rimD l k = none := by
  have := rimF_none (rimF_no (l := l) (k := k) hc) (k - (n + 1))
  rw [show n + 1 + (k - (n + 1)) = k by omega] at this
  exact this
theorem check_length_ok (hp : HasProg bod) (hj : 2 ≤ j) {m : Int} (h1 : 1 ≤ m) (h2 : m ≤ 40) : den bod j "check_length" [.int m, .int 40] S = .ok .non S := by
  obtain ⟨j, rfl, hj2⟩ := one_of (n := 1) hj
  rw [den_eq hp.p_check_length]
  unfold m_check_length
  have e := p_is_whole (S := S) hp (show 1 ≤ j by omega) m 1
  simp only [v_bo, v_be, v_bi, v_so, v_se, v_si, v_tn, v_tr, v_te, v_ti, v_rn, v_rr, v_re, v_ri, v_gn, v_br, w_allS, v_gi, w_seq, w_set, w_ret, w_retN, w_exp, w_nil, w_ifS, w_truB, w_tru, w_notT, w_andT, w_orT, w_and, w_or, w_not, w_if, w_c, w_op1, w_op2, w_call, w_args, w_nilA, w_consA, w_tup, w_lst, w_blt, w_mt, w_raise, w_chain, w_asgT, k_si, k_ss, k_ii, k_ib, k_is, k_tl, k_tt, k_ll, k_lt, w_mk, cVar, mkFn, List.length_cons, List.length_nil, List.map_cons, List.map_nil, List.replicate, List.cons_append, List.nil_append, List.getElem?_cons_zero, List.getElem?_cons_succ, List.set_cons_zero, List.set_cons_succ, Nat.reduceAdd, Nat.reduceSub, Nat.reduceEqDiff, Nat.reduceLeDiff, if_true, if_false, truB, truD, leD, ltD, gtD, geD, cmpD, eqD, scE, subD, isiD, tyN, u_add,  gTupG, gConsG, gNilG, gN, seqAt, negD, decide_eq_true_eq, Bool.false_xor, Bool.true_xor, maxD, minD, intsD, isNonD, isNon, reduceIte, Bool.not_true, Bool.not_false, ite_true, ite_false, Bool.false_eq_true, decide_true, decide_false, Bool.false_or, Bool.true_or, Bool.or_true, Bool.or_false, e, eq_true h1, decide_eq_true h1, show (40 < m) = False from eq_false (by omega), decide_eq_false (show ¬ 40 < m by omega)]
theorem oD_ne {o : Option (List Nat)} : isNonD true (oD o) .non S = .ok (.bl o.isSome) S := by
  cases o <;> rfl
def rimB (j : Nat) (bod : Bod) : CS := cSeq (cSet 4 (cCall (den bod j) "signs_in" (cArgs 1 (cConsA (cCall (den bod j) "seen_of" (cArgs 3 (cConsA (cVar 0) (cConsA (cVar 3) (cConsA (cVar 1) cNilA))))) cNilA))))
    (cSeq (cIfS (cTruB (cOp2 gtD (cBlt lenD (cConsA (cVar 4) cNilA)) (cC (.int 1)))) (cRet (cC .non)) cNil)
    (cExp (cMt "list" isLstD appD (cVar 2) (cConsA (cIf (cTru (cVar 4)) (cOp2 ixD (cVar 4) (cC (.int 0))) (cC (.str [63]))) cNilA))))
theorem rimB_ok (hp : HasProg bod) (hj : 1 ≤ j) {l r : List Nat} {k i : Nat} {x : Option D} {n0 : Nat} (hl : l.length ≤ 1000) (ha : l.all skN = true) (hk : 0 < k) (hr : r.length ≤ 1000) (hn : S[n0]? = some (.lst (chs r))) :
    (∀ c, oneC (sgn (sn l i k)) = some c → ∃ (y : Option D) (o : Ob), rimB j bod [some (.str l), some (.int k), some (.ref n0), some (.int i), x] S = .nx [some (.str l), some (.int k), some (.ref n0), some (.int i), y] ((S ++ [o]).set n0 (.lst (chs (r ++ [c]))))) ∧
    (oneC (sgn (sn l i k)) = none → ∃ o : Ob, rimB j bod [some (.str l), some (.int k), some (.ref n0), some (.int i), x] S = .rt .non (S ++ [o])) := by
  have e1 := seen_of_ok (S := S) hp hj l hl (a := (i : Int)) (k := (k : Int)) (by omega) (by omega)
  rw [Int.toNat_natCast, Int.toNat_natCast] at e1
  have e2 := signs_in_ok (S := S) hp hj (sn l i k) (Nat.le_trans sn_len hl) (sgn_few fun c hc => sn_mk hk ha hc)
  have n1 : n0 < S.length := (List.getElem?_eq_some_iff.mp hn).1
  generalize hsg : sgn (sn l i k) = s at e2
  have at1 : (S ++ [Ob.lst (chs s)])[S.length]? = some (Ob.lst (chs s)) := List.getElem?_concat_length
  have at0 : (S ++ [Ob.lst (chs s)])[n0]? = some (Ob.lst (chs r)) := get_push hn
  have ln : lenD [.ref S.length] (S ++ [.lst (chs s)]) = .ok (.int s.length) (S ++ [.lst (chs s)]) := by
    rw [xNL at1]
    simp [chs]
  have tr : truD (.ref S.length) (S ++ [.lst (chs s)]) = .ok (!(chs s).isEmpty) (S ++ [.lst (chs s)]) := by
    unfold truD
    dsimp only
    rw [at1]
  have il := ux_isL at0
  have ap : ∀ d, appD (.ref n0) [d] (S ++ [Ob.lst (chs s)]) = .ok .non ((S ++ [Ob.lst (chs s)]).set n0 (Ob.lst (chs r ++ [d]))) := fun d => ux_app at0 (by simp [chs]; omega)
  refine ⟨fun c hc => ?_, fun hc => ?_⟩
  · match s, hc with
    | [], hc =>
      cases hc
      refine ⟨some (.ref S.length), .lst (chs []), ?_⟩
      unfold rimB
      have tr' : truD (.ref S.length) (S ++ [Ob.lst (chs [])]) = .ok false (S ++ [Ob.lst (chs [])]) := tr
      simp only [v_bo, v_be, v_bi, v_so, v_se, v_si, v_tn, v_tr, v_te, v_ti, v_rn, v_rr, v_re, v_ri, v_gn, v_br, w_allS, v_gi, w_seq, w_set, w_ret, w_retN, w_exp, w_nil, w_ifS, w_truB, w_tru, w_notT, w_andT, w_orT, w_and, w_or, w_not, w_if, w_c, w_op1, w_op2, w_call, w_args, w_nilA, w_consA, w_tup, w_lst, w_blt, w_mt, w_raise, w_chain, w_asgT, k_si, k_ss, k_ii, k_ib, k_is, k_tl, k_tt, k_ll, k_lt, w_mk, cVar, mkFn, List.length_cons, List.length_nil, List.map_cons, List.map_nil, List.replicate, List.cons_append, List.nil_append, List.getElem?_cons_zero, List.getElem?_cons_succ, List.set_cons_zero, List.set_cons_succ, Nat.reduceAdd, Nat.reduceSub, Nat.reduceEqDiff, Nat.reduceLeDiff, if_true, if_false, truB, truD, leD, ltD, gtD, geD, cmpD, eqD, scE, subD, isiD, tyN, u_add,  gTupG, gConsG, gNilG, gN, seqAt, negD, decide_eq_true_eq, Bool.false_xor, Bool.true_xor, maxD, minD, intsD, isNonD, isNon, reduceIte, Bool.not_true, Bool.not_false, ite_true, ite_false, Bool.false_eq_true, decide_true, decide_false, Bool.false_or, Bool.true_or, Bool.or_true, Bool.or_false, e1, e2, ln, at1, show (chs []).isEmpty = true from rfl, il, ap, show (1 < ((0 : Nat) : Int)) = False from eq_false (by decide), decide_eq_false (show ¬ 1 < ((0 : Nat) : Int) by decide)]
      simp [chs]
    | [d], hc =>
      obtain rfl : d = c := by cases hc; rfl
      refine ⟨some (.ref S.length), .lst (chs [d]), ?_⟩
      have ix : ixD (.ref S.length) (.int 0) (S ++ [Ob.lst (chs [d])]) = .ok (.str [d]) (S ++ [Ob.lst (chs [d])]) := u_ixL (l_lst at1) rfl
      have tr' : truD (.ref S.length) (S ++ [Ob.lst (chs [d])]) = .ok true (S ++ [Ob.lst (chs [d])]) := tr
      unfold rimB
      simp only [v_bo, v_be, v_bi, v_so, v_se, v_si, v_tn, v_tr, v_te, v_ti, v_rn, v_rr, v_re, v_ri, v_gn, v_br, w_allS, v_gi, w_seq, w_set, w_ret, w_retN, w_exp, w_nil, w_ifS, w_truB, w_tru, w_notT, w_andT, w_orT, w_and, w_or, w_not, w_if, w_c, w_op1, w_op2, w_call, w_args, w_nilA, w_consA, w_tup, w_lst, w_blt, w_mt, w_raise, w_chain, w_asgT, k_si, k_ss, k_ii, k_ib, k_is, k_tl, k_tt, k_ll, k_lt, w_mk, cVar, mkFn, List.length_cons, List.length_nil, List.map_cons, List.map_nil, List.replicate, List.cons_append, List.nil_append, List.getElem?_cons_zero, List.getElem?_cons_succ, List.set_cons_zero, List.set_cons_succ, Nat.reduceAdd, Nat.reduceSub, Nat.reduceEqDiff, Nat.reduceLeDiff, if_true, if_false, truB, truD, leD, ltD, gtD, geD, cmpD, eqD, scE, subD, isiD, tyN, u_add,  gTupG, gConsG, gNilG, gN, seqAt, negD, decide_eq_true_eq, Bool.false_xor, Bool.true_xor, maxD, minD, intsD, isNonD, isNon, reduceIte, Bool.not_true, Bool.not_false, ite_true, ite_false, Bool.false_eq_true, decide_true, decide_false, Bool.false_or, Bool.true_or, Bool.or_true, Bool.or_false, e1, e2, ln, at1, show (chs [d]).isEmpty = false from rfl, il, ap, ix, show (1 < ((0 + 1 : Nat) : Int)) = False from eq_false (by decide), decide_eq_false (show ¬ 1 < ((0 + 1 : Nat) : Int) by decide)]
      simp [chs]
  · match s, hc with
    | a :: b :: q, hc =>
      refine ⟨.lst (chs (a :: b :: q)), ?_⟩
      have h1 : 1 < (((a :: b :: q).length : Nat) : Int) := by simp; omega
      unfold rimB
      simp only [v_bo, v_be, v_bi, v_so, v_se, v_si, v_tn, v_tr, v_te, v_ti, v_rn, v_rr, v_re, v_ri, v_gn, v_br, w_allS, v_gi, w_seq, w_set, w_ret, w_retN, w_exp, w_nil, w_ifS, w_truB, w_tru, w_notT, w_andT, w_orT, w_and, w_or, w_not, w_if, w_c, w_op1, w_op2, w_call, w_args, w_nilA, w_consA, w_tup, w_lst, w_blt, w_mt, w_raise, w_chain, w_asgT, k_si, k_ss, k_ii, k_ib, k_is, k_tl, k_tt, k_ll, k_lt, w_mk, cVar, mkFn, List.length_cons, List.length_nil, List.map_cons, List.map_nil, List.replicate, List.cons_append, List.nil_append, List.getElem?_cons_zero, List.getElem?_cons_succ, List.set_cons_zero, List.set_cons_succ, Nat.reduceAdd, Nat.reduceSub, Nat.reduceEqDiff, Nat.reduceLeDiff, if_true, if_false, truB, truD, leD, ltD, gtD, geD, cmpD, eqD, scE, subD, isiD, tyN, u_add,  gTupG, gConsG, gNilG, gN, seqAt, negD, decide_eq_true_eq, Bool.false_xor, Bool.true_xor, maxD, minD, intsD, isNonD, isNon, reduceIte, Bool.not_true, Bool.not_false, ite_true, ite_false, Bool.false_eq_true, decide_true, decide_false, Bool.false_or, Bool.true_or, Bool.or_true, Bool.or_false, e1, e2, ln]
      rw [if_pos (by simp; omega)]
theorem hit1 {z : Int} {k v : Nat} (hz : z = k) (h : Γ[v]? = some (some (.int z))) (hk : k ≤ 1000) : cRng1 (cConsA (cVar v) cNilA) Γ S = .ok (.base (.items (rngL 0 k))) S := by
  have hsm : smI z = true := smI_ok (by omega) (by omega)
  have hk : z.toNat = k := by omega
  clear hz
  unfold cRng1
  rw [w_consA, w_var v _ h]
  simp only [v_bo, v_be, v_bi, v_so, v_se, v_si, v_tn, v_tr, v_te, v_ti, v_rn, v_rr, v_re, v_ri, v_gn, v_br, w_allS, v_gi, w_seq, w_set, w_ret, w_retN, w_exp, w_nil, w_ifS, w_truB, w_tru, w_notT, w_andT, w_orT, w_and, w_or, w_not, w_if, w_c, w_op1, w_op2, w_call, w_args, w_nilA, w_consA, w_tup, w_lst, w_blt, w_mt, w_raise, w_chain, w_asgT, k_si, k_ss, k_ii, k_ib, k_is, k_tl, k_tt, k_ll, k_lt, w_mk, cVar, mkFn, List.length_cons, List.length_nil, List.map_cons, List.map_nil, List.replicate, List.cons_append, List.nil_append, List.getElem?_cons_zero, List.getElem?_cons_succ, List.set_cons_zero, List.set_cons_succ, Nat.reduceAdd, Nat.reduceSub, Nat.reduceEqDiff, Nat.reduceLeDiff, if_true, if_false, truB, truD, leD, ltD, gtD, geD, cmpD, eqD, scE, subD, isiD, tyN, u_add,  gTupG, gConsG, gNilG, gN, seqAt, negD, decide_eq_true_eq, Bool.false_xor, Bool.true_xor, maxD, minD, intsD, isNonD, isNon, reduceIte, Bool.not_true, Bool.not_false, ite_true, ite_false, Bool.false_eq_true, decide_true, decide_false, Bool.false_or, Bool.true_or, Bool.or_true, Bool.or_false, hsm, hk]
theorem hit2 {z y : Int} {k : Nat} {ma mb : CE} (hz : (z - y).toNat = k) (h0 : 0 ≤ y) (h1 : y ≤ 1000) (h2 : 0 ≤ z) (h3 : z ≤ 1000) (e1 : ma Γ S = .ok (.int y) S) (e2 : mb Γ S = .ok (.int z) S) : cRng2 (cConsA ma (cConsA mb cNilA)) Γ S = .ok (.base (.items (rngL y k))) S := by
  have hs1 : smI y = true := smI_ok (by omega) (by omega)
  have hs2 : smI z = true := smI_ok (by omega) (by omega)
  unfold cRng2
  simp only [v_bo, v_be, v_bi, v_so, v_se, v_si, v_tn, v_tr, v_te, v_ti, v_rn, v_rr, v_re, v_ri, v_gn, v_br, w_allS, v_gi, w_seq, w_set, w_ret, w_retN, w_exp, w_nil, w_ifS, w_truB, w_tru, w_notT, w_andT, w_orT, w_and, w_or, w_not, w_if, w_c, w_op1, w_op2, w_call, w_args, w_nilA, w_consA, w_tup, w_lst, w_blt, w_mt, w_raise, w_chain, w_asgT, k_si, k_ss, k_ii, k_ib, k_is, k_tl, k_tt, k_ll, k_lt, w_mk, cVar, mkFn, List.length_cons, List.length_nil, List.map_cons, List.map_nil, List.replicate, List.cons_append, List.nil_append, List.getElem?_cons_zero, List.getElem?_cons_succ, List.set_cons_zero, List.set_cons_succ, Nat.reduceAdd, Nat.reduceSub, Nat.reduceEqDiff, Nat.reduceLeDiff, if_true, if_false, truB, truD, leD, ltD, gtD, geD, cmpD, eqD, scE, subD, isiD, tyN, u_add,  gTupG, gConsG, gNilG, gN, seqAt, negD, decide_eq_true_eq, Bool.false_xor, Bool.true_xor, maxD, minD, intsD, isNonD, isNon, reduceIte, Bool.not_true, Bool.not_false, ite_true, ite_false, Bool.false_eq_true, decide_true, decide_false, Bool.false_or, Bool.true_or, Bool.or_true, Bool.or_false, e1, e2, hs1, hs2, hz, Bool.and_self]

theorem rim_runN (F : CS) (S' : Hd) {d1 d2 : D} (e : F [some d1, some d2, some (.ref S.length), none, none] (S ++ [.lst []]) = .rt .non S') : mkFn 5 2 (cSeq (cSet 2 (cLst cNilA)) (cSeq F (cRet (cMt "str" isStrD joinD (cC (.str [])) (cConsA (cVar 2) cNilA))))) [d1, d2] S = .ok .non S' := by
  rw [w_mk 5 2 _ [d1, d2] rfl]
  simp only [w_seq, w_set, w_lst, w_nilA, v_bo, alloc, List.length_nil, v_so, v_tn, List.map_cons, List.map_nil, List.replicate, Nat.reduceAdd, Nat.reduceSub, List.cons_append, List.nil_append, List.set_cons_succ, List.set_cons_zero, Nat.zero_le, if_true]
  rw [e, v_tr, v_rr]
theorem rim_runR (F : CS) (S' : Hd) {d1 d2 : D} {x y : Option D} {r : List Nat} (e : F [some d1, some d2, some (.ref S.length), none, none] (S ++ [.lst []]) = .nx [some d1, some d2, some (.ref S.length), x, y] S') (jn : joinD (.str []) [.ref S.length] S' = .ok (.str r) S') : mkFn 5 2 (cSeq (cSet 2 (cLst cNilA)) (cSeq F (cRet (cMt "str" isStrD joinD (cC (.str [])) (cConsA (cVar 2) cNilA))))) [d1, d2] S = .ok (.str r) S' := by
  rw [w_mk 5 2 _ [d1, d2] rfl]
  simp only [w_seq, w_set, w_lst, w_nilA, v_bo, alloc, List.length_nil, v_so, v_tn, List.map_cons, List.map_nil, List.replicate, Nat.reduceAdd, Nat.reduceSub, List.cons_append, List.nil_append, List.set_cons_succ, List.set_cons_zero, Nat.zero_le, if_true]
  rw [e, v_tn]
  simp only [v_bo, v_be, v_bi, v_so, v_se, v_si, v_tn, v_tr, v_te, v_ti, v_rn, v_rr, v_re, v_ri, v_gn, v_br, w_allS, v_gi, w_seq, w_set, w_ret, w_retN, w_exp, w_nil, w_ifS, w_truB, w_tru, w_notT, w_andT, w_orT, w_and, w_or, w_not, w_if, w_c, w_op1, w_op2, w_call, w_args, w_nilA, w_consA, w_tup, w_lst, w_blt, w_mt, w_raise, w_chain, w_asgT, k_si, k_ss, k_ii, k_ib, k_is, k_tl, k_tt, k_ll, k_lt, w_mk, cVar, mkFn, List.length_cons, List.length_nil, List.map_cons, List.map_nil, List.replicate, List.cons_append, List.nil_append, List.getElem?_cons_zero, List.getElem?_cons_succ, List.set_cons_zero, List.set_cons_succ, Nat.reduceAdd, Nat.reduceSub, Nat.reduceEqDiff, Nat.reduceLeDiff, if_true, if_false, truB, truD, leD, ltD, gtD, geD, cmpD, eqD, scE, subD, isiD, tyN, u_add,  gTupG, gConsG, gNilG, gN, seqAt, negD, decide_eq_true_eq, Bool.false_xor, Bool.true_xor, maxD, minD, intsD, isNonD, isNon, reduceIte, Bool.not_true, Bool.not_false, ite_true, ite_false, Bool.false_eq_true, decide_true, decide_false, Bool.false_or, Bool.true_or, Bool.or_true, Bool.or_false, jn, isStrD]
theorem lens_runR (F : CE) (S' S1 : Hd) {call : Calls} {d1 d2 d : D} (e1 : call "check_seen" [d1] S = .ok .non S) (e2 : call "check_length" [d2, .int 40] S = .ok .non S) (e : F [some d1, some d2, none] S = .ok d S') : mkFn 3 2 (cSeq (cExp (cCall call "check_seen" (cArgs 1 (cConsA (cVar 0) cNilA))))
    (cSeq (cExp (cCallO call "check_length" ([40] : List Int) (cArgs 1 (cConsA (cVar 1) cNilA))))
    (cRet F))) [d1, d2] S = .ok d S' := by
  rw [w_mk 3 2 _ [d1, d2] rfl]
  simp only [v_bo, v_be, v_bi, v_so, v_se, v_si, v_tn, v_tr, v_te, v_ti, v_rn, v_rr, v_re, v_ri, v_gn, v_br, w_allS, v_gi, w_seq, w_set, w_ret, w_retN, w_exp, w_nil, w_ifS, w_truB, w_tru, w_notT, w_andT, w_orT, w_and, w_or, w_not, w_if, w_c, w_op1, w_op2, w_call, w_args, w_nilA, w_consA, w_tup, w_lst, w_blt, w_mt, w_raise, w_chain, w_asgT, k_si, k_ss, k_ii, k_ib, k_is, k_tl, k_tt, k_ll, k_lt, w_mk, cVar, mkFn, List.length_cons, List.length_nil, List.map_cons, List.map_nil, List.replicate, List.cons_append, List.nil_append, List.getElem?_cons_zero, List.getElem?_cons_succ, List.set_cons_zero, List.set_cons_succ, Nat.reduceAdd, Nat.reduceSub, Nat.reduceEqDiff, Nat.reduceLeDiff, if_true, if_false, truB, truD, leD, ltD, gtD, geD, cmpD, eqD, scE, subD, isiD, tyN, u_add,  gTupG, gConsG, gNilG, gN, seqAt, negD, decide_eq_true_eq, Bool.false_xor, Bool.true_xor, maxD, minD, intsD, isNonD, isNon, reduceIte, Bool.not_true, Bool.not_false, ite_true, ite_false, Bool.false_eq_true, decide_true, decide_false, Bool.false_or, Bool.true_or, Bool.or_true, Bool.or_false, e1, w_callO, e2]
  rw [e]
  rfl
theorem rim_of_ok (hp : HasProg bod) (hj : 2 ≤ j) {l : List Nat} {k : Nat} (hl : l.length ≤ 1000) (ha : l.all skN = true) (hk : 0 < k) (hk2 : k ≤ 1000) :
    ∃ S' : Hd, Gro S S' ∧ den bod j "rim_of" [.str l, .int k] S = .ok (oD (rimD l k)) S' := by
  obtain ⟨j, rfl, hj2⟩ := one_of (n := 1) hj
  rw [den_eq hp.p_rim_of]
  unfold m_rim_of
  have hlr : (rngL 0 k).length = k := by simp [rngL]
  let I : Nat → Gm → Hd → Prop := fun i Γ S' => ∃ (r : List Nat) (x y : Option D), Γ = [some (.str l), some (.int k), some (.ref S.length), x, y] ∧ rimF l k i = some r ∧ S'[S.length]? = some (.lst (chs r)) ∧ Gro S S'
  let P : D → Hd → Prop := fun r S' => r = .non ∧ rimD l k = none ∧ Gro S S'
  have key := cFor_run (it := cRng1 (cConsA (cVar 1) cNilA)) (S0 := S ++ [.lst []]) (S := S ++ [.lst []]) (src := .base (.items (rngL 0 k))) (g := gN 3) (b := rimB j bod) (Γ := [some (.str l), some (.int k), some (.ref S.length), none, none]) (rngL 0 k) I P
    (hit1 rfl rfl hk2) (by rw [hlr]; omega) (fun i Γ S' _ _ => rfl)
    (fun i d Γ S' hd h => by
      obtain ⟨r, x, y, rfl, hr, hn, hg⟩ := h
      have hi : i < k := by
        have := (List.getElem?_eq_some_iff.mp hd).1
        rw [hlr] at this
        exact this
      have hdd : d = .int ((i : Nat) : Int) := by
        unfold rngL at hd
        rw [List.getElem?_map, List.getElem?_range hi] at hd
        cases hd
        simp
      subst hdd
      have hrl := rimF_len hr
      obtain ⟨h1, h2⟩ := rimB_ok (S := S') (x := y) hp (show 1 ≤ j by omega) (l := l) (r := r) (k := k) (i := i) hl ha hk (by omega) hn
      refine ⟨[some (.str l), some (.int k), some (.ref S.length), some (.int i), y], S', rfl, ?_⟩
      have n1 : S.length < S'.length := (List.getElem?_eq_some_iff.mp hn).1
      cases hc : oneC (sgn (sn l i k)) with
      | some c =>
        obtain ⟨z, o, e⟩ := h1 c hc
        refine .inl ⟨_, _, .inl e, r ++ [c], _, _, rfl, ?_, ?_, ?_⟩
        · exact rimF_some hr hc
        · exact List.getElem?_set_self (by rw [List.length_append]; omega)
        · exact (hg.trans (Gro.push _ _)).own (Nat.le_refl _)
      | none =>
        obtain ⟨o, e⟩ := h2 hc
        exact .inr ⟨_, _, e, rfl, rimD_no hi hc, hg.trans (Gro.push _ _)⟩) ⟨[], none, none, rfl, rfl, List.getElem?_concat_length, Gro.push _ _⟩
  rcases key with ⟨Γ', S', e, r, x, y, rfl, hr, hn, hg⟩ | ⟨r, S', e, rfl, hnn, hg⟩
  · rw [hlr] at hr
    refine ⟨S', hg, ?_⟩
    have hrl := rimF_len hr
    have jn := xJ2 (S := S') (n := S.length) (l := r) (by omega) rfl hn
    rw [show rimD l k = some r from hr]
    exact rim_runR _ S' e jn
  · refine ⟨S', hg, ?_⟩
    rw [hnn]
    exact rim_runN _ S' e
theorem rim_for_ok (hp : HasProg bod) (hj : 4 ≤ j) {l : List Nat} {k : Nat} (h0 : 0 < l.length) (hl : l.length ≤ 1000) (ha : l.all skN = true) (hk : 0 < k) (hk2 : k ≤ 40) :
    ∃ S' : Hd, Gro S S' ∧ den bod j "rim_for" [.str l, .int k] S = .ok (oD (rimD l k)) S' := by
  obtain ⟨j, rfl, hj2⟩ := one_of (n := 3) hj
  rw [den_eq hp.p_rim_for]
  unfold m_rim_for
  obtain ⟨S', g, e⟩ := rim_of_ok (S := S) hp (show 2 ≤ j by omega) hl ha hk (by omega)
  refine ⟨S', g, ?_⟩
  have e1 := check_seen_ok (S := S) hp (show 3 ≤ j by omega) l h0 (by omega) ha
  have e2 := check_length_ok (S := S) hp (show 2 ≤ j by omega) (m := (k : Int)) (by omega) (by omega)
  simp only [v_bo, v_be, v_bi, v_so, v_se, v_si, v_tn, v_tr, v_te, v_ti, v_rn, v_rr, v_re, v_ri, v_gn, v_br, w_allS, v_gi, w_seq, w_set, w_ret, w_retN, w_exp, w_nil, w_ifS, w_truB, w_tru, w_notT, w_andT, w_orT, w_and, w_or, w_not, w_if, w_c, w_op1, w_op2, w_call, w_args, w_nilA, w_consA, w_tup, w_lst, w_blt, w_mt, w_raise, w_chain, w_asgT, k_si, k_ss, k_ii, k_ib, k_is, k_tl, k_tt, k_ll, k_lt, w_mk, cVar, mkFn, List.length_cons, List.length_nil, List.map_cons, List.map_nil, List.replicate, List.cons_append, List.nil_append, List.getElem?_cons_zero, List.getElem?_cons_succ, List.set_cons_zero, List.set_cons_succ, Nat.reduceAdd, Nat.reduceSub, Nat.reduceEqDiff, Nat.reduceLeDiff, if_true, if_false, truB, truD, leD, ltD, gtD, geD, cmpD, eqD, scE, subD, isiD, tyN, u_add,  gTupG, gConsG, gNilG, gN, seqAt, negD, decide_eq_true_eq, Bool.false_xor, Bool.true_xor, maxD, minD, intsD, isNonD, isNon, reduceIte, Bool.not_true, Bool.not_false, ite_true, ite_false, Bool.false_eq_true, decide_true, decide_false, Bool.false_or, Bool.true_or, Bool.or_true, Bool.or_false, e1, w_callO, e2, e]
/-- the lengths that fit, up to m -/
def lensL (l : List Nat) (m : Nat) : List Nat := (List.range' 1 m).filter fun k => (rimD l k).isSome
theorem lens_succ (l : List Nat) (m : Nat) : lensL l (m + 1) = lensL l m ++ (if (rimD l (m + 1)).isSome then [m + 1] else []) := by
  unfold lensL
  rw [List.range'_concat, List.filter_append]
  congr 1
  simp only [Nat.mul_one, Nat.one_mul, Nat.add_comm 1 m]
  show (match (rimD l (m + 1)).isSome with | true => [m + 1] | false => []) = _
  cases (rimD l (m + 1)).isSome <;> rfl
def iLs (l : List Nat) : List D := l.map fun k : Nat => D.int (k : Int)
theorem lens_len (l : List Nat) (m : Nat) : (lensL l m).length ≤ m := by
  unfold lensL
  exact Nat.le_trans (List.length_filter_le _ _) (by rw [List.length_range']; exact Nat.le_refl _)
theorem rng2_at {m i : Nat} {d : D} (h : (rngL 1 m)[i]? = some d) : i < m ∧ d = .int (((i + 1 : Nat)) : Int) := by
  have hi : i < m := by
    have := (List.getElem?_eq_some_iff.mp h).1
    simpa [rngL] using this
  refine ⟨hi, ?_⟩
  unfold rngL at h
  rw [List.getElem?_map, List.getElem?_range hi] at h
  cases h
  show D.int (1 + (i : Int)) = _
  rw [show (1 : Int) + (i : Int) = ((i + 1 : Nat) : Int) by omega]
theorem lens_lc {t : CT} {l : List Nat} {m : Nat} {vs : List Nat} {v : Nat} (I0 : Hd → Prop) (i0 : I0 S) (hm : m ≤ 1000) (hv : vs = [v]) (hlen : v < Γ.length) {it : CI} (hit : it Γ S = .ok (.base (.items (rngL 1 m))) S)
    (ht : ∀ (k : Nat) (S' : Hd), 0 < k → k ≤ m → I0 S' → ∃ S2, t (Γ.set v (some (.int (k : Int)))) S' = .ok (rimD l k).isSome S2 ∧ I0 S2) :
    ∃ S' : Hd, I0 S' ∧ cLc it (gN v) t (cVar v) vs Γ S = .ok (.ref S'.length) (S' ++ [.lst (iLs (lensL l m))]) := by
  subst hv
  have hlr : (rngL 1 m).length = m := by simp [rngL]
  obtain ⟨acc, S', e, rfl, hI⟩ := cLc_inv (Γ := Γ) (S0 := S) (S := S) (src := .base (.items (rngL 1 m))) (g := gN v) (t := t) (m := cVar v) (it := it) (vs := [v]) (rngL 1 m) (fun i acc S' => acc = iLs (lensL l i) ∧ I0 S') hit (by rw [hlr]; omega) (fun i acc S' _ _ => rfl)
    (fun i acc S' h => by rw [h.1]; unfold iLs; rw [List.length_map]; exact lens_len _ _)
    (fun i d acc S' hd h => by
      obtain ⟨rfl, hI⟩ := h
      obtain ⟨hi, rfl⟩ := rng2_at hd
      have hw : (wipeD Γ [v]).set v (some (.int ((i + 1 : Nat) : Int))) = Γ.set v (some (.int ((i + 1 : Nat) : Int))) := by
        show (Γ.set v none).set v _ = _
        rw [List.set_set]
      refine ⟨Γ.set v (some (.int ((i + 1 : Nat) : Int))), S', by show RS.nx _ _ = _; rw [hw], ?_⟩
      obtain ⟨S2, e, hI2⟩ := ht (i + 1) S' (by omega) (by omega) hI
      have hs := lens_succ l i
      cases hb : (rimD l (i + 1)).isSome with
      | false =>
        rw [hb] at e hs
        exact .inl ⟨S2, e, by rw [hs]; simp, hI2⟩
      | true =>
        rw [hb] at e hs
        refine .inr ⟨S2, .int ((i + 1 : Nat) : Int), S2, e, ?_, by rw [hs]; simp [iLs], hI2⟩
        exact w_var v _ (by rw [List.getElem?_set_self hlen])) ⟨rfl, i0⟩
  rw [hlr] at e
  exact ⟨S', hI, e⟩
theorem lengths_for_ok (hp : HasProg bod) (hj : 4 ≤ j) {l : List Nat} {m : Nat} (h0 : 0 < l.length) (hl : l.length ≤ 1000) (ha : l.all skN = true) (hm : 0 < m) (hm2 : m ≤ 40) :
    ∃ S' : Hd, Gro S S' ∧ den bod j "lengths_for" [.str l, .int m] S = .ok (.ref S'.length) (S' ++ [.lst (iLs (lensL l m))]) := by
  obtain ⟨j, rfl, hj2⟩ := one_of (n := 3) hj
  rw [den_eq hp.p_lengths_for]
  unfold m_lengths_for
  have e1 := check_seen_ok (S := S) hp (show 3 ≤ j by omega) l h0 (by omega) ha
  have e2 := check_length_ok (S := S) hp (show 2 ≤ j by omega) (m := (m : Int)) (by omega) (by omega)
  have hmt : ((m : Int) + 1 - 1).toNat = m := by omega
  obtain ⟨S', g, e⟩ := lens_lc (S := S) (l := l) (m := m) (v := 2) (vs := [2]) (Γ := [some (.str l), some (.int m), none]) (Gro S) (Gro.refl S) (by omega) rfl (by simp)
    (it := cRng2 (cConsA (cC (.int 1)) (cConsA (cOp2 addD (cVar 1) (cC (.int 1))) cNilA))) (hit2 (z := (m : Int) + 1) hmt (by decide) (by decide) (by omega) (by omega) rfl (by simp only [v_bo, v_be, v_bi, v_so, v_se, v_si, v_tn, v_tr, v_te, v_ti, v_rn, v_rr, v_re, v_ri, v_gn, v_br, w_allS, v_gi, w_seq, w_set, w_ret, w_retN, w_exp, w_nil, w_ifS, w_truB, w_tru, w_notT, w_andT, w_orT, w_and, w_or, w_not, w_if, w_c, w_op1, w_op2, w_call, w_args, w_nilA, w_consA, w_tup, w_lst, w_blt, w_mt, w_raise, w_chain, w_asgT, k_si, k_ss, k_ii, k_ib, k_is, k_tl, k_tt, k_ll, k_lt, w_mk, cVar, mkFn, List.length_cons, List.length_nil, List.map_cons, List.map_nil, List.replicate, List.cons_append, List.nil_append, List.getElem?_cons_zero, List.getElem?_cons_succ, List.set_cons_zero, List.set_cons_succ, Nat.reduceAdd, Nat.reduceSub, Nat.reduceEqDiff, Nat.reduceLeDiff, if_true, if_false, truB, truD, leD, ltD, gtD, geD, cmpD, eqD, scE, subD, isiD, tyN, u_add,  gTupG, gConsG, gNilG, gN, seqAt, negD, decide_eq_true_eq, Bool.false_xor, Bool.true_xor, maxD, minD, intsD, isNonD, isNon, reduceIte, Bool.not_true, Bool.not_false, ite_true, ite_false, Bool.false_eq_true, decide_true, decide_false, Bool.false_or, Bool.true_or, Bool.or_true, Bool.or_false]))
    (t := cTruB (cOp2 (isNonD true) (cCall (den bod j) "rim_of" (cArgs 2 (cConsA (cVar 0) (cConsA (cVar 2) cNilA)))) (cC .non)))
    (fun k S' k0 k1 hg => by
      obtain ⟨S2, g2, e⟩ := rim_of_ok (S := S') hp (show 2 ≤ j by omega) hl ha k0 (by omega)
      refine ⟨S2, ?_, hg.trans g2⟩
      simp only [w_truB, w_op2, w_call, w_args, w_consA, w_nilA, cVar, List.set_cons_succ, List.set_cons_zero, List.getElem?_cons_zero, List.getElem?_cons_succ, v_bo, List.length_cons, List.length_nil, Nat.reduceAdd, if_true, e, w_c, oD_ne, truB])
  refine ⟨S', g, ?_⟩
  exact lens_runR _ _ S e1 e2 e
end
end Dn

set_option linter.all false
set_option maxRecDepth 100000
set_option maxHeartbeats 1000000
set_option autoImplicit false
/-! # Which lengths fit, and the rim that is due (the law's own) -/
namespace Dn
open PySem PySem.Spec Kx L2

/-- no two seen places that lie k, or so many times k, apart are unlike -/
def FitsP (l : List Nat) (k : Nat) : Prop := ∀ p t a b, l[p]? = some a → l[p + k * (t + 1)]? = some b → a ≠ 63 → b ≠ 63 → a = b
theorem oneC_some {t : List Nat} {c : Nat} (h : ∀ x ∈ t, x = c) (h2 : t = [] → c = 63) : oneC (sgn t) = some c := by
  cases hs : sgn t with
  | nil =>
    have : t = [] := List.eq_nil_iff_forall_not_mem.mpr fun x hx => by
      have := sgn_mem.mpr hx
      rw [hs] at this
      cases this
    rw [h2 this]
    rfl
  | cons d q =>
    have hd : d = c := h d (sgn_mem.mp (by rw [hs]; exact List.mem_cons_self))
    cases q with
    | nil => rw [hd]; rfl
    | cons e q =>
      have he : e = c := h e (sgn_mem.mp (by rw [hs]; exact List.mem_cons_of_mem _ List.mem_cons_self))
      have := sgn_nodup t
      rw [hs, List.nodup_cons] at this
      exact absurd (by rw [hd, he]; exact List.mem_cons_self) this.1
theorem oneC_none {t : List Nat} {x y : Nat} (hx : x ∈ t) (hy : y ∈ t) (hne : x ≠ y) : oneC (sgn t) = none := by
  have hx := sgn_mem.mpr hx
  have hy := sgn_mem.mpr hy
  cases hs : sgn t with
  | nil => rw [hs] at hx; cases hx
  | cons d q =>
    cases q with
    | nil =>
      rw [hs, List.mem_singleton] at hx hy
      exact absurd (hx.trans hy.symm) hne
    | cons e q => rfl
/-- the last sign seen of a rim's place -/
def lastS (l : List Nat) (k m : Nat) : Nat → Nat
  | 0 => 63
  | i + 1 => if i % k = m ∧ l.getD i 63 ≠ 63 then l.getD i 63 else lastS l k m i
theorem last_spec (l : List Nat) (k m : Nat) : ∀ i, (lastS l k m i = 63 ∧ ∀ p, p < i → p % k = m → l.getD p 63 = 63) ∨ (∃ p, p < i ∧ p % k = m ∧ l.getD p 63 = lastS l k m i ∧ lastS l k m i ≠ 63)
  | 0 => .inl ⟨rfl, fun p h _ => absurd h (Nat.not_lt_zero _)⟩
  | i + 1 => by
    by_cases h : i % k = m ∧ l.getD i 63 ≠ 63
    · have e : lastS l k m (i + 1) = l.getD i 63 := if_pos h
      rw [e]
      exact .inr ⟨i, Nat.lt_succ_self _, h.1, rfl, h.2⟩
    · have e : lastS l k m (i + 1) = lastS l k m i := if_neg h
      rw [e]
      rcases last_spec l k m i with ⟨h1, h2⟩ | ⟨p, h1, h2⟩
      · refine .inl ⟨h1, fun p hp hm => ?_⟩
        by_cases hpi : p = i
        · subst hpi
          exact Classical.byContradiction fun hn => h ⟨hm, hn⟩
        · exact h2 p (by omega) hm
      · exact .inr ⟨p, by omega, h2⟩
theorem getD_some {l : List Nat} {p a : Nat} (h : l[p]? = some a) : l.getD p 63 = a := by
  rw [List.getD_eq_getElem?_getD, h]
  rfl
theorem some_getD {l : List Nat} {p a : Nat} (h : l.getD p 63 = a) (ha : a ≠ 63) : l[p]? = some a := by
  rw [List.getD_eq_getElem?_getD] at h
  cases e : l[p]? with
  | none => rw [e] at h; exact absurd h.symm ha
  | some b => rw [e] at h; rw [← h]; rfl
theorem fits_any {l : List Nat} {k m : Nat} (hf : FitsP l k) {i i' a b : Nat} (h1 : l[m + k * i]? = some a) (h2 : l[m + k * i']? = some b) (ha : a ≠ 63) (hb : b ≠ 63) : a = b := by
  rcases Nat.lt_trichotomy i i' with h | h | h
  · obtain ⟨t, rfl⟩ : ∃ t, i' = i + (t + 1) := ⟨i' - i - 1, by omega⟩
    rw [Nat.mul_add, ← Nat.add_assoc] at h2
    exact hf _ t a b h1 h2 ha hb
  · subst h
    rw [h1] at h2
    exact Option.some.inj h2
  · obtain ⟨t, rfl⟩ : ∃ t, i = i' + (t + 1) := ⟨i - i' - 1, by omega⟩
    rw [Nat.mul_add, ← Nat.add_assoc] at h1
    exact (hf _ t b a h2 h1 hb ha).symm
theorem fits_last {l : List Nat} {k m : Nat} (hk : 0 < k) (hf : FitsP l k) (hm : m < k) : oneC (sgn (sn l m k)) = some (lastS l k m l.length) := by
  have hs := last_spec l k m l.length
  refine oneC_some (fun x hx => ?_) (fun hn => ?_)
  · obtain ⟨i, hi, hne⟩ := (sn_mem hk).mp hx
    have hmod : (m + k * i) % k = m := by rw [Nat.add_mul_mod_self_left, Nat.mod_eq_of_lt hm]
    rcases hs with ⟨_, h2⟩ | ⟨p, _, h2, h3, h4⟩
    · have := h2 _ (List.getElem?_eq_some_iff.mp hi).1 hmod
      rw [getD_some hi] at this
      exact absurd this hne
    · have hp : m + k * (p / k) = p := by
        have := Nat.mod_add_div p k
        rw [h2] at this
        exact this
      exact fits_any hf hi (by rw [hp]; exact some_getD h3 h4) hne h4
  · rcases hs with ⟨h1, _⟩ | ⟨p, _, h2, h3, h4⟩
    · exact h1
    · have hp : m + k * (p / k) = p := by
        have := Nat.mod_add_div p k
        rw [h2] at this
        exact this
      have : lastS l k m l.length ∈ sn l m k := (sn_mem hk).mpr ⟨p / k, by rw [hp]; exact some_getD h3 h4, h4⟩
      rw [hn] at this
      cases this
def dueR (l : List Nat) (k i : Nat) : List Nat := (List.range k).map fun m => lastS l k m i
theorem rimF_fits {l : List Nat} {k : Nat} (hk : 0 < k) (hf : FitsP l k) : ∀ n, n ≤ k → rimF l k n = some ((List.range n).map fun m => lastS l k m l.length)
  | 0, _ => rfl
  | n + 1, h => by
    rw [rimF_some (rimF_fits hk hf n (by omega)) (fits_last hk hf (by omega)), List.range_succ, List.map_append]
    rfl
theorem rimD_fits {l : List Nat} {k : Nat} (hk : 0 < k) (hf : FitsP l k) : rimD l k = some (dueR l k l.length) := rimF_fits hk hf k (Nat.le_refl _)
theorem rimD_nofit {l : List Nat} {k : Nat} (hk : 0 < k) (hf : ¬ FitsP l k) : rimD l k = none :=
  Classical.byContradiction fun hn => hf fun p t a b ha hb a0 b0 => Classical.byContradiction fun hab => hn (rimD_no (n := p % k) (Nat.mod_lt _ hk) (oneC_none ((sn_mem hk).mpr ⟨p / k, by rw [Nat.mod_add_div]; exact ha, a0⟩) ((sn_mem hk).mpr ⟨p / k + (t + 1), by rw [Nat.mul_add, ← Nat.add_assoc, Nat.mod_add_div]; exact hb, b0⟩) hab))
theorem rimD_isSome {l : List Nat} {k : Nat} (hk : 0 < k) : (rimD l k).isSome = true ↔ FitsP l k := by
  constructor
  · intro h
    exact Classical.byContradiction fun hn => by rw [rimD_nofit hk hn] at h; cases h
  · intro h
    rw [rimD_fits hk h]
    rfl
theorem due_set {l : List Nat} {k i : Nat} {c : Nat} (hc : l[i]? = some c) (h : c ≠ 63) : (dueR l k i).set (i % k) c = dueR l k (i + 1) := by
  apply List.ext_getElem
  · simp [dueR]
  · intro m h1 h2
    have hd := getD_some hc
    simp only [dueR, List.getElem_set, List.getElem_map, List.getElem_range]
    by_cases e : i % k = m
    · have : lastS l k m (i + 1) = l.getD i 63 := if_pos ⟨e, by rw [hd]; exact h⟩
      rw [if_pos e, this, hd]
    · have : lastS l k m (i + 1) = lastS l k m i := if_neg fun q => e q.1
      rw [if_neg e, this]
theorem due_same {l : List Nat} {k i : Nat} (hc : l[i]? = some 63) : dueR l k i = dueR l k (i + 1) := by
  unfold dueR
  congr 1
  funext m
  have hd := getD_some hc
  have : lastS l k m (i + 1) = lastS l k m i := if_neg fun q => q.2 hd
  rw [this]
theorem due_zero {l : List Nat} {k : Nat} : dueR l k 0 = List.replicate k 63 := by
  unfold dueR
  rw [show (fun m => lastS l k m 0) = fun _ => 63 from rfl, List.map_const', List.length_range]
theorem due_length {l : List Nat} {k i : Nat} : (dueR l k i).length = k := by simp [dueR]
def mb_fits (call : Calls) : List D → Hd → R D := mkFn 4 2 ((cSeq (cFor (cRng1 (cConsA (cBlt lenD (cConsA (cVar 0) cNilA)) cNilA)) (gN 2) (cIfS (cTruB (cOp2 (eqD true) (cOp2 ixD (cVar 0) (cVar 2)) (cC (.str [63])))) (cFor (cRng3 (cConsA (cOp2 addD (cVar 2) (cVar 1)) (cConsA (cBlt lenD (cConsA (cVar 0) cNilA)) (cConsA (cVar 1) cNilA)))) (gN 3) (cIfS (cAndT (cTruB (cOp2 (eqD true) (cOp2 ixD (cVar 0) (cVar 3)) (cC (.str [63])))) (cTruB (cOp2 (eqD true) (cOp2 ixD (cVar 0) (cVar 3)) (cOp2 ixD (cVar 0) (cVar 2))))) (cRet (cC (.bl false))) cNil)) cNil))
    (cRet (cC (.bl true)))))
def mb_rim_due (call : Calls) : List D → Hd → R D := mkFn 5 2 ((cSeq (cIfS (cNotT (cTru (cCall call "_law_fits" (cArgs 2 (cConsA (cVar 0) (cConsA (cVar 1) cNilA)))))) (cRet (cC .non)) cNil)
    (cSeq (cSet 2 (cOp2 mulD (cLst (cConsA (cC (.str [63])) cNilA)) (cVar 1)))
    (cSeq (cFor (cEnum (cConsA (cVar 0) cNilA)) (gTupG 2 (gConsG (gN 3) (gConsG (gN 4) gNilG))) (cIfS (cTruB (cOp2 (eqD true) (cVar 4) (cC (.str [63])))) (cAsgT (cVar 4) (gSubG (cVar 2) (cOp2 modD (cVar 3) (cVar 1)))) cNil))
    (cRet (cMt "str" isStrD joinD (cC (.str [])) (cConsA (cVar 2) cNilA)))))))
section
variable {bod : Bod} {S : Hd} {Γ : Gm} {j n : Nat}
theorem fitsLong {i : Int} (h0 : 0 ≤ i) (h1 : i ≤ 1000000) : Builtin.Range.rangeFitsLong i = true := by
  unfold Builtin.Range.rangeFitsLong
  have e : (2 : Int) ^ 63 = 9223372036854775808 := by decide
  rw [e, decide_eq_true (show -(9223372036854775808 : Int) ≤ i by omega), decide_eq_true (show i < (9223372036854775808 : Int) by omega)]
  rfl
theorem rng_size {i j c : Int} (hc : 0 < c) : Builtin.Range.rangeSize i j c = if i < j then (j - i - 1) / c + 1 else 0 := if_pos hc
theorem size_le {i j c : Int} (hc : 0 < c) (i0 : 0 ≤ i) (j1 : j ≤ 100000) : 0 ≤ Builtin.Range.rangeSize i j c ∧ Builtin.Range.rangeSize i j c ≤ 100001 := by
  rw [rng_size hc]
  split
  · have h1 := Int.ediv_nonneg (show 0 ≤ j - i - 1 by omega) (Int.le_of_lt hc)
    have h2 := Int.ediv_le_self c (show 0 ≤ j - i - 1 by omega)
    omega
  · omega
theorem small_ok {i j c : Int} (hc : 0 < c) (c1 : c ≤ 100000) (i0 : 0 ≤ i) (i1 : i ≤ 100000) (j0 : 0 ≤ j) (j1 : j ≤ 100000) : Builtin.Range.small i j c = true := by
  obtain ⟨h1, h2⟩ := size_le (j := j) hc i0 j1
  unfold Builtin.Range.small
  rw [fitsLong i0 (by omega), fitsLong j0 (by omega), fitsLong (show 0 ≤ c by omega) (by omega), fitsLong h1 (by omega), if_pos hc, fitsLong (i := j + (c - 1)) (by omega) (by omega)]
  simp
theorem rngN_le {i j c : Int} (hc : 0 < c) (i0 : 0 ≤ i) (j1 : j ≤ 100000) : rngN i j c ≤ 100001 := by
  obtain ⟨h1, h2⟩ := size_le (j := j) hc i0 j1
  unfold rngN
  omega
theorem rngN_at {i j c : Int} (hc : 0 < c) {t : Nat} : t < rngN i j c ↔ i + (t : Int) * c < j := by
  unfold rngN
  rw [rng_size hc]
  have ht : 0 ≤ (t : Int) * c := Int.mul_nonneg (by omega) (by omega)
  split
  · have := Int.le_ediv_iff_mul_le (a := (t : Int)) (b := j - i - 1) hc
    omega
  · rw [Int.toNat_zero]
    omega
theorem hit3 {i j c : Int} {ma mb mc : CE} (hc : 0 < c) (c1 : c ≤ 100000) (i0 : 0 ≤ i) (i1 : i ≤ 100000) (j0 : 0 ≤ j) (j1 : j ≤ 100000) (e1 : ma Γ S = .ok (.int i) S) (e2 : mb Γ S = .ok (.int j) S) (e3 : mc Γ S = .ok (.int c) S) : cRng3 (cConsA ma (cConsA mb (cConsA mc cNilA))) Γ S = .ok (.base (.items (rng3L i c (rngN i j c)))) S := by
  have h := small_ok hc c1 i0 i1 j0 j1
  have hh : 0 < c ∧ c < 1073741824 ∧ Builtin.Range.small i j c = true := ⟨hc, by omega, h⟩
  unfold cRng3
  simp only [v_bo, v_be, v_bi, v_so, v_se, v_si, v_tn, v_tr, v_te, v_ti, v_rn, v_rr, v_re, v_ri, v_gn, v_br, w_allS, v_gi, w_seq, w_set, w_ret, w_retN, w_exp, w_nil, w_ifS, w_truB, w_tru, w_notT, w_andT, w_orT, w_and, w_or, w_not, w_if, w_c, w_op1, w_op2, w_call, w_args, w_nilA, w_consA, w_tup, w_lst, w_blt, w_mt, w_raise, w_chain, w_asgT, k_si, k_ss, k_ii, k_ib, k_is, k_tl, k_tt, k_ll, k_lt, w_mk, cVar, mkFn, List.length_cons, List.length_nil, List.map_cons, List.map_nil, List.replicate, List.cons_append, List.nil_append, List.getElem?_cons_zero, List.getElem?_cons_succ, List.set_cons_zero, List.set_cons_succ, Nat.reduceAdd, Nat.reduceSub, Nat.reduceEqDiff, Nat.reduceLeDiff, if_true, if_false, truB, truD, leD, ltD, gtD, geD, cmpD, eqD, scE, subD, isiD, tyN, u_add,  gTupG, gConsG, gNilG, gN, seqAt, negD, decide_eq_true_eq, Bool.false_xor, Bool.true_xor, maxD, minD, intsD, isNonD, isNon, reduceIte, Bool.not_true, Bool.not_false, ite_true, ite_false, Bool.false_eq_true, decide_true, decide_false, Bool.false_or, Bool.true_or, Bool.or_true, Bool.or_false, e1, e2, e3]
  rw [if_pos hh]
theorem hit1g {z : Int} {k : Nat} {ma : CE} (e : ma Γ S = .ok (.int z) S) (hz : z = k) (hk : k ≤ 1000) : cRng1 (cConsA ma cNilA) Γ S = .ok (.base (.items (rngL 0 k))) S := by
  have hsm : smI z = true := smI_ok (by omega) (by omega)
  have hk : z.toNat = k := by omega
  clear hz
  unfold cRng1
  rw [w_consA, e]
  simp only [v_bo, v_be, v_bi, v_so, v_se, v_si, v_tn, v_tr, v_te, v_ti, v_rn, v_rr, v_re, v_ri, v_gn, v_br, w_allS, v_gi, w_seq, w_set, w_ret, w_retN, w_exp, w_nil, w_ifS, w_truB, w_tru, w_notT, w_andT, w_orT, w_and, w_or, w_not, w_if, w_c, w_op1, w_op2, w_call, w_args, w_nilA, w_consA, w_tup, w_lst, w_blt, w_mt, w_raise, w_chain, w_asgT, k_si, k_ss, k_ii, k_ib, k_is, k_tl, k_tt, k_ll, k_lt, w_mk, cVar, mkFn, List.length_cons, List.length_nil, List.map_cons, List.map_nil, List.replicate, List.cons_append, List.nil_append, List.getElem?_cons_zero, List.getElem?_cons_succ, List.set_cons_zero, List.set_cons_succ, Nat.reduceAdd, Nat.reduceSub, Nat.reduceEqDiff, Nat.reduceLeDiff, if_true, if_false, truB, truD, leD, ltD, gtD, geD, cmpD, eqD, scE, subD, isiD, tyN, u_add,  gTupG, gConsG, gNilG, gN, seqAt, negD, decide_eq_true_eq, Bool.false_xor, Bool.true_xor, maxD, minD, intsD, isNonD, isNon, reduceIte, Bool.not_true, Bool.not_false, ite_true, ite_false, Bool.false_eq_true, decide_true, decide_false, Bool.false_or, Bool.true_or, Bool.or_true, Bool.or_false, hsm, hk]
end
end Dn

set_option linter.all false
set_option maxRecDepth 100000
set_option maxHeartbeats 1000000
set_option autoImplicit false
/-! # The law's own word for the lengths that fit, and its rim -/
namespace Dn
open PySem PySem.Spec Kx L2

section
variable {bod : Bod} {S : Hd} {Γ : Gm} {j n : Nat}
theorem xAt {l : List Nat} (hl : l.length ≤ 1000) {p c : Nat} (h : l[p]? = some c) {z : Int} (hz : z = p) : ixD (.str l) (.int z) S = .ok (.str [c]) S := by
  have hp := (List.getElem?_eq_some_iff.mp h).1
  obtain ⟨c', _, h2, hx⟩ := xS (l := l) (v := z) (by omega) (by omega) (by omega)
  rw [show z.toNat = p by omega, h] at h2
  cases h2
  exact hx S
def fitI : CS := cIfS (cAndT (cTruB (cOp2 (eqD true) (cOp2 ixD (cVar 0) (cVar 3)) (cC (.str [63])))) (cTruB (cOp2 (eqD true) (cOp2 ixD (cVar 0) (cVar 3)) (cOp2 ixD (cVar 0) (cVar 2))))) (cRet (cC (.bl false))) cNil
theorem fitI_ok {l : List Nat} (hl : l.length ≤ 1000) {p q a b : Nat} (hp : l[p]? = some a) (hq : l[q]? = some b) {x y z : Int} (hy : y = p) (hz : z = q) :
    fitI [some (.str l), some (.int x), some (.int y), some (.int z)] S = if b ≠ 63 ∧ b ≠ a then .rt (.bl false) S else .nx [some (.str l), some (.int x), some (.int y), some (.int z)] S := by
  have e1 := xAt (S := S) hl hp hy
  have e2 := xAt (S := S) hl hq hz
  unfold fitI
  by_cases h1 : b = 63
  · simp only [v_bo, v_be, v_bi, v_so, v_se, v_si, v_tn, v_tr, v_te, v_ti, v_rn, v_rr, v_re, v_ri, v_gn, v_br, w_allS, v_gi, w_seq, w_set, w_ret, w_retN, w_exp, w_nil, w_ifS, w_truB, w_tru, w_notT, w_andT, w_orT, w_and, w_or, w_not, w_if, w_c, w_op1, w_op2, w_call, w_args, w_nilA, w_consA, w_tup, w_lst, w_blt, w_mt, w_raise, w_chain, w_asgT, k_si, k_ss, k_ii, k_ib, k_is, k_tl, k_tt, k_ll, k_lt, w_mk, cVar, mkFn, List.length_cons, List.length_nil, List.map_cons, List.map_nil, List.replicate, List.cons_append, List.nil_append, List.getElem?_cons_zero, List.getElem?_cons_succ, List.set_cons_zero, List.set_cons_succ, Nat.reduceAdd, Nat.reduceSub, Nat.reduceEqDiff, Nat.reduceLeDiff, if_true, if_false, truB, truD, leD, ltD, gtD, geD, cmpD, eqD, scE, subD, isiD, tyN, u_add,  gTupG, gConsG, gNilG, gN, seqAt, negD, decide_eq_true_eq, Bool.false_xor, Bool.true_xor, maxD, minD, intsD, isNonD, isNon, reduceIte, Bool.not_true, Bool.not_false, ite_true, ite_false, Bool.false_eq_true, decide_true, decide_false, Bool.false_or, Bool.true_or, Bool.or_true, Bool.or_false, e1, e2, sgl, eq_true h1, decide_eq_true h1]
    rw [if_neg (fun h => h.1 h1)]
  · by_cases h2 : b = a
    · simp only [v_bo, v_be, v_bi, v_so, v_se, v_si, v_tn, v_tr, v_te, v_ti, v_rn, v_rr, v_re, v_ri, v_gn, v_br, w_allS, v_gi, w_seq, w_set, w_ret, w_retN, w_exp, w_nil, w_ifS, w_truB, w_tru, w_notT, w_andT, w_orT, w_and, w_or, w_not, w_if, w_c, w_op1, w_op2, w_call, w_args, w_nilA, w_consA, w_tup, w_lst, w_blt, w_mt, w_raise, w_chain, w_asgT, k_si, k_ss, k_ii, k_ib, k_is, k_tl, k_tt, k_ll, k_lt, w_mk, cVar, mkFn, List.length_cons, List.length_nil, List.map_cons, List.map_nil, List.replicate, List.cons_append, List.nil_append, List.getElem?_cons_zero, List.getElem?_cons_succ, List.set_cons_zero, List.set_cons_succ, Nat.reduceAdd, Nat.reduceSub, Nat.reduceEqDiff, Nat.reduceLeDiff, if_true, if_false, truB, truD, leD, ltD, gtD, geD, cmpD, eqD, scE, subD, isiD, tyN, u_add,  gTupG, gConsG, gNilG, gN, seqAt, negD, decide_eq_true_eq, Bool.false_xor, Bool.true_xor, maxD, minD, intsD, isNonD, isNon, reduceIte, Bool.not_true, Bool.not_false, ite_true, ite_false, Bool.false_eq_true, decide_true, decide_false, Bool.false_or, Bool.true_or, Bool.or_true, Bool.or_false, e1, e2, sgl, eq_false h1, decide_eq_false h1, eq_true h2, decide_eq_true h2]
      rw [if_neg (fun h => h.2 h2)]
    · simp only [v_bo, v_be, v_bi, v_so, v_se, v_si, v_tn, v_tr, v_te, v_ti, v_rn, v_rr, v_re, v_ri, v_gn, v_br, w_allS, v_gi, w_seq, w_set, w_ret, w_retN, w_exp, w_nil, w_ifS, w_truB, w_tru, w_notT, w_andT, w_orT, w_and, w_or, w_not, w_if, w_c, w_op1, w_op2, w_call, w_args, w_nilA, w_consA, w_tup, w_lst, w_blt, w_mt, w_raise, w_chain, w_asgT, k_si, k_ss, k_ii, k_ib, k_is, k_tl, k_tt, k_ll, k_lt, w_mk, cVar, mkFn, List.length_cons, List.length_nil, List.map_cons, List.map_nil, List.replicate, List.cons_append, List.nil_append, List.getElem?_cons_zero, List.getElem?_cons_succ, List.set_cons_zero, List.set_cons_succ, Nat.reduceAdd, Nat.reduceSub, Nat.reduceEqDiff, Nat.reduceLeDiff, if_true, if_false, truB, truD, leD, ltD, gtD, geD, cmpD, eqD, scE, subD, isiD, tyN, u_add,  gTupG, gConsG, gNilG, gN, seqAt, negD, decide_eq_true_eq, Bool.false_xor, Bool.true_xor, maxD, minD, intsD, isNonD, isNon, reduceIte, Bool.not_true, Bool.not_false, ite_true, ite_false, Bool.false_eq_true, decide_true, decide_false, Bool.false_or, Bool.true_or, Bool.or_true, Bool.or_false, e1, e2, sgl, eq_false h1, decide_eq_false h1, eq_false h2, decide_eq_false h2]
      rw [if_pos ⟨h1, h2⟩]
theorem rng3_at {lo c : Int} {n i : Nat} {d : D} (h : (rng3L lo c n)[i]? = some d) : i < n ∧ d = .int (lo + (i : Int) * c) := by
  have hi : i < n := by
    have := (List.getElem?_eq_some_iff.mp h).1
    simpa [rng3L] using this
  refine ⟨hi, ?_⟩
  unfold rng3L at h
  rw [List.getElem?_map, List.getElem?_range hi] at h
  cases h
  rfl
/-- all places behind p that lie so far on, against it -/
theorem inner_ok {l : List Nat} (hl : l.length ≤ 1000) {p k a : Nat} (hk : 0 < k) (hk1 : k ≤ 1000) (hp : l[p]? = some a) (ha : a ≠ 63) {x y : Int} (hx : x = k) (hy : y = p) {z : Option D} :
    (∃ z', cFor (cRng3 (cConsA (cOp2 addD (cVar 2) (cVar 1)) (cConsA (cBlt lenD (cConsA (cVar 0) cNilA)) (cConsA (cVar 1) cNilA)))) (gN 3) fitI [some (.str l), some (.int x), some (.int y), z] S = .nx [some (.str l), some (.int x), some (.int y), z'] S ∧ ∀ t b, l[p + k * (t + 1)]? = some b → b ≠ 63 → a = b) ∨
    (cFor (cRng3 (cConsA (cOp2 addD (cVar 2) (cVar 1)) (cConsA (cBlt lenD (cConsA (cVar 0) cNilA)) (cConsA (cVar 1) cNilA)))) (gN 3) fitI [some (.str l), some (.int x), some (.int y), z] S = .rt (.bl false) S ∧ ¬ FitsP l k) := by
  have pl := (List.getElem?_eq_some_iff.mp hp).1
  have hx0 : 0 < x := by omega
  have ln : lenD [.str l] S = .ok (.int (l.length : Nat)) S := xN (by omega)
  have hle := rngN_le (i := y + x) (j := (l.length : Nat)) hx0 (by omega) (by omega)
  have hlr : (rng3L (y + x) x (rngN (y + x) (l.length : Nat) x)).length = rngN (y + x) (l.length : Nat) x := by simp [rng3L]
  have cast : ∀ t : Nat, ((p + k * (t + 1) : Nat) : Int) = y + x + (t : Int) * x := fun t => by
    rw [Nat.mul_succ, Int.natCast_add, Int.natCast_add, Int.natCast_mul, hx, hy, Int.mul_comm (t : Int)]
    omega
  have key := cFor_run (it := cRng3 (cConsA (cOp2 addD (cVar 2) (cVar 1)) (cConsA (cBlt lenD (cConsA (cVar 0) cNilA)) (cConsA (cVar 1) cNilA)))) (S0 := S) (S := S) (src := .base (.items (rng3L (y + x) x (rngN (y + x) (l.length : Nat) x)))) (g := gN 3) (b := fitI) (Γ := [some (.str l), some (.int x), some (.int y), z]) (rng3L (y + x) x (rngN (y + x) (l.length : Nat) x))
    (fun i Γ S' => S' = S ∧ (∃ z', Γ = [some (.str l), some (.int x), some (.int y), z']) ∧ ∀ t b, t < i → l[p + k * (t + 1)]? = some b → b ≠ 63 → a = b)
    (fun r S' => r = .bl false ∧ S' = S ∧ ¬ FitsP l k)
    (hit3 hx0 (by omega) (by omega) (by omega) (by omega) (by omega) (by simp only [v_bo, v_be, v_bi, v_so, v_se, v_si, v_tn, v_tr, v_te, v_ti, v_rn, v_rr, v_re, v_ri, v_gn, v_br, w_allS, v_gi, w_seq, w_set, w_ret, w_retN, w_exp, w_nil, w_ifS, w_truB, w_tru, w_notT, w_andT, w_orT, w_and, w_or, w_not, w_if, w_c, w_op1, w_op2, w_call, w_args, w_nilA, w_consA, w_tup, w_lst, w_blt, w_mt, w_raise, w_chain, w_asgT, k_si, k_ss, k_ii, k_ib, k_is, k_tl, k_tt, k_ll, k_lt, w_mk, cVar, mkFn, List.length_cons, List.length_nil, List.map_cons, List.map_nil, List.replicate, List.cons_append, List.nil_append, List.getElem?_cons_zero, List.getElem?_cons_succ, List.set_cons_zero, List.set_cons_succ, Nat.reduceAdd, Nat.reduceSub, Nat.reduceEqDiff, Nat.reduceLeDiff, if_true, if_false, truB, truD, leD, ltD, gtD, geD, cmpD, eqD, scE, subD, isiD, tyN, u_add,  gTupG, gConsG, gNilG, gN, seqAt, negD, decide_eq_true_eq, Bool.false_xor, Bool.true_xor, maxD, minD, intsD, isNonD, isNon, reduceIte, Bool.not_true, Bool.not_false, ite_true, ite_false, Bool.false_eq_true, decide_true, decide_false, Bool.false_or, Bool.true_or, Bool.or_true, Bool.or_false]) (by simp only [v_bo, v_be, v_bi, v_so, v_se, v_si, v_tn, v_tr, v_te, v_ti, v_rn, v_rr, v_re, v_ri, v_gn, v_br, w_allS, v_gi, w_seq, w_set, w_ret, w_retN, w_exp, w_nil, w_ifS, w_truB, w_tru, w_notT, w_andT, w_orT, w_and, w_or, w_not, w_if, w_c, w_op1, w_op2, w_call, w_args, w_nilA, w_consA, w_tup, w_lst, w_blt, w_mt, w_raise, w_chain, w_asgT, k_si, k_ss, k_ii, k_ib, k_is, k_tl, k_tt, k_ll, k_lt, w_mk, cVar, mkFn, List.length_cons, List.length_nil, List.map_cons, List.map_nil, List.replicate, List.cons_append, List.nil_append, List.getElem?_cons_zero, List.getElem?_cons_succ, List.set_cons_zero, List.set_cons_succ, Nat.reduceAdd, Nat.reduceSub, Nat.reduceEqDiff, Nat.reduceLeDiff, if_true, if_false, truB, truD, leD, ltD, gtD, geD, cmpD, eqD, scE, subD, isiD, tyN, u_add,  gTupG, gConsG, gNilG, gN, seqAt, negD, decide_eq_true_eq, Bool.false_xor, Bool.true_xor, maxD, minD, intsD, isNonD, isNon, reduceIte, Bool.not_true, Bool.not_false, ite_true, ite_false, Bool.false_eq_true, decide_true, decide_false, Bool.false_or, Bool.true_or, Bool.or_true, Bool.or_false, ln]) rfl) (by rw [hlr]; omega) (fun i Γ S' _ _ => rfl)
    (fun i d Γ S' hd h => by
      obtain ⟨rfl, ⟨z', rfl⟩, h⟩ := h
      obtain ⟨hi, rfl⟩ := rng3_at hd
      rw [rngN_at hx0, ← cast i] at hi
      have hq : p + k * (i + 1) < l.length := by omega
      obtain ⟨b, hb⟩ : ∃ b, l[p + k * (i + 1)]? = some b := ⟨_, List.getElem?_eq_getElem hq⟩
      have e := fitI_ok (S := S') hl hp hb (x := x) (y := y) (z := y + x + (i : Int) * x) hy (cast i).symm
      refine ⟨[some (.str l), some (.int x), some (.int y), some (.int (y + x + (i : Int) * x))], S', rfl, ?_⟩
      by_cases hne : b ≠ 63 ∧ b ≠ a
      · rw [if_pos hne] at e
        exact .inr ⟨_, _, e, rfl, rfl, fun hf => hne.2 (hf p i a b hp hb ha hne.1).symm⟩
      · rw [if_neg hne] at e
        refine .inl ⟨_, _, .inl e, rfl, ⟨_, rfl⟩, fun t b' ht hb' h63 => ?_⟩
        by_cases hti : t = i
        · subst hti
          rw [hb] at hb'
          cases hb'
          exact Classical.byContradiction fun hn => hne ⟨h63, fun q => hn q.symm⟩
        · exact h t b' (by omega) hb' h63) ⟨rfl, ⟨z, rfl⟩, fun t b ht => absurd ht (Nat.not_lt_zero _)⟩
  rcases key with ⟨Γ', S', e, rfl, ⟨z', rfl⟩, h⟩ | ⟨r, S', e, rfl, rfl, hn⟩
  · refine .inl ⟨z', e, fun t b hb h63 => h t b ?_ hb h63⟩
    rw [hlr, rngN_at hx0, ← cast t]
    have := (List.getElem?_eq_some_iff.mp hb).1
    omega
  · exact .inr ⟨e, hn⟩
def fitO : CS := cIfS (cTruB (cOp2 (eqD true) (cOp2 ixD (cVar 0) (cVar 2)) (cC (.str [63])))) (cFor (cRng3 (cConsA (cOp2 addD (cVar 2) (cVar 1)) (cConsA (cBlt lenD (cConsA (cVar 0) cNilA)) (cConsA (cVar 1) cNilA)))) (gN 3) fitI) cNil
theorem outer_ok {l : List Nat} (hl : l.length ≤ 1000) {k : Nat} (hk : 0 < k) (hk1 : k ≤ 1000) {x : Int} (hx : x = k) :
    (∃ Γ', cFor (cRng1 (cConsA (cBlt lenD (cConsA (cVar 0) cNilA)) cNilA)) (gN 2) fitO [some (.str l), some (.int x), none, none] S = .nx Γ' S ∧ FitsP l k) ∨
    (cFor (cRng1 (cConsA (cBlt lenD (cConsA (cVar 0) cNilA)) cNilA)) (gN 2) fitO [some (.str l), some (.int x), none, none] S = .rt (.bl false) S ∧ ¬ FitsP l k) := by
  have ln : lenD [.str l] S = .ok (.int (l.length : Nat)) S := xN (by omega)
  have hlr : (rngL 0 l.length).length = l.length := by simp [rngL]
  have key := cFor_run (it := cRng1 (cConsA (cBlt lenD (cConsA (cVar 0) cNilA)) cNilA)) (S0 := S) (S := S) (src := .base (.items (rngL 0 l.length))) (g := gN 2) (b := fitO) (Γ := [some (.str l), some (.int x), none, none]) (rngL 0 l.length)
    (fun i Γ S' => S' = S ∧ (∃ y z, Γ = [some (.str l), some (.int x), y, z]) ∧ ∀ p t a b, p < i → l[p]? = some a → l[p + k * (t + 1)]? = some b → a ≠ 63 → b ≠ 63 → a = b)
    (fun r S' => r = .bl false ∧ S' = S ∧ ¬ FitsP l k)
    (hit1g (z := ((l.length : Nat) : Int)) (by simp only [v_bo, v_be, v_bi, v_so, v_se, v_si, v_tn, v_tr, v_te, v_ti, v_rn, v_rr, v_re, v_ri, v_gn, v_br, w_allS, v_gi, w_seq, w_set, w_ret, w_retN, w_exp, w_nil, w_ifS, w_truB, w_tru, w_notT, w_andT, w_orT, w_and, w_or, w_not, w_if, w_c, w_op1, w_op2, w_call, w_args, w_nilA, w_consA, w_tup, w_lst, w_blt, w_mt, w_raise, w_chain, w_asgT, k_si, k_ss, k_ii, k_ib, k_is, k_tl, k_tt, k_ll, k_lt, w_mk, cVar, mkFn, List.length_cons, List.length_nil, List.map_cons, List.map_nil, List.replicate, List.cons_append, List.nil_append, List.getElem?_cons_zero, List.getElem?_cons_succ, List.set_cons_zero, List.set_cons_succ, Nat.reduceAdd, Nat.reduceSub, Nat.reduceEqDiff, Nat.reduceLeDiff, if_true, if_false, truB, truD, leD, ltD, gtD, geD, cmpD, eqD, scE, subD, isiD, tyN, u_add,  gTupG, gConsG, gNilG, gN, seqAt, negD, decide_eq_true_eq, Bool.false_xor, Bool.true_xor, maxD, minD, intsD, isNonD, isNon, reduceIte, Bool.not_true, Bool.not_false, ite_true, ite_false, Bool.false_eq_true, decide_true, decide_false, Bool.false_or, Bool.true_or, Bool.or_true, Bool.or_false, ln]) rfl hl) (by rw [hlr]; omega) (fun i Γ S' _ _ => rfl)
    (fun i d Γ S' hd h => by
      obtain ⟨rfl, ⟨y, z, rfl⟩, h⟩ := h
      have hi : i < l.length := by
        have := (List.getElem?_eq_some_iff.mp hd).1
        rw [hlr] at this
        exact this
      obtain ⟨w, hw, hdd⟩ : ∃ w : Int, w = (i : Nat) ∧ d = .int w := by
        refine ⟨0 + (i : Int), by omega, ?_⟩
        unfold rngL at hd
        rw [List.getElem?_map, List.getElem?_range hi] at hd
        cases hd
        rfl
      subst hdd
      obtain ⟨a, ha⟩ : ∃ a, l[i]? = some a := ⟨_, List.getElem?_eq_getElem hi⟩
      have e1 := xAt (S := S') hl ha hw
      refine ⟨[some (.str l), some (.int x), some (.int w), z], S', rfl, ?_⟩
      by_cases h63 : a = 63
      · refine .inl ⟨[some (.str l), some (.int x), some (.int w), z], S', .inl ?_, rfl, ⟨_, _, rfl⟩, fun p t a' b' hp ha' hb' n1 n2 => ?_⟩
        · unfold fitO
          simp only [v_bo, v_be, v_bi, v_so, v_se, v_si, v_tn, v_tr, v_te, v_ti, v_rn, v_rr, v_re, v_ri, v_gn, v_br, w_allS, v_gi, w_seq, w_set, w_ret, w_retN, w_exp, w_nil, w_ifS, w_truB, w_tru, w_notT, w_andT, w_orT, w_and, w_or, w_not, w_if, w_c, w_op1, w_op2, w_call, w_args, w_nilA, w_consA, w_tup, w_lst, w_blt, w_mt, w_raise, w_chain, w_asgT, k_si, k_ss, k_ii, k_ib, k_is, k_tl, k_tt, k_ll, k_lt, w_mk, cVar, mkFn, List.length_cons, List.length_nil, List.map_cons, List.map_nil, List.replicate, List.cons_append, List.nil_append, List.getElem?_cons_zero, List.getElem?_cons_succ, List.set_cons_zero, List.set_cons_succ, Nat.reduceAdd, Nat.reduceSub, Nat.reduceEqDiff, Nat.reduceLeDiff, if_true, if_false, truB, truD, leD, ltD, gtD, geD, cmpD, eqD, scE, subD, isiD, tyN, u_add,  gTupG, gConsG, gNilG, gN, seqAt, negD, decide_eq_true_eq, Bool.false_xor, Bool.true_xor, maxD, minD, intsD, isNonD, isNon, reduceIte, Bool.not_true, Bool.not_false, ite_true, ite_false, Bool.false_eq_true, decide_true, decide_false, Bool.false_or, Bool.true_or, Bool.or_true, Bool.or_false, e1, sgl, eq_true h63, decide_eq_true h63]
        · by_cases hpi : p = i
          · subst hpi
            rw [ha] at ha'
            cases ha'
            exact absurd h63 n1
          · exact h p t a' b' (by omega) ha' hb' n1 n2
      · have eo : fitO [some (.str l), some (.int x), some (.int w), z] S' = cFor (cRng3 (cConsA (cOp2 addD (cVar 2) (cVar 1)) (cConsA (cBlt lenD (cConsA (cVar 0) cNilA)) (cConsA (cVar 1) cNilA)))) (gN 3) fitI [some (.str l), some (.int x), some (.int w), z] S' := by
          unfold fitO
          generalize (cFor (cRng3 (cConsA (cOp2 addD (cVar 2) (cVar 1)) (cConsA (cBlt lenD (cConsA (cVar 0) cNilA)) (cConsA (cVar 1) cNilA)))) (gN 3) fitI) = F
          simp only [v_bo, v_be, v_bi, v_so, v_se, v_si, v_tn, v_tr, v_te, v_ti, v_rn, v_rr, v_re, v_ri, v_gn, v_br, w_allS, v_gi, w_seq, w_set, w_ret, w_retN, w_exp, w_nil, w_ifS, w_truB, w_tru, w_notT, w_andT, w_orT, w_and, w_or, w_not, w_if, w_c, w_op1, w_op2, w_call, w_args, w_nilA, w_consA, w_tup, w_lst, w_blt, w_mt, w_raise, w_chain, w_asgT, k_si, k_ss, k_ii, k_ib, k_is, k_tl, k_tt, k_ll, k_lt, w_mk, cVar, mkFn, List.length_cons, List.length_nil, List.map_cons, List.map_nil, List.replicate, List.cons_append, List.nil_append, List.getElem?_cons_zero, List.getElem?_cons_succ, List.set_cons_zero, List.set_cons_succ, Nat.reduceAdd, Nat.reduceSub, Nat.reduceEqDiff, Nat.reduceLeDiff, if_true, if_false, truB, truD, leD, ltD, gtD, geD, cmpD, eqD, scE, subD, isiD, tyN, u_add,  gTupG, gConsG, gNilG, gN, seqAt, negD, decide_eq_true_eq, Bool.false_xor, Bool.true_xor, maxD, minD, intsD, isNonD, isNon, reduceIte, Bool.not_true, Bool.not_false, ite_true, ite_false, Bool.false_eq_true, decide_true, decide_false, Bool.false_or, Bool.true_or, Bool.or_true, Bool.or_false, e1, sgl, eq_false h63, decide_eq_false h63]
        rcases inner_ok (S := S') hl hk hk1 ha h63 hx hw (z := z) with ⟨z', e, h'⟩ | ⟨e, hn⟩
        · refine .inl ⟨_, _, .inl (eo.trans e), rfl, ⟨_, _, rfl⟩, fun p t a' b' hp ha' hb' n1 n2 => ?_⟩
          by_cases hpi : p = i
          · subst hpi
            rw [ha] at ha'
            cases ha'
            exact h' t b' hb' n2
          · exact h p t a' b' (by omega) ha' hb' n1 n2
        · exact .inr ⟨_, _, eo.trans e, rfl, rfl, hn⟩) ⟨rfl, ⟨_, _, rfl⟩, fun p t a b hp => absurd hp (Nat.not_lt_zero _)⟩
  rcases key with ⟨Γ', S', e, rfl, _, h⟩ | ⟨r, S', e, rfl, rfl, hn⟩
  · refine .inl ⟨Γ', e, fun p t a b ha hb n1 n2 => h p t a b ?_ ha hb n1 n2⟩
    rw [hlr]
    exact (List.getElem?_eq_some_iff.mp ha).1
  · exact .inr ⟨e, hn⟩
theorem fits_run (F : CS) {d1 d2 : D} : (∀ Γ', F [some d1, some d2, none, none] S = .nx Γ' S → mkFn 4 2 (cSeq F (cRet (cC (.bl true)))) [d1, d2] S = .ok (.bl true) S) ∧ (F [some d1, some d2, none, none] S = .rt (.bl false) S → mkFn 4 2 (cSeq F (cRet (cC (.bl true)))) [d1, d2] S = .ok (.bl false) S) := by
  refine ⟨fun Γ' e => ?_, fun e => ?_⟩
  · rw [w_mk 4 2 _ [d1, d2] rfl, w_seq]
    simp only [List.map_cons, List.map_nil, List.replicate, Nat.reduceSub, List.cons_append, List.nil_append]
    rw [e]
    rfl
  · rw [w_mk 4 2 _ [d1, d2] rfl, w_seq]
    simp only [List.map_cons, List.map_nil, List.replicate, Nat.reduceSub, List.cons_append, List.nil_append]
    rw [e]
    rfl
theorem fits_ok (hf : bod.lookup ("_law_fits" : Str) = some mb_fits) (hj : 1 ≤ j) {l : List Nat} (hl : l.length ≤ 1000) {k : Nat} (hk : 0 < k) (hk1 : k ≤ 1000) {x : Int} (hx : x = k) :
    den bod j "_law_fits" [.str l, .int x] S = .ok (.bl (rimD l k).isSome) S := by
  obtain ⟨j, rfl, hj2⟩ := one_of (n := 0) hj
  rw [den_eq hf]
  obtain ⟨h1, h2⟩ := fits_run (S := S) (cFor (cRng1 (cConsA (cBlt lenD (cConsA (cVar 0) cNilA)) cNilA)) (gN 2) fitO) (d1 := .str l) (d2 := .int x)
  rcases outer_ok (S := S) hl hk hk1 hx with ⟨Γ', e, hfit⟩ | ⟨e, hn⟩
  · rw [(rimD_isSome hk).mpr hfit]
    exact h1 Γ' e
  · rw [rimD_nofit hk hn]
    exact h2 e
end
end Dn

set_option linter.all false
set_option maxRecDepth 100000
set_option maxHeartbeats 1000000
set_option autoImplicit false
/-! # The fewest spoilt places -/
namespace Dn
open PySem PySem.Spec Kx L2

/-- how often the sign stands in a text that it has most often -/
def mxc (t : List Nat) : Nat := (sgn t).foldl (fun m c => max m (t.count c)) 0
theorem foldl_max_ge (f : Nat → Nat) : ∀ (l : List Nat) (b : Nat), b ≤ l.foldl (fun m c => max m (f c)) b
  | [], b => Nat.le_refl _
  | c :: l, b => Nat.le_trans (Nat.le_max_left _ _) (foldl_max_ge f l (max b (f c)))
theorem foldl_max_mem (f : Nat → Nat) : ∀ (l : List Nat) (b : Nat) {c : Nat}, c ∈ l → f c ≤ l.foldl (fun m c => max m (f c)) b
  | d :: l, b, c, h => by
    rcases List.mem_cons.mp h with rfl | h
    · exact Nat.le_trans (Nat.le_max_right _ _) (foldl_max_ge f l (max b (f c)))
    · exact foldl_max_mem f l _ h
theorem foldl_max_le (f : Nat → Nat) {n : Nat} : ∀ (l : List Nat) (b : Nat), b ≤ n → (∀ c ∈ l, f c ≤ n) → l.foldl (fun m c => max m (f c)) b ≤ n
  | [], b, h, _ => h
  | c :: l, b, h, h2 => foldl_max_le f l (max b (f c)) (Nat.max_le.mpr ⟨h, h2 c List.mem_cons_self⟩) fun d hd => h2 d (List.mem_cons_of_mem _ hd)
theorem mxc_le {t : List Nat} {n : Nat} : mxc t ≤ n ↔ ∀ c, t.count c ≤ n := by
  constructor
  · intro h c
    by_cases hc : c ∈ t
    · exact Nat.le_trans (foldl_max_mem (fun c => t.count c) (sgn t) 0 (sgn_mem.mpr hc)) h
    · rw [List.count_eq_zero_of_not_mem hc]
      exact Nat.zero_le _
  · intro h
    exact foldl_max_le (fun c => t.count c) (sgn t) 0 (Nat.zero_le _) fun c _ => h c
theorem mxc_len {t : List Nat} : mxc t ≤ t.length := mxc_le.mpr fun c => List.count_le_length
def costL (l : List Nat) (m k : Nat) : Nat := (sn l m k).length - mxc (sn l m k)
def spS (l : List Nat) (k : Nat) : Nat → Nat
  | 0 => 0
  | n + 1 => spS l k n + costL l n k
theorem fm_congr {f g : Nat → Option Nat} : ∀ {l : List Nat}, (∀ x ∈ l, f x = g x) → l.filterMap f = l.filterMap g
  | [], _ => rfl
  | x :: l, h => by
    rw [List.filterMap_cons, List.filterMap_cons, h x List.mem_cons_self, fm_congr fun y hy => h y (List.mem_cons_of_mem _ hy)]
/-- one place less -/
theorem mxc_cons {t t' : List Nat} {a : Nat} (h : t.Perm (a :: t')) : mxc t = mxc t' ∨ mxc t = mxc t' + 1 := by
  have cnt : ∀ c, t.count c = t'.count c + if a = c then 1 else 0 := fun c => by
    rw [h.count_eq, List.count_cons]
    simp only [beq_iff_eq]
  have h1 : mxc t' ≤ mxc t := mxc_le.mpr fun c => Nat.le_trans (by rw [cnt c]; omega) (mxc_le.mp (Nat.le_refl (mxc t)) c)
  have h2 : mxc t ≤ mxc t' + 1 := mxc_le.mpr fun c => by
    have := mxc_le.mp (Nat.le_refl (mxc t')) c
    rw [cnt c]
    split <;> omega
  omega
theorem rem_perm {f : Nat → Option Nat} {i0 a : Nat} (h : f i0 = some a) : ∀ xs : List Nat, xs.Nodup → i0 ∈ xs → (xs.filterMap f).Perm (a :: xs.filterMap fun i => if i = i0 then none else f i)
  | x :: r, nd, hm => by
    rw [List.nodup_cons] at nd
    by_cases e : x = i0
    · subst e
      have e1 : r.filterMap (fun i => if i = x then none else f i) = r.filterMap f := fm_congr fun i hi => if_neg (show ¬ i = x from fun q => nd.1 (q ▸ hi))
      rw [List.filterMap_cons, h, List.filterMap_cons, if_pos rfl, e1]
    · have hr : i0 ∈ r := by
        rcases List.mem_cons.mp hm with q | q
        · exact absurd q.symm e
        · exact q
      have ih := rem_perm h r nd.2 hr
      rw [List.filterMap_cons, List.filterMap_cons, if_neg e]
      cases f x with
      | none => exact ih
      | some b => exact (ih.cons b).trans (List.Perm.swap a b _)
/-- what is seen of a rim's place, place by place -/
theorem sn_fm (l : List Nat) (m k : Nat) : sn l m k = (List.range l.length).filterMap fun i => (l[m + k * i]?).bind fun c => if c = 63 then none else some c := by
  unfold sn stepL
  generalize List.range l.length = xs
  induction xs with
  | nil => rfl
  | cons x xs ih =>
    rw [List.filterMap_cons, List.filterMap_cons]
    cases hx : l[m + k * x]? with
    | none => exact ih
    | some c =>
      have e : ∀ r, repL 63 [] (c :: r) = (if c = 63 then [] else [c]) ++ repL 63 [] r := fun r => rfl
      rw [e, ih]
      by_cases h : c = 63 <;> simp [h]
theorem setQ {l : List Nat} {p q : Nat} (hp : p < l.length) : (l.set p 63)[q]? = if q = p then some 63 else l[q]? := by
  by_cases h : q = p
  · subst h
    rw [if_pos rfl, List.getElem?_set_self hp]
  · rw [if_neg h, List.getElem?_set_ne (Ne.symm h)]
theorem sn_set {l : List Nat} {p k : Nat} (hk : 0 < k) (hp : p < l.length) (m : Nat) (hm : m < k) :
    (m ≠ p % k → sn (l.set p 63) m k = sn l m k) ∧ (m = p % k → ∀ a, l[p]? = some a → a ≠ 63 → (sn l m k).Perm (a :: sn (l.set p 63) m k)) := by
  refine ⟨fun h => ?_, fun h a ha h63 => ?_⟩
  · rw [sn_fm, sn_fm, List.length_set]
    refine fm_congr fun i _ => ?_
    rw [setQ hp, if_neg fun q => h ?_]
    rw [← q, Nat.add_mul_mod_self_left, Nat.mod_eq_of_lt hm]
  · have hpk : m + k * (p / k) = p := by rw [h]; exact Nat.mod_add_div p k
    have hlt : p / k < l.length := Nat.lt_of_le_of_lt (Nat.div_le_self p k) hp
    have key := rem_perm (f := fun i => (l[m + k * i]?).bind fun c => if c = 63 then none else some c) (i0 := p / k) (a := a) (by
      show (l[m + k * (p / k)]?).bind _ = _
      rw [hpk, ha]
      exact if_neg h63) (List.range l.length) List.nodup_range (List.mem_range.mpr hlt)
    rw [sn_fm l, sn_fm (l.set p 63), List.length_set]
    refine key.trans (List.Perm.of_eq ?_)
    congr 1
    refine fm_congr fun i _ => ?_
    show (if i = p / k then none else (l[m + k * i]?).bind _) = ((l.set p 63)[m + k * i]?).bind _
    rw [setQ hp]
    by_cases hi : i = p / k
    · subst hi
      rw [if_pos rfl, hpk, if_pos rfl]
      rfl
    · rw [if_neg hi, if_neg fun q => hi ?_]
      have : k * i = k * (p / k) := by omega
      exact Nat.eq_of_mul_eq_mul_left hk this
theorem set_same {l : List Nat} {p : Nat} (h : l[p]? = some 63) : l.set p 63 = l := by
  apply List.ext_getElem?
  intro q
  rw [setQ (List.getElem?_eq_some_iff.mp h).1]
  split
  · rename_i e; rw [e, h]
  · rfl
/-- with a place hidden as many are spoilt, or one less -/
theorem spS_set {l : List Nat} {p k : Nat} (hk : 0 < k) (hp : p < l.length) : spS (l.set p 63) k k = spS l k k ∨ spS l k k = spS (l.set p 63) k k + 1 := by
  obtain ⟨a, ha⟩ : ∃ a, l[p]? = some a := ⟨_, List.getElem?_eq_getElem hp⟩
  by_cases h63 : a = 63
  · subst h63
    rw [set_same ha]
    exact .inl rfl
  · have hpm : p % k < k := Nat.mod_lt _ hk
    have P := (sn_set hk hp (p % k) hpm).2 rfl a ha h63
    have hl : (sn l (p % k) k).length = (sn (l.set p 63) (p % k) k).length + 1 := by rw [P.length_eq, List.length_cons]
    have h1 := @mxc_len (sn (l.set p 63) (p % k) k)
    obtain ⟨d, hd, hc⟩ : ∃ d, d ≤ 1 ∧ costL l (p % k) k = costL (l.set p 63) (p % k) k + d := by
      unfold costL
      rcases mxc_cons P with e | e
      · exact ⟨1, Nat.le_refl _, by omega⟩
      · exact ⟨0, Nat.zero_le _, by omega⟩
    have sum : ∀ n, n ≤ k → spS l k n = spS (l.set p 63) k n + if p % k < n then d else 0 := by
      intro n
      induction n with
      | zero => intro _; rfl
      | succ n ih =>
        intro hn
        have ih := ih (by omega)
        show spS l k n + costL l n k = spS (l.set p 63) k n + costL (l.set p 63) n k + _
        by_cases e : n = p % k
        · rw [e] at ih ⊢
          rw [if_neg (by omega)] at ih
          rw [if_pos (by omega)]
          omega
        · have : costL (l.set p 63) n k = costL l n k := by
            unfold costL
            rw [(sn_set hk hp n (by omega)).1 e]
          rw [this]
          by_cases h : p % k < n
          · rw [if_pos h] at ih
            rw [if_pos (by omega)]
            omega
          · rw [if_neg h] at ih
            rw [if_neg (by omega)]
            omega
    have := sum k (Nat.le_refl _)
    rw [if_pos hpm] at this
    omega
end Dn

set_option linter.all false
set_option maxRecDepth 100000
set_option maxHeartbeats 1000000
set_option autoImplicit false
/-! # spoilt_of, most_often -/
namespace Dn
open PySem PySem.Spec Kx L2

section
variable {bod : Bod} {S : Hd} {Γ : Gm} {j n : Nat}
def moB : CS := cIfS (cTruB (cOp2 gtD (cMt "str" isStrD countD (cVar 0) (cConsA (cVar 2) cNilA)) (cMt "str" isStrD countD (cVar 0) (cConsA (cVar 1) cNilA)))) (cSet 1 (cVar 2)) cNil
theorem moB_ok {t : List Nat} {b c : Nat} : ∃ b', moB [some (.str t), some (.str [b]), some (.str [c])] S = .nx [some (.str t), some (.str [b']), some (.str [c])] S ∧ t.count b' = max (t.count b) (t.count c) := by
  have e1 : countD (.str t) [.str [c]] S = .ok (.int ((t.count c : Nat) : Int)) S := rfl
  have e2 : countD (.str t) [.str [b]] S = .ok (.int ((t.count b : Nat) : Int)) S := rfl
  by_cases h : t.count b < t.count c
  · have h1 : (((t.count b : Nat) : Int) < ((t.count c : Nat) : Int)) := by omega
    refine ⟨c, ?_, by omega⟩
    generalize ((t.count b : Nat) : Int) = y at *
    generalize ((t.count c : Nat) : Int) = z at *
    unfold moB
    generalize countD = f at e1 e2 ⊢
    simp only [v_bo, v_be, v_bi, v_so, v_se, v_si, v_tn, v_tr, v_te, v_ti, v_rn, v_rr, v_re, v_ri, v_gn, v_br, w_allS, v_gi, w_seq, w_set, w_ret, w_retN, w_exp, w_nil, w_ifS, w_truB, w_tru, w_notT, w_andT, w_orT, w_and, w_or, w_not, w_if, w_c, w_op1, w_op2, w_call, w_args, w_nilA, w_consA, w_tup, w_lst, w_blt, w_mt, w_raise, w_chain, w_asgT, k_si, k_ss, k_ii, k_ib, k_is, k_tl, k_tt, k_ll, k_lt, w_mk, cVar, mkFn, List.length_cons, List.length_nil, List.map_cons, List.map_nil, List.replicate, List.cons_append, List.nil_append, List.getElem?_cons_zero, List.getElem?_cons_succ, List.set_cons_zero, List.set_cons_succ, Nat.reduceAdd, Nat.reduceSub, Nat.reduceEqDiff, Nat.reduceLeDiff, if_true, if_false, truB, truD, leD, ltD, gtD, geD, cmpD, eqD, scE, subD, isiD, tyN, u_add,  gTupG, gConsG, gNilG, gN, seqAt, negD, decide_eq_true_eq, Bool.false_xor, Bool.true_xor, maxD, minD, intsD, isNonD, isNon, reduceIte, Bool.not_true, Bool.not_false, ite_true, ite_false, Bool.false_eq_true, decide_true, decide_false, Bool.false_or, Bool.true_or, Bool.or_true, Bool.or_false, isStrD, e1, e2, eq_true h1, decide_eq_true h1]
  · have h1 : ¬ (((t.count b : Nat) : Int) < ((t.count c : Nat) : Int)) := by omega
    refine ⟨b, ?_, by omega⟩
    generalize ((t.count b : Nat) : Int) = y at *
    generalize ((t.count c : Nat) : Int) = z at *
    unfold moB
    generalize countD = f at e1 e2 ⊢
    simp only [v_bo, v_be, v_bi, v_so, v_se, v_si, v_tn, v_tr, v_te, v_ti, v_rn, v_rr, v_re, v_ri, v_gn, v_br, w_allS, v_gi, w_seq, w_set, w_ret, w_retN, w_exp, w_nil, w_ifS, w_truB, w_tru, w_notT, w_andT, w_orT, w_and, w_or, w_not, w_if, w_c, w_op1, w_op2, w_call, w_args, w_nilA, w_consA, w_tup, w_lst, w_blt, w_mt, w_raise, w_chain, w_asgT, k_si, k_ss, k_ii, k_ib, k_is, k_tl, k_tt, k_ll, k_lt, w_mk, cVar, mkFn, List.length_cons, List.length_nil, List.map_cons, List.map_nil, List.replicate, List.cons_append, List.nil_append, List.getElem?_cons_zero, List.getElem?_cons_succ, List.set_cons_zero, List.set_cons_succ, Nat.reduceAdd, Nat.reduceSub, Nat.reduceEqDiff, Nat.reduceLeDiff, if_true, if_false, truB, truD, leD, ltD, gtD, geD, cmpD, eqD, scE, subD, isiD, tyN, u_add,  gTupG, gConsG, gNilG, gN, seqAt, negD, decide_eq_true_eq, Bool.false_xor, Bool.true_xor, maxD, minD, intsD, isNonD, isNon, reduceIte, Bool.not_true, Bool.not_false, ite_true, ite_false, Bool.false_eq_true, decide_true, decide_false, Bool.false_or, Bool.true_or, Bool.or_true, Bool.or_false, isStrD, e1, e2, eq_false h1, decide_eq_false h1]
theorem cSrc_of {m : CE} {n : Nat} {ds : List D} {S' : Hd} (hm : m Γ S = .ok (.ref n) S') (h : lstAt S' n = some ds) : cSrc m Γ S = .ok (.base (.lst n)) S' := by
  unfold cSrc
  rw [hm]
  show srcD (.ref n) S' = _
  unfold srcD
  dsimp only
  rw [h]
theorem mo_run (F : CS) (S' : Hd) {d : D} {b : D} {y : Option D} (e : F [some d, some (.str [63]), none] S = .nx [some d, some b, y] S') : mkFn 3 1 (cSeq (cSet 1 (cC (.str [63]))) (cSeq F (cRet (cVar 1)))) [d] S = .ok b S' := by
  rw [w_mk 3 1 _ [d] rfl, w_seq]
  rw [show (cSet 1 (cC (.str [63]))) ([d].map some ++ List.replicate (3 - 1) none) S = .nx [some d, some (.str [63]), none] S from rfl, v_tn, w_seq, e]
  rfl
theorem most_often_ok (hp : HasProg bod) (hj : 2 ≤ j) (t : List Nat) (h1 : t.length ≤ 1000) (h2 : (sgn t).length < 64) (h63 : 63 ∉ t) :
    ∃ (b : Nat) (S' : Hd), Gro S S' ∧ t.count b = mxc t ∧ den bod j "most_often" [.str t] S = .ok (.str [b]) S' := by
  obtain ⟨j, rfl, hj2⟩ := one_of (n := 1) hj
  rw [den_eq hp.p_most_often]
  have e1 := signs_in_ok (S := S) hp (show 1 ≤ j by omega) t h1 h2
  have hn : (S ++ [Ob.lst (chs (sgn t))])[S.length]? = some (.lst (chs (sgn t))) := List.getElem?_concat_length
  have hlr : (chs (sgn t)).length = (sgn t).length := by simp [chs]
  obtain ⟨Γ', S', e, b, y, rfl, hb, rfl⟩ := cFor_inv (it := cSrc (cCall (den bod j) "signs_in" (cArgs 1 (cConsA (cVar 0) cNilA)))) (S0 := S) (S := S ++ [Ob.lst (chs (sgn t))]) (src := .base (.lst S.length)) (g := gN 2) (b := moB) (Γ := [some (.str t), some (.str [63]), none]) (chs (sgn t))
    (fun i Γ S' => ∃ (b : Nat) (y : Option D), Γ = [some (.str t), some (.str [b]), y] ∧ t.count b = ((sgn t).take i).foldl (fun m c => max m (t.count c)) 0 ∧ S' = S ++ [Ob.lst (chs (sgn t))])
    (cSrc_of (by simp only [v_bo, v_be, v_bi, v_so, v_se, v_si, v_tn, v_tr, v_te, v_ti, v_rn, v_rr, v_re, v_ri, v_gn, v_br, w_allS, v_gi, w_seq, w_set, w_ret, w_retN, w_exp, w_nil, w_ifS, w_truB, w_tru, w_notT, w_andT, w_orT, w_and, w_or, w_not, w_if, w_c, w_op1, w_op2, w_call, w_args, w_nilA, w_consA, w_tup, w_lst, w_blt, w_mt, w_raise, w_chain, w_asgT, k_si, k_ss, k_ii, k_ib, k_is, k_tl, k_tt, k_ll, k_lt, w_mk, cVar, mkFn, List.length_cons, List.length_nil, List.map_cons, List.map_nil, List.replicate, List.cons_append, List.nil_append, List.getElem?_cons_zero, List.getElem?_cons_succ, List.set_cons_zero, List.set_cons_succ, Nat.reduceAdd, Nat.reduceSub, Nat.reduceEqDiff, Nat.reduceLeDiff, if_true, if_false, truB, truD, leD, ltD, gtD, geD, cmpD, eqD, scE, subD, isiD, tyN, u_add,  gTupG, gConsG, gNilG, gN, seqAt, negD, decide_eq_true_eq, Bool.false_xor, Bool.true_xor, maxD, minD, intsD, isNonD, isNon, reduceIte, Bool.not_true, Bool.not_false, ite_true, ite_false, Bool.false_eq_true, decide_true, decide_false, Bool.false_or, Bool.true_or, Bool.or_true, Bool.or_false, e1]) (l_lst hn)) (by omega) (fun i Γ S' hI _ => by
      obtain ⟨_, _, _, _, rfl⟩ := hI
      show (match lstAt (S ++ [Ob.lst (chs (sgn t))]) S.length with
        | some ds => some ds[i]?
        | none => none) = _
      rw [l_lst hn])
    (fun i d Γ S' hd h => by
      obtain ⟨b, y, rfl, hb, rfl⟩ := h
      unfold chs at hd
      rw [List.getElem?_map] at hd
      obtain ⟨c, hc, rfl⟩ := Option.map_eq_some_iff.mp hd
      obtain ⟨b', e, hb'⟩ := moB_ok (S := S ++ [Ob.lst (chs (sgn t))]) (t := t) (b := b) (c := c)
      refine ⟨_, _, _, _, rfl, .inl e, b', _, rfl, ?_, rfl⟩
      rw [List.take_add_one, hc, hb', hb, List.foldl_append]
      rfl) ⟨63, none, rfl, by rw [List.count_eq_zero_of_not_mem h63]; rfl, rfl⟩
  rw [hlr, List.take_of_length_le (Nat.le_refl _)] at hb
  exact ⟨b, _, Gro.push _ _, hb, mo_run _ _ e⟩
def spB (j : Nat) (bod : Bod) : CS := (cSeq (cSet 5 (cCall (den bod j) "seen_of" (cArgs 3 (cConsA (cVar 0) (cConsA (cVar 4) (cConsA (cVar 1) cNilA))))))
    (cSeq (cSet 6 (cCall (den bod j) "most_often" (cArgs 1 (cConsA (cVar 5) cNilA))))
    (cSeq (cAug 2 (fun i j => i + j) (cOp2 subD (cBlt lenD (cConsA (cVar 5) cNilA)) (cMt "str" isStrD countD (cVar 5) (cConsA (cVar 6) cNilA))))
    (cExp (cMt "list" isLstD appD (cVar 3) (cConsA (cVar 6) cNilA))))))
theorem no63 {l : List Nat} {m k : Nat} (hk : 0 < k) : 63 ∉ sn l m k := fun h => by
  obtain ⟨_, _, h⟩ := (sn_mem hk).mp h
  exact h rfl
theorem spB_ok (hp : HasProg bod) (hj : 2 ≤ j) {l r : List Nat} {k i : Nat} {n0 : Nat} (hl : l.length ≤ 1000) (ha : l.all skN = true) (hk : 0 < k) (hr : r.length ≤ 1000) {T : Hd} (hT : T.length ≤ n0) (hg : Gro T S) (hn : S[n0]? = some (.lst (chs r))) {x y s : Int} (hx : x = k) (hy : y = i) {z5 z6 : Option D} :
    ∃ (c : Nat) (y5 y6 : Option D) (S' : Hd), spB j bod [some (.str l), some (.int x), some (.int s), some (.ref n0), some (.int y), z5, z6] S = .nx [some (.str l), some (.int x), some (.int (s + ((costL l i k : Nat) : Int))), some (.ref n0), some (.int y), y5, y6] S' ∧ S'[n0]? = some (.lst (chs (r ++ [c]))) ∧ Gro T S' := by
  have e1 := seen_of_ok (S := S) hp (show 1 ≤ j by omega) l hl (a := y) (k := x) (by omega) (by omega)
  rw [show y.toNat = i by omega, show x.toNat = k by omega] at e1
  have hlen : (sn l i k).length ≤ 1000 := Nat.le_trans sn_len hl
  obtain ⟨b, S1, g1, hb, e2⟩ := most_often_ok (S := S) hp hj (sn l i k) hlen (sgn_few fun c hc => sn_mk hk ha hc) (no63 hk)
  have hcost : ((costL l i k : Nat) : Int) = ((sn l i k).length : Nat) - (((sn l i k).count b : Nat) : Int) := by
    have := @mxc_len (sn l i k)
    unfold costL
    rw [hb]
    omega
  rw [hcost]
  generalize sn l i k = t at e1 e2 hlen
  have n1 := g1.2 _ _ hn
  have n2 : n0 < S1.length := (List.getElem?_eq_some_iff.mp n1).1
  have ln : lenD [.str t] S1 = .ok (.int ((t.length : Nat) : Int)) S1 := xN (by omega)
  have ct : countD (.str t) [.str [b]] S1 = .ok (.int ((t.count b : Nat) : Int)) S1 := rfl
  have ap := ux_app (d := .str [b]) n1 (by simp [chs]; omega)
  have il := ux_isL n1
  have hc : chs r ++ [D.str [b]] = chs (r ++ [b]) := by simp [chs]
  rw [hc] at ap
  refine ⟨b, some (.str t), some (.str [b]), S1.set n0 (.lst (chs (r ++ [b]))), ?_, List.getElem?_set_self n2, (hg.trans g1).own hT⟩
  generalize ((t.length : Nat) : Int) = u at *
  generalize ((t.count b : Nat) : Int) = v at *
  unfold spB cAug
  generalize countD = f at ct ⊢
  simp only [v_bo, v_be, v_bi, v_so, v_se, v_si, v_tn, v_tr, v_te, v_ti, v_rn, v_rr, v_re, v_ri, v_gn, v_br, w_allS, v_gi, w_seq, w_set, w_ret, w_retN, w_exp, w_nil, w_ifS, w_truB, w_tru, w_notT, w_andT, w_orT, w_and, w_or, w_not, w_if, w_c, w_op1, w_op2, w_call, w_args, w_nilA, w_consA, w_tup, w_lst, w_blt, w_mt, w_raise, w_chain, w_asgT, k_si, k_ss, k_ii, k_ib, k_is, k_tl, k_tt, k_ll, k_lt, w_mk, cVar, mkFn, List.length_cons, List.length_nil, List.map_cons, List.map_nil, List.replicate, List.cons_append, List.nil_append, List.getElem?_cons_zero, List.getElem?_cons_succ, List.set_cons_zero, List.set_cons_succ, Nat.reduceAdd, Nat.reduceSub, Nat.reduceEqDiff, Nat.reduceLeDiff, if_true, if_false, truB, truD, leD, ltD, gtD, geD, cmpD, eqD, scE, subD, isiD, tyN, u_add,  gTupG, gConsG, gNilG, gN, seqAt, negD, decide_eq_true_eq, Bool.false_xor, Bool.true_xor, maxD, minD, intsD, isNonD, isNon, reduceIte, Bool.not_true, Bool.not_false, ite_true, ite_false, Bool.false_eq_true, decide_true, decide_false, Bool.false_or, Bool.true_or, Bool.or_true, Bool.or_false, isStrD, e1, e2, ln, ct, il, ap]
theorem sp_run (F : CS) (S1 S' : Hd) {d1 d2 d : D} {r : List Nat} {x y z : Option D} (e : F [some d1, some d2, some (.int 0), some (.ref S.length), none, none, none] (S ++ [.lst []]) = .nx [some d1, some d2, some d, some (.ref S.length), x, y, z] S') (jn : joinD (.str []) [.ref S.length] S' = .ok (.str r) S') :
    mkFn 7 2 (cSeq (cSet 2 (cC (.int 0))) (cSeq (cSet 3 (cLst cNilA)) (cSeq F (cRet (cTup (cConsA (cVar 2) (cConsA (cMt "str" isStrD joinD (cC (.str [])) (cConsA (cVar 3) cNilA)) cNilA))))))) [d1, d2] S = .ok (.tup [d, .str r]) S' := by
  rw [w_mk 7 2 _ [d1, d2] rfl, w_seq]
  rw [show (cSet 2 (cC (.int 0))) ([d1, d2].map some ++ List.replicate (7 - 2) none) S = .nx [some d1, some d2, some (.int 0), none, none, none, none] S from rfl, v_tn, w_seq,
    show (cSet 3 (cLst cNilA)) [some d1, some d2, some (.int 0), none, none, none, none] S = .nx [some d1, some d2, some (.int 0), some (.ref S.length), none, none, none] (S ++ [.lst []]) by simp only [v_bo, v_be, v_bi, v_so, v_se, v_si, v_tn, v_tr, v_te, v_ti, v_rn, v_rr, v_re, v_ri, v_gn, v_br, w_allS, v_gi, w_seq, w_set, w_ret, w_retN, w_exp, w_nil, w_ifS, w_truB, w_tru, w_notT, w_andT, w_orT, w_and, w_or, w_not, w_if, w_c, w_op1, w_op2, w_call, w_args, w_nilA, w_consA, w_tup, w_lst, w_blt, w_mt, w_raise, w_chain, w_asgT, k_si, k_ss, k_ii, k_ib, k_is, k_tl, k_tt, k_ll, k_lt, w_mk, cVar, mkFn, List.length_cons, List.length_nil, List.map_cons, List.map_nil, List.replicate, List.cons_append, List.nil_append, List.getElem?_cons_zero, List.getElem?_cons_succ, List.set_cons_zero, List.set_cons_succ, Nat.reduceAdd, Nat.reduceSub, Nat.reduceEqDiff, Nat.reduceLeDiff, if_true, if_false, truB, truD, leD, ltD, gtD, geD, cmpD, eqD, scE, subD, isiD, tyN, u_add,  gTupG, gConsG, gNilG, gN, seqAt, negD, decide_eq_true_eq, Bool.false_xor, Bool.true_xor, maxD, minD, intsD, isNonD, isNon, reduceIte, Bool.not_true, Bool.not_false, ite_true, ite_false, Bool.false_eq_true, decide_true, decide_false, Bool.false_or, Bool.true_or, Bool.or_true, Bool.or_false, w_lst, alloc, Nat.zero_le], v_tn, w_seq, e, v_tn]
  simp only [v_bo, v_be, v_bi, v_so, v_se, v_si, v_tn, v_tr, v_te, v_ti, v_rn, v_rr, v_re, v_ri, v_gn, v_br, w_allS, v_gi, w_seq, w_set, w_ret, w_retN, w_exp, w_nil, w_ifS, w_truB, w_tru, w_notT, w_andT, w_orT, w_and, w_or, w_not, w_if, w_c, w_op1, w_op2, w_call, w_args, w_nilA, w_consA, w_tup, w_lst, w_blt, w_mt, w_raise, w_chain, w_asgT, k_si, k_ss, k_ii, k_ib, k_is, k_tl, k_tt, k_ll, k_lt, w_mk, cVar, mkFn, List.length_cons, List.length_nil, List.map_cons, List.map_nil, List.replicate, List.cons_append, List.nil_append, List.getElem?_cons_zero, List.getElem?_cons_succ, List.set_cons_zero, List.set_cons_succ, Nat.reduceAdd, Nat.reduceSub, Nat.reduceEqDiff, Nat.reduceLeDiff, if_true, if_false, truB, truD, leD, ltD, gtD, geD, cmpD, eqD, scE, subD, isiD, tyN, u_add,  gTupG, gConsG, gNilG, gN, seqAt, negD, decide_eq_true_eq, Bool.false_xor, Bool.true_xor, maxD, minD, intsD, isNonD, isNon, reduceIte, Bool.not_true, Bool.not_false, ite_true, ite_false, Bool.false_eq_true, decide_true, decide_false, Bool.false_or, Bool.true_or, Bool.or_true, Bool.or_false, jn, isStrD, Nat.zero_le]
theorem spoilt_of_ok (hp : HasProg bod) (hj : 3 ≤ j) {l : List Nat} (hl : l.length ≤ 1000) (ha : l.all skN = true) {k : Nat} (hk : 0 < k) (hk2 : k ≤ 1000) {x : Int} (hx : x = k) :
    ∃ (r : List Nat) (S' : Hd), Gro S S' ∧ den bod j "spoilt_of" [.str l, .int x] S = .ok (.tup [.int ((spS l k k : Nat) : Int), .str r]) S' := by
  obtain ⟨j, rfl, hj2⟩ := one_of (n := 2) hj
  rw [den_eq hp.p_spoilt_of]
  have hlr : (rngL 0 k).length = k := by simp [rngL]
  obtain ⟨Γ', S', e, r, y, z, w, rfl, hr, hn, hg⟩ := cFor_inv (it := cRng1 (cConsA (cVar 1) cNilA)) (S0 := S ++ [.lst []]) (S := S ++ [.lst []]) (src := .base (.items (rngL 0 k))) (g := gN 4) (b := spB j bod) (Γ := [some (.str l), some (.int x), some (.int 0), some (.ref S.length), none, none, none]) (rngL 0 k)
    (fun i Γ S' => ∃ (r : List Nat) (y z w : Option D), Γ = [some (.str l), some (.int x), some (.int ((spS l k i : Nat) : Int)), some (.ref S.length), y, z, w] ∧ r.length = i ∧ S'[S.length]? = some (.lst (chs r)) ∧ Gro S S')
    (hit1 hx rfl hk2) (by rw [hlr]; omega) (fun i Γ S' _ _ => rfl)
    (fun i d Γ S' hd h => by
      obtain ⟨r, y, z, w, rfl, hr, hn, hg⟩ := h
      have hi : i < k := by
        have := (List.getElem?_eq_some_iff.mp hd).1
        rw [hlr] at this
        exact this
      obtain ⟨v, hv, hdd⟩ : ∃ v : Int, v = (i : Nat) ∧ d = .int v := by
        refine ⟨0 + (i : Int), by omega, ?_⟩
        unfold rngL at hd
        rw [List.getElem?_map, List.getElem?_range hi] at hd
        cases hd
        rfl
      subst hdd
      obtain ⟨c, y5, y6, S2, e, hn2, hg2⟩ := spB_ok (S := S') (r := r) (n0 := S.length) (T := S) hp hj2 hl ha hk (by omega) (Nat.le_refl _) hg hn (s := ((spS l k i : Nat) : Int)) hx hv (z5 := z) (z6 := w)
      have hs : ((spS l k i : Nat) : Int) + ((costL l i k : Nat) : Int) = ((spS l k (i + 1) : Nat) : Int) := by
        show _ = ((spS l k i + costL l i k : Nat) : Int)
        omega
      rw [hs] at e
      exact ⟨_, _, _, _, rfl, .inl e, r ++ [c], _, _, _, rfl, by rw [List.length_append, hr]; rfl, hn2, hg2⟩) ⟨[], none, none, none, rfl, rfl, List.getElem?_concat_length, Gro.push _ _⟩
  rw [hlr] at e hr
  have jn := xJ2 (S := S') (n := S.length) (l := r) (by omega) rfl hn
  exact ⟨r, S', hg, sp_run _ S' S' e jn⟩
theorem spoilt_for_ok (hp : HasProg bod) (hj : 4 ≤ j) {l : List Nat} (h0 : 0 < l.length) (hl : l.length ≤ 1000) (ha : l.all skN = true) {k : Nat} (hk : 0 < k) (hk2 : k ≤ 40) {x : Int} (hx : x = k) :
    ∃ (r : List Nat) (S' : Hd), Gro S S' ∧ den bod j "spoilt_for" [.str l, .int x] S = .ok (.tup [.int ((spS l k k : Nat) : Int), .str r]) S' := by
  obtain ⟨j, rfl, hj2⟩ := one_of (n := 3) hj
  rw [den_eq hp.p_spoilt_for]
  unfold m_spoilt_for
  obtain ⟨r, S', g, e⟩ := spoilt_of_ok (S := S) hp hj2 hl ha hk (by omega) hx
  refine ⟨r, S', g, ?_⟩
  have e1 := check_seen_ok (S := S) hp (show 3 ≤ j by omega) l h0 (by omega) ha
  have e2 := check_length_ok (S := S) hp (show 2 ≤ j by omega) (m := x) (by omega) (by omega)
  generalize ((spS l k k : Nat) : Int) = y at e ⊢
  simp only [v_bo, v_be, v_bi, v_so, v_se, v_si, v_tn, v_tr, v_te, v_ti, v_rn, v_rr, v_re, v_ri, v_gn, v_br, w_allS, v_gi, w_seq, w_set, w_ret, w_retN, w_exp, w_nil, w_ifS, w_truB, w_tru, w_notT, w_andT, w_orT, w_and, w_or, w_not, w_if, w_c, w_op1, w_op2, w_call, w_args, w_nilA, w_consA, w_tup, w_lst, w_blt, w_mt, w_raise, w_chain, w_asgT, k_si, k_ss, k_ii, k_ib, k_is, k_tl, k_tt, k_ll, k_lt, w_mk, cVar, mkFn, List.length_cons, List.length_nil, List.map_cons, List.map_nil, List.replicate, List.cons_append, List.nil_append, List.getElem?_cons_zero, List.getElem?_cons_succ, List.set_cons_zero, List.set_cons_succ, Nat.reduceAdd, Nat.reduceSub, Nat.reduceEqDiff, Nat.reduceLeDiff, if_true, if_false, truB, truD, leD, ltD, gtD, geD, cmpD, eqD, scE, subD, isiD, tyN, u_add,  gTupG, gConsG, gNilG, gN, seqAt, negD, decide_eq_true_eq, Bool.false_xor, Bool.true_xor, maxD, minD, intsD, isNonD, isNon, reduceIte, Bool.not_true, Bool.not_false, ite_true, ite_false, Bool.false_eq_true, decide_true, decide_false, Bool.false_or, Bool.true_or, Bool.or_true, Bool.or_false, e1, w_callO, e2, e]
end
end Dn

set_option linter.all false
set_option maxRecDepth 100000
set_option maxHeartbeats 1000000
set_option autoImplicit false
/-! # With places less seen -/
namespace Dn
open PySem PySem.Spec Kx L2

/-- l' shows what l shows, or less -/
def Les (l' l : List Nat) : Prop := ∀ (q c : Nat), l'[q]? = some c → c ≠ 63 → l[q]? = some c
theorem sub_set {l : List Nat} {p : Nat} (hp : p < l.length) : Les (l.set p 63) l := fun q c h h63 => by
  rw [setQ hp] at h
  by_cases e : q = p
  · rw [if_pos e] at h
    cases h
    exact absurd rfl h63
  · rw [if_neg e] at h
    exact h
theorem fits_sub {l' l : List Nat} {k : Nat} (h : Les l' l) (hf : FitsP l k) : FitsP l' k := fun p t a b ha hb a0 b0 => hf p t a b (h _ _ ha a0) (h _ _ hb b0) a0 b0
theorem fits_drop {l : List Nat} {k n : Nat} (hf : FitsP l k) : FitsP (l.drop n) k := fun p t a b ha hb a0 b0 => by
  rw [List.getElem?_drop] at ha hb
  rw [← Nat.add_assoc] at hb
  exact hf (n + p) t a b ha hb a0 b0
theorem last_of {l : List Nat} {k q x : Nat} (hf : FitsP l k) (hq : l[q]? = some x) (hx : x ≠ 63) : lastS l k (q % k) l.length = x := by
  have hq' : q % k + k * (q / k) = q := Nat.mod_add_div q k
  rcases last_spec l k (q % k) l.length with ⟨_, h2⟩ | ⟨p, _, h2, h3, h4⟩
  · have := h2 q (List.getElem?_eq_some_iff.mp hq).1 rfl
    rw [getD_some hq] at this
    exact absurd this hx
  · have hp : q % k + k * (p / k) = p := by
      have := Nat.mod_add_div p k
      rw [h2] at this
      exact this
    exact (fits_any hf (by rw [hq']; exact hq) (by rw [hp]; exact some_getD h3 h4) hx h4).symm
theorem last_or (l : List Nat) (k m : Nat) : lastS l k m l.length = 63 ∨ ∃ q, q % k = m ∧ l[q]? = some (lastS l k m l.length) ∧ lastS l k m l.length ≠ 63 := by
  rcases last_spec l k m l.length with ⟨h, _⟩ | ⟨p, _, h2, h3, h4⟩
  · exact .inl h
  · exact .inr ⟨p, h2, some_getD h3 h4, h4⟩
theorem rim_sub {l' l : List Nat} {k : Nat} (h : Les l' l) (hf : FitsP l k) (m : Nat) : lastS l' k m l'.length = lastS l k m l.length ∨ lastS l' k m l'.length = 63 := by
  rcases last_or l' k m with e | ⟨q, hq, hs, h63⟩
  · exact .inr e
  · refine .inl ?_
    have := last_of hf (h _ _ hs h63) h63
    rw [hq] at this
    exact this.symm
theorem rim_drop {l : List Nat} {k n : Nat} (hf : FitsP l k) (m : Nat) : lastS (l.drop n) k m (l.drop n).length = lastS l k ((m + n) % k) l.length ∨ lastS (l.drop n) k m (l.drop n).length = 63 := by
  rcases last_or (l.drop n) k m with e | ⟨q, hq, hs, h63⟩
  · exact .inr e
  · refine .inl ?_
    rw [List.getElem?_drop] at hs
    have := last_of hf hs h63
    rw [← this, ← hq]
    congr 1
    rw [Nat.mod_add_mod, Nat.add_comm]
theorem mem_lens {l : List Nat} {m k : Nat} : k ∈ lensL l m ↔ (0 < k ∧ k ≤ m) ∧ (rimD l k).isSome = true := by
  unfold lensL
  rw [List.mem_filter, List.mem_range'_1]
  constructor
  · rintro ⟨h1, h2⟩; exact ⟨by omega, h2⟩
  · rintro ⟨h1, h2⟩; exact ⟨by omega, h2⟩
section
variable {bod : Bod} {S : Hd} {Γ : Gm} {j n : Nat}
theorem ints_iLs : ∀ ks : List Nat, intsD (iLs ks) = some (ks.map fun k : Nat => (k : Int))
  | [] => rfl
  | k :: ks => by
    unfold iLs
    rw [List.map_cons]
    unfold intsD
    have := ints_iLs ks
    unfold iLs at this
    rw [this]
    rfl
theorem in_iLs {ks : List Nat} {k : Nat} (h : lstAt S n = some (iLs ks)) (hk : k ∈ ks) {z : Int} (hz : z = k) : inD true (.int z) (.ref n) S = .ok (.bl false) S := by
  unfold inD seqAt
  dsimp only
  rw [h]
  dsimp only [inE]
  rw [ints_iLs]
  have : ((ks.map fun k : Nat => (k : Int)).any fun j => decide (j = z)) = true := by
    rw [List.any_eq_true]
    exact ⟨(k : Int), List.mem_map.mpr ⟨k, hk, rfl⟩, decide_eq_true hz.symm⟩
  simp [this]
theorem in_int2 {a b c : Int} (h : a = b ∨ a = c) : inD true (.int a) (.tup [.int b, .int c]) S = .ok (.bl false) S := by
  unfold inD
  dsimp only [seqAt, inE, intsD, Option.map]
  rcases h with h | h
  · subst h; simp
  · subst h; simp
theorem in_twoT {s c : Nat} (h : s = c ∨ s = 63) : inD true (.str [s]) (.tup [.str [c], .str [63]]) S = .ok (.bl false) S := by
  unfold inD
  dsimp only [seqAt, inE, strsD, Option.map]
  rcases h with h | h
  · subst h; simp
  · subst h; simp
theorem eq_nils {a b : Nat} (ha : lstAt S a = some []) (hb : lstAt S b = some []) : eqD true (.ref a) (.ref b) S = .ok (.bl false) S := by
  unfold eqD
  rw [show scE (.ref a) (.ref b) = none from rfl]
  have pd : ∀ {n}, lstAt S n = some [] → pdD S 64 (.ref n) = some (.list []) := fun {n} h => by
    unfold pdD
    rw [h]
    rfl
  rw [pd ha, pd hb]
  rfl
/-- pairs, of two texts -/
def zipL (a b : List Nat) : List D := (a.zip b).map fun p => .tup [.str [p.1], .str [p.2]]
theorem zip_none {a b : List Nat} {p q : Nat} {it : CI} {src : Src} (hab : a.length = b.length) (hb : b.length ≤ 1000) (hq : q < Γ.length) (hp : p < Γ.length) (hpq : p ≠ q) (h : ∀ (i x y : Nat), a[i]? = some x → b[i]? = some y → y = x ∨ y = 63)
    (hit : it Γ S = .ok src S) (hsrc : ∀ i, i ≤ b.length → nextS S i src = some (zipL a b)[i]?) :
    cLc it (gTupG 2 (gConsG (gN p) (gConsG (gN q) gNilG))) (cTruB (cOp2 (inD true) (cVar q) (cTup (cConsA (cVar p) (cConsA (cC (.str [63])) cNilA))))) (cC (.int 1)) [p, q] Γ S = .ok (.ref S.length) (S ++ [.lst []]) := by
  have hzl : (zipL a b).length = b.length := by
    unfold zipL
    rw [List.length_map, List.length_zip]
    omega
  obtain ⟨acc, S', e, rfl, rfl⟩ := cLc_inv (Γ := Γ) (S0 := S) (S := S) (src := src) (g := gTupG 2 (gConsG (gN p) (gConsG (gN q) gNilG))) (t := (cTruB (cOp2 (inD true) (cVar q) (cTup (cConsA (cVar p) (cConsA (cC (.str [63])) cNilA)))))) (m := cC (.int 1)) (it := it) (vs := [p, q]) (zipL a b) (fun i acc S' => acc = [] ∧ S' = S) hit (by omega)
    (fun i acc S' hI hi => by rw [hI.2]; exact hsrc i (by omega))
    (fun i acc S' hI => by rw [hI.1]; exact Nat.zero_le _)
    (fun i d acc S' hd hI => by
      obtain ⟨rfl, rfl⟩ := hI
      unfold zipL at hd
      rw [List.getElem?_map] at hd
      obtain ⟨⟨x, y⟩, hz, rfl⟩ := Option.map_eq_some_iff.mp hd
      rw [List.getElem?_zip_eq_some] at hz
      have hw1 : p < (wipeD Γ [p, q]).length := by
        show p < ((Γ.set p none).set q none).length
        rw [List.length_set, List.length_set]
        exact hp
      have hw2 : q < (wipeD Γ [p, q]).length := by
        show q < ((Γ.set p none).set q none).length
        rw [List.length_set, List.length_set]
        exact hq
      refine ⟨((wipeD Γ [p, q]).set p (some (.str [x]))).set q (some (.str [y])), S', rfl, .inl ⟨S', ?_, rfl, rfl⟩⟩
      have v1 : (((wipeD Γ [p, q]).set p (some (.str [x]))).set q (some (.str [y])))[q]? = some (some (.str [y])) := List.getElem?_set_self (by rw [List.length_set]; exact hw2)
      have v2 : (((wipeD Γ [p, q]).set p (some (.str [x]))).set q (some (.str [y])))[p]? = some (some (.str [x])) := by
        rw [List.getElem?_set_ne (Ne.symm hpq)]
        exact List.getElem?_set_self hw1
      have i1 := in_twoT (S := S') (h i x y hz.1 hz.2)
      generalize ((wipeD Γ [p, q]).set p (some (.str [x]))).set q (some (.str [y])) = Γ2 at v1 v2 ⊢
      generalize inD true = f at i1 ⊢
      rw [w_truB, w_op2, w_var q _ v1]
      show (((cTup (cConsA (cVar p) (cConsA (cC (.str [63])) cNilA)) Γ2 S').bind fun y' S2 => f (.str [y]) y' S2).bind truB) = _
      rw [show cTup (cConsA (cVar p) (cConsA (cC (.str [63])) cNilA)) Γ2 S' = .ok (.tup [.str [x], .str [63]]) S' by
        rw [w_tup, w_consA, w_var p _ v2]
        rfl]
      show ((f (.str [y]) (.tup [.str [x], .str [63]]) S').bind truB) = _
      rw [i1]
      rfl) ⟨rfl, rfl⟩
  exact e
theorem zip_src {a b : List Nat} (hab : a.length = b.length) {i : Nat} (hi : i ≤ b.length) {ba bb : Bs} (h1 : cont S ba = some (chD a)) (h2 : cont S bb = some (chD b)) : nextS S i (.zip ba bb) = some (zipL a b)[i]? := by
  show (match cont S ba, cont S bb with
    | some ds, some es => match ds[i]?, es[i]? with
      | some d, some e => some (some (D.tup [d, e]))
      | _, _ => if i ≤ ds.length ∧ i ≤ es.length then some none else none
    | _, _ => none) = _
  rw [h1, h2]
  dsimp only
  have ga : ∀ c : List Nat, (chD c)[i]? = (c[i]?).map fun x => D.str [x] := fun c => by
    unfold chD
    rw [List.getElem?_map]
  have lc : ∀ c : List Nat, (chD c).length = c.length := fun c => by
    unfold chD
    rw [List.length_map]
  rw [ga, ga, lc, lc]
  unfold zipL
  rw [List.getElem?_map]
  by_cases h : i < b.length
  · rw [List.getElem?_eq_getElem (show i < a.length by omega), List.getElem?_eq_getElem h, List.getElem?_eq_getElem (show i < (a.zip b).length by rw [List.length_zip]; omega), List.getElem_zip]
    rfl
  · rw [List.getElem?_eq_none (show b.length ≤ i by omega), List.getElem?_eq_none (show a.length ≤ i by omega), List.getElem?_eq_none (show (a.zip b).length ≤ i by rw [List.length_zip]; omega)]
    show (if i ≤ a.length ∧ i ≤ b.length then _ else _) = _
    rw [if_pos ⟨by omega, hi⟩]
    rfl
/-- all lengths of the one are of the other -/
theorem lens_none {l l' : List Nat} {m : Nat} {c : Nat} {v w : Nat} {T : Hd} {ml : CE} (hm : m ≤ 1000) (hv : v < Γ.length) (hw : Γ[w]? = some (some (.ref c))) (hvw : v ≠ w) (h : ∀ k, k ∈ lensL l m → k ∈ lensL l' m)
    (hml : ml Γ S = .ok (.ref n) T) (hn : T[n]? = some (.lst (iLs (lensL l m)))) (hc : T[c]? = some (.lst (iLs (lensL l' m)))) :
    cLc (cSrc ml) (gN v) (cTruB (cOp2 (inD true) (cVar v) (cVar w))) (cVar v) [v] Γ S = .ok (.ref T.length) (T ++ [.lst []]) := by
  have hlen : (iLs (lensL l m)).length ≤ 1000 := by
    unfold iLs
    rw [List.length_map]
    exact Nat.le_trans (lens_len _ _) hm
  obtain ⟨acc, S', e, rfl, rfl⟩ := cLc_inv (Γ := Γ) (S0 := S) (S := T) (src := .base (.lst n)) (g := gN v) (t := cTruB (cOp2 (inD true) (cVar v) (cVar w))) (m := cVar v) (it := cSrc ml) (vs := [v]) (iLs (lensL l m)) (fun i acc S' => acc = [] ∧ S' = T) (cSrc_of hml (l_lst hn)) (by omega)
    (fun i acc S' hI _ => by
      rw [hI.2]
      show (match lstAt T n with
        | some ds => some ds[i]?
        | none => none) = _
      rw [l_lst hn])
    (fun i acc S' hI => by rw [hI.1]; exact Nat.zero_le _)
    (fun i d acc S' hd hI => by
      obtain ⟨rfl, rfl⟩ := hI
      unfold iLs at hd
      rw [List.getElem?_map] at hd
      obtain ⟨k, hk, rfl⟩ := Option.map_eq_some_iff.mp hd
      have hw1 : v < (wipeD Γ [v]).length := by
        show v < (Γ.set v none).length
        rw [List.length_set]
        exact hv
      refine ⟨(wipeD Γ [v]).set v (some (.int (k : Int))), S', rfl, .inl ⟨S', ?_, rfl, rfl⟩⟩
      have v1 : ((wipeD Γ [v]).set v (some (.int (k : Int))))[v]? = some (some (.int (k : Int))) := List.getElem?_set_self hw1
      have v2 : ((wipeD Γ [v]).set v (some (.int (k : Int))))[w]? = some (some (.ref c)) := by
        show ((Γ.set v none).set v _)[w]? = _
        rw [List.getElem?_set_ne hvw, List.getElem?_set_ne hvw]
        exact hw
      have i1 := in_iLs (S := S') (l_lst hc) (h k (List.mem_of_getElem? hk)) (z := (k : Int)) rfl
      generalize (wipeD Γ [v]).set v (some (.int (k : Int))) = Γ2 at v1 v2 ⊢
      rw [w_truB, w_op2, w_var v _ v1]
      show (((cVar w Γ2 S').bind fun y' S2 => inD true (.int (k : Int)) y' S2).bind truB) = _
      rw [w_var w _ v2]
      show ((inD true (.int (k : Int)) (.ref c) S').bind truB) = _
      rw [i1]
      rfl) ⟨rfl, rfl⟩
  exact e
end
end Dn

set_option linter.all false
set_option maxRecDepth 100000
set_option maxHeartbeats 1000000
set_option autoImplicit false
/-! # The upper wheel -/
namespace Dn
open PySem PySem.Spec Kx L2

def mb_upper (call : Calls) : List D → Hd → R D := mkFn 5 2 ((cSeq (cSet 2 (cC (.str [])))
    (cSeq (cFor (cRng1 (cConsA (cVar 1) cNilA)) (gN 3) (cSeq (cSet 4 (cOp1 ssLD (cOp1 ltxD (cOp1 (replD 63 []) (cSlS (cVar 0) (cPart (cVar 3)) (cPart (cVar 1)))))))
    (cSet 2 (cOp2 addD (cVar 2) (cIf (cTruB (cOp2 (eqD false) (cBlt lenD (cConsA (cVar 4) cNilA)) (cC (.int 1)))) (cOp2 ixD (cVar 4) (cC (.int 0))) (cC (.str [46])))))))
    (cRet (cVar 2)))))
def upC : List Nat → Nat
  | [] => 63
  | [c] => c
  | _ => 46
def lwC : List Nat → Nat
  | [c] => c
  | _ => 46
/-- the upper wheel's rim, as it is told; as the law has it -/
def upL (l : List Nat) (u : Nat) : List Nat := (List.range u).map fun m => upC (sgn (sn l m u))
def lwL (l : List Nat) (u : Nat) : List Nat := (List.range u).map fun m => lwC (sgn (sn l m u))
/-- what stands beneath -/
def belR (rim : List Nat) : Nat → List Nat → List Nat
  | _, [] => []
  | k, s :: r => (if rim.getD (k % rim.length) 46 = 46 then s else 63) :: belR rim (k + 1) r
theorem belR_cons {rim : List Nat} {k s : Nat} {r : List Nat} : belR rim k (s :: r) = (if rim.getD (k % rim.length) 46 = 46 then s else 63) :: belR rim (k + 1) r := rfl
theorem due_bel {rim : List Nat} : ∀ (r : List Nat) (k : Nat), (∀ (i s : Nat), r[i]? = some s → rim.getD ((k + i) % rim.length) 46 = 46 ∨ s = rim.getD ((k + i) % rim.length) 46 ∨ s = 63) → dueL rim k r = some (belR rim k r)
  | [], _, _ => rfl
  | s :: r, k, h => by
    have h0 := h 0 s rfl
    rw [Nat.add_zero] at h0
    have ih := due_bel r (k + 1) fun i s hs => by
      have := h (i + 1) s hs
      rw [show k + 1 + i = k + (i + 1) by omega]
      exact this
    rw [due_cons, ih, belR_cons]
    by_cases e : rim.getD (k % rim.length) 46 = 46
    · rw [if_pos e, if_pos e]
      rfl
    · rw [if_neg e, if_neg e, if_pos (h0.resolve_left e)]
      rfl
theorem bel_get {rim : List Nat} : ∀ (r : List Nat) (k i : Nat), (belR rim k r)[i]? = (r[i]?).map fun s => if rim.getD ((k + i) % rim.length) 46 = 46 then s else 63
  | [], k, i => rfl
  | s :: r, k, 0 => rfl
  | s :: r, k, i + 1 => by
    unfold belR
    rw [List.getElem?_cons_succ, List.getElem?_cons_succ, bel_get r (k + 1) i, show k + 1 + i = k + (i + 1) by omega]
theorem upL_len {l : List Nat} {u : Nat} : (upL l u).length = u := by simp [upL]
theorem lwL_len {l : List Nat} {u : Nat} : (lwL l u).length = u := by simp [lwL]
theorem upL_get {l : List Nat} {u p : Nat} (hu : 0 < u) : (upL l u).getD ((0 + p) % (upL l u).length) 46 = upC (sgn (sn l (p % u) u)) := by
  rw [upL_len, Nat.zero_add, List.getD_eq_getElem?_getD]
  unfold upL
  rw [List.getElem?_map, List.getElem?_range (Nat.mod_lt _ hu)]
  rfl
theorem lwL_get {l : List Nat} {u p : Nat} (hu : 0 < u) : (lwL l u).getD ((0 + p) % (lwL l u).length) 46 = lwC (sgn (sn l (p % u) u)) := by
  rw [lwL_len, Nat.zero_add, List.getD_eq_getElem?_getD]
  unfold lwL
  rw [List.getElem?_map, List.getElem?_range (Nat.mod_lt _ hu)]
  rfl
theorem in_col {l : List Nat} {u p c : Nat} (hu : 0 < u) (h : l[p]? = some c) (hc : c ≠ 63) : c ∈ sgn (sn l (p % u) u) := sgn_mem.mpr ((sn_mem hu).mpr ⟨p / u, by rw [Nat.mod_add_div]; exact h, hc⟩)
theorem compat_lw {l : List Nat} {u p s : Nat} (hu : 0 < u) (h : l[p]? = some s) : lwC (sgn (sn l (p % u) u)) = 46 ∨ s = lwC (sgn (sn l (p % u) u)) ∨ s = 63 := by
  by_cases h63 : s = 63
  · exact .inr (.inr h63)
  · have hm := in_col hu h h63
    match sgn (sn l (p % u) u), hm with
    | [c], hm => exact .inr (.inl (List.mem_singleton.mp hm))
    | _ :: _ :: _, _ => exact .inl rfl
theorem compat_up {l : List Nat} {u p s : Nat} (hu : 0 < u) (h : l[p]? = some s) : upC (sgn (sn l (p % u) u)) = 46 ∨ s = upC (sgn (sn l (p % u) u)) ∨ s = 63 := by
  by_cases h63 : s = 63
  · exact .inr (.inr h63)
  · have hm := in_col hu h h63
    match sgn (sn l (p % u) u), hm with
    | [c], hm => exact .inr (.inl (List.mem_singleton.mp hm))
    | _ :: _ :: _, _ => exact .inl rfl
/-- what stands beneath the one stands beneath the other -/
theorem bel_eq {l : List Nat} {u : Nat} (hu : 0 < u) : belR (upL l u) 0 l = belR (lwL l u) 0 l := by
  apply List.ext_getElem?
  intro p
  rw [bel_get, bel_get, upL_get hu, lwL_get hu]
  cases h : l[p]? with
  | none => rfl
  | some s =>
    show some _ = some _
    congr 1
    by_cases h63 : s = 63
    · subst h63
      split <;> split <;> rfl
    · have hm := in_col hu h h63
      match sgn (sn l (p % u) u), hm with
      | [c], hm => rfl
      | _ :: _ :: _, _ => rfl
def lefL (l : List Nat) (u : Nat) : List Nat := belR (lwL l u) 0 l
theorem due_lw {l : List Nat} {u : Nat} (hu : 0 < u) : dueL (lwL l u) 0 l = some (lefL l u) := due_bel l 0 fun i s h => by
  rw [lwL_get hu]
  exact compat_lw hu h
theorem due_up {l : List Nat} {u : Nat} (hu : 0 < u) : dueL (upL l u) 0 l = some (lefL l u) := by
  unfold lefL
  rw [← bel_eq hu]
  exact due_bel l 0 fun i s h => by
    rw [upL_get hu]
    exact compat_up hu h
theorem lef_les {l : List Nat} {u : Nat} : Les (lefL l u) l := fun q c h hc => by
  unfold lefL at h
  rw [bel_get] at h
  obtain ⟨s, hs, e⟩ := Option.map_eq_some_iff.mp h
  split at e
  · rw [hs, e]
  · exact absurd e.symm hc
theorem rep_one {c x : Nat} : ∀ l : List Nat, repL c [x] l = l.map fun d => if d = c then x else d
  | [] => rfl
  | d :: l => by
    have e : repL c [x] (d :: l) = (if d = c then [x] else [d]) ++ repL c [x] l := rfl
    rw [e, rep_one l, List.map_cons]
    by_cases h : d = c
    · rw [if_pos h, if_pos h]; rfl
    · rw [if_neg h, if_neg h]; rfl
theorem up_lw {l : List Nat} {u : Nat} (hu : 0 < u) : repL 63 [46] (upL l u) = lwL l u := by
  rw [rep_one]
  unfold upL lwL
  rw [List.map_map]
  apply List.map_congr_left
  intro m _
  show (if upC (sgn (sn l m u)) = 63 then 46 else upC (sgn (sn l m u))) = lwC (sgn (sn l m u))
  have hm : ∀ c ∈ sgn (sn l m u), c ≠ 63 := fun c hc => by
    obtain ⟨_, _, h⟩ := (sn_mem hu).mp (sgn_mem.mp hc)
    exact h
  match sgn (sn l m u), hm with
  | [], _ => rfl
  | [c], hm =>
    show (if c = 63 then 46 else c) = c
    rw [if_neg (hm c List.mem_cons_self)]
  | _ :: _ :: _, _ => rfl
/-- where the upper one alone prints all, none but marks that are none are left -/
theorem lef_few {l : List Nat} {u : Nat} (hu : 0 < u) (hf : FitsP l u) {q c : Nat} (h : (lefL l u)[q]? = some c) : c = 46 ∨ c = 63 := by
  unfold lefL at h
  rw [bel_get, lwL_get hu] at h
  obtain ⟨s, hs, e⟩ := Option.map_eq_some_iff.mp h
  by_cases h46 : lwC (sgn (sn l (q % u) u)) = 46
  · rw [if_pos h46] at e
    subst e
    by_cases h63 : s = 63
    · exact .inr h63
    · have hm := in_col hu hs h63
      have h1 := fits_last hu hf (Nat.mod_lt q hu)
      match sgn (sn l (q % u) u), hm, h1, h46 with
      | [d], hm, _, h46 => exact .inl ((List.mem_singleton.mp hm).trans h46)
      | _ :: _ :: _, _, h1, _ => cases h1
  · rw [if_neg h46] at e
    exact .inr e.symm
theorem lef_fits {l : List Nat} {u w : Nat} (hu : 0 < u) (hf : FitsP l u) : FitsP (lefL l u) w := fun p t a b ha hb a0 b0 => by
  rw [(lef_few hu hf ha).resolve_right a0, (lef_few hu hf hb).resolve_right b0]
theorem lef_rim {l : List Nat} {u w : Nat} (hu : 0 < u) (hf : FitsP l u) : repL 46 [] (repL 63 [] (dueR (lefL l u) w (lefL l u).length)) = [] := by
  refine List.eq_nil_iff_forall_not_mem.mpr fun x hx => ?_
  obtain ⟨hx1, h46⟩ := rep_mem.mp hx
  obtain ⟨hx2, h63⟩ := rep_mem.mp hx1
  obtain ⟨m, _, rfl⟩ := List.mem_map.mp hx2
  rcases last_or (lefL l u) w m with e | ⟨q, _, hs, _⟩
  · exact h63 e
  · rcases lef_few hu hf hs with e | e
    · exact h46 e
    · exact h63 e
section
variable {bod : Bod} {S : Hd} {Γ : Gm} {j n : Nat}
theorem gro_of {S S' : Hd} (K : Keep S S') (k2 : ∀ o, S[2]? = some o → S'[2]? = some o) : Gro S S' := ⟨K.1, fun k o e => by
  by_cases h : k = 2
  · subst h; exact k2 o e
  · exact K.2 k o h e⟩
def upB (j : Nat) (bod : Bod) : CS := cSeq (cSet 4 (cCall (den bod j) "signs_in" (cArgs 1 (cConsA (cCall (den bod j) "seen_of" (cArgs 3 (cConsA (cVar 0) (cConsA (cVar 3) (cConsA (cVar 1) cNilA))))) cNilA))))
    (cIfS (cNotT (cTru (cVar 4))) (cExp (cMt "list" isLstD appD (cVar 2) (cConsA (cC (.str [63])) cNilA))) (cIfS (cTruB (cOp2 (eqD false) (cBlt lenD (cConsA (cVar 4) cNilA)) (cC (.int 1)))) (cExp (cMt "list" isLstD appD (cVar 2) (cConsA (cOp2 ixD (cVar 4) (cC (.int 0))) cNilA))) (cExp (cMt "list" isLstD appD (cVar 2) (cConsA (cC (.str [46])) cNilA)))))
theorem upB_ok (hp : HasProg bod) (hj : 1 ≤ j) {l r : List Nat} {k i : Nat} {z : Option D} {n0 : Nat} (hl : l.length ≤ 1000) (ha : l.all skN = true) (hk : 0 < k) (hr : r.length ≤ 1000) (hn : S[n0]? = some (.lst (chs r))) {x y : Int} (hx : x = k) (hy : y = i) :
    ∃ (y4 : Option D) (o : Ob), upB j bod [some (.str l), some (.int x), some (.ref n0), some (.int y), z] S = .nx [some (.str l), some (.int x), some (.ref n0), some (.int y), y4] ((S ++ [o]).set n0 (.lst (chs (r ++ [upC (sgn (sn l i k))])))) := by
  have e1 := seen_of_ok (S := S) hp hj l hl (a := y) (k := x) (by omega) (by omega)
  rw [show y.toNat = i by omega, show x.toNat = k by omega] at e1
  have e2 := signs_in_ok (S := S) hp hj (sn l i k) (Nat.le_trans sn_len hl) (sgn_few fun c hc => sn_mk hk ha hc)
  generalize hsg : sgn (sn l i k) = s at e2
  refine ⟨some (.ref S.length), .lst (chs s), ?_⟩
  have at1 : (S ++ [Ob.lst (chs s)])[S.length]? = some (Ob.lst (chs s)) := List.getElem?_concat_length
  have at0 : (S ++ [Ob.lst (chs s)])[n0]? = some (Ob.lst (chs r)) := get_push hn
  have ln : lenD [.ref S.length] (S ++ [.lst (chs s)]) = .ok (.int s.length) (S ++ [.lst (chs s)]) := by
    rw [xNL at1]
    simp [chs]
  have tr : truD (.ref S.length) (S ++ [.lst (chs s)]) = .ok (!(chs s).isEmpty) (S ++ [.lst (chs s)]) := by
    unfold truD
    dsimp only
    rw [at1]
  have il := ux_isL at0
  have ap : ∀ d, appD (.ref n0) [.str [d]] (S ++ [Ob.lst (chs s)]) = .ok .non ((S ++ [Ob.lst (chs s)]).set n0 (Ob.lst (chs (r ++ [d])))) := fun d => by
    rw [ux_app at0 (by simp [chs]; omega)]
    simp [chs]
  have e5 : (cSet 4 (cCall (den bod j) "signs_in" (cArgs 1 (cConsA (cCall (den bod j) "seen_of" (cArgs 3 (cConsA (cVar 0) (cConsA (cVar 3) (cConsA (cVar 1) cNilA))))) cNilA)))) [some (.str l), some (.int x), some (.ref n0), some (.int y), z] S = .nx [some (.str l), some (.int x), some (.ref n0), some (.int y), some (.ref S.length)] (S ++ [.lst (chs s)]) := by simp only [v_bo, v_be, v_bi, v_so, v_se, v_si, v_tn, v_tr, v_te, v_ti, v_rn, v_rr, v_re, v_ri, v_gn, v_br, w_allS, v_gi, w_seq, w_set, w_ret, w_retN, w_exp, w_nil, w_ifS, w_truB, w_tru, w_notT, w_andT, w_orT, w_and, w_or, w_not, w_if, w_c, w_op1, w_op2, w_call, w_args, w_nilA, w_consA, w_tup, w_lst, w_blt, w_mt, w_raise, w_chain, w_asgT, k_si, k_ss, k_ii, k_ib, k_is, k_tl, k_tt, k_ll, k_lt, w_mk, cVar, mkFn, List.length_cons, List.length_nil, List.map_cons, List.map_nil, List.replicate, List.cons_append, List.nil_append, List.getElem?_cons_zero, List.getElem?_cons_succ, List.set_cons_zero, List.set_cons_succ, Nat.reduceAdd, Nat.reduceSub, Nat.reduceEqDiff, Nat.reduceLeDiff, if_true, if_false, truB, truD, leD, ltD, gtD, geD, cmpD, eqD, scE, subD, isiD, tyN, u_add,  gTupG, gConsG, gNilG, gN, seqAt, negD, decide_eq_true_eq, Bool.false_xor, Bool.true_xor, maxD, minD, intsD, isNonD, isNon, reduceIte, Bool.not_true, Bool.not_false, ite_true, ite_false, Bool.false_eq_true, decide_true, decide_false, Bool.false_or, Bool.true_or, Bool.or_true, Bool.or_false, e1, e2]
  unfold upB
  rw [w_seq, e5, v_tn]
  match s with
  | [] =>
    simp only [v_bo, v_be, v_bi, v_so, v_se, v_si, v_tn, v_tr, v_te, v_ti, v_rn, v_rr, v_re, v_ri, v_gn, v_br, w_allS, v_gi, w_seq, w_set, w_ret, w_retN, w_exp, w_nil, w_ifS, w_truB, w_tru, w_notT, w_andT, w_orT, w_and, w_or, w_not, w_if, w_c, w_op1, w_op2, w_call, w_args, w_nilA, w_consA, w_tup, w_lst, w_blt, w_mt, w_raise, w_chain, w_asgT, k_si, k_ss, k_ii, k_ib, k_is, k_tl, k_tt, k_ll, k_lt, w_mk, cVar, mkFn, List.length_cons, List.length_nil, List.map_cons, List.map_nil, List.replicate, List.cons_append, List.nil_append, List.getElem?_cons_zero, List.getElem?_cons_succ, List.set_cons_zero, List.set_cons_succ, Nat.reduceAdd, Nat.reduceSub, Nat.reduceEqDiff, Nat.reduceLeDiff, if_true, if_false, truB, truD, leD, ltD, gtD, geD, cmpD, eqD, scE, subD, isiD, tyN, u_add,  gTupG, gConsG, gNilG, gN, seqAt, negD, decide_eq_true_eq, Bool.false_xor, Bool.true_xor, maxD, minD, intsD, isNonD, isNon, reduceIte, Bool.not_true, Bool.not_false, ite_true, ite_false, Bool.false_eq_true, decide_true, decide_false, Bool.false_or, Bool.true_or, Bool.or_true, Bool.or_false, at1, show (chs []).isEmpty = true from rfl, il, ap, upC]
  | [d] =>
    have ix : ixD (.ref S.length) (.int 0) (S ++ [Ob.lst (chs [d])]) = .ok (.str [d]) (S ++ [Ob.lst (chs [d])]) := u_ixL (l_lst at1) rfl
    simp only [v_bo, v_be, v_bi, v_so, v_se, v_si, v_tn, v_tr, v_te, v_ti, v_rn, v_rr, v_re, v_ri, v_gn, v_br, w_allS, v_gi, w_seq, w_set, w_ret, w_retN, w_exp, w_nil, w_ifS, w_truB, w_tru, w_notT, w_andT, w_orT, w_and, w_or, w_not, w_if, w_c, w_op1, w_op2, w_call, w_args, w_nilA, w_consA, w_tup, w_lst, w_blt, w_mt, w_raise, w_chain, w_asgT, k_si, k_ss, k_ii, k_ib, k_is, k_tl, k_tt, k_ll, k_lt, w_mk, cVar, mkFn, List.length_cons, List.length_nil, List.map_cons, List.map_nil, List.replicate, List.cons_append, List.nil_append, List.getElem?_cons_zero, List.getElem?_cons_succ, List.set_cons_zero, List.set_cons_succ, Nat.reduceAdd, Nat.reduceSub, Nat.reduceEqDiff, Nat.reduceLeDiff, if_true, if_false, truB, truD, leD, ltD, gtD, geD, cmpD, eqD, scE, subD, isiD, tyN, u_add,  gTupG, gConsG, gNilG, gN, seqAt, negD, decide_eq_true_eq, Bool.false_xor, Bool.true_xor, maxD, minD, intsD, isNonD, isNon, reduceIte, Bool.not_true, Bool.not_false, ite_true, ite_false, Bool.false_eq_true, decide_true, decide_false, Bool.false_or, Bool.true_or, Bool.or_true, Bool.or_false, at1, show (chs [d]).isEmpty = false from rfl, ln, il, ap, ix, upC, eq_true (show (((0 + 1 : Nat) : Int)) = 1 from rfl), decide_eq_true (show (((0 + 1 : Nat) : Int)) = 1 from rfl)]
  | a :: b :: q =>
    have hne : ¬ (((q.length + 1 + 1 : Nat) : Int) = 1) := by omega
    simp only [v_bo, v_be, v_bi, v_so, v_se, v_si, v_tn, v_tr, v_te, v_ti, v_rn, v_rr, v_re, v_ri, v_gn, v_br, w_allS, v_gi, w_seq, w_set, w_ret, w_retN, w_exp, w_nil, w_ifS, w_truB, w_tru, w_notT, w_andT, w_orT, w_and, w_or, w_not, w_if, w_c, w_op1, w_op2, w_call, w_args, w_nilA, w_consA, w_tup, w_lst, w_blt, w_mt, w_raise, w_chain, w_asgT, k_si, k_ss, k_ii, k_ib, k_is, k_tl, k_tt, k_ll, k_lt, w_mk, cVar, mkFn, List.length_cons, List.length_nil, List.map_cons, List.map_nil, List.replicate, List.cons_append, List.nil_append, List.getElem?_cons_zero, List.getElem?_cons_succ, List.set_cons_zero, List.set_cons_succ, Nat.reduceAdd, Nat.reduceSub, Nat.reduceEqDiff, Nat.reduceLeDiff, if_true, if_false, truB, truD, leD, ltD, gtD, geD, cmpD, eqD, scE, subD, isiD, tyN, u_add,  gTupG, gConsG, gNilG, gN, seqAt, negD, decide_eq_true_eq, Bool.false_xor, Bool.true_xor, maxD, minD, intsD, isNonD, isNon, reduceIte, Bool.not_true, Bool.not_false, ite_true, ite_false, Bool.false_eq_true, decide_true, decide_false, Bool.false_or, Bool.true_or, Bool.or_true, Bool.or_false, at1, show (chs (a :: b :: q)).isEmpty = false from rfl, ln, il, ap, upC, eq_false hne, decide_eq_false hne]
end
end Dn

set_option linter.all false
set_option maxRecDepth 100000
set_option maxHeartbeats 1000000
set_option autoImplicit false
/-! # two_for, the law's own upper rim -/
namespace Dn
open PySem PySem.Spec Kx L2

section
variable {bod : Bod} {S : Hd} {Γ : Gm} {j n : Nat}
theorem upper_rim_ok (hp : HasProg bod) (hj : 2 ≤ j) {l : List Nat} (hl : l.length ≤ 1000) (ha : l.all skN = true) {k : Nat} (hk : 0 < k) (hk2 : k ≤ 1000) {x : Int} (hx : x = k) :
    ∃ S' : Hd, Gro S S' ∧ den bod j "upper_rim" [.str l, .int x] S = .ok (.str (upL l k)) S' := by
  obtain ⟨j, rfl, hj2⟩ := one_of (n := 1) hj
  rw [den_eq hp.p_upper_rim]
  have hlr : (rngL 0 k).length = k := by simp [rngL]
  obtain ⟨Γ', S', e, y, z, rfl, hn, hg⟩ := cFor_inv (it := cRng1 (cConsA (cVar 1) cNilA)) (S0 := S ++ [.lst []]) (S := S ++ [.lst []]) (src := .base (.items (rngL 0 k))) (g := gN 3) (b := upB j bod) (Γ := [some (.str l), some (.int x), some (.ref S.length), none, none]) (rngL 0 k)
    (fun i Γ S' => ∃ (y z : Option D), Γ = [some (.str l), some (.int x), some (.ref S.length), y, z] ∧ S'[S.length]? = some (.lst (chs ((List.range i).map fun m => upC (sgn (sn l m k))))) ∧ Gro S S')
    (hit1 hx rfl hk2) (by rw [hlr]; omega) (fun i Γ S' _ _ => rfl)
    (fun i d Γ S' hd h => by
      obtain ⟨y, z, rfl, hn, hg⟩ := h
      have hi : i < k := by
        have := (List.getElem?_eq_some_iff.mp hd).1
        rw [hlr] at this
        exact this
      obtain ⟨v, hv, hdd⟩ : ∃ v : Int, v = (i : Nat) ∧ d = .int v := by
        refine ⟨0 + (i : Int), by omega, ?_⟩
        unfold rngL at hd
        rw [List.getElem?_map, List.getElem?_range hi] at hd
        cases hd
        rfl
      subst hdd
      obtain ⟨y4, o, e⟩ := upB_ok (S := S') hp (show 1 ≤ j by omega) hl ha hk (by rw [List.length_map, List.length_range]; omega) hn hx hv (z := z)
      have n1 : S.length < S'.length := (List.getElem?_eq_some_iff.mp hn).1
      refine ⟨_, _, _, _, rfl, .inl e, _, _, rfl, ?_, (hg.trans (Gro.push _ _)).own (Nat.le_refl _)⟩
      rw [List.range_succ, List.map_append]
      exact List.getElem?_set_self (by rw [List.length_append]; omega)) ⟨none, none, rfl, List.getElem?_concat_length, Gro.push _ _⟩
  rw [hlr] at hn
  have jn := xJ2 (S := S') (n := S.length) (l := upL l k) (by rw [upL_len]; omega) rfl hn
  exact ⟨S', hg, rim_runR _ S' e jn⟩
theorem two_runs (S1 S2 S3 : Hd) {call : Calls} {d1 d2 d3 h lf lo : D} (e1 : call "check_seen" [d1] S = .ok .non S) (e2 : call "check_length" [d2, .int 40] S = .ok .non S) (e3 : call "check_length" [d3, .int 40] S = .ok .non S) (e4 : call "upper_rim" [d1, d3] S = .ok h S1) (e5 : call "piece_beneath" [d1, h] S1 = .ok lf S2) (e6 : call "rim_of" [lf, d2] S2 = .ok lo S3)
    {b : Bool} (e7 : isNonD false lo .non S3 = .ok (.bl b) S3) : m_two_for call [d1, d2, d3] S = .ok (if b = true then .non else .tup [lo, h]) S3 := by
  unfold m_two_for
  generalize isNonD false = f at e7 ⊢
  cases b with
  | true => simp only [v_bo, v_be, v_bi, v_so, v_se, v_si, v_tn, v_tr, v_te, v_ti, v_rn, v_rr, v_re, v_ri, v_gn, v_br, w_allS, v_gi, w_seq, w_set, w_ret, w_retN, w_exp, w_nil, w_ifS, w_truB, w_tru, w_notT, w_andT, w_orT, w_and, w_or, w_not, w_if, w_c, w_op1, w_op2, w_call, w_args, w_nilA, w_consA, w_tup, w_lst, w_blt, w_mt, w_raise, w_chain, w_asgT, k_si, k_ss, k_ii, k_ib, k_is, k_tl, k_tt, k_ll, k_lt, w_mk, cVar, mkFn, List.length_cons, List.length_nil, List.map_cons, List.map_nil, List.replicate, List.cons_append, List.nil_append, List.getElem?_cons_zero, List.getElem?_cons_succ, List.set_cons_zero, List.set_cons_succ, Nat.reduceAdd, Nat.reduceSub, Nat.reduceEqDiff, Nat.reduceLeDiff, if_true, if_false, truB, truD, leD, ltD, gtD, geD, cmpD, eqD, scE, subD, isiD, tyN, u_add,  gTupG, gConsG, gNilG, gN, seqAt, negD, decide_eq_true_eq, Bool.false_xor, Bool.true_xor, maxD, minD, intsD, isNonD, isNon, reduceIte, Bool.not_true, Bool.not_false, ite_true, ite_false, Bool.false_eq_true, decide_true, decide_false, Bool.false_or, Bool.true_or, Bool.or_true, Bool.or_false, e1, w_callO, e2, e3, e4, e5, e6, e7]
  | false => simp only [v_bo, v_be, v_bi, v_so, v_se, v_si, v_tn, v_tr, v_te, v_ti, v_rn, v_rr, v_re, v_ri, v_gn, v_br, w_allS, v_gi, w_seq, w_set, w_ret, w_retN, w_exp, w_nil, w_ifS, w_truB, w_tru, w_notT, w_andT, w_orT, w_and, w_or, w_not, w_if, w_c, w_op1, w_op2, w_call, w_args, w_nilA, w_consA, w_tup, w_lst, w_blt, w_mt, w_raise, w_chain, w_asgT, k_si, k_ss, k_ii, k_ib, k_is, k_tl, k_tt, k_ll, k_lt, w_mk, cVar, mkFn, List.length_cons, List.length_nil, List.map_cons, List.map_nil, List.replicate, List.cons_append, List.nil_append, List.getElem?_cons_zero, List.getElem?_cons_succ, List.set_cons_zero, List.set_cons_succ, Nat.reduceAdd, Nat.reduceSub, Nat.reduceEqDiff, Nat.reduceLeDiff, if_true, if_false, truB, truD, leD, ltD, gtD, geD, cmpD, eqD, scE, subD, isiD, tyN, u_add,  gTupG, gConsG, gNilG, gN, seqAt, negD, decide_eq_true_eq, Bool.false_xor, Bool.true_xor, maxD, minD, intsD, isNonD, isNon, reduceIte, Bool.not_true, Bool.not_false, ite_true, ite_false, Bool.false_eq_true, decide_true, decide_false, Bool.false_or, Bool.true_or, Bool.or_true, Bool.or_false, e1, w_callO, e2, e3, e4, e5, e6, e7, eq_true (show 0 + 1 + 1 ≤ 16777216 from by decide), eq_true (show 2 ≤ 16777216 from by decide)]
/-- what two_for tells -/
def twoD (l : List Nat) (w u : Nat) : D := match rimD (lefL l u) w with
  | some r => .tup [.str r, .str (upL l u)]
  | none => .non
theorem lef_len {l : List Nat} {u : Nat} (hu : 0 < u) : (lefL l u).length = l.length := due_len (due_lw hu)
theorem lef_all {l : List Nat} {u : Nat} (hu : 0 < u) (ha : l.all skN = true) : (lefL l u).all skN = true := due_all (due_lw hu) ha
theorem two_for_ok (hp : HasProg bod) (hj : 4 ≤ j) {l : List Nat} (h0 : 0 < l.length) (hl : l.length ≤ 1000) (ha : l.all skN = true) {w u : Nat} (hw : 0 < w) (hw2 : w ≤ 40) (hu : 0 < u) (hu2 : u ≤ 40) {x y : Int} (hx : x = w) (hy : y = u) :
    ∃ S' : Hd, Gro S S' ∧ den bod j "two_for" [.str l, .int x, .int y] S = .ok (twoD l w u) S' := by
  obtain ⟨j, rfl, hj2⟩ := one_of (n := 3) hj
  rw [den_eq hp.p_two_for]
  have e1 := check_seen_ok (S := S) hp (show 3 ≤ j by omega) l h0 (by omega) ha
  have e2 := check_length_ok (S := S) hp (show 2 ≤ j by omega) (m := x) (by omega) (by omega)
  have e3 := check_length_ok (S := S) hp (show 2 ≤ j by omega) (m := y) (by omega) (by omega)
  obtain ⟨S1, g1, e4⟩ := upper_rim_ok (S := S) hp (show 2 ≤ j by omega) hl ha hu (by omega) hy
  obtain ⟨S2, k1, k2, e5⟩ := pb_ok (S := S1) hp (show 1 ≤ j by omega) l (upL l u) (by omega) (by rw [upL_len]; exact hu) (by rw [upL_len]; omega)
  rw [due_up hu] at e5
  obtain ⟨S3, g3, e6⟩ := rim_of_ok (S := S2) hp (show 2 ≤ j by omega) (l := lefL l u) (k := w) (by rw [lef_len hu]; exact hl) (lef_all hu ha) hw (by omega)
  rw [← hx] at e6
  refine ⟨S3, (g1.trans (gro_of k1 k2)).trans g3, ?_⟩
  unfold twoD
  cases hr : rimD (lefL l u) w with
  | none =>
    rw [hr] at e6
    exact two_runs S1 S2 S3 e1 e2 e3 e4 e5 e6 (b := true) rfl
  | some r =>
    rw [hr] at e6
    exact two_runs S1 S2 S3 e1 e2 e3 e4 e5 e6 (b := false) rfl
theorem sgs_ch : ∀ t : List Nat, sgsD (chD t) = some t
  | [] => rfl
  | c :: t => by
    show (sgsD (chD t)).map (c :: ·) = _
    rw [sgs_ch t]
    rfl
def luB : CS := cSeq (cSet 4 (cOp1 ssLD (cOp1 ltxD (cOp1 (replD 63 []) (cSlS (cVar 0) (cPart (cVar 3)) (cPart (cVar 1)))))))
    (cSet 2 (cOp2 addD (cVar 2) (cIf (cTruB (cOp2 (eqD false) (cBlt lenD (cConsA (cVar 4) cNilA)) (cC (.int 1)))) (cOp2 ixD (cVar 4) (cC (.int 0))) (cC (.str [46])))))
theorem luB_ok {l a : List Nat} {k i : Nat} {z : Option D} (hl : l.length ≤ 1000) (ha : l.all skN = true) (hk : 0 < k) (hr : a.length ≤ 1000) {x y : Int} (hx : x = k) (hy : y = i) :
    ∃ (y4 : Option D) (S' : Hd), Gro S S' ∧ luB [some (.str l), some (.int x), some (.str a), some (.int y), z] S = .nx [some (.str l), some (.int x), some (.str (a ++ [lwC (sgn (sn l i k))])), some (.int y), y4] S' := by
  have e1 : slsD (some y) (some x) (.str l) S = .ok (.str (stepL l i k)) S := by
    have : slsD (some y) (some x) (.str l) S = .ok (.str (stepL l y.toNat x.toNat)) S := if_pos ⟨by omega, by omega, by omega⟩
    rw [this, show y.toNat = i by omega, show x.toNat = k by omega]
  have e2 : replD 63 [] (.str (stepL l i k)) S = .ok (.str (sn l i k)) S := if_pos (by have := @stp_len l i k; simp; omega)
  have hlen : (sn l i k).length ≤ 1000 := Nat.le_trans sn_len hl
  have e3 : ltxD (.str (sn l i k)) S = .ok (.ref S.length) (S ++ [.lst (chD (sn l i k))]) := if_pos (by omega)
  obtain ⟨T, hT⟩ : ∃ T, T = S ++ [Ob.lst (chD (sn l i k))] := ⟨_, rfl⟩
  rw [← hT] at e3
  have at3 : lstAt T S.length = some (chD (sn l i k)) := l_lst (by rw [hT]; exact List.getElem?_concat_length)
  have e4 : ssLD (.ref S.length) T = .ok (.ref T.length) (T ++ [.lst (chs (sgn (sn l i k)))]) := by
    unfold ssLD
    dsimp only
    rw [at3]
    dsimp only
    rw [sgs_ch]
    dsimp only
    rw [if_pos ⟨by omega, sgn_few fun c hc => sn_mk hk ha hc⟩]
    rfl
  generalize hsg : sgn (sn l i k) = s at e4
  generalize sn l i k = t at e2 e3
  have at1 : (T ++ [Ob.lst (chs s)])[T.length]? = some (Ob.lst (chs s)) := List.getElem?_concat_length
  have ln : lenD [.ref T.length] (T ++ [.lst (chs s)]) = .ok (.int s.length) (T ++ [.lst (chs s)]) := by
    rw [xNL at1]
    simp [chs]
  have ad : ∀ c : Nat, addD (.str a) (.str [c]) (T ++ [Ob.lst (chs s)]) = .ok (.str (a ++ [c])) (T ++ [Ob.lst (chs s)]) := fun c => xA (by rw [List.length_cons, List.length_nil]; omega)
  have e5 : (cSet 4 (cOp1 ssLD (cOp1 ltxD (cOp1 (replD 63 []) (cSlS (cVar 0) (cPart (cVar 3)) (cPart (cVar 1))))))) [some (.str l), some (.int x), some (.str a), some (.int y), z] S = .nx [some (.str l), some (.int x), some (.str a), some (.int y), some (.ref T.length)] (T ++ [.lst (chs s)]) := by simp only [v_bo, v_be, v_bi, v_so, v_se, v_si, v_tn, v_tr, v_te, v_ti, v_rn, v_rr, v_re, v_ri, v_gn, v_br, w_allS, v_gi, w_seq, w_set, w_ret, w_retN, w_exp, w_nil, w_ifS, w_truB, w_tru, w_notT, w_andT, w_orT, w_and, w_or, w_not, w_if, w_c, w_op1, w_op2, w_call, w_args, w_nilA, w_consA, w_tup, w_lst, w_blt, w_mt, w_raise, w_chain, w_asgT, k_si, k_ss, k_ii, k_ib, k_is, k_tl, k_tt, k_ll, k_lt, w_mk, cVar, mkFn, List.length_cons, List.length_nil, List.map_cons, List.map_nil, List.replicate, List.cons_append, List.nil_append, List.getElem?_cons_zero, List.getElem?_cons_succ, List.set_cons_zero, List.set_cons_succ, Nat.reduceAdd, Nat.reduceSub, Nat.reduceEqDiff, Nat.reduceLeDiff, if_true, if_false, truB, truD, leD, ltD, gtD, geD, cmpD, eqD, scE, subD, isiD, tyN, u_add,  gTupG, gConsG, gNilG, gN, seqAt, negD, decide_eq_true_eq, Bool.false_xor, Bool.true_xor, maxD, minD, intsD, isNonD, isNon, reduceIte, Bool.not_true, Bool.not_false, ite_true, ite_false, Bool.false_eq_true, decide_true, decide_false, Bool.false_or, Bool.true_or, Bool.or_true, Bool.or_false, cSlS, cPart, e1, e2, e3, e4]
  refine ⟨some (.ref T.length), T ++ [.lst (chs s)], ?_, ?_⟩
  · rw [hT]
    exact (Gro.push _ _).trans (Gro.push _ _)
  unfold luB
  rw [w_seq, e5, v_tn]
  match s with
  | [] => simp only [v_bo, v_be, v_bi, v_so, v_se, v_si, v_tn, v_tr, v_te, v_ti, v_rn, v_rr, v_re, v_ri, v_gn, v_br, w_allS, v_gi, w_seq, w_set, w_ret, w_retN, w_exp, w_nil, w_ifS, w_truB, w_tru, w_notT, w_andT, w_orT, w_and, w_or, w_not, w_if, w_c, w_op1, w_op2, w_call, w_args, w_nilA, w_consA, w_tup, w_lst, w_blt, w_mt, w_raise, w_chain, w_asgT, k_si, k_ss, k_ii, k_ib, k_is, k_tl, k_tt, k_ll, k_lt, w_mk, cVar, mkFn, List.length_cons, List.length_nil, List.map_cons, List.map_nil, List.replicate, List.cons_append, List.nil_append, List.getElem?_cons_zero, List.getElem?_cons_succ, List.set_cons_zero, List.set_cons_succ, Nat.reduceAdd, Nat.reduceSub, Nat.reduceEqDiff, Nat.reduceLeDiff, if_true, if_false, truB, truD, leD, ltD, gtD, geD, cmpD, eqD, scE, subD, isiD, tyN, u_add,  gTupG, gConsG, gNilG, gN, seqAt, negD, decide_eq_true_eq, Bool.false_xor, Bool.true_xor, maxD, minD, intsD, isNonD, isNon, reduceIte, Bool.not_true, Bool.not_false, ite_true, ite_false, Bool.false_eq_true, decide_true, decide_false, Bool.false_or, Bool.true_or, Bool.or_true, Bool.or_false, ln, ad, lwC, eq_false (show ¬ (((0 : Nat) : Int)) = 1 by decide), decide_eq_false (show ¬ (((0 : Nat) : Int)) = 1 by decide)]
  | [d] =>
    have ix : ixD (.ref T.length) (.int 0) (T ++ [Ob.lst (chs [d])]) = .ok (.str [d]) (T ++ [Ob.lst (chs [d])]) := u_ixL (l_lst at1) rfl
    simp only [v_bo, v_be, v_bi, v_so, v_se, v_si, v_tn, v_tr, v_te, v_ti, v_rn, v_rr, v_re, v_ri, v_gn, v_br, w_allS, v_gi, w_seq, w_set, w_ret, w_retN, w_exp, w_nil, w_ifS, w_truB, w_tru, w_notT, w_andT, w_orT, w_and, w_or, w_not, w_if, w_c, w_op1, w_op2, w_call, w_args, w_nilA, w_consA, w_tup, w_lst, w_blt, w_mt, w_raise, w_chain, w_asgT, k_si, k_ss, k_ii, k_ib, k_is, k_tl, k_tt, k_ll, k_lt, w_mk, cVar, mkFn, List.length_cons, List.length_nil, List.map_cons, List.map_nil, List.replicate, List.cons_append, List.nil_append, List.getElem?_cons_zero, List.getElem?_cons_succ, List.set_cons_zero, List.set_cons_succ, Nat.reduceAdd, Nat.reduceSub, Nat.reduceEqDiff, Nat.reduceLeDiff, if_true, if_false, truB, truD, leD, ltD, gtD, geD, cmpD, eqD, scE, subD, isiD, tyN, u_add,  gTupG, gConsG, gNilG, gN, seqAt, negD, decide_eq_true_eq, Bool.false_xor, Bool.true_xor, maxD, minD, intsD, isNonD, isNon, reduceIte, Bool.not_true, Bool.not_false, ite_true, ite_false, Bool.false_eq_true, decide_true, decide_false, Bool.false_or, Bool.true_or, Bool.or_true, Bool.or_false, ln, ix, ad, lwC, eq_true (show (((0 + 1 : Nat) : Int)) = 1 from rfl), decide_eq_true (show (((0 + 1 : Nat) : Int)) = 1 from rfl)]
  | b :: c :: q =>
    have hne : ¬ (((q.length + 1 + 1 : Nat) : Int) = 1) := by omega
    simp only [v_bo, v_be, v_bi, v_so, v_se, v_si, v_tn, v_tr, v_te, v_ti, v_rn, v_rr, v_re, v_ri, v_gn, v_br, w_allS, v_gi, w_seq, w_set, w_ret, w_retN, w_exp, w_nil, w_ifS, w_truB, w_tru, w_notT, w_andT, w_orT, w_and, w_or, w_not, w_if, w_c, w_op1, w_op2, w_call, w_args, w_nilA, w_consA, w_tup, w_lst, w_blt, w_mt, w_raise, w_chain, w_asgT, k_si, k_ss, k_ii, k_ib, k_is, k_tl, k_tt, k_ll, k_lt, w_mk, cVar, mkFn, List.length_cons, List.length_nil, List.map_cons, List.map_nil, List.replicate, List.cons_append, List.nil_append, List.getElem?_cons_zero, List.getElem?_cons_succ, List.set_cons_zero, List.set_cons_succ, Nat.reduceAdd, Nat.reduceSub, Nat.reduceEqDiff, Nat.reduceLeDiff, if_true, if_false, truB, truD, leD, ltD, gtD, geD, cmpD, eqD, scE, subD, isiD, tyN, u_add,  gTupG, gConsG, gNilG, gN, seqAt, negD, decide_eq_true_eq, Bool.false_xor, Bool.true_xor, maxD, minD, intsD, isNonD, isNon, reduceIte, Bool.not_true, Bool.not_false, ite_true, ite_false, Bool.false_eq_true, decide_true, decide_false, Bool.false_or, Bool.true_or, Bool.or_true, Bool.or_false, ln, ad, lwC, eq_false hne, decide_eq_false hne]
theorem lu_run (F : CS) (S' : Hd) {d1 d2 d : D} {y z : Option D} (e : F [some d1, some d2, some (.str []), none, none] S = .nx [some d1, some d2, some d, y, z] S') : mkFn 5 2 (cSeq (cSet 2 (cC (.str []))) (cSeq F (cRet (cVar 2)))) [d1, d2] S = .ok d S' := by
  rw [w_mk 5 2 _ [d1, d2] rfl, w_seq]
  rw [show (cSet 2 (cC (.str []))) ([d1, d2].map some ++ List.replicate (5 - 2) none) S = .nx [some d1, some d2, some (.str []), none, none] S from rfl, v_tn, w_seq, e]
  rfl
theorem law_upper_ok (hf : bod.lookup ("_law_upper" : Str) = some mb_upper) (hj : 1 ≤ j) {l : List Nat} (hl : l.length ≤ 1000) (ha : l.all skN = true) {k : Nat} (hk : 0 < k) (hk2 : k ≤ 1000) {x : Int} (hx : x = k) :
    ∃ S' : Hd, Gro S S' ∧ den bod j "_law_upper" [.str l, .int x] S = .ok (.str (lwL l k)) S' := by
  obtain ⟨j, rfl, hj2⟩ := one_of (n := 0) hj
  rw [den_eq hf]
  have hlr : (rngL 0 k).length = k := by simp [rngL]
  obtain ⟨Γ', S', e, y, z, rfl, hg⟩ := cFor_inv (it := cRng1 (cConsA (cVar 1) cNilA)) (S0 := S) (S := S) (src := .base (.items (rngL 0 k))) (g := gN 3) (b := luB) (Γ := [some (.str l), some (.int x), some (.str []), none, none]) (rngL 0 k)
    (fun i Γ S' => ∃ (y z : Option D), Γ = [some (.str l), some (.int x), some (.str ((List.range i).map fun m => lwC (sgn (sn l m k)))), y, z] ∧ Gro S S')
    (hit1 hx rfl hk2) (by rw [hlr]; omega) (fun i Γ S' _ _ => rfl)
    (fun i d Γ S' hd h => by
      obtain ⟨y, z, rfl, hg⟩ := h
      have hi : i < k := by
        have := (List.getElem?_eq_some_iff.mp hd).1
        rw [hlr] at this
        exact this
      obtain ⟨v, hv, hdd⟩ : ∃ v : Int, v = (i : Nat) ∧ d = .int v := by
        refine ⟨0 + (i : Int), by omega, ?_⟩
        unfold rngL at hd
        rw [List.getElem?_map, List.getElem?_range hi] at hd
        cases hd
        rfl
      subst hdd
      obtain ⟨y4, S2, g2, e⟩ := luB_ok (S := S') (a := (List.range i).map fun m => lwC (sgn (sn l m k))) hl ha hk (by rw [List.length_map, List.length_range]; omega) hx hv (z := z)
      refine ⟨_, _, _, _, rfl, .inl e, some (.int v), y4, ?_, hg.trans g2⟩
      rw [List.range_succ, List.map_append]
      rfl) ⟨none, none, rfl, Gro.refl _⟩
  rw [hlr] at e
  exact ⟨S', hg, lu_run _ S' e⟩
end
end Dn

set_option Elab.async false
set_option linter.all false
set_option maxRecDepth 100000
set_option maxHeartbeats 4000000
set_option autoImplicit false

namespace Dn
open PySem PySem.Spec PyProof.Rows L2 Kx
namespace L58
def N__law_bag : List Str := ["script", "total", "cell"]
def m__law_bag (call : Calls) : List D → Hd → R D := mkFn 3 1 ((cSeq (cSet 1 (cC (.int 1)))
    (cSeq (cFor (cSrc (cVar 0)) (gN 2) (cSet 1 (cOp2 modD (cOp2 addD (cOp2 addD (cOp2 mulD (cVar 1) (cC (.int 1000003))) (cOp2 modD (cVar 2) (cC (.int 2305843009213693951)))) (cC (.int 1))) (cC (.int 2305843009213693951)))))
    (cRet (cLst (cConsA (cBlt listD (cConsA (cVar 0) cNilA)) (cConsA (cC (.int 0)) (cConsA (cC (.int 0)) (cConsA (cC (.int 0)) (cConsA (cVar 1) cNilA))))))))))
def N__law_stir : List Str := ["number", "place", "one", "two"]
def m__law_stir (call : Calls) : List D → Hd → R D := mkFn 4 2 ((cSeq (cSet 2 (cOp2 modD (cOp2 addD (cOp2 addD (cOp2 mulD (cVar 0) (cC (.int 998244353))) (cOp2 mulD (cVar 1) (cC (.int 1000000007)))) (cC (.int 5))) (cC (.int 2305843009213693951))))
    (cSeq (cSet 3 (cOp2 modD (cOp2 mulD (cVar 2) (cVar 2)) (cC (.int 2305843009213693951))))
    (cRet (cOp2 fdivD (cOp2 modD (cOp2 addD (cOp2 addD (cOp2 mulD (cVar 3) (cC (.int 2860486313))) (cOp2 mulD (cOp2 mulD (cVar 1) (cVar 1)) (cC (.int 48271)))) (cOp2 fdivD (cVar 2) (cC (.int 3)))) (cC (.int 2305843009213693921))) (cC (.int 1024)))))))
def N__law_draw : List Str := ["bag", "many", "cell", "found"]
def m__law_draw (call : Calls) : List D → Hd → R D := mkFn 4 2 ((cSeq (cIfS (cTruB (cOp2 (eqD false) (cVar 1) (cC (.int 1)))) (cRet (cC (.int 0))) cNil)
    (cSeq (cAsgT (cOp2 addD (cOp2 ixD (cVar 0) (cC (.int 3))) (cC (.int 1))) (gSubG (cVar 0) (cC (.int 3))))
    (cSeq (cIfS (cAndT (cTruB (cOp2 ltD (cOp2 ixD (cVar 0) (cC (.int 2))) (cC (.int 2)))) (cTruB (cOp2 (eqD false) (cOp2 ixD (cVar 0) (cC (.int 1))) (cBlt lenD (cConsA (cOp2 ixD (cVar 0) (cC (.int 0))) cNilA))))) (cRet (cOp2 modD (cCall call "_law_stir" (cArgs 2 (cConsA (cOp2 ixD (cVar 0) (cC (.int 4))) (cConsA (cOp2 ixD (cVar 0) (cC (.int 3))) cNilA)))) (cVar 1))) cNil)
    (cSeq (cIfS (cTruB (cOp2 ltD (cOp2 ixD (cVar 0) (cC (.int 2))) (cC (.int 2)))) (cSeq (cSet 2 (cOp2 ixD (cOp2 ixD (cVar 0) (cC (.int 0))) (cOp2 ixD (cVar 0) (cC (.int 1)))))
    (cSeq (cAsgT (cOp2 addD (cOp2 ixD (cVar 0) (cC (.int 1))) (cC (.int 1))) (gSubG (cVar 0) (cC (.int 1))))
    (cSeq (cIfS (cTruB (cOp2 ltD (cVar 2) (cOp2 powD (cC (.int 10)) (cC (.int 18))))) (cRet (cOp2 modD (cCall call "_law_stir" (cArgs 2 (cConsA (cOp2 modD (cVar 2) (cC (.int 2305843009213693951))) (cConsA (cOp2 ixD (cVar 0) (cC (.int 3))) cNilA)))) (cVar 1))) cNil)
    (cAsgT (cOp2 subD (cVar 2) (cOp2 powD (cC (.int 10)) (cC (.int 18)))) (gSubG (cVar 0) (cC (.int 2))))))) cNil)
    (cSeq (cSet 3 (cOp2 modD (cOp2 ixD (cVar 0) (cC (.int 2))) (cVar 1)))
    (cSeq (cAsgT (cOp2 fdivD (cOp2 ixD (cVar 0) (cC (.int 2))) (cVar 1)) (gSubG (cVar 0) (cC (.int 2))))
    (cRet (cVar 3)))))))))
def N__law_mixed : List Str := ["bag", "row", "left", "k"]
def m__law_mixed (call : Calls) : List D → Hd → R D := mkFn 4 2 ((cSeq (cSet 2 (cBlt listD (cConsA (cVar 1) cNilA)))
    (cRet (cLc (cRng1 (cConsA (cBlt lenD (cConsA (cVar 1) cNilA)) cNilA)) (gN 3) cYes (cMt "list" isLstD popAtD (cVar 2) (cConsA (cCall call "_law_draw" (cArgs 2 (cConsA (cVar 0) (cConsA (cBlt lenD (cConsA (cVar 2) cNilA)) cNilA)))) cNilA)) [3]))))
def N__law_rim : List Str := ["bag", "most", "size", "kind", "at", "signs", "k"]
def m__law_rim (call : Calls) : List D → Hd → R D := mkFn 7 2 ((cSeq (cSet 2 (cOp2 addD (cC (.int 1)) (cCall call "_law_draw" (cArgs 2 (cConsA (cVar 0) (cConsA (cVar 1) cNilA))))))
    (cSeq (cSet 3 (cCall call "_law_draw" (cArgs 2 (cConsA (cVar 0) (cConsA (cC (.int 4)) cNilA)))))
    (cSeq (cIfS (cTruB (cOp2 (eqD false) (cVar 3) (cC (.int 1)))) (cSeq (cSet 4 (cCall call "_law_draw" (cArgs 2 (cConsA (cVar 0) (cConsA (cVar 2) cNilA)))))
    (cRet (cOp2 addD (cOp2 addD (cOp2 mulD (cC (.str [46])) (cVar 4)) (cOp2 ixD (cC (.str [97, 98, 122])) (cCall call "_law_draw" (cArgs 2 (cConsA (cVar 0) (cConsA (cC (.int 3)) cNilA)))))) (cOp2 mulD (cC (.str [46])) (cOp2 subD (cOp2 subD (cVar 2) (cVar 4)) (cC (.int 1))))))) cNil)
    (cSeq (cIfS (cTruB (cOp2 (eqD false) (cVar 3) (cC (.int 2)))) (cRet (cSl (cOp2 mulD (cOp2 ixD (cLst (cConsA (cC (.str [97])) (cConsA (cC (.str [97, 98])) (cConsA (cC (.str [46])) (cConsA (cC (.str [97, 46])) cNilA))))) (cCall call "_law_draw" (cArgs 2 (cConsA (cVar 0) (cConsA (cC (.int 4)) cNilA))))) (cVar 2)) cNoPart (cPart (cVar 2)))) cNil)
    (cSeq (cSet 5 (cOp2 ixD (cLst (cConsA (cC (.str [97, 98, 46])) (cConsA (cC (.str [])) (cConsA (cC (.str [])) (cConsA (cC (.str [97, 98, 99, 100, 101, 102, 103, 104, 105, 106, 107, 108, 109, 110, 111, 112, 113, 114, 115, 116, 117, 118, 119, 120, 121, 122, 46])) cNilA))))) (cVar 3)))
    (cRet (cMt "str" isStrD joinD (cC (.str [])) (cConsA (cLc (cRng1 (cConsA (cVar 2) cNilA)) (gN 6) cYes (cOp2 ixD (cVar 5) (cCall call "_law_draw" (cArgs 2 (cConsA (cVar 0) (cConsA (cBlt lenD (cConsA (cVar 5) cNilA)) cNilA))))) [6]) cNilA)))))))))
def N__law_seen_two : List Str := ["bag", "most", "size", "lower", "upper", "hidden", "spoilt", "any_signs", "found", "place", "sign"]
def m__law_seen_two (call : Calls) : List D → Hd → R D := mkFn 11 2 ((cSeq (cSet 2 (cOp2 addD (cC (.int 1)) (cCall call "_law_draw" (cArgs 2 (cConsA (cVar 0) (cConsA (cVar 1) cNilA))))))
    (cSeq (cSet 3 (cCall call "_law_rim" (cArgs 2 (cConsA (cVar 0) (cConsA (cC (.int 9)) cNilA)))))
    (cSeq (cSet 4 (cCall call "_law_rim" (cArgs 2 (cConsA (cVar 0) (cConsA (cC (.int 9)) cNilA)))))
    (cSeq (cSet 5 (cOp2 ixD (cLst (cConsA (cC (.int 1)) (cConsA (cC (.int 3)) (cConsA (cC (.int 40)) cNilA)))) (cCall call "_law_draw" (cArgs 2 (cConsA (cVar 0) (cConsA (cC (.int 3)) cNilA))))))
    (cSeq (cSet 6 (cOp2 ixD (cLst (cConsA (cC (.int 0)) (cConsA (cC (.int 0)) (cConsA (cC (.int 30)) cNilA)))) (cCall call "_law_draw" (cArgs 2 (cConsA (cVar 0) (cConsA (cC (.int 3)) cNilA))))))
    (cSeq (cSet 7 (cOp2 (eqD false) (cCall call "_law_draw" (cArgs 2 (cConsA (cVar 0) (cConsA (cC (.int 6)) cNilA)))) (cC (.int 0))))
    (cSeq (cSet 8 (cC (.str [])))
    (cSeq (cFor (cRng1 (cConsA (cVar 2) cNilA)) (gN 9) (cSeq (cSet 10 (cOp2 ixD (cVar 4) (cOp2 modD (cVar 9) (cBlt lenD (cConsA (cVar 4) cNilA)))))
    (cSeq (cSet 10 (cIf (cTruB (cOp2 (eqD false) (cVar 10) (cC (.str [46])))) (cOp2 ixD (cVar 3) (cOp2 modD (cVar 9) (cBlt lenD (cConsA (cVar 3) cNilA)))) (cVar 10)))
    (cSeq (cIfS (cOrT (cTru (cVar 7)) (cAndT (cTruB (cOp2 gtD (cVar 6) (cC (.int 0)))) (cTruB (cOp2 (eqD false) (cCall call "_law_draw" (cArgs 2 (cConsA (cVar 0) (cConsA (cVar 6) cNilA)))) (cC (.int 0)))))) (cSet 10 (cOp2 ixD (cC (.str [97, 98, 46, 99])) (cCall call "_law_draw" (cArgs 2 (cConsA (cVar 0) (cConsA (cC (.int 4)) cNilA)))))) cNil)
    (cSet 8 (cOp2 addD (cVar 8) (cIf (cTruB (cOp2 gtD (cCall call "_law_draw" (cArgs 2 (cConsA (cVar 0) (cConsA (cOp2 addD (cVar 5) (cC (.int 1))) cNilA)))) (cC (.int 0)))) (cVar 10) (cC (.str [63])))))))))
    (cRet (cVar 8)))))))))))
def N__law_upper : List Str := ["seen", "size", "found", "at", "some"]
def m__law_upper (call : Calls) : List D → Hd → R D := mkFn 5 2 ((cSeq (cSet 2 (cC (.str [])))
    (cSeq (cFor (cRng1 (cConsA (cVar 1) cNilA)) (gN 3) (cSeq (cSet 4 (cOp1 ssLD (cOp1 ltxD (cOp1 (replD 63 []) (cSlS (cVar 0) (cPart (cVar 3)) (cPart (cVar 1)))))))
    (cSet 2 (cOp2 addD (cVar 2) (cIf (cTruB (cOp2 (eqD false) (cBlt lenD (cConsA (cVar 4) cNilA)) (cC (.int 1)))) (cOp2 ixD (cVar 4) (cC (.int 0))) (cC (.str [46])))))))
    (cRet (cVar 2)))))
def N_law : List Str := ["script", "bag", "turn", "seen", "lower", "upper", "told", "rim", "left", "due"]
def m_law (call : Calls) : List D → Hd → R D := mkFn 10 1 ((cSeq (cSet 1 (cCall call "_law_bag" (cArgs 1 (cConsA (cVar 0) cNilA))))
    (cSeq (cFor (cRng1 (cConsA (cOp2 addD (cC (.int 3)) (cBlt minD (cConsA (cC (.int 6)) (cConsA (cBlt lenD (cConsA (cVar 0) cNilA)) cNilA)))) cNilA)) (gN 2) (cSeq (cSet 3 (cCall call "_law_seen_two" (cArgs 2 (cConsA (cVar 1) (cConsA (cOp2 ixD (cLst (cConsA (cC (.int 12)) (cConsA (cC (.int 60)) (cConsA (cC (.int 300)) cNilA)))) (cCall call "_law_draw" (cArgs 2 (cConsA (cVar 1) (cConsA (cC (.int 3)) cNilA))))) cNilA)))))
    (cSeq (cSet 4 (cOp2 addD (cC (.int 1)) (cCall call "_law_draw" (cArgs 2 (cConsA (cVar 1) (cConsA (cOp2 ixD (cLst (cConsA (cC (.int 9)) (cConsA (cC (.int 40)) cNilA))) (cCall call "_law_draw" (cArgs 2 (cConsA (cVar 1) (cConsA (cC (.int 2)) cNilA))))) cNilA))))))
    (cSeq (cSet 5 (cOp2 addD (cC (.int 1)) (cCall call "_law_draw" (cArgs 2 (cConsA (cVar 1) (cConsA (cOp2 ixD (cLst (cConsA (cC (.int 9)) (cConsA (cC (.int 40)) cNilA))) (cCall call "_law_draw" (cArgs 2 (cConsA (cVar 1) (cConsA (cC (.int 2)) cNilA))))) cNilA))))))
    (cSeq (cSet 6 (cCall call "two_for" (cArgs 3 (cConsA (cVar 3) (cConsA (cVar 4) (cConsA (cVar 5) cNilA))))))
    (cSeq (cSet 7 (cCall call "_law_upper" (cArgs 2 (cConsA (cVar 3) (cConsA (cVar 5) cNilA)))))
    (cSeq (cSet 8 (cCall call "beneath" (cArgs 2 (cConsA (cVar 3) (cConsA (cVar 7) cNilA)))))
    (cSeq (cIfS (cTruB (cOp2 (isNonD false) (cVar 8) (cC .non))) (cRet (cC (.bl false))) cNil)
    (cSeq (cSet 9 (cCall call "rim_for" (cArgs 2 (cConsA (cVar 8) (cConsA (cVar 4) cNilA)))))
    (cSeq (cIfS (cTruB (cOp2 (eqD true) (cOp2 (isNonD false) (cVar 6) (cC .non)) (cOp2 (isNonD false) (cVar 9) (cC .non)))) (cRet (cC (.bl false))) cNil)
    (cSeq (cIfS (cAndT (cTruB (cOp2 (isNonD true) (cVar 6) (cC .non))) (cOrT (cTruB (cOp2 (eqD true) (cOp2 ixD (cVar 6) (cC (.int 0))) (cVar 9))) (cTruB (cOp2 (eqD true) (cOp1 (replD 63 [46]) (cOp2 ixD (cVar 6) (cC (.int 1)))) (cVar 7))))) (cRet (cC (.bl false))) cNil)
    (cSeq (cIfS (cTruB (cOp2 (isNonD true) (cCall call "rim_for" (cArgs 2 (cConsA (cVar 3) (cConsA (cVar 5) cNilA)))) (cC .non))) (cIfS (cOrT (cTruB (cOp2 (isNonD false) (cVar 6) (cC .non))) (cTruB (cOp2 (eqD true) (cOp1 (replD 46 []) (cOp1 (replD 63 []) (cOp2 ixD (cVar 6) (cC (.int 0))))) (cC (.str []))))) (cRet (cC (.bl false))) cNil) cNil)
    (cIfS (cAndT (cTruB (cOp2 (isNonD true) (cCall call "rim_for" (cArgs 2 (cConsA (cVar 3) (cConsA (cVar 4) cNilA)))) (cC .non))) (cTruB (cOp2 (isNonD false) (cVar 6) (cC .non)))) (cRet (cC (.bl false))) cNil)))))))))))))
    (cRet (cC (.bl true))))))
def bod : Bod := progBod ++ [(("_law_bag" : Str), m__law_bag), (("_law_stir" : Str), m__law_stir), (("_law_draw" : Str), m__law_draw), (("_law_mixed" : Str), m__law_mixed), (("_law_rim" : Str), m__law_rim), (("_law_seen_two" : Str), m__law_seen_two), (("_law_upper" : Str), m__law_upper), (("law" : Str), m_law)]
end L58
end Dn

set_option linter.all false
set_option maxRecDepth 100000
set_option maxHeartbeats 1000000
set_option autoImplicit false
/-! # The law of two by one and beneath -/
namespace Dn
open PySem PySem.Spec Kx L2

section
variable {bod : Bod} {S : Hd} {Γ : Gm} {j n : Nat}
theorem nonF (d : D) (b : Bool) (h : ∀ S, isNonD false d .non S = .ok (.bl b) S) : ∀ S, isNonD false d .non S = .ok (.bl b) S := h
def tailB (j : Nat) (bod : Bod) : CS := cSeq (cIfS (cTruB (cOp2 (eqD true) (cOp2 (isNonD false) (cVar 6) (cC .non)) (cOp2 (isNonD false) (cVar 9) (cC .non)))) (cRet (cC (.bl false))) cNil) (cSeq (cIfS (cAndT (cTruB (cOp2 (isNonD true) (cVar 6) (cC .non))) (cOrT (cTruB (cOp2 (eqD true) (cOp2 ixD (cVar 6) (cC (.int 0))) (cVar 9))) (cTruB (cOp2 (eqD true) (cOp1 (replD 63 [46]) (cOp2 ixD (cVar 6) (cC (.int 1)))) (cVar 7))))) (cRet (cC (.bl false))) cNil) (cSeq (cIfS (cTruB (cOp2 (isNonD true) (cCall (den bod j) "rim_for" (cArgs 2 (cConsA (cVar 3) (cConsA (cVar 5) cNilA)))) (cC .non))) (cIfS (cOrT (cTruB (cOp2 (isNonD false) (cVar 6) (cC .non))) (cTruB (cOp2 (eqD true) (cOp1 (replD 46 []) (cOp1 (replD 63 []) (cOp2 ixD (cVar 6) (cC (.int 0))))) (cC (.str []))))) (cRet (cC (.bl false))) cNil) cNil) (cIfS (cAndT (cTruB (cOp2 (isNonD true) (cCall (den bod j) "rim_for" (cArgs 2 (cConsA (cVar 3) (cConsA (cVar 4) cNilA)))) (cC .non))) (cTruB (cOp2 (isNonD false) (cVar 6) (cC .non)))) (cRet (cC (.bl false))) cNil)))
theorem eq_str (a : List Nat) : eqD true (.str a) (.str a) S = .ok (.bl false) S := by
  unfold eqD
  simp [scE]
theorem repl_ok46 {a : List Nat} (h : a.length ≤ 1000) : replD 63 [46] (.str a) S = .ok (.str (repL 63 [46] a)) S := if_pos (by simp; omega)
theorem repl_ok0 {c : Nat} {a : List Nat} (h : a.length ≤ 1000) : replD c [] (.str a) S = .ok (.str (repL c [] a)) S := if_pos (by simp; omega)
theorem tail_some (hp : HasProg bod) (hj : 4 ≤ j) {l : List Nat} (h0 : 0 < l.length) (hl : l.length ≤ 1000) (ha : l.all skN = true) {w u : Nat} (hw : 0 < w) (hw2 : w ≤ 40) (hu : 0 < u) (hu2 : u ≤ 40) {x y : Int} (hx : x = w) (hy : y = u) {r : List Nat} (hr : rimD (lefL l u) w = some r) {x0 x1 x2 : Option D} :
    ∃ S' : Hd, Gro S S' ∧ tailB j bod [x0, x1, x2, some (.str l), some (.int x), some (.int y), some (.tup [.str r, .str (upL l u)]), some (.str (lwL l u)), some (.str (lefL l u)), some (.str r)] S = .nx [x0, x1, x2, some (.str l), some (.int x), some (.int y), some (.tup [.str r, .str (upL l u)]), some (.str (lwL l u)), some (.str (lefL l u)), some (.str r)] S' := by
  have hrl : r.length = w := rimF_len hr
  have n6 : ∀ S : Hd, isNonD false (.tup [.str r, .str (upL l u)]) .non S = .ok (.bl false) S := fun S => rfl
  have n6t : ∀ S : Hd, isNonD true (.tup [.str r, .str (upL l u)]) .non S = .ok (.bl true) S := fun S => rfl
  have n9 : ∀ S : Hd, isNonD false (.str r) .non S = .ok (.bl false) S := fun S => rfl
  have q2 : ∀ S : Hd, eqD true (.bl false) (.bl false) S = .ok (.bl false) S := fun S => rfl
  have i0 : ∀ S : Hd, ixD (.tup [.str r, .str (upL l u)]) (.int 0) S = .ok (.str r) S := fun S => rfl
  have i1 : ∀ S : Hd, ixD (.tup [.str r, .str (upL l u)]) (.int 1) S = .ok (.str (upL l u)) S := fun S => rfl
  have qr : ∀ S : Hd, eqD true (.str r) (.str r) S = .ok (.bl false) S := fun S => eq_str r
  have rp : ∀ S : Hd, replD 63 [46] (.str (upL l u)) S = .ok (.str (lwL l u)) S := fun S => by
    rw [repl_ok46 (by rw [upL_len]; omega), up_lw hu]
  have ql : ∀ S : Hd, eqD true (.str (lwL l u)) (.str (lwL l u)) S = .ok (.bl false) S := fun S => eq_str _
  obtain ⟨S1, g1, e1⟩ := rim_for_ok (S := S) hp hj h0 hl ha hu hu2
  rw [← hy] at e1
  obtain ⟨S2, g2, e2⟩ := rim_for_ok (S := S1) hp hj h0 hl ha hw hw2
  rw [← hx] at e2
  refine ⟨S2, g1.trans g2, ?_⟩
  have eC2 : (cIfS (cTruB (cOp2 (eqD true) (cOp2 (isNonD false) (cVar 6) (cC .non)) (cOp2 (isNonD false) (cVar 9) (cC .non)))) (cRet (cC (.bl false))) cNil) [x0, x1, x2, some (.str l), some (.int x), some (.int y), some (.tup [.str r, .str (upL l u)]), some (.str (lwL l u)), some (.str (lefL l u)), some (.str r)] S = .nx [x0, x1, x2, some (.str l), some (.int x), some (.int y), some (.tup [.str r, .str (upL l u)]), some (.str (lwL l u)), some (.str (lefL l u)), some (.str r)] S := by
    generalize lwL l u = lw
    generalize eqD true = f at q2 ⊢
    generalize isNonD false = g at n6 n9 ⊢
    simp only [v_bo, v_be, v_bi, v_so, v_se, v_si, v_tn, v_tr, v_te, v_ti, v_rn, v_rr, v_re, v_ri, v_gn, v_br, w_allS, v_gi, w_seq, w_set, w_ret, w_retN, w_exp, w_nil, w_ifS, w_truB, w_tru, w_notT, w_andT, w_orT, w_and, w_or, w_not, w_if, w_c, w_op1, w_op2, w_call, w_args, w_nilA, w_consA, w_tup, w_lst, w_blt, w_mt, w_raise, w_chain, w_asgT, k_si, k_ss, k_ii, k_ib, k_is, k_tl, k_tt, k_ll, k_lt, w_mk, cVar, mkFn, List.length_cons, List.length_nil, List.map_cons, List.map_nil, List.replicate, List.cons_append, List.nil_append, List.getElem?_cons_zero, List.getElem?_cons_succ, List.set_cons_zero, List.set_cons_succ, Nat.reduceAdd, Nat.reduceSub, Nat.reduceEqDiff, Nat.reduceLeDiff, if_true, if_false, truB, truD, leD, ltD, gtD, geD, cmpD, eqD, scE, subD, isiD, tyN, u_add,  gTupG, gConsG, gNilG, gN, seqAt, negD, decide_eq_true_eq, Bool.false_xor, Bool.true_xor, maxD, minD, intsD, isNonD, isNon, reduceIte, Bool.not_true, Bool.not_false, ite_true, ite_false, Bool.false_eq_true, decide_true, decide_false, Bool.false_or, Bool.true_or, Bool.or_true, Bool.or_false, n6, n9, q2]
  have eC3 : (cIfS (cAndT (cTruB (cOp2 (isNonD true) (cVar 6) (cC .non))) (cOrT (cTruB (cOp2 (eqD true) (cOp2 ixD (cVar 6) (cC (.int 0))) (cVar 9))) (cTruB (cOp2 (eqD true) (cOp1 (replD 63 [46]) (cOp2 ixD (cVar 6) (cC (.int 1)))) (cVar 7))))) (cRet (cC (.bl false))) cNil) [x0, x1, x2, some (.str l), some (.int x), some (.int y), some (.tup [.str r, .str (upL l u)]), some (.str (lwL l u)), some (.str (lefL l u)), some (.str r)] S = .nx [x0, x1, x2, some (.str l), some (.int x), some (.int y), some (.tup [.str r, .str (upL l u)]), some (.str (lwL l u)), some (.str (lefL l u)), some (.str r)] S := by
    generalize lwL l u = lw at rp ql ⊢
    generalize eqD true = f at qr ql ⊢
    generalize isNonD true = g at n6t ⊢
    simp only [v_bo, v_be, v_bi, v_so, v_se, v_si, v_tn, v_tr, v_te, v_ti, v_rn, v_rr, v_re, v_ri, v_gn, v_br, w_allS, v_gi, w_seq, w_set, w_ret, w_retN, w_exp, w_nil, w_ifS, w_truB, w_tru, w_notT, w_andT, w_orT, w_and, w_or, w_not, w_if, w_c, w_op1, w_op2, w_call, w_args, w_nilA, w_consA, w_tup, w_lst, w_blt, w_mt, w_raise, w_chain, w_asgT, k_si, k_ss, k_ii, k_ib, k_is, k_tl, k_tt, k_ll, k_lt, w_mk, cVar, mkFn, List.length_cons, List.length_nil, List.map_cons, List.map_nil, List.replicate, List.cons_append, List.nil_append, List.getElem?_cons_zero, List.getElem?_cons_succ, List.set_cons_zero, List.set_cons_succ, Nat.reduceAdd, Nat.reduceSub, Nat.reduceEqDiff, Nat.reduceLeDiff, if_true, if_false, truB, truD, leD, ltD, gtD, geD, cmpD, eqD, scE, subD, isiD, tyN, u_add,  gTupG, gConsG, gNilG, gN, seqAt, negD, decide_eq_true_eq, Bool.false_xor, Bool.true_xor, maxD, minD, intsD, isNonD, isNon, reduceIte, Bool.not_true, Bool.not_false, ite_true, ite_false, Bool.false_eq_true, decide_true, decide_false, Bool.false_or, Bool.true_or, Bool.or_true, Bool.or_false, n6t, i0, i1, qr, rp, ql]
  have eC4 : (cIfS (cTruB (cOp2 (isNonD true) (cCall (den bod j) "rim_for" (cArgs 2 (cConsA (cVar 3) (cConsA (cVar 5) cNilA)))) (cC .non))) (cIfS (cOrT (cTruB (cOp2 (isNonD false) (cVar 6) (cC .non))) (cTruB (cOp2 (eqD true) (cOp1 (replD 46 []) (cOp1 (replD 63 []) (cOp2 ixD (cVar 6) (cC (.int 0))))) (cC (.str []))))) (cRet (cC (.bl false))) cNil) cNil) [x0, x1, x2, some (.str l), some (.int x), some (.int y), some (.tup [.str r, .str (upL l u)]), some (.str (lwL l u)), some (.str (lefL l u)), some (.str r)] S = .nx [x0, x1, x2, some (.str l), some (.int x), some (.int y), some (.tup [.str r, .str (upL l u)]), some (.str (lwL l u)), some (.str (lefL l u)), some (.str r)] S1 := by
    have o1 := oD_ne (S := S1) (o := rimD l u)
    by_cases hf : FitsP l u
    · have hs : (rimD l u).isSome = true := (rimD_isSome hu).mpr hf
      rw [hs] at o1
      have hrr : r = dueR (lefL l u) w (lefL l u).length := by
        have := rimD_fits hw (lef_fits (w := w) hu hf)
        rw [hr] at this
        exact Option.some.inj this
      have ra : replD 63 [] (.str r) S1 = .ok (.str (repL 63 [] r)) S1 := repl_ok0 (by omega)
      have rb : replD 46 [] (.str (repL 63 [] r)) S1 = .ok (.str []) S1 := by
        rw [repl_ok0 (Nat.le_trans rep_len (by omega)), hrr, lef_rim hu hf]
      have qn : eqD true (.str []) (.str []) S1 = .ok (.bl false) S1 := eq_str []
      generalize oD (rimD l u) = o at e1 o1
      generalize lwL l u = lw
      generalize eqD true = f at qn ⊢
      generalize isNonD true = g at o1 ⊢
      generalize isNonD false = g' at n6 ⊢
      simp only [v_bo, v_be, v_bi, v_so, v_se, v_si, v_tn, v_tr, v_te, v_ti, v_rn, v_rr, v_re, v_ri, v_gn, v_br, w_allS, v_gi, w_seq, w_set, w_ret, w_retN, w_exp, w_nil, w_ifS, w_truB, w_tru, w_notT, w_andT, w_orT, w_and, w_or, w_not, w_if, w_c, w_op1, w_op2, w_call, w_args, w_nilA, w_consA, w_tup, w_lst, w_blt, w_mt, w_raise, w_chain, w_asgT, k_si, k_ss, k_ii, k_ib, k_is, k_tl, k_tt, k_ll, k_lt, w_mk, cVar, mkFn, List.length_cons, List.length_nil, List.map_cons, List.map_nil, List.replicate, List.cons_append, List.nil_append, List.getElem?_cons_zero, List.getElem?_cons_succ, List.set_cons_zero, List.set_cons_succ, Nat.reduceAdd, Nat.reduceSub, Nat.reduceEqDiff, Nat.reduceLeDiff, if_true, if_false, truB, truD, leD, ltD, gtD, geD, cmpD, eqD, scE, subD, isiD, tyN, u_add,  gTupG, gConsG, gNilG, gN, seqAt, negD, decide_eq_true_eq, Bool.false_xor, Bool.true_xor, maxD, minD, intsD, isNonD, isNon, reduceIte, Bool.not_true, Bool.not_false, ite_true, ite_false, Bool.false_eq_true, decide_true, decide_false, Bool.false_or, Bool.true_or, Bool.or_true, Bool.or_false, e1, o1, n6, i0, ra, rb, qn]
    · have hs : (rimD l u).isSome = false := by
        rw [rimD_nofit hu hf]
        rfl
      rw [hs] at o1
      generalize oD (rimD l u) = o at e1 o1
      generalize lwL l u = lw
      generalize isNonD true = g at o1 ⊢
      simp only [v_bo, v_be, v_bi, v_so, v_se, v_si, v_tn, v_tr, v_te, v_ti, v_rn, v_rr, v_re, v_ri, v_gn, v_br, w_allS, v_gi, w_seq, w_set, w_ret, w_retN, w_exp, w_nil, w_ifS, w_truB, w_tru, w_notT, w_andT, w_orT, w_and, w_or, w_not, w_if, w_c, w_op1, w_op2, w_call, w_args, w_nilA, w_consA, w_tup, w_lst, w_blt, w_mt, w_raise, w_chain, w_asgT, k_si, k_ss, k_ii, k_ib, k_is, k_tl, k_tt, k_ll, k_lt, w_mk, cVar, mkFn, List.length_cons, List.length_nil, List.map_cons, List.map_nil, List.replicate, List.cons_append, List.nil_append, List.getElem?_cons_zero, List.getElem?_cons_succ, List.set_cons_zero, List.set_cons_succ, Nat.reduceAdd, Nat.reduceSub, Nat.reduceEqDiff, Nat.reduceLeDiff, if_true, if_false, truB, truD, leD, ltD, gtD, geD, cmpD, eqD, scE, subD, isiD, tyN, u_add,  gTupG, gConsG, gNilG, gN, seqAt, negD, decide_eq_true_eq, Bool.false_xor, Bool.true_xor, maxD, minD, intsD, isNonD, isNon, reduceIte, Bool.not_true, Bool.not_false, ite_true, ite_false, Bool.false_eq_true, decide_true, decide_false, Bool.false_or, Bool.true_or, Bool.or_true, Bool.or_false, e1, o1]
  have eC5 : (cIfS (cAndT (cTruB (cOp2 (isNonD true) (cCall (den bod j) "rim_for" (cArgs 2 (cConsA (cVar 3) (cConsA (cVar 4) cNilA)))) (cC .non))) (cTruB (cOp2 (isNonD false) (cVar 6) (cC .non)))) (cRet (cC (.bl false))) cNil) [x0, x1, x2, some (.str l), some (.int x), some (.int y), some (.tup [.str r, .str (upL l u)]), some (.str (lwL l u)), some (.str (lefL l u)), some (.str r)] S1 = .nx [x0, x1, x2, some (.str l), some (.int x), some (.int y), some (.tup [.str r, .str (upL l u)]), some (.str (lwL l u)), some (.str (lefL l u)), some (.str r)] S2 := by
    have o2 := oD_ne (S := S2) (o := rimD l w)
    generalize oD (rimD l w) = o at e2 o2
    generalize lwL l u = lw
    generalize isNonD true = g at o2 ⊢
    generalize isNonD false = g' at n6 ⊢
    cases hb : (rimD l w).isSome with
    | true =>
      rw [hb] at o2
      simp only [v_bo, v_be, v_bi, v_so, v_se, v_si, v_tn, v_tr, v_te, v_ti, v_rn, v_rr, v_re, v_ri, v_gn, v_br, w_allS, v_gi, w_seq, w_set, w_ret, w_retN, w_exp, w_nil, w_ifS, w_truB, w_tru, w_notT, w_andT, w_orT, w_and, w_or, w_not, w_if, w_c, w_op1, w_op2, w_call, w_args, w_nilA, w_consA, w_tup, w_lst, w_blt, w_mt, w_raise, w_chain, w_asgT, k_si, k_ss, k_ii, k_ib, k_is, k_tl, k_tt, k_ll, k_lt, w_mk, cVar, mkFn, List.length_cons, List.length_nil, List.map_cons, List.map_nil, List.replicate, List.cons_append, List.nil_append, List.getElem?_cons_zero, List.getElem?_cons_succ, List.set_cons_zero, List.set_cons_succ, Nat.reduceAdd, Nat.reduceSub, Nat.reduceEqDiff, Nat.reduceLeDiff, if_true, if_false, truB, truD, leD, ltD, gtD, geD, cmpD, eqD, scE, subD, isiD, tyN, u_add,  gTupG, gConsG, gNilG, gN, seqAt, negD, decide_eq_true_eq, Bool.false_xor, Bool.true_xor, maxD, minD, intsD, isNonD, isNon, reduceIte, Bool.not_true, Bool.not_false, ite_true, ite_false, Bool.false_eq_true, decide_true, decide_false, Bool.false_or, Bool.true_or, Bool.or_true, Bool.or_false, e2, o2, n6]
    | false =>
      rw [hb] at o2
      simp only [v_bo, v_be, v_bi, v_so, v_se, v_si, v_tn, v_tr, v_te, v_ti, v_rn, v_rr, v_re, v_ri, v_gn, v_br, w_allS, v_gi, w_seq, w_set, w_ret, w_retN, w_exp, w_nil, w_ifS, w_truB, w_tru, w_notT, w_andT, w_orT, w_and, w_or, w_not, w_if, w_c, w_op1, w_op2, w_call, w_args, w_nilA, w_consA, w_tup, w_lst, w_blt, w_mt, w_raise, w_chain, w_asgT, k_si, k_ss, k_ii, k_ib, k_is, k_tl, k_tt, k_ll, k_lt, w_mk, cVar, mkFn, List.length_cons, List.length_nil, List.map_cons, List.map_nil, List.replicate, List.cons_append, List.nil_append, List.getElem?_cons_zero, List.getElem?_cons_succ, List.set_cons_zero, List.set_cons_succ, Nat.reduceAdd, Nat.reduceSub, Nat.reduceEqDiff, Nat.reduceLeDiff, if_true, if_false, truB, truD, leD, ltD, gtD, geD, cmpD, eqD, scE, subD, isiD, tyN, u_add,  gTupG, gConsG, gNilG, gN, seqAt, negD, decide_eq_true_eq, Bool.false_xor, Bool.true_xor, maxD, minD, intsD, isNonD, isNon, reduceIte, Bool.not_true, Bool.not_false, ite_true, ite_false, Bool.false_eq_true, decide_true, decide_false, Bool.false_or, Bool.true_or, Bool.or_true, Bool.or_false, e2, o2]
  unfold tailB
  rw [w_seq, eC2, v_tn, w_seq, eC3, v_tn, w_seq, eC4, v_tn, eC5]
theorem tail_none (hp : HasProg bod) (hj : 4 ≤ j) {l : List Nat} (h0 : 0 < l.length) (hl : l.length ≤ 1000) (ha : l.all skN = true) {w u : Nat} (hw : 0 < w) (hw2 : w ≤ 40) (hu : 0 < u) (hu2 : u ≤ 40) {x y : Int} (hx : x = w) (hy : y = u) (hr : rimD (lefL l u) w = none) {x0 x1 x2 : Option D} :
    ∃ S' : Hd, Gro S S' ∧ tailB j bod [x0, x1, x2, some (.str l), some (.int x), some (.int y), some .non, some (.str (lwL l u)), some (.str (lefL l u)), some .non] S = .nx [x0, x1, x2, some (.str l), some (.int x), some (.int y), some .non, some (.str (lwL l u)), some (.str (lefL l u)), some .non] S' := by
  have nf : ¬ FitsP (lefL l u) w := fun h => by
    have := rimD_fits hw h
    rw [hr] at this
    cases this
  have hu0 : rimD l u = none := rimD_nofit hu fun h => nf (lef_fits hu h)
  have hw0 : rimD l w = none := rimD_nofit hw fun h => nf (fits_sub lef_les h)
  have n6 : ∀ S : Hd, isNonD false .non .non S = .ok (.bl true) S := fun S => rfl
  have n6t : ∀ S : Hd, isNonD true .non .non S = .ok (.bl false) S := fun S => rfl
  have q2 : ∀ S : Hd, eqD true (.bl true) (.bl true) S = .ok (.bl false) S := fun S => rfl
  obtain ⟨S1, g1, e1⟩ := rim_for_ok (S := S) hp hj h0 hl ha hu hu2
  rw [← hy, hu0] at e1
  obtain ⟨S2, g2, e2⟩ := rim_for_ok (S := S1) hp hj h0 hl ha hw hw2
  rw [← hx, hw0] at e2
  refine ⟨S2, g1.trans g2, ?_⟩
  unfold oD at e1 e2
  have eC2 : (cIfS (cTruB (cOp2 (eqD true) (cOp2 (isNonD false) (cVar 6) (cC .non)) (cOp2 (isNonD false) (cVar 9) (cC .non)))) (cRet (cC (.bl false))) cNil) [x0, x1, x2, some (.str l), some (.int x), some (.int y), some .non, some (.str (lwL l u)), some (.str (lefL l u)), some .non] S = .nx [x0, x1, x2, some (.str l), some (.int x), some (.int y), some .non, some (.str (lwL l u)), some (.str (lefL l u)), some .non] S := by
    generalize lwL l u = lw
    generalize eqD true = f at q2 ⊢
    generalize isNonD false = g at n6 ⊢
    simp only [v_bo, v_be, v_bi, v_so, v_se, v_si, v_tn, v_tr, v_te, v_ti, v_rn, v_rr, v_re, v_ri, v_gn, v_br, w_allS, v_gi, w_seq, w_set, w_ret, w_retN, w_exp, w_nil, w_ifS, w_truB, w_tru, w_notT, w_andT, w_orT, w_and, w_or, w_not, w_if, w_c, w_op1, w_op2, w_call, w_args, w_nilA, w_consA, w_tup, w_lst, w_blt, w_mt, w_raise, w_chain, w_asgT, k_si, k_ss, k_ii, k_ib, k_is, k_tl, k_tt, k_ll, k_lt, w_mk, cVar, mkFn, List.length_cons, List.length_nil, List.map_cons, List.map_nil, List.replicate, List.cons_append, List.nil_append, List.getElem?_cons_zero, List.getElem?_cons_succ, List.set_cons_zero, List.set_cons_succ, Nat.reduceAdd, Nat.reduceSub, Nat.reduceEqDiff, Nat.reduceLeDiff, if_true, if_false, truB, truD, leD, ltD, gtD, geD, cmpD, eqD, scE, subD, isiD, tyN, u_add,  gTupG, gConsG, gNilG, gN, seqAt, negD, decide_eq_true_eq, Bool.false_xor, Bool.true_xor, maxD, minD, intsD, isNonD, isNon, reduceIte, Bool.not_true, Bool.not_false, ite_true, ite_false, Bool.false_eq_true, decide_true, decide_false, Bool.false_or, Bool.true_or, Bool.or_true, Bool.or_false, n6, q2]
  have eC3 : (cIfS (cAndT (cTruB (cOp2 (isNonD true) (cVar 6) (cC .non))) (cOrT (cTruB (cOp2 (eqD true) (cOp2 ixD (cVar 6) (cC (.int 0))) (cVar 9))) (cTruB (cOp2 (eqD true) (cOp1 (replD 63 [46]) (cOp2 ixD (cVar 6) (cC (.int 1)))) (cVar 7))))) (cRet (cC (.bl false))) cNil) [x0, x1, x2, some (.str l), some (.int x), some (.int y), some .non, some (.str (lwL l u)), some (.str (lefL l u)), some .non] S = .nx [x0, x1, x2, some (.str l), some (.int x), some (.int y), some .non, some (.str (lwL l u)), some (.str (lefL l u)), some .non] S := by
    generalize lwL l u = lw
    generalize isNonD true = g at n6t ⊢
    simp only [v_bo, v_be, v_bi, v_so, v_se, v_si, v_tn, v_tr, v_te, v_ti, v_rn, v_rr, v_re, v_ri, v_gn, v_br, w_allS, v_gi, w_seq, w_set, w_ret, w_retN, w_exp, w_nil, w_ifS, w_truB, w_tru, w_notT, w_andT, w_orT, w_and, w_or, w_not, w_if, w_c, w_op1, w_op2, w_call, w_args, w_nilA, w_consA, w_tup, w_lst, w_blt, w_mt, w_raise, w_chain, w_asgT, k_si, k_ss, k_ii, k_ib, k_is, k_tl, k_tt, k_ll, k_lt, w_mk, cVar, mkFn, List.length_cons, List.length_nil, List.map_cons, List.map_nil, List.replicate, List.cons_append, List.nil_append, List.getElem?_cons_zero, List.getElem?_cons_succ, List.set_cons_zero, List.set_cons_succ, Nat.reduceAdd, Nat.reduceSub, Nat.reduceEqDiff, Nat.reduceLeDiff, if_true, if_false, truB, truD, leD, ltD, gtD, geD, cmpD, eqD, scE, subD, isiD, tyN, u_add,  gTupG, gConsG, gNilG, gN, seqAt, negD, decide_eq_true_eq, Bool.false_xor, Bool.true_xor, maxD, minD, intsD, isNonD, isNon, reduceIte, Bool.not_true, Bool.not_false, ite_true, ite_false, Bool.false_eq_true, decide_true, decide_false, Bool.false_or, Bool.true_or, Bool.or_true, Bool.or_false, n6t]
  have eC4 : (cIfS (cTruB (cOp2 (isNonD true) (cCall (den bod j) "rim_for" (cArgs 2 (cConsA (cVar 3) (cConsA (cVar 5) cNilA)))) (cC .non))) (cIfS (cOrT (cTruB (cOp2 (isNonD false) (cVar 6) (cC .non))) (cTruB (cOp2 (eqD true) (cOp1 (replD 46 []) (cOp1 (replD 63 []) (cOp2 ixD (cVar 6) (cC (.int 0))))) (cC (.str []))))) (cRet (cC (.bl false))) cNil) cNil) [x0, x1, x2, some (.str l), some (.int x), some (.int y), some .non, some (.str (lwL l u)), some (.str (lefL l u)), some .non] S = .nx [x0, x1, x2, some (.str l), some (.int x), some (.int y), some .non, some (.str (lwL l u)), some (.str (lefL l u)), some .non] S1 := by
    generalize lwL l u = lw
    generalize isNonD true = g at n6t ⊢
    simp only [v_bo, v_be, v_bi, v_so, v_se, v_si, v_tn, v_tr, v_te, v_ti, v_rn, v_rr, v_re, v_ri, v_gn, v_br, w_allS, v_gi, w_seq, w_set, w_ret, w_retN, w_exp, w_nil, w_ifS, w_truB, w_tru, w_notT, w_andT, w_orT, w_and, w_or, w_not, w_if, w_c, w_op1, w_op2, w_call, w_args, w_nilA, w_consA, w_tup, w_lst, w_blt, w_mt, w_raise, w_chain, w_asgT, k_si, k_ss, k_ii, k_ib, k_is, k_tl, k_tt, k_ll, k_lt, w_mk, cVar, mkFn, List.length_cons, List.length_nil, List.map_cons, List.map_nil, List.replicate, List.cons_append, List.nil_append, List.getElem?_cons_zero, List.getElem?_cons_succ, List.set_cons_zero, List.set_cons_succ, Nat.reduceAdd, Nat.reduceSub, Nat.reduceEqDiff, Nat.reduceLeDiff, if_true, if_false, truB, truD, leD, ltD, gtD, geD, cmpD, eqD, scE, subD, isiD, tyN, u_add,  gTupG, gConsG, gNilG, gN, seqAt, negD, decide_eq_true_eq, Bool.false_xor, Bool.true_xor, maxD, minD, intsD, isNonD, isNon, reduceIte, Bool.not_true, Bool.not_false, ite_true, ite_false, Bool.false_eq_true, decide_true, decide_false, Bool.false_or, Bool.true_or, Bool.or_true, Bool.or_false, e1, n6t]
  have eC5 : (cIfS (cAndT (cTruB (cOp2 (isNonD true) (cCall (den bod j) "rim_for" (cArgs 2 (cConsA (cVar 3) (cConsA (cVar 4) cNilA)))) (cC .non))) (cTruB (cOp2 (isNonD false) (cVar 6) (cC .non)))) (cRet (cC (.bl false))) cNil) [x0, x1, x2, some (.str l), some (.int x), some (.int y), some .non, some (.str (lwL l u)), some (.str (lefL l u)), some .non] S1 = .nx [x0, x1, x2, some (.str l), some (.int x), some (.int y), some .non, some (.str (lwL l u)), some (.str (lefL l u)), some .non] S2 := by
    generalize lwL l u = lw
    generalize isNonD true = g at n6t ⊢
    simp only [v_bo, v_be, v_bi, v_so, v_se, v_si, v_tn, v_tr, v_te, v_ti, v_rn, v_rr, v_re, v_ri, v_gn, v_br, w_allS, v_gi, w_seq, w_set, w_ret, w_retN, w_exp, w_nil, w_ifS, w_truB, w_tru, w_notT, w_andT, w_orT, w_and, w_or, w_not, w_if, w_c, w_op1, w_op2, w_call, w_args, w_nilA, w_consA, w_tup, w_lst, w_blt, w_mt, w_raise, w_chain, w_asgT, k_si, k_ss, k_ii, k_ib, k_is, k_tl, k_tt, k_ll, k_lt, w_mk, cVar, mkFn, List.length_cons, List.length_nil, List.map_cons, List.map_nil, List.replicate, List.cons_append, List.nil_append, List.getElem?_cons_zero, List.getElem?_cons_succ, List.set_cons_zero, List.set_cons_succ, Nat.reduceAdd, Nat.reduceSub, Nat.reduceEqDiff, Nat.reduceLeDiff, if_true, if_false, truB, truD, leD, ltD, gtD, geD, cmpD, eqD, scE, subD, isiD, tyN, u_add,  gTupG, gConsG, gNilG, gN, seqAt, negD, decide_eq_true_eq, Bool.false_xor, Bool.true_xor, maxD, minD, intsD, isNonD, isNon, reduceIte, Bool.not_true, Bool.not_false, ite_true, ite_false, Bool.false_eq_true, decide_true, decide_false, Bool.false_or, Bool.true_or, Bool.or_true, Bool.or_false, e2, n6t]
  unfold tailB
  rw [w_seq, eC2, v_tn, w_seq, eC3, v_tn, w_seq, eC4, v_tn, eC5]
end
namespace L58
theorem hasBag : HasBag bod where
  b_bag := by kernel_rfl
  b_stir := by kernel_rfl
  b_draw := by kernel_rfl
theorem hp : HasProg bod := hasProg _
theorem size_ok {S : Hd} {j : Nat} (hl : HasBag bod) (hj : 2 ≤ j) {ns : List Int} {C : Nat} (h : BagS ns C S) (hC : C ≤ 900000) : ∃ (v1 v : Int) (S1 S' : Hd) (k : Nat), 1 + v = k ∧ 0 < k ∧ k ≤ 40 ∧ BagS ns (C + 2) S' ∧ Keep S S' ∧ den bod j "_law_draw" [.ref 2, .int 2] (S ++ [.lst [.int 9, .int 40]]) = .ok (.int v1) S1 ∧ ∃ m : Int, ixD (.ref S.length) (.int v1) S1 = .ok (.int m) S1 ∧ den bod j "_law_draw" [.ref 2, .int m] S1 = .ok (.int v) S' := by
  obtain ⟨v1, d1, S1, i1, B1, K1, e1, q1⟩ := pick_ok hl hj h (by omega) [.int 9, .int 40] (by decide) (by decide)
  obtain ⟨m, rfl, m0, m1⟩ : ∃ m : Int, d1 = .int m ∧ 0 < m ∧ m ≤ 40 := by
    simp only [List.mem_cons, List.not_mem_nil, or_false] at i1
    rcases i1 with rfl | rfl <;> exact ⟨_, rfl, by decide, by decide⟩
  obtain ⟨v, S', a0, a1, B2, K2, e2⟩ := draw_okB hl hj B1 (by omega) (m := m) m0 (lg m0 (by omega))
  exact ⟨v1, v, S1, S', (1 + v).toNat, by omega, by omega, by omega, B2, K1.trans K2, e1, m, q1, e2⟩
def lawB (j : Nat) (bod : Bod) : CS := cSeq (cSet 3 (cCall (den bod j) "_law_seen_two" (cArgs 2 (cConsA (cVar 1) (cConsA (cOp2 ixD (cLst (cConsA (cC (.int 12)) (cConsA (cC (.int 60)) (cConsA (cC (.int 300)) cNilA)))) (cCall (den bod j) "_law_draw" (cArgs 2 (cConsA (cVar 1) (cConsA (cC (.int 3)) cNilA))))) cNilA))))) (cSeq (cSet 4 (cOp2 addD (cC (.int 1)) (cCall (den bod j) "_law_draw" (cArgs 2 (cConsA (cVar 1) (cConsA (cOp2 ixD (cLst (cConsA (cC (.int 9)) (cConsA (cC (.int 40)) cNilA))) (cCall (den bod j) "_law_draw" (cArgs 2 (cConsA (cVar 1) (cConsA (cC (.int 2)) cNilA))))) cNilA)))))) (cSeq (cSet 5 (cOp2 addD (cC (.int 1)) (cCall (den bod j) "_law_draw" (cArgs 2 (cConsA (cVar 1) (cConsA (cOp2 ixD (cLst (cConsA (cC (.int 9)) (cConsA (cC (.int 40)) cNilA))) (cCall (den bod j) "_law_draw" (cArgs 2 (cConsA (cVar 1) (cConsA (cC (.int 2)) cNilA))))) cNilA)))))) (cSeq (cSet 6 (cCall (den bod j) "two_for" (cArgs 3 (cConsA (cVar 3) (cConsA (cVar 4) (cConsA (cVar 5) cNilA)))))) (cSeq (cSet 7 (cCall (den bod j) "_law_upper" (cArgs 2 (cConsA (cVar 3) (cConsA (cVar 5) cNilA))))) (cSeq (cSet 8 (cCall (den bod j) "beneath" (cArgs 2 (cConsA (cVar 3) (cConsA (cVar 7) cNilA))))) (cSeq (cIfS (cTruB (cOp2 (isNonD false) (cVar 8) (cC .non))) (cRet (cC (.bl false))) cNil) (cSeq (cSet 9 (cCall (den bod j) "rim_for" (cArgs 2 (cConsA (cVar 8) (cConsA (cVar 4) cNilA))))) (tailB j bod))))))))
theorem lawB_ok {S : Hd} {j : Nat} (hj : 10 ≤ j) {ns : List Int} {C : Nat} (h : BagS ns C S) (hC : C ≤ 500000) {x0 x2 x3 x4 x5 x6 x7 x8 x9 : Option D} :
    ∃ (y3 y4 y5 y6 y7 y8 y9 : Option D) (S' : Hd), BagS ns (C + 4000) S' ∧ Keep S S' ∧ lawB j bod [x0, some (.ref 2), x2, x3, x4, x5, x6, x7, x8, x9] S = .nx [x0, some (.ref 2), x2, y3, y4, y5, y6, y7, y8, y9] S' := by
  have hl := hasBag
  have hup : bod.lookup ("_law_upper" : Str) = some mb_upper := by kernel_rfl
  obtain ⟨v1, d1, S1, i1, B1, K1, e1, q1⟩ := pick_ok hl (show 2 ≤ j by omega) h (by omega) [.int 12, .int 60, .int 300] (by decide) (by decide)
  obtain ⟨m, rfl, m0, m1⟩ : ∃ m : Int, d1 = .int m ∧ 0 < m ∧ m ≤ 300 := by
    simp only [List.mem_cons, List.not_mem_nil, or_false] at i1
    rcases i1 with rfl | rfl | rfl <;> exact ⟨_, rfl, by decide, by decide⟩
  have e1' : den bod j "_law_draw" [.ref 2, .int 3] (S ++ [.lst [.int 12, .int 60, .int 300]]) = .ok (.int v1) S1 := e1
  obtain ⟨seen, S2, B2, K2, s0, s1, hs, e2⟩ := seen2_ok (bod := bod) hl (by kernel_rfl) (by kernel_rfl) (show 4 ≤ j by omega) B1 (by omega) m0 m1
  obtain ⟨v2, v3, T3, S3, w, hw, w0, w1, B3, K3, e3, m3, q3, e3'⟩ := size_ok hl (show 2 ≤ j by omega) B2 (by omega)
  obtain ⟨v4, v5, T4, S4, u, hu, u0, u1, B4, K4, e4, m4, q4, e4'⟩ := size_ok hl (show 2 ≤ j by omega) B3 (by omega)
  obtain ⟨S5, g5, e5⟩ := two_for_ok (bod := bod) (S := S4) (j := j) hp (by omega) s0 (by omega) hs w0 w1 u0 u1 hw hu
  obtain ⟨S6, g6, e6⟩ := law_upper_ok (bod := bod) (S := S5) (j := j) hup (by omega) (l := seen) (by omega) hs u0 (by omega) hu
  obtain ⟨S7, k7, k7', e7⟩ := beneath_ok (bod := bod) (S := S6) (j := j) hp (by omega) seen (lwL seen u) s0 (by omega) hs (by rw [lwL_len]; exact u0) (by rw [lwL_len]; omega) (by
    rw [List.all_eq_true]
    intro c hc
    obtain ⟨q, _, rfl⟩ := List.mem_map.mp hc
    have hm : ∀ c ∈ sgn (sn seen q u), mkN c = true := fun c hc => sn_mk u0 hs (sgn_mem.mp hc)
    match sgn (sn seen q u), hm with
    | [], _ => exact (by decide : mkN 46 = true)
    | [d], hm => exact hm d List.mem_cons_self
    | _ :: _ :: _, _ => exact (by decide : mkN 46 = true))
  rw [due_lw u0] at e7
  have g7 := gro_of k7 k7'
  obtain ⟨S8, g8, e8⟩ := rim_for_ok (bod := bod) (S := S7) (j := j) hp (by omega) (l := lefL seen u) (by rw [lef_len u0]; exact s0) (by rw [lef_len u0]; omega) (lef_all u0 hs) w0 w1
  rw [← hw] at e8
  obtain ⟨S9, g9, e9⟩ : ∃ S9, Gro S8 S9 ∧ tailB j bod [x0, some (.ref 2), x2, some (.str seen), some (.int (1 + v3)), some (.int (1 + v5)), some (twoD seen w u), some (.str (lwL seen u)), some (.str (lefL seen u)), some (oD (rimD (lefL seen u) w))] S8 = .nx [x0, some (.ref 2), x2, some (.str seen), some (.int (1 + v3)), some (.int (1 + v5)), some (twoD seen w u), some (.str (lwL seen u)), some (.str (lefL seen u)), some (oD (rimD (lefL seen u) w))] S9 := by
    unfold twoD
    cases hr : rimD (lefL seen u) w with
    | none => exact tail_none hp (by omega) s0 (by omega) hs w0 w1 u0 u1 hw hu hr
    | some r => exact tail_some hp (by omega) s0 (by omega) hs w0 w1 u0 u1 hw hu hr
  have gg := (((g5.trans g6).trans g7).trans g8).trans g9
  refine ⟨some (.str seen), some (.int (1 + v3)), some (.int (1 + v5)), some (twoD seen w u), some (.str (lwL seen u)), some (.str (lefL seen u)), some (oD (rimD (lefL seen u) w)), S9, (B4.gro gg).mono (by omega), ((((K1.trans K2).trans K3).trans K4).trans gg.keep), ?_⟩
  unfold lawB
  rw [w_seq, show (cSet 3 (cCall (den bod j) "_law_seen_two" (cArgs 2 (cConsA (cVar 1) (cConsA (cOp2 ixD (cLst (cConsA (cC (.int 12)) (cConsA (cC (.int 60)) (cConsA (cC (.int 300)) cNilA)))) (cCall (den bod j) "_law_draw" (cArgs 2 (cConsA (cVar 1) (cConsA (cC (.int 3)) cNilA))))) cNilA))))) [x0, some (.ref 2), x2, x3, x4, x5, x6, x7, x8, x9] S = .nx [x0, some (.ref 2), x2, some (.str seen), x4, x5, x6, x7, x8, x9] S2 by simp only [v_bo, v_be, v_bi, v_so, v_se, v_si, v_tn, v_tr, v_te, v_ti, v_rn, v_rr, v_re, v_ri, v_gn, v_br, w_allS, v_gi, w_seq, w_set, w_ret, w_retN, w_exp, w_nil, w_ifS, w_truB, w_tru, w_notT, w_andT, w_orT, w_and, w_or, w_not, w_if, w_c, w_op1, w_op2, w_call, w_args, w_nilA, w_consA, w_tup, w_lst, w_blt, w_mt, w_raise, w_chain, w_asgT, k_si, k_ss, k_ii, k_ib, k_is, k_tl, k_tt, k_ll, k_lt, w_mk, cVar, mkFn, List.length_cons, List.length_nil, List.map_cons, List.map_nil, List.replicate, List.cons_append, List.nil_append, List.getElem?_cons_zero, List.getElem?_cons_succ, List.set_cons_zero, List.set_cons_succ, Nat.reduceAdd, Nat.reduceSub, Nat.reduceEqDiff, Nat.reduceLeDiff, if_true, if_false, truB, truD, leD, ltD, gtD, geD, cmpD, eqD, scE, subD, isiD, tyN, u_add,  gTupG, gConsG, gNilG, gN, seqAt, negD, decide_eq_true_eq, Bool.false_xor, Bool.true_xor, maxD, minD, intsD, isNonD, isNon, reduceIte, Bool.not_true, Bool.not_false, ite_true, ite_false, Bool.false_eq_true, decide_true, decide_false, Bool.false_or, Bool.true_or, Bool.or_true, Bool.or_false, alloc, e1', q1, e2], v_tn,
    w_seq, show (cSet 4 (cOp2 addD (cC (.int 1)) (cCall (den bod j) "_law_draw" (cArgs 2 (cConsA (cVar 1) (cConsA (cOp2 ixD (cLst (cConsA (cC (.int 9)) (cConsA (cC (.int 40)) cNilA))) (cCall (den bod j) "_law_draw" (cArgs 2 (cConsA (cVar 1) (cConsA (cC (.int 2)) cNilA))))) cNilA)))))) [x0, some (.ref 2), x2, some (.str seen), x4, x5, x6, x7, x8, x9] S2 = .nx [x0, some (.ref 2), x2, some (.str seen), some (.int (1 + v3)), x5, x6, x7, x8, x9] S3 by simp only [v_bo, v_be, v_bi, v_so, v_se, v_si, v_tn, v_tr, v_te, v_ti, v_rn, v_rr, v_re, v_ri, v_gn, v_br, w_allS, v_gi, w_seq, w_set, w_ret, w_retN, w_exp, w_nil, w_ifS, w_truB, w_tru, w_notT, w_andT, w_orT, w_and, w_or, w_not, w_if, w_c, w_op1, w_op2, w_call, w_args, w_nilA, w_consA, w_tup, w_lst, w_blt, w_mt, w_raise, w_chain, w_asgT, k_si, k_ss, k_ii, k_ib, k_is, k_tl, k_tt, k_ll, k_lt, w_mk, cVar, mkFn, List.length_cons, List.length_nil, List.map_cons, List.map_nil, List.replicate, List.cons_append, List.nil_append, List.getElem?_cons_zero, List.getElem?_cons_succ, List.set_cons_zero, List.set_cons_succ, Nat.reduceAdd, Nat.reduceSub, Nat.reduceEqDiff, Nat.reduceLeDiff, if_true, if_false, truB, truD, leD, ltD, gtD, geD, cmpD, eqD, scE, subD, isiD, tyN, u_add,  gTupG, gConsG, gNilG, gN, seqAt, negD, decide_eq_true_eq, Bool.false_xor, Bool.true_xor, maxD, minD, intsD, isNonD, isNon, reduceIte, Bool.not_true, Bool.not_false, ite_true, ite_false, Bool.false_eq_true, decide_true, decide_false, Bool.false_or, Bool.true_or, Bool.or_true, Bool.or_false, alloc, e3, q3, e3'], v_tn,
    w_seq, show (cSet 5 (cOp2 addD (cC (.int 1)) (cCall (den bod j) "_law_draw" (cArgs 2 (cConsA (cVar 1) (cConsA (cOp2 ixD (cLst (cConsA (cC (.int 9)) (cConsA (cC (.int 40)) cNilA))) (cCall (den bod j) "_law_draw" (cArgs 2 (cConsA (cVar 1) (cConsA (cC (.int 2)) cNilA))))) cNilA)))))) [x0, some (.ref 2), x2, some (.str seen), some (.int (1 + v3)), x5, x6, x7, x8, x9] S3 = .nx [x0, some (.ref 2), x2, some (.str seen), some (.int (1 + v3)), some (.int (1 + v5)), x6, x7, x8, x9] S4 by simp only [v_bo, v_be, v_bi, v_so, v_se, v_si, v_tn, v_tr, v_te, v_ti, v_rn, v_rr, v_re, v_ri, v_gn, v_br, w_allS, v_gi, w_seq, w_set, w_ret, w_retN, w_exp, w_nil, w_ifS, w_truB, w_tru, w_notT, w_andT, w_orT, w_and, w_or, w_not, w_if, w_c, w_op1, w_op2, w_call, w_args, w_nilA, w_consA, w_tup, w_lst, w_blt, w_mt, w_raise, w_chain, w_asgT, k_si, k_ss, k_ii, k_ib, k_is, k_tl, k_tt, k_ll, k_lt, w_mk, cVar, mkFn, List.length_cons, List.length_nil, List.map_cons, List.map_nil, List.replicate, List.cons_append, List.nil_append, List.getElem?_cons_zero, List.getElem?_cons_succ, List.set_cons_zero, List.set_cons_succ, Nat.reduceAdd, Nat.reduceSub, Nat.reduceEqDiff, Nat.reduceLeDiff, if_true, if_false, truB, truD, leD, ltD, gtD, geD, cmpD, eqD, scE, subD, isiD, tyN, u_add,  gTupG, gConsG, gNilG, gN, seqAt, negD, decide_eq_true_eq, Bool.false_xor, Bool.true_xor, maxD, minD, intsD, isNonD, isNon, reduceIte, Bool.not_true, Bool.not_false, ite_true, ite_false, Bool.false_eq_true, decide_true, decide_false, Bool.false_or, Bool.true_or, Bool.or_true, Bool.or_false, alloc, e4, q4, e4'], v_tn]
  generalize 1 + v3 = a3 at e5 e8 e9 ⊢
  generalize 1 + v5 = a5 at e5 e6 e9 ⊢
  generalize oD (rimD (lefL seen u) w) = o9 at e8 e9 ⊢
  unfold oD at e7
  have n8 : ∀ S : Hd, isNonD false (.str (lefL seen u)) .non S = .ok (.bl false) S := fun S => rfl
  rw [w_seq, show (cSet 6 (cCall (den bod j) "two_for" (cArgs 3 (cConsA (cVar 3) (cConsA (cVar 4) (cConsA (cVar 5) cNilA)))))) [x0, some (.ref 2), x2, some (.str seen), some (.int a3), some (.int a5), x6, x7, x8, x9] S4 = .nx [x0, some (.ref 2), x2, some (.str seen), some (.int a3), some (.int a5), some (twoD seen w u), x7, x8, x9] S5 by
      generalize twoD seen w u = tw at e5 ⊢
      simp only [v_bo, v_be, v_bi, v_so, v_se, v_si, v_tn, v_tr, v_te, v_ti, v_rn, v_rr, v_re, v_ri, v_gn, v_br, w_allS, v_gi, w_seq, w_set, w_ret, w_retN, w_exp, w_nil, w_ifS, w_truB, w_tru, w_notT, w_andT, w_orT, w_and, w_or, w_not, w_if, w_c, w_op1, w_op2, w_call, w_args, w_nilA, w_consA, w_tup, w_lst, w_blt, w_mt, w_raise, w_chain, w_asgT, k_si, k_ss, k_ii, k_ib, k_is, k_tl, k_tt, k_ll, k_lt, w_mk, cVar, mkFn, List.length_cons, List.length_nil, List.map_cons, List.map_nil, List.replicate, List.cons_append, List.nil_append, List.getElem?_cons_zero, List.getElem?_cons_succ, List.set_cons_zero, List.set_cons_succ, Nat.reduceAdd, Nat.reduceSub, Nat.reduceEqDiff, Nat.reduceLeDiff, if_true, if_false, truB, truD, leD, ltD, gtD, geD, cmpD, eqD, scE, subD, isiD, tyN, u_add,  gTupG, gConsG, gNilG, gN, seqAt, negD, decide_eq_true_eq, Bool.false_xor, Bool.true_xor, maxD, minD, intsD, isNonD, isNon, reduceIte, Bool.not_true, Bool.not_false, ite_true, ite_false, Bool.false_eq_true, decide_true, decide_false, Bool.false_or, Bool.true_or, Bool.or_true, Bool.or_false, e5], v_tn,
    w_seq, show (cSet 7 (cCall (den bod j) "_law_upper" (cArgs 2 (cConsA (cVar 3) (cConsA (cVar 5) cNilA))))) [x0, some (.ref 2), x2, some (.str seen), some (.int a3), some (.int a5), some (twoD seen w u), x7, x8, x9] S5 = .nx [x0, some (.ref 2), x2, some (.str seen), some (.int a3), some (.int a5), some (twoD seen w u), some (.str (lwL seen u)), x8, x9] S6 by
      generalize twoD seen w u = tw
      simp only [v_bo, v_be, v_bi, v_so, v_se, v_si, v_tn, v_tr, v_te, v_ti, v_rn, v_rr, v_re, v_ri, v_gn, v_br, w_allS, v_gi, w_seq, w_set, w_ret, w_retN, w_exp, w_nil, w_ifS, w_truB, w_tru, w_notT, w_andT, w_orT, w_and, w_or, w_not, w_if, w_c, w_op1, w_op2, w_call, w_args, w_nilA, w_consA, w_tup, w_lst, w_blt, w_mt, w_raise, w_chain, w_asgT, k_si, k_ss, k_ii, k_ib, k_is, k_tl, k_tt, k_ll, k_lt, w_mk, cVar, mkFn, List.length_cons, List.length_nil, List.map_cons, List.map_nil, List.replicate, List.cons_append, List.nil_append, List.getElem?_cons_zero, List.getElem?_cons_succ, List.set_cons_zero, List.set_cons_succ, Nat.reduceAdd, Nat.reduceSub, Nat.reduceEqDiff, Nat.reduceLeDiff, if_true, if_false, truB, truD, leD, ltD, gtD, geD, cmpD, eqD, scE, subD, isiD, tyN, u_add,  gTupG, gConsG, gNilG, gN, seqAt, negD, decide_eq_true_eq, Bool.false_xor, Bool.true_xor, maxD, minD, intsD, isNonD, isNon, reduceIte, Bool.not_true, Bool.not_false, ite_true, ite_false, Bool.false_eq_true, decide_true, decide_false, Bool.false_or, Bool.true_or, Bool.or_true, Bool.or_false, e6], v_tn,
    w_seq, show (cSet 8 (cCall (den bod j) "beneath" (cArgs 2 (cConsA (cVar 3) (cConsA (cVar 7) cNilA))))) [x0, some (.ref 2), x2, some (.str seen), some (.int a3), some (.int a5), some (twoD seen w u), some (.str (lwL seen u)), x8, x9] S6 = .nx [x0, some (.ref 2), x2, some (.str seen), some (.int a3), some (.int a5), some (twoD seen w u), some (.str (lwL seen u)), some (.str (lefL seen u)), x9] S7 by
      generalize twoD seen w u = tw
      generalize lwL seen u = lw at e7 ⊢
      simp only [v_bo, v_be, v_bi, v_so, v_se, v_si, v_tn, v_tr, v_te, v_ti, v_rn, v_rr, v_re, v_ri, v_gn, v_br, w_allS, v_gi, w_seq, w_set, w_ret, w_retN, w_exp, w_nil, w_ifS, w_truB, w_tru, w_notT, w_andT, w_orT, w_and, w_or, w_not, w_if, w_c, w_op1, w_op2, w_call, w_args, w_nilA, w_consA, w_tup, w_lst, w_blt, w_mt, w_raise, w_chain, w_asgT, k_si, k_ss, k_ii, k_ib, k_is, k_tl, k_tt, k_ll, k_lt, w_mk, cVar, mkFn, List.length_cons, List.length_nil, List.map_cons, List.map_nil, List.replicate, List.cons_append, List.nil_append, List.getElem?_cons_zero, List.getElem?_cons_succ, List.set_cons_zero, List.set_cons_succ, Nat.reduceAdd, Nat.reduceSub, Nat.reduceEqDiff, Nat.reduceLeDiff, if_true, if_false, truB, truD, leD, ltD, gtD, geD, cmpD, eqD, scE, subD, isiD, tyN, u_add,  gTupG, gConsG, gNilG, gN, seqAt, negD, decide_eq_true_eq, Bool.false_xor, Bool.true_xor, maxD, minD, intsD, isNonD, isNon, reduceIte, Bool.not_true, Bool.not_false, ite_true, ite_false, Bool.false_eq_true, decide_true, decide_false, Bool.false_or, Bool.true_or, Bool.or_true, Bool.or_false, e7], v_tn,
    w_seq, show (cIfS (cTruB (cOp2 (isNonD false) (cVar 8) (cC .non))) (cRet (cC (.bl false))) cNil) [x0, some (.ref 2), x2, some (.str seen), some (.int a3), some (.int a5), some (twoD seen w u), some (.str (lwL seen u)), some (.str (lefL seen u)), x9] S7 = .nx [x0, some (.ref 2), x2, some (.str seen), some (.int a3), some (.int a5), some (twoD seen w u), some (.str (lwL seen u)), some (.str (lefL seen u)), x9] S7 by
      generalize twoD seen w u = tw
      generalize isNonD false = f at n8 ⊢
      simp only [v_bo, v_be, v_bi, v_so, v_se, v_si, v_tn, v_tr, v_te, v_ti, v_rn, v_rr, v_re, v_ri, v_gn, v_br, w_allS, v_gi, w_seq, w_set, w_ret, w_retN, w_exp, w_nil, w_ifS, w_truB, w_tru, w_notT, w_andT, w_orT, w_and, w_or, w_not, w_if, w_c, w_op1, w_op2, w_call, w_args, w_nilA, w_consA, w_tup, w_lst, w_blt, w_mt, w_raise, w_chain, w_asgT, k_si, k_ss, k_ii, k_ib, k_is, k_tl, k_tt, k_ll, k_lt, w_mk, cVar, mkFn, List.length_cons, List.length_nil, List.map_cons, List.map_nil, List.replicate, List.cons_append, List.nil_append, List.getElem?_cons_zero, List.getElem?_cons_succ, List.set_cons_zero, List.set_cons_succ, Nat.reduceAdd, Nat.reduceSub, Nat.reduceEqDiff, Nat.reduceLeDiff, if_true, if_false, truB, truD, leD, ltD, gtD, geD, cmpD, eqD, scE, subD, isiD, tyN, u_add,  gTupG, gConsG, gNilG, gN, seqAt, negD, decide_eq_true_eq, Bool.false_xor, Bool.true_xor, maxD, minD, intsD, isNonD, isNon, reduceIte, Bool.not_true, Bool.not_false, ite_true, ite_false, Bool.false_eq_true, decide_true, decide_false, Bool.false_or, Bool.true_or, Bool.or_true, Bool.or_false, n8], v_tn,
    w_seq, show (cSet 9 (cCall (den bod j) "rim_for" (cArgs 2 (cConsA (cVar 8) (cConsA (cVar 4) cNilA))))) [x0, some (.ref 2), x2, some (.str seen), some (.int a3), some (.int a5), some (twoD seen w u), some (.str (lwL seen u)), some (.str (lefL seen u)), x9] S7 = .nx [x0, some (.ref 2), x2, some (.str seen), some (.int a3), some (.int a5), some (twoD seen w u), some (.str (lwL seen u)), some (.str (lefL seen u)), some o9] S8 by
      generalize twoD seen w u = tw
      simp only [v_bo, v_be, v_bi, v_so, v_se, v_si, v_tn, v_tr, v_te, v_ti, v_rn, v_rr, v_re, v_ri, v_gn, v_br, w_allS, v_gi, w_seq, w_set, w_ret, w_retN, w_exp, w_nil, w_ifS, w_truB, w_tru, w_notT, w_andT, w_orT, w_and, w_or, w_not, w_if, w_c, w_op1, w_op2, w_call, w_args, w_nilA, w_consA, w_tup, w_lst, w_blt, w_mt, w_raise, w_chain, w_asgT, k_si, k_ss, k_ii, k_ib, k_is, k_tl, k_tt, k_ll, k_lt, w_mk, cVar, mkFn, List.length_cons, List.length_nil, List.map_cons, List.map_nil, List.replicate, List.cons_append, List.nil_append, List.getElem?_cons_zero, List.getElem?_cons_succ, List.set_cons_zero, List.set_cons_succ, Nat.reduceAdd, Nat.reduceSub, Nat.reduceEqDiff, Nat.reduceLeDiff, if_true, if_false, truB, truD, leD, ltD, gtD, geD, cmpD, eqD, scE, subD, isiD, tyN, u_add,  gTupG, gConsG, gNilG, gN, seqAt, negD, decide_eq_true_eq, Bool.false_xor, Bool.true_xor, maxD, minD, intsD, isNonD, isNon, reduceIte, Bool.not_true, Bool.not_false, ite_true, ite_false, Bool.false_eq_true, decide_true, decide_false, Bool.false_or, Bool.true_or, Bool.or_true, Bool.or_false, e8], v_tn]
  exact e9
theorem pure58 : Dn.Pure L58.bod 30 := fun ns hn o ho => by
  show ∃ S, den bod (29 + 1) "law" [.ref 0] [o] = .ok (.bl true) S
  rw [den_eq (m := m_law) (by kernel_rfl)]
  unfold m_law
  obtain ⟨S1, e1, B1, z1⟩ := bag_ok hasBag (show 1 ≤ 29 by decide) ns hn o ho
  have hln := L57.len0 ho z1
  obtain ⟨q, hq, q9⟩ : ∃ q : Int, q = 3 + (if (ns.length : Int) < 6 then (ns.length : Int) else 6) ∧ 0 ≤ q ∧ q ≤ 9 := ⟨_, rfl, by split <;> omega, by split <;> omega⟩
  have hsm : smI q = true := by unfold smI; simp; omega
  let I : Nat → Gm → Hd → Prop := fun i Γ S' => ∃ (z2 z3 z4 z5 z6 z7 z8 z9 : Option D), Γ = [some (.ref 0), some (.ref 2), z2, z3, z4, z5, z6, z7, z8, z9] ∧ BagS ns (4000 * i) S'
  have hlr : (rngL 0 q.toNat).length = q.toNat := by simp [rngL]
  obtain ⟨Γ', S', e7, z2, z3, z4, z5, z6, z7, z8, z9, rfl, B7⟩ := cFor_inv (it := (cRng1 (cConsA (cOp2 addD (cC (.int 3)) (cBlt minD (cConsA (cC (.int 6)) (cConsA (cBlt lenD (cConsA (cVar 0) cNilA)) cNilA)))) cNilA))) (S0 := S1) (S := S1) (src := .base (.items (rngL 0 q.toNat))) (g := gN 2) (b := lawB 29 bod) (Γ := [some (.ref 0), some (.ref 2), none, none, none, none, none, none, none, none]) (rngL 0 q.toNat) I
    (by unfold cRng1; simp only [v_bo, v_be, v_bi, v_so, v_se, v_si, v_tn, v_tr, v_te, v_ti, v_rn, v_rr, v_re, v_ri, v_gn, v_br, w_allS, v_gi, w_seq, w_set, w_ret, w_retN, w_exp, w_nil, w_ifS, w_truB, w_tru, w_notT, w_andT, w_orT, w_and, w_or, w_not, w_if, w_c, w_op1, w_op2, w_call, w_args, w_nilA, w_consA, w_tup, w_lst, w_blt, w_mt, w_raise, w_chain, w_asgT, k_si, k_ss, k_ii, k_ib, k_is, k_tl, k_tt, k_ll, k_lt, w_mk, cVar, mkFn, List.length_cons, List.length_nil, List.map_cons, List.map_nil, List.replicate, List.cons_append, List.nil_append, List.getElem?_cons_zero, List.getElem?_cons_succ, List.set_cons_zero, List.set_cons_succ, Nat.reduceAdd, Nat.reduceSub, Nat.reduceEqDiff, Nat.reduceLeDiff, if_true, if_false, truB, truD, leD, ltD, gtD, geD, cmpD, eqD, scE, subD, isiD, tyN, u_add,  gTupG, gConsG, gNilG, gN, seqAt, negD, decide_eq_true_eq, Bool.false_xor, Bool.true_xor, maxD, minD, intsD, isNonD, isNon, reduceIte, Bool.not_true, Bool.not_false, ite_true, ite_false, Bool.false_eq_true, decide_true, decide_false, Bool.false_or, Bool.true_or, Bool.or_true, Bool.or_false, hln, ← hq, hsm]) (by rw [hlr]; omega) (fun i Γ S' _ _ => rfl)
    (fun i d Γ S' hd h => by
      obtain ⟨z2, z3, z4, z5, z6, z7, z8, z9, rfl, hB⟩ := h
      have hi : i < q.toNat := by
        have := (List.getElem?_eq_some_iff.mp hd).1
        rw [hlr] at this
        exact this
      obtain ⟨y3, y4, y5, y6, y7, y8, y9, S2', hB2, hK2, e⟩ := lawB_ok (x0 := some (.ref 0)) (x2 := some d) (x3 := z3) (x4 := z4) (x5 := z5) (x6 := z6) (x7 := z7) (x8 := z8) (x9 := z9) (show 10 ≤ 29 by decide) hB (by omega)
      exact ⟨_, _, _, _, rfl, .inl e, _, _, _, _, _, _, _, _, rfl, hB2.mono (by omega)⟩) ⟨none, none, none, none, none, none, none, none, rfl, B1⟩
  refine ⟨S', ?_⟩
  unfold lawB tailB at e7
  rw [w_mk 10 1 _ [.ref 0] rfl, w_seq]
  rw [show (cSet 1 (cCall (den bod 29) "_law_bag" (cArgs 1 (cConsA (cVar 0) cNilA)))) ([D.ref 0].map some ++ List.replicate (10 - 1) none) [o] = .nx [some (.ref 0), some (.ref 2), none, none, none, none, none, none, none, none] S1 by simp only [v_bo, v_be, v_bi, v_so, v_se, v_si, v_tn, v_tr, v_te, v_ti, v_rn, v_rr, v_re, v_ri, v_gn, v_br, w_allS, v_gi, w_seq, w_set, w_ret, w_retN, w_exp, w_nil, w_ifS, w_truB, w_tru, w_notT, w_andT, w_orT, w_and, w_or, w_not, w_if, w_c, w_op1, w_op2, w_call, w_args, w_nilA, w_consA, w_tup, w_lst, w_blt, w_mt, w_raise, w_chain, w_asgT, k_si, k_ss, k_ii, k_ib, k_is, k_tl, k_tt, k_ll, k_lt, w_mk, cVar, mkFn, List.length_cons, List.length_nil, List.map_cons, List.map_nil, List.replicate, List.cons_append, List.nil_append, List.getElem?_cons_zero, List.getElem?_cons_succ, List.set_cons_zero, List.set_cons_succ, Nat.reduceAdd, Nat.reduceSub, Nat.reduceEqDiff, Nat.reduceLeDiff, if_true, if_false, truB, truD, leD, ltD, gtD, geD, cmpD, eqD, scE, subD, isiD, tyN, u_add,  gTupG, gConsG, gNilG, gN, seqAt, negD, decide_eq_true_eq, Bool.false_xor, Bool.true_xor, maxD, minD, intsD, isNonD, isNon, reduceIte, Bool.not_true, Bool.not_false, ite_true, ite_false, Bool.false_eq_true, decide_true, decide_false, Bool.false_or, Bool.true_or, Bool.or_true, Bool.or_false, e1], v_tn, w_seq, e7]
  simp only [v_bo, v_be, v_bi, v_so, v_se, v_si, v_tn, v_tr, v_te, v_ti, v_rn, v_rr, v_re, v_ri, v_gn, v_br, w_allS, v_gi, w_seq, w_set, w_ret, w_retN, w_exp, w_nil, w_ifS, w_truB, w_tru, w_notT, w_andT, w_orT, w_and, w_or, w_not, w_if, w_c, w_op1, w_op2, w_call, w_args, w_nilA, w_consA, w_tup, w_lst, w_blt, w_mt, w_raise, w_chain, w_asgT, k_si, k_ss, k_ii, k_ib, k_is, k_tl, k_tt, k_ll, k_lt, w_mk, cVar, mkFn, List.length_cons, List.length_nil, List.map_cons, List.map_nil, List.replicate, List.cons_append, List.nil_append, List.getElem?_cons_zero, List.getElem?_cons_succ, List.set_cons_zero, List.set_cons_succ, Nat.reduceAdd, Nat.reduceSub, Nat.reduceEqDiff, Nat.reduceLeDiff, if_true, if_false, truB, truD, leD, ltD, gtD, geD, cmpD, eqD, scE, subD, isiD, tyN, u_add,  gTupG, gConsG, gNilG, gN, seqAt, negD, decide_eq_true_eq, Bool.false_xor, Bool.true_xor, maxD, minD, intsD, isNonD, isNon, reduceIte, Bool.not_true, Bool.not_false, ite_true, ite_false, Bool.false_eq_true, decide_true, decide_false, Bool.false_or, Bool.true_or, Bool.or_true, Bool.or_false]
end L58
end Dn

set_option Elab.async false
set_option linter.all false
set_option maxRecDepth 100000
set_option maxHeartbeats 0
namespace Hd
open PySem PySem.Spec PyProof.Rows L2
abbrev R : PySem.W.OpenRow := PySem.W.OpenLaw.row PySem.Challenge.rw_rimprints_k58_whole_two_by_one_and_benea
def top (i : Nat) : Stmt := PySem.Challenge.pw_rimprints_k58_whole_two_by_one_and_benea.main.body.getD i (.Pass ⟨0, 0, 0, 0⟩)
abbrev s_is_whole : Stmt := (top 6)
def d_is_whole : He.DefD := ⟨("is_whole", none), "is_whole", "is_whole", defArgs (top 6), defBody (top 6), defScope (top 6), [], []⟩
abbrev s_is_mark : Stmt := (top 7)
def d_is_mark : He.DefD := ⟨("is_mark", none), "is_mark", "is_mark", defArgs (top 7), defBody (top 7), defScope (top 7), [], []⟩
abbrev s_is_mark_or_none : Stmt := (top 8)
def d_is_mark_or_none : He.DefD := ⟨("is_mark_or_none", none), "is_mark_or_none", "is_mark_or_none", defArgs (top 8), defBody (top 8), defScope (top 8), [], []⟩
abbrev s_is_rim : Stmt := (top 9)
def d_is_rim : He.DefD := ⟨("is_rim", none), "is_rim", "is_rim", defArgs (top 9), defBody (top 9), defScope (top 9), [], []⟩
abbrev s_is_seen : Stmt := (top 10)
def d_is_seen : He.DefD := ⟨("is_seen", none), "is_seen", "is_seen", defArgs (top 10), defBody (top 10), defScope (top 10), [], []⟩
abbrev s_check_seen : Stmt := (top 12)
def d_check_seen : He.DefD := ⟨("check_seen", none), "check_seen", "check_seen", defArgs (top 12), defBody (top 12), defScope (top 12), [], []⟩
abbrev s_check_length : Stmt := (top 13)
def d_check_length : He.DefD := ⟨("check_length", none), "check_length", "check_length", defArgs (top 13), defBody (top 13), defScope (top 13), [.int 40], []⟩
abbrev s_checked_rim : Stmt := (top 15)
def d_checked_rim : He.DefD := ⟨("checked_rim", none), "checked_rim", "checked_rim", defArgs (top 15), defBody (top 15), defScope (top 15), [], []⟩
abbrev s_seen_of : Stmt := (top 17)
def d_seen_of : He.DefD := ⟨("seen_of", none), "seen_of", "seen_of", defArgs (top 17), defBody (top 17), defScope (top 17), [], []⟩
abbrev s_signs_in : Stmt := (top 18)
def d_signs_in : He.DefD := ⟨("signs_in", none), "signs_in", "signs_in", defArgs (top 18), defBody (top 18), defScope (top 18), [], []⟩
abbrev s_rim_of : Stmt := (top 19)
def d_rim_of : He.DefD := ⟨("rim_of", none), "rim_of", "rim_of", defArgs (top 19), defBody (top 19), defScope (top 19), [], []⟩
abbrev s_two_for : Stmt := (top 21)
def d_two_for : He.DefD := ⟨("two_for", none), "two_for", "two_for", defArgs (top 21), defBody (top 21), defScope (top 21), [], []⟩
abbrev s_beneath : Stmt := (top 22)
def d_beneath : He.DefD := ⟨("beneath", none), "beneath", "beneath", defArgs (top 22), defBody (top 22), defScope (top 22), [], []⟩
abbrev s_upper_rim : Stmt := (top 23)
def d_upper_rim : He.DefD := ⟨("upper_rim", none), "upper_rim", "upper_rim", defArgs (top 23), defBody (top 23), defScope (top 23), [], []⟩
abbrev s_piece_beneath : Stmt := (top 24)
def d_piece_beneath : He.DefD := ⟨("piece_beneath", none), "piece_beneath", "piece_beneath", defArgs (top 24), defBody (top 24), defScope (top 24), [], []⟩
abbrev s_rim_for : Stmt := (top 26)
def d_rim_for : He.DefD := ⟨("rim_for", none), "rim_for", "rim_for", defArgs (top 26), defBody (top 26), defScope (top 26), [], []⟩
abbrev s_law_bag : Stmt := (top 28)
def d_law_bag : He.DefD := ⟨("_law_bag", none), "_law_bag", "_law_bag", defArgs (top 28), defBody (top 28), defScope (top 28), [], []⟩
abbrev s_law_stir : Stmt := (top 29)
def d_law_stir : He.DefD := ⟨("_law_stir", none), "_law_stir", "_law_stir", defArgs (top 29), defBody (top 29), defScope (top 29), [], []⟩
abbrev s_law_draw : Stmt := (top 30)
def d_law_draw : He.DefD := ⟨("_law_draw", none), "_law_draw", "_law_draw", defArgs (top 30), defBody (top 30), defScope (top 30), [], []⟩
abbrev s_law_mixed : Stmt := (top 31)
def d_law_mixed : He.DefD := ⟨("_law_mixed", none), "_law_mixed", "_law_mixed", defArgs (top 31), defBody (top 31), defScope (top 31), [], []⟩
abbrev s_law_rim : Stmt := (top 32)
def d_law_rim : He.DefD := ⟨("_law_rim", none), "_law_rim", "_law_rim", defArgs (top 32), defBody (top 32), defScope (top 32), [], []⟩
abbrev s_law_seen_two : Stmt := (top 33)
def d_law_seen_two : He.DefD := ⟨("_law_seen_two", none), "_law_seen_two", "_law_seen_two", defArgs (top 33), defBody (top 33), defScope (top 33), [], []⟩
abbrev s_law_upper : Stmt := (top 34)
def d_law_upper : He.DefD := ⟨("_law_upper", none), "_law_upper", "_law_upper", defArgs (top 34), defBody (top 34), defScope (top 34), [], []⟩
abbrev s_law : Stmt := (top 35)
def d_law : He.DefD := ⟨("law", none), "law", "law", defArgs (top 35), defBody (top 35), defScope (top 35), [], []⟩
def fn : List He.DefD := [d_is_whole, d_is_mark, d_is_mark_or_none, d_is_rim, d_is_seen, d_check_seen, d_check_length, d_checked_rim, d_seen_of, d_signs_in, d_rim_of, d_two_for, d_beneath, d_upper_rim, d_piece_beneath, d_rim_for, d_law_bag, d_law_stir, d_law_draw, d_law_mixed, d_law_rim, d_law_seen_two, d_law_upper, d_law]
def fa : List He.Fa := [.glo "is_whole", .glo "is_mark", .glo "is_mark_or_none", .glo "is_rim", .glo "is_seen", .glo "check_seen", .glo "check_length", .glo "checked_rim", .glo "seen_of", .glo "signs_in", .glo "rim_of", .glo "two_for", .glo "beneath", .glo "upper_rim", .glo "piece_beneath", .glo "rim_for", .glo "_law_bag", .glo "_law_stir", .glo "_law_draw", .glo "_law_mixed", .glo "_law_rim", .glo "_law_seen_two", .glo "_law_upper", .glo "law", .free "ValueError", .free "__name__", .free "all", .free "bool", .free "enumerate", .free "int", .free "isinstance", .free "len", .free "list", .free "min", .free "range", .free "set", .free "sorted", .free "str"]
def loose0 : List PySem.Str := ["PrintError", "NoPress", "NoNumber", "NoSeen", "is_whole", "is_mark", "is_mark_or_none", "is_rim", "is_seen", "check_seen", "check_length", "checked_rim", "seen_of", "signs_in", "rim_of", "two_for", "beneath", "upper_rim", "piece_beneath", "rim_for", "_law_bag", "_law_stir", "_law_draw", "_law_mixed", "_law_rim", "_law_seen_two", "_law_upper"]
def loose : List PySem.Str := loose0
end Hd

set_option Elab.async false
set_option linter.all false
set_option maxRecDepth 100000
set_option maxHeartbeats 4000000
set_option autoImplicit false

namespace Hd
open PySem PySem.Spec PyProof.Rows L2 Kx Dn Dn.L58
abbrev FnP (K : PySem.W.Frag) (x : Str) (st : Stmt) (f : Addr) (fd : FuncData) : Prop := FunD K x x (defArgs st) (defBody st) (defScope st) [] [] f fd
/-- what the defs lean on, at a level -/
structure Fns (G : Gc) : Prop where
  C_is_whole : CalD G 2 "is_whole"
  C_is_mark : CalD G 1 "is_mark"
  C_is_mark_or_none : CalD G 1 "is_mark_or_none"
  C_is_rim : CalD G 1 "is_rim"
  C_is_seen : CalD G 1 "is_seen"
  C_check_seen : CalD G 1 "check_seen"
  C_check_length : CalD G 2 "check_length"
  C_checked_rim : CalD G 1 "checked_rim"
  C_seen_of : CalD G 3 "seen_of"
  C_signs_in : CalD G 1 "signs_in"
  C_rim_of : CalD G 2 "rim_of"
  C_two_for : CalD G 3 "two_for"
  C_beneath : CalD G 2 "beneath"
  C_upper_rim : CalD G 2 "upper_rim"
  C_piece_beneath : CalD G 2 "piece_beneath"
  C_rim_for : CalD G 2 "rim_for"
  C__law_bag : CalD G 1 "_law_bag"
  C__law_stir : CalD G 2 "_law_stir"
  C__law_draw : CalD G 2 "_law_draw"
  C__law_mixed : CalD G 2 "_law_mixed"
  C__law_rim : CalD G 2 "_law_rim"
  C__law_seen_two : CalD G 2 "_law_seen_two"
  C__law_upper : CalD G 2 "_law_upper"
  C_law : CalD G 1 "law"
  O_check_length : CalO G 1 ([40] : List Int) "check_length"
  T_all : G.mg "all" = none
  T_bool : G.mg "bool" = none
  T_enumerate : G.mg "enumerate" = none
  T_int : G.mg "int" = none
  T_isinstance : G.mg "isinstance" = none
  T_len : G.mg "len" = none
  T_list : G.mg "list" = none
  T_min : G.mg "min" = none
  T_range : G.mg "range" = none
  T_set : G.mg "set" = none
  T_sorted : G.mg "sorted" = none
  T_str : G.mg "str" = none
  X_NoNumber : ExcD G "NoNumber"
  X_NoPress : ExcD G "NoPress"
  X_NoSeen : ExcD G "NoSeen"
section
variable {G : Gc} {f : Addr} {fd : FuncData}
theorem sc_is_whole : FnScope ["thing", "least"] ["thing", "least"] (defScope s_is_whole) := ⟨rfl, rfl, rfl, by decide +kernel, rfl, by decide +kernel, by decide +kernel⟩
theorem rf_is_whole (F : Fns G) : RSs G ["thing", "least"] ⟨true, true⟩ (defScope s_is_whole) (defBody s_is_whole) ((cRet (cAnd (cBlt isiD (cConsA (cVar 0) (cConsA (cC (.ty "int")) cNilA))) (cAnd (cNot (cBlt isiD (cConsA (cVar 0) (cConsA (cC (.ty "bool")) cNilA)))) (cOp2 geD (cVar 0) (cVar 1)))))) :=
  (rss_one (rs_ret (re_and (re_blt b_isi F.T_isinstance (by rfl) (ra_cons (re_var (i := 0) (by rfl) (by rfl)) (ra_cons (re_ty F.T_int (by decide +kernel) (by rfl)) ra_nil))) (re_and (re_not (re_blt b_isi F.T_isinstance (by rfl) (ra_cons (re_var (i := 0) (by rfl) (by rfl)) (ra_cons (re_ty F.T_bool (by decide +kernel) (by rfl)) ra_nil)))) (re_one (re_cmp oc_ge (re_var (i := 0) (by rfl) (by rfl)) (re_var (i := 1) (by rfl) (by rfl)) (nomark _)))))))
theorem sc_is_mark : FnScope ["thing"] ["thing"] (defScope s_is_mark) := ⟨rfl, rfl, rfl, by decide +kernel, rfl, by decide +kernel, by decide +kernel⟩
theorem rf_is_mark (F : Fns G) : RSs G ["thing"] ⟨true, true⟩ (defScope s_is_mark) (defBody s_is_mark) ((cRet (cAnd (cBlt isiD (cConsA (cVar 0) (cConsA (cC (.ty "str")) cNilA))) (cAnd (cOp2 (eqD false) (cBlt lenD (cConsA (cVar 0) cNilA)) (cC (.int 1))) (cChain leD leD (cC (.str [97])) (cVar 0) (cC (.str [122]))))))) :=
  (rss_one (rs_ret (re_and (re_blt b_isi F.T_isinstance (by rfl) (ra_cons (re_var (i := 0) (by rfl) (by rfl)) (ra_cons (re_ty F.T_str (by decide +kernel) (by rfl)) ra_nil))) (re_and (re_cmp oc_eq (re_blt b_len F.T_len (by rfl) (ra_cons (re_var (i := 0) (by rfl) (by rfl)) ra_nil)) re_int (nomark _)) (re_one (re_chain oc_le oc_le (re_str (l := [97]) rfl) (re_var (i := 0) (by rfl) (by rfl)) (re_str (l := [122]) rfl)))))))
theorem sc_is_mark_or_none : FnScope ["thing"] ["thing"] (defScope s_is_mark_or_none) := ⟨rfl, rfl, rfl, by decide +kernel, rfl, by decide +kernel, by decide +kernel⟩
theorem rf_is_mark_or_none (F : Fns G) : RSs G ["thing"] ⟨true, true⟩ (defScope s_is_mark_or_none) (defBody s_is_mark_or_none) ((cRet (cOr (cCall G.call "is_mark" (cArgs 1 (cConsA (cVar 0) cNilA))) (cOp2 (eqD false) (cVar 0) (cC (.str [46])))))) :=
  (rss_one (rs_ret (re_or (re_call F.C_is_mark rfl (by rfl) (ra_cons (re_var (i := 0) (by rfl) (by rfl)) ra_nil)) (re_one (re_cmp oc_eq (re_var (i := 0) (by rfl) (by rfl)) (re_str (l := [46]) rfl) (nomark _))))))
theorem sc_is_seen : FnScope ["thing"] ["thing"] (defScope s_is_seen) := ⟨rfl, rfl, rfl, by decide +kernel, rfl, by decide +kernel, by decide +kernel⟩
theorem rf_is_seen (F : Fns G) : RSs1 G ["thing"] ⟨true, true⟩ (defScope s_is_seen) (defBody s_is_seen) ((cRet (cAnd (cBlt isiD (cConsA (cVar 0) (cConsA (cC (.ty "str")) cNilA))) (cCall G.call "is_rim" (cArgs 1 (cConsA (cOp1 (replD 63 [46]) (cVar 0)) cNilA)))))) :=
  (rss1_one (rs1_ret (re1_and (RE.lift (re_blt b_isi F.T_isinstance (by rfl) (ra_cons (re_var (i := 0) (by rfl) (by rfl)) (ra_cons (re_ty F.T_str (by decide +kernel) (by rfl)) ra_nil)))) (re1_one (re1_call F.C_is_rim rfl (by rfl) (ra1_cons (re1_repl (d := 63) (l := [46]) (RE.lift (re_var (i := 0) (by rfl) (by rfl))) rfl rfl) ra1_nil))))))
theorem sc_check_seen : FnScope ["seen"] ["seen"] (defScope s_check_seen) := ⟨rfl, rfl, rfl, by decide +kernel, rfl, by decide +kernel, by decide +kernel⟩
theorem rf_check_seen (F : Fns G) : RSs G ["seen"] ⟨true, true⟩ (defScope s_check_seen) (defBody s_check_seen) ((cIfS (cNotT (cTru (cCall G.call "is_seen" (cArgs 1 (cConsA (cVar 0) cNilA))))) (cRaise "NoSeen") cNil)) :=
  (rss_one (rs_if (rt_not (rt_tru (re_call F.C_is_seen rfl (by rfl) (ra_cons (re_var (i := 0) (by rfl) (by rfl)) ra_nil)))) (rss_one (rs_raise F.X_NoSeen rfl (by rfl))) rss_nil))
theorem sc_check_length : FnScope ["length", "longest"] ["length", "longest"] (defScope s_check_length) := ⟨rfl, rfl, rfl, by decide +kernel, rfl, by decide +kernel, by decide +kernel⟩
theorem rf_check_length (F : Fns G) : RSs G ["length", "longest"] ⟨true, true⟩ (defScope s_check_length) (defBody s_check_length) ((cIfS (cOrT (cNotT (cTru (cCall G.call "is_whole" (cArgs 2 (cConsA (cVar 0) (cConsA (cC (.int 1)) cNilA)))))) (cTruB (cOp2 gtD (cVar 0) (cVar 1)))) (cRaise "NoNumber") cNil)) :=
  (rss_one (rs_if (rt_w (rw_or (rt_not (rt_tru (re_call F.C_is_whole rfl (by rfl) (ra_cons (re_var (i := 0) (by rfl) (by rfl)) (ra_cons re_int ra_nil))))) (rw_or1 (rt_cmp oc_gt (re_var (i := 0) (by rfl) (by rfl)) (re_var (i := 1) (by rfl) (by rfl)) (nomark _))))) (rss_one (rs_raise F.X_NoNumber rfl (by rfl))) rss_nil))
theorem sc_checked_rim : FnScope ["rim"] ["rim"] (defScope s_checked_rim) := ⟨rfl, rfl, rfl, by decide +kernel, rfl, by decide +kernel, by decide +kernel⟩
theorem rf_checked_rim (F : Fns G) : RSs G ["rim"] ⟨true, true⟩ (defScope s_checked_rim) (defBody s_checked_rim) ((cSeq (cIfS (cNotT (cTru (cCall G.call "is_rim" (cArgs 1 (cConsA (cVar 0) cNilA))))) (cRaise "NoPress") cNil)
    (cRet (cVar 0)))) :=
  (rss_cons (rs_if (rt_not (rt_tru (re_call F.C_is_rim rfl (by rfl) (ra_cons (re_var (i := 0) (by rfl) (by rfl)) ra_nil)))) (rss_one (rs_raise F.X_NoPress rfl (by rfl))) rss_nil)
    (rss_one (rs_ret (re_var (i := 0) (by rfl) (by rfl)))))
theorem sc_seen_of : FnScope ["seen", "at", "length"] ["seen", "at", "length"] (defScope s_seen_of) := ⟨rfl, rfl, rfl, by decide +kernel, rfl, by decide +kernel, by decide +kernel⟩
theorem rf_seen_of (F : Fns G) : RSs1 G ["seen", "at", "length"] ⟨true, true⟩ (defScope s_seen_of) (defBody s_seen_of) ((cRet (cOp1 (replD 63 []) (cSlS (cVar 0) (cPart (cVar 1)) (cPart (cVar 2)))))) :=
  (rss1_one (rs1_ret (re1_repl (d := 63) (l := []) (RE.lift (re_sls (re_var (i := 0) (by rfl) (by rfl)) (ro_some (re_var (i := 1) (by rfl) (by rfl))) (ro_some (re_var (i := 2) (by rfl) (by rfl))))) rfl rfl)))
theorem sc_signs_in : FnScope ["text"] ["text"] (defScope s_signs_in) := ⟨rfl, rfl, rfl, by decide +kernel, rfl, by decide +kernel, by decide +kernel⟩
theorem rf_signs_in (F : Fns G) : RSs G ["text"] ⟨true, true⟩ (defScope s_signs_in) (defBody s_signs_in) ((cRet (cOp1 ssD (cVar 0)))) :=
  (rss_one (rs_ret (re_ss rfl F.T_sorted (by rfl) F.T_set (by rfl) (re_var (i := 0) (by rfl) (by rfl)))))
theorem sc_rim_of : FnScope ["seen", "length", "rim", "at", "signs"] ["seen", "length"] (defScope s_rim_of) := ⟨rfl, rfl, rfl, by decide +kernel, rfl, by decide +kernel, by decide +kernel⟩
theorem rf_rim_of (F : Fns G) : RSs G ["seen", "length", "rim", "at", "signs"] ⟨true, true⟩ (defScope s_rim_of) (defBody s_rim_of) ((cSeq (cSet 2 (cLst cNilA))
    (cSeq (cFor (cRng1 (cConsA (cVar 1) cNilA)) (gN 3) (cSeq (cSet 4 (cCall G.call "signs_in" (cArgs 1 (cConsA (cCall G.call "seen_of" (cArgs 3 (cConsA (cVar 0) (cConsA (cVar 3) (cConsA (cVar 1) cNilA))))) cNilA))))
    (cSeq (cIfS (cTruB (cOp2 gtD (cBlt lenD (cConsA (cVar 4) cNilA)) (cC (.int 1)))) (cRet (cC .non)) cNil)
    (cExp (cMt "list" isLstD appD (cVar 2) (cConsA (cIf (cTru (cVar 4)) (cOp2 ixD (cVar 4) (cC (.int 0))) (cC (.str [63]))) cNilA))))))
    (cRet (cMt "str" isStrD joinD (cC (.str [])) (cConsA (cVar 2) cNilA)))))) :=
  (rss_cons (rs_set (i := 2) (by rfl) (by rfl) (re_lst ra_nil))
    (rss_cons (rs_for rfl (ri_rng1 (by rfl) F.T_range (ra_cons (re_var (i := 1) (by rfl) (by rfl)) ra_nil)) (rg_name (i := 3) (by rfl) (by rfl)) (rss_cons (rs_set (i := 4) (by rfl) (by rfl) (re_call F.C_signs_in rfl (by rfl) (ra_cons (re_call F.C_seen_of rfl (by rfl) (ra_cons (re_var (i := 0) (by rfl) (by rfl)) (ra_cons (re_var (i := 3) (by rfl) (by rfl)) (ra_cons (re_var (i := 1) (by rfl) (by rfl)) ra_nil)))) ra_nil)))
    (rss_cons (rs_if (rt_cmp oc_gt (re_blt b_len F.T_len (by rfl) (ra_cons (re_var (i := 4) (by rfl) (by rfl)) ra_nil)) re_int (nomark _)) (rss_one (rs_ret re_non)) rss_nil)
    (rss_one (rs_exp (re_mt m_append (re_var (i := 2) (by rfl) (by rfl)) (ra_cons (re_if (rt_tru (re_var (i := 4) (by rfl) (by rfl))) (re_ix (re_var (i := 4) (by rfl) (by rfl)) re_int) (re_str (l := [63]) rfl)) ra_nil)))))))
    (rss_one (rs_ret (re_mt m_join (re_str (l := []) rfl) (ra_cons (re_var (i := 2) (by rfl) (by rfl)) ra_nil))))))
theorem sc_two_for : FnScope ["seen", "lower", "upper", "high", "low"] ["seen", "lower", "upper"] (defScope s_two_for) := ⟨rfl, rfl, rfl, by decide +kernel, rfl, by decide +kernel, by decide +kernel⟩
theorem rf_two_for (F : Fns G) : RSs G ["seen", "lower", "upper", "high", "low"] ⟨true, true⟩ (defScope s_two_for) (defBody s_two_for) ((cSeq (cExp (cCall G.call "check_seen" (cArgs 1 (cConsA (cVar 0) cNilA))))
    (cSeq (cExp (cCallO G.call "check_length" ([40] : List Int) (cArgs 1 (cConsA (cVar 1) cNilA))))
    (cSeq (cExp (cCallO G.call "check_length" ([40] : List Int) (cArgs 1 (cConsA (cVar 2) cNilA))))
    (cSeq (cSet 3 (cCall G.call "upper_rim" (cArgs 2 (cConsA (cVar 0) (cConsA (cVar 2) cNilA)))))
    (cSeq (cSet 4 (cCall G.call "rim_of" (cArgs 2 (cConsA (cCall G.call "piece_beneath" (cArgs 2 (cConsA (cVar 0) (cConsA (cVar 3) cNilA)))) (cConsA (cVar 1) cNilA)))))
    (cRet (cIf (cTruB (cOp2 (isNonD false) (cVar 4) (cC .non))) (cC .non) (cTup (cConsA (cVar 4) (cConsA (cVar 3) cNilA))))))))))) :=
  (rss_cons (rs_exp (re_call F.C_check_seen rfl (by rfl) (ra_cons (re_var (i := 0) (by rfl) (by rfl)) ra_nil)))
    (rss_cons (rs_exp (re_callO F.O_check_length rfl (by rfl) (ra_cons (re_var (i := 1) (by rfl) (by rfl)) ra_nil)))
    (rss_cons (rs_exp (re_callO F.O_check_length rfl (by rfl) (ra_cons (re_var (i := 2) (by rfl) (by rfl)) ra_nil)))
    (rss_cons (rs_set (i := 3) (by rfl) (by rfl) (re_call F.C_upper_rim rfl (by rfl) (ra_cons (re_var (i := 0) (by rfl) (by rfl)) (ra_cons (re_var (i := 2) (by rfl) (by rfl)) ra_nil))))
    (rss_cons (rs_set (i := 4) (by rfl) (by rfl) (re_call F.C_rim_of rfl (by rfl) (ra_cons (re_call F.C_piece_beneath rfl (by rfl) (ra_cons (re_var (i := 0) (by rfl) (by rfl)) (ra_cons (re_var (i := 3) (by rfl) (by rfl)) ra_nil))) (ra_cons (re_var (i := 1) (by rfl) (by rfl)) ra_nil))))
    (rss_one (rs_ret (re_if (rt_cmp oc_is (re_var (i := 4) (by rfl) (by rfl)) re_non (nomark _)) re_non (re_tup (ra_cons (re_var (i := 4) (by rfl) (by rfl)) (ra_cons (re_var (i := 3) (by rfl) (by rfl)) ra_nil)))))))))))
theorem sc_beneath : FnScope ["seen", "rim"] ["seen", "rim"] (defScope s_beneath) := ⟨rfl, rfl, rfl, by decide +kernel, rfl, by decide +kernel, by decide +kernel⟩
theorem rf_beneath (F : Fns G) : RSs G ["seen", "rim"] ⟨true, true⟩ (defScope s_beneath) (defBody s_beneath) ((cSeq (cExp (cCall G.call "check_seen" (cArgs 1 (cConsA (cVar 0) cNilA))))
    (cSeq (cExp (cCall G.call "checked_rim" (cArgs 1 (cConsA (cVar 1) cNilA))))
    (cRet (cCall G.call "piece_beneath" (cArgs 2 (cConsA (cVar 0) (cConsA (cVar 1) cNilA)))))))) :=
  (rss_cons (rs_exp (re_call F.C_check_seen rfl (by rfl) (ra_cons (re_var (i := 0) (by rfl) (by rfl)) ra_nil)))
    (rss_cons (rs_exp (re_call F.C_checked_rim rfl (by rfl) (ra_cons (re_var (i := 1) (by rfl) (by rfl)) ra_nil)))
    (rss_one (rs_ret (re_call F.C_piece_beneath rfl (by rfl) (ra_cons (re_var (i := 0) (by rfl) (by rfl)) (ra_cons (re_var (i := 1) (by rfl) (by rfl)) ra_nil)))))))
theorem sc_upper_rim : FnScope ["seen", "length", "rim", "at", "signs"] ["seen", "length"] (defScope s_upper_rim) := ⟨rfl, rfl, rfl, by decide +kernel, rfl, by decide +kernel, by decide +kernel⟩
theorem rf_upper_rim (F : Fns G) : RSs G ["seen", "length", "rim", "at", "signs"] ⟨true, true⟩ (defScope s_upper_rim) (defBody s_upper_rim) ((cSeq (cSet 2 (cLst cNilA))
    (cSeq (cFor (cRng1 (cConsA (cVar 1) cNilA)) (gN 3) (cSeq (cSet 4 (cCall G.call "signs_in" (cArgs 1 (cConsA (cCall G.call "seen_of" (cArgs 3 (cConsA (cVar 0) (cConsA (cVar 3) (cConsA (cVar 1) cNilA))))) cNilA))))
    (cIfS (cNotT (cTru (cVar 4))) (cExp (cMt "list" isLstD appD (cVar 2) (cConsA (cC (.str [63])) cNilA))) (cIfS (cTruB (cOp2 (eqD false) (cBlt lenD (cConsA (cVar 4) cNilA)) (cC (.int 1)))) (cExp (cMt "list" isLstD appD (cVar 2) (cConsA (cOp2 ixD (cVar 4) (cC (.int 0))) cNilA))) (cExp (cMt "list" isLstD appD (cVar 2) (cConsA (cC (.str [46])) cNilA)))))))
    (cRet (cMt "str" isStrD joinD (cC (.str [])) (cConsA (cVar 2) cNilA)))))) :=
  (rss_cons (rs_set (i := 2) (by rfl) (by rfl) (re_lst ra_nil))
    (rss_cons (rs_for rfl (ri_rng1 (by rfl) F.T_range (ra_cons (re_var (i := 1) (by rfl) (by rfl)) ra_nil)) (rg_name (i := 3) (by rfl) (by rfl)) (rss_cons (rs_set (i := 4) (by rfl) (by rfl) (re_call F.C_signs_in rfl (by rfl) (ra_cons (re_call F.C_seen_of rfl (by rfl) (ra_cons (re_var (i := 0) (by rfl) (by rfl)) (ra_cons (re_var (i := 3) (by rfl) (by rfl)) (ra_cons (re_var (i := 1) (by rfl) (by rfl)) ra_nil)))) ra_nil)))
    (rss_one (rs_if (rt_not (rt_tru (re_var (i := 4) (by rfl) (by rfl)))) (rss_one (rs_exp (re_mt m_append (re_var (i := 2) (by rfl) (by rfl)) (ra_cons (re_str (l := [63]) rfl) ra_nil)))) (rss_one (rs_if (rt_cmp oc_eq (re_blt b_len F.T_len (by rfl) (ra_cons (re_var (i := 4) (by rfl) (by rfl)) ra_nil)) re_int (nomark _)) (rss_one (rs_exp (re_mt m_append (re_var (i := 2) (by rfl) (by rfl)) (ra_cons (re_ix (re_var (i := 4) (by rfl) (by rfl)) re_int) ra_nil)))) (rss_one (rs_exp (re_mt m_append (re_var (i := 2) (by rfl) (by rfl)) (ra_cons (re_str (l := [46]) rfl) ra_nil))))))))))
    (rss_one (rs_ret (re_mt m_join (re_str (l := []) rfl) (ra_cons (re_var (i := 2) (by rfl) (by rfl)) ra_nil))))))
theorem sc_piece_beneath : FnScope ["seen", "rim", "left", "place", "sign", "mark"] ["seen", "rim"] (defScope s_piece_beneath) := ⟨rfl, rfl, rfl, by decide +kernel, rfl, by decide +kernel, by decide +kernel⟩
theorem rf_piece_beneath (F : Fns G) : RSs G ["seen", "rim", "left", "place", "sign", "mark"] ⟨true, true⟩ (defScope s_piece_beneath) (defBody s_piece_beneath) ((cSeq (cSet 2 (cLst cNilA))
    (cSeq (cFor (cEnum (cConsA (cVar 0) cNilA)) (gTupG 2 (gConsG (gN 3) (gConsG (gN 4) gNilG))) (cSeq (cSet 5 (cOp2 ixD (cVar 1) (cOp2 modD (cVar 3) (cBlt lenD (cConsA (cVar 1) cNilA)))))
    (cIfS (cTruB (cOp2 (eqD false) (cVar 5) (cC (.str [46])))) (cExp (cMt "list" isLstD appD (cVar 2) (cConsA (cVar 4) cNilA))) (cIfS (cOrT (cTruB (cOp2 (eqD false) (cVar 4) (cC (.str [63])))) (cTruB (cOp2 (eqD false) (cVar 4) (cVar 5)))) (cExp (cMt "list" isLstD appD (cVar 2) (cConsA (cC (.str [63])) cNilA))) (cRet (cC .non))))))
    (cRet (cMt "str" isStrD joinD (cC (.str [])) (cConsA (cVar 2) cNilA)))))) :=
  (rss_cons (rs_set (i := 2) (by rfl) (by rfl) (re_lst ra_nil))
    (rss_cons (rs_for rfl (ri_enum (by rfl) F.T_enumerate (ra_cons (re_var (i := 0) (by rfl) (by rfl)) ra_nil)) (rg_tup rfl (rgs_cons (rg_name (i := 3) (by rfl) (by rfl)) (rgs_cons (rg_name (i := 4) (by rfl) (by rfl)) rgs_nil))) (rss_cons (rs_set (i := 5) (by rfl) (by rfl) (re_ix (re_var (i := 1) (by rfl) (by rfl)) (re_mod (re_var (i := 3) (by rfl) (by rfl)) (re_blt b_len F.T_len (by rfl) (ra_cons (re_var (i := 1) (by rfl) (by rfl)) ra_nil)))))
    (rss_one (rs_if (rt_cmp oc_eq (re_var (i := 5) (by rfl) (by rfl)) (re_str (l := [46]) rfl) (nomark _)) (rss_one (rs_exp (re_mt m_append (re_var (i := 2) (by rfl) (by rfl)) (ra_cons (re_var (i := 4) (by rfl) (by rfl)) ra_nil)))) (rss_one (rs_if (rt_w (rw_or (rt_cmp oc_eq (re_var (i := 4) (by rfl) (by rfl)) (re_str (l := [63]) rfl) (nomark _)) (rw_or1 (rt_cmp oc_eq (re_var (i := 4) (by rfl) (by rfl)) (re_var (i := 5) (by rfl) (by rfl)) (nomark _))))) (rss_one (rs_exp (re_mt m_append (re_var (i := 2) (by rfl) (by rfl)) (ra_cons (re_str (l := [63]) rfl) ra_nil)))) (rss_one (rs_ret re_non))))))))
    (rss_one (rs_ret (re_mt m_join (re_str (l := []) rfl) (ra_cons (re_var (i := 2) (by rfl) (by rfl)) ra_nil))))))
theorem sc_rim_for : FnScope ["seen", "length"] ["seen", "length"] (defScope s_rim_for) := ⟨rfl, rfl, rfl, by decide +kernel, rfl, by decide +kernel, by decide +kernel⟩
theorem rf_rim_for (F : Fns G) : RSs G ["seen", "length"] ⟨true, true⟩ (defScope s_rim_for) (defBody s_rim_for) ((cSeq (cExp (cCall G.call "check_seen" (cArgs 1 (cConsA (cVar 0) cNilA))))
    (cSeq (cExp (cCallO G.call "check_length" ([40] : List Int) (cArgs 1 (cConsA (cVar 1) cNilA))))
    (cRet (cCall G.call "rim_of" (cArgs 2 (cConsA (cVar 0) (cConsA (cVar 1) cNilA)))))))) :=
  (rss_cons (rs_exp (re_call F.C_check_seen rfl (by rfl) (ra_cons (re_var (i := 0) (by rfl) (by rfl)) ra_nil)))
    (rss_cons (rs_exp (re_callO F.O_check_length rfl (by rfl) (ra_cons (re_var (i := 1) (by rfl) (by rfl)) ra_nil)))
    (rss_one (rs_ret (re_call F.C_rim_of rfl (by rfl) (ra_cons (re_var (i := 0) (by rfl) (by rfl)) (ra_cons (re_var (i := 1) (by rfl) (by rfl)) ra_nil)))))))
theorem sc__law_bag : FnScope ["script", "total", "cell"] ["script"] (defScope s_law_bag) := ⟨rfl, rfl, rfl, by decide +kernel, rfl, by decide +kernel, by decide +kernel⟩
theorem rf__law_bag (F : Fns G) : RSs G ["script", "total", "cell"] ⟨true, true⟩ (defScope s_law_bag) (defBody s_law_bag) ((cSeq (cSet 1 (cC (.int 1)))
    (cSeq (cFor (cSrc (cVar 0)) (gN 2) (cSet 1 (cOp2 modD (cOp2 addD (cOp2 addD (cOp2 mulD (cVar 1) (cC (.int 1000003))) (cOp2 modD (cVar 2) (cC (.int 2305843009213693951)))) (cC (.int 1))) (cC (.int 2305843009213693951)))))
    (cRet (cLst (cConsA (cBlt listD (cConsA (cVar 0) cNilA)) (cConsA (cC (.int 0)) (cConsA (cC (.int 0)) (cConsA (cC (.int 0)) (cConsA (cVar 1) cNilA)))))))))) :=
  (rss_cons (rs_set (i := 1) (by rfl) (by rfl) re_int)
    (rss_cons (rs_for rfl (ri_seq (re_var (i := 0) (by rfl) (by rfl))) (rg_name (i := 2) (by rfl) (by rfl)) (rss_one (rs_set (i := 1) (by rfl) (by rfl) (re_mod (re_add (re_add (re_mul (re_var (i := 1) (by rfl) (by rfl)) re_int) (re_mod (re_var (i := 2) (by rfl) (by rfl)) re_int)) re_int) re_int))))
    (rss_one (rs_ret (re_lst (ra_cons (re_bty b_list F.T_list (by rfl) (ra_cons (re_var (i := 0) (by rfl) (by rfl)) ra_nil)) (ra_cons re_int (ra_cons re_int (ra_cons re_int (ra_cons (re_var (i := 1) (by rfl) (by rfl)) ra_nil))))))))))
theorem sc__law_stir : FnScope ["number", "place", "one", "two"] ["number", "place"] (defScope s_law_stir) := ⟨rfl, rfl, rfl, by decide +kernel, rfl, by decide +kernel, by decide +kernel⟩
theorem rf__law_stir (F : Fns G) : RSs G ["number", "place", "one", "two"] ⟨true, true⟩ (defScope s_law_stir) (defBody s_law_stir) ((cSeq (cSet 2 (cOp2 modD (cOp2 addD (cOp2 addD (cOp2 mulD (cVar 0) (cC (.int 998244353))) (cOp2 mulD (cVar 1) (cC (.int 1000000007)))) (cC (.int 5))) (cC (.int 2305843009213693951))))
    (cSeq (cSet 3 (cOp2 modD (cOp2 mulD (cVar 2) (cVar 2)) (cC (.int 2305843009213693951))))
    (cRet (cOp2 fdivD (cOp2 modD (cOp2 addD (cOp2 addD (cOp2 mulD (cVar 3) (cC (.int 2860486313))) (cOp2 mulD (cOp2 mulD (cVar 1) (cVar 1)) (cC (.int 48271)))) (cOp2 fdivD (cVar 2) (cC (.int 3)))) (cC (.int 2305843009213693921))) (cC (.int 1024))))))) :=
  (rss_cons (rs_set (i := 2) (by rfl) (by rfl) (re_mod (re_add (re_add (re_mul (re_var (i := 0) (by rfl) (by rfl)) re_int) (re_mul (re_var (i := 1) (by rfl) (by rfl)) re_int)) re_int) re_int))
    (rss_cons (rs_set (i := 3) (by rfl) (by rfl) (re_mod (re_mul (re_var (i := 2) (by rfl) (by rfl)) (re_var (i := 2) (by rfl) (by rfl))) re_int))
    (rss_one (rs_ret (re_fdiv (re_mod (re_add (re_add (re_mul (re_var (i := 3) (by rfl) (by rfl)) re_int) (re_mul (re_mul (re_var (i := 1) (by rfl) (by rfl)) (re_var (i := 1) (by rfl) (by rfl))) re_int)) (re_fdiv (re_var (i := 2) (by rfl) (by rfl)) re_int)) re_int) re_int)))))
theorem sc__law_draw : FnScope ["bag", "many", "cell", "found"] ["bag", "many"] (defScope s_law_draw) := ⟨rfl, rfl, rfl, by decide +kernel, rfl, by decide +kernel, by decide +kernel⟩
theorem rf__law_draw (F : Fns G) : RSs G ["bag", "many", "cell", "found"] ⟨true, true⟩ (defScope s_law_draw) (defBody s_law_draw) ((cSeq (cIfS (cTruB (cOp2 (eqD false) (cVar 1) (cC (.int 1)))) (cRet (cC (.int 0))) cNil)
    (cSeq (cAsgT (cOp2 addD (cOp2 ixD (cVar 0) (cC (.int 3))) (cC (.int 1))) (gSubG (cVar 0) (cC (.int 3))))
    (cSeq (cIfS (cAndT (cTruB (cOp2 ltD (cOp2 ixD (cVar 0) (cC (.int 2))) (cC (.int 2)))) (cTruB (cOp2 (eqD false) (cOp2 ixD (cVar 0) (cC (.int 1))) (cBlt lenD (cConsA (cOp2 ixD (cVar 0) (cC (.int 0))) cNilA))))) (cRet (cOp2 modD (cCall G.call "_law_stir" (cArgs 2 (cConsA (cOp2 ixD (cVar 0) (cC (.int 4))) (cConsA (cOp2 ixD (cVar 0) (cC (.int 3))) cNilA)))) (cVar 1))) cNil)
    (cSeq (cIfS (cTruB (cOp2 ltD (cOp2 ixD (cVar 0) (cC (.int 2))) (cC (.int 2)))) (cSeq (cSet 2 (cOp2 ixD (cOp2 ixD (cVar 0) (cC (.int 0))) (cOp2 ixD (cVar 0) (cC (.int 1)))))
    (cSeq (cAsgT (cOp2 addD (cOp2 ixD (cVar 0) (cC (.int 1))) (cC (.int 1))) (gSubG (cVar 0) (cC (.int 1))))
    (cSeq (cIfS (cTruB (cOp2 ltD (cVar 2) (cOp2 powD (cC (.int 10)) (cC (.int 18))))) (cRet (cOp2 modD (cCall G.call "_law_stir" (cArgs 2 (cConsA (cOp2 modD (cVar 2) (cC (.int 2305843009213693951))) (cConsA (cOp2 ixD (cVar 0) (cC (.int 3))) cNilA)))) (cVar 1))) cNil)
    (cAsgT (cOp2 subD (cVar 2) (cOp2 powD (cC (.int 10)) (cC (.int 18)))) (gSubG (cVar 0) (cC (.int 2))))))) cNil)
    (cSeq (cSet 3 (cOp2 modD (cOp2 ixD (cVar 0) (cC (.int 2))) (cVar 1)))
    (cSeq (cAsgT (cOp2 fdivD (cOp2 ixD (cVar 0) (cC (.int 2))) (cVar 1)) (gSubG (cVar 0) (cC (.int 2))))
    (cRet (cVar 3))))))))) :=
  (rss_cons (rs_if (rt_cmp oc_eq (re_var (i := 1) (by rfl) (by rfl)) re_int (nomark _)) (rss_one (rs_ret re_int)) rss_nil)
    (rss_cons (rs_asg (re_add (re_ix (re_var (i := 0) (by rfl) (by rfl)) re_int) re_int) (rg_sub (re_var (i := 0) (by rfl) (by rfl)) re_int))
    (rss_cons (rs_if (rt_w (rw_and (rt_cmp oc_lt (re_ix (re_var (i := 0) (by rfl) (by rfl)) re_int) re_int (nomark _)) (rw_and1 (rt_cmp oc_eq (re_ix (re_var (i := 0) (by rfl) (by rfl)) re_int) (re_blt b_len F.T_len (by rfl) (ra_cons (re_ix (re_var (i := 0) (by rfl) (by rfl)) re_int) ra_nil)) (nomark _))))) (rss_one (rs_ret (re_mod (re_call F.C__law_stir rfl (by rfl) (ra_cons (re_ix (re_var (i := 0) (by rfl) (by rfl)) re_int) (ra_cons (re_ix (re_var (i := 0) (by rfl) (by rfl)) re_int) ra_nil))) (re_var (i := 1) (by rfl) (by rfl))))) rss_nil)
    (rss_cons (rs_if (rt_cmp oc_lt (re_ix (re_var (i := 0) (by rfl) (by rfl)) re_int) re_int (nomark _)) (rss_cons (rs_set (i := 2) (by rfl) (by rfl) (re_ix (re_ix (re_var (i := 0) (by rfl) (by rfl)) re_int) (re_ix (re_var (i := 0) (by rfl) (by rfl)) re_int)))
    (rss_cons (rs_asg (re_add (re_ix (re_var (i := 0) (by rfl) (by rfl)) re_int) re_int) (rg_sub (re_var (i := 0) (by rfl) (by rfl)) re_int))
    (rss_cons (rs_if (rt_cmp oc_lt (re_var (i := 2) (by rfl) (by rfl)) (re_pow re_int re_int) (nomark _)) (rss_one (rs_ret (re_mod (re_call F.C__law_stir rfl (by rfl) (ra_cons (re_mod (re_var (i := 2) (by rfl) (by rfl)) re_int) (ra_cons (re_ix (re_var (i := 0) (by rfl) (by rfl)) re_int) ra_nil))) (re_var (i := 1) (by rfl) (by rfl))))) rss_nil)
    (rss_one (rs_asg (re_sub (re_var (i := 2) (by rfl) (by rfl)) (re_pow re_int re_int)) (rg_sub (re_var (i := 0) (by rfl) (by rfl)) re_int)))))) rss_nil)
    (rss_cons (rs_set (i := 3) (by rfl) (by rfl) (re_mod (re_ix (re_var (i := 0) (by rfl) (by rfl)) re_int) (re_var (i := 1) (by rfl) (by rfl))))
    (rss_cons (rs_asg (re_fdiv (re_ix (re_var (i := 0) (by rfl) (by rfl)) re_int) (re_var (i := 1) (by rfl) (by rfl))) (rg_sub (re_var (i := 0) (by rfl) (by rfl)) re_int))
    (rss_one (rs_ret (re_var (i := 3) (by rfl) (by rfl))))))))))
theorem sc__law_mixed : FnScope ["bag", "row", "left", "k"] ["bag", "row"] (defScope s_law_mixed) := ⟨rfl, rfl, rfl, by decide +kernel, rfl, by decide +kernel, by decide +kernel⟩
theorem rf__law_mixed (F : Fns G) : RSs G ["bag", "row", "left", "k"] ⟨true, true⟩ (defScope s_law_mixed) (defBody s_law_mixed) ((cSeq (cSet 2 (cBlt listD (cConsA (cVar 1) cNilA)))
    (cRet (cLc (cRng1 (cConsA (cBlt lenD (cConsA (cVar 1) cNilA)) cNilA)) (gN 3) cYes (cMt "list" isLstD popAtD (cVar 2) (cConsA (cCall G.call "_law_draw" (cArgs 2 (cConsA (cVar 0) (cConsA (cBlt lenD (cConsA (cVar 2) cNilA)) cNilA)))) cNilA)) [3])))) :=
  (rss_cons (rs_set (i := 2) (by rfl) (by rfl) (re_bty b_list F.T_list (by rfl) (ra_cons (re_var (i := 1) (by rfl) (by rfl)) ra_nil)))
    (rss_one (rs_ret (re_lc (own := ([("k", 3)] : List (Str × Nat))) rfl (ri_rng1 (by rfl) F.T_range (ra_cons (re_blt b_len F.T_len (by rfl) (ra_cons (re_var (i := 1) (by rfl) (by rfl)) ra_nil)) ra_nil)) (by decide +kernel) (rg_name (i := 3) (by rfl) (by rfl)) rts_nil (re_mt m_pop1 (re_var (i := 2) (by rfl) (by rfl)) (ra_cons (re_call F.C__law_draw rfl (by rfl) (ra_cons (re_var (i := 0) (by rfl) (by rfl)) (ra_cons (re_blt b_len F.T_len (by rfl) (ra_cons (re_var (i := 2) (by rfl) (by rfl)) ra_nil)) ra_nil))) ra_nil)) (by decide +kernel)))))
theorem sc__law_rim : FnScope ["bag", "most", "size", "kind", "at", "signs", "k"] ["bag", "most"] (defScope s_law_rim) := ⟨rfl, rfl, rfl, by decide +kernel, rfl, by decide +kernel, by decide +kernel⟩
theorem rf__law_rim (F : Fns G) : RSs G ["bag", "most", "size", "kind", "at", "signs", "k"] ⟨true, true⟩ (defScope s_law_rim) (defBody s_law_rim) ((cSeq (cSet 2 (cOp2 addD (cC (.int 1)) (cCall G.call "_law_draw" (cArgs 2 (cConsA (cVar 0) (cConsA (cVar 1) cNilA))))))
    (cSeq (cSet 3 (cCall G.call "_law_draw" (cArgs 2 (cConsA (cVar 0) (cConsA (cC (.int 4)) cNilA)))))
    (cSeq (cIfS (cTruB (cOp2 (eqD false) (cVar 3) (cC (.int 1)))) (cSeq (cSet 4 (cCall G.call "_law_draw" (cArgs 2 (cConsA (cVar 0) (cConsA (cVar 2) cNilA)))))
    (cRet (cOp2 addD (cOp2 addD (cOp2 mulD (cC (.str [46])) (cVar 4)) (cOp2 ixD (cC (.str [97, 98, 122])) (cCall G.call "_law_draw" (cArgs 2 (cConsA (cVar 0) (cConsA (cC (.int 3)) cNilA)))))) (cOp2 mulD (cC (.str [46])) (cOp2 subD (cOp2 subD (cVar 2) (cVar 4)) (cC (.int 1))))))) cNil)
    (cSeq (cIfS (cTruB (cOp2 (eqD false) (cVar 3) (cC (.int 2)))) (cRet (cSl (cOp2 mulD (cOp2 ixD (cLst (cConsA (cC (.str [97])) (cConsA (cC (.str [97, 98])) (cConsA (cC (.str [46])) (cConsA (cC (.str [97, 46])) cNilA))))) (cCall G.call "_law_draw" (cArgs 2 (cConsA (cVar 0) (cConsA (cC (.int 4)) cNilA))))) (cVar 2)) cNoPart (cPart (cVar 2)))) cNil)
    (cSeq (cSet 5 (cOp2 ixD (cLst (cConsA (cC (.str [97, 98, 46])) (cConsA (cC (.str [])) (cConsA (cC (.str [])) (cConsA (cC (.str [97, 98, 99, 100, 101, 102, 103, 104, 105, 106, 107, 108, 109, 110, 111, 112, 113, 114, 115, 116, 117, 118, 119, 120, 121, 122, 46])) cNilA))))) (cVar 3)))
    (cRet (cMt "str" isStrD joinD (cC (.str [])) (cConsA (cLc (cRng1 (cConsA (cVar 2) cNilA)) (gN 6) cYes (cOp2 ixD (cVar 5) (cCall G.call "_law_draw" (cArgs 2 (cConsA (cVar 0) (cConsA (cBlt lenD (cConsA (cVar 5) cNilA)) cNilA))))) [6]) cNilA))))))))) :=
  (rss_cons (rs_set (i := 2) (by rfl) (by rfl) (re_add re_int (re_call F.C__law_draw rfl (by rfl) (ra_cons (re_var (i := 0) (by rfl) (by rfl)) (ra_cons (re_var (i := 1) (by rfl) (by rfl)) ra_nil)))))
    (rss_cons (rs_set (i := 3) (by rfl) (by rfl) (re_call F.C__law_draw rfl (by rfl) (ra_cons (re_var (i := 0) (by rfl) (by rfl)) (ra_cons re_int ra_nil))))
    (rss_cons (rs_if (rt_cmp oc_eq (re_var (i := 3) (by rfl) (by rfl)) re_int (nomark _)) (rss_cons (rs_set (i := 4) (by rfl) (by rfl) (re_call F.C__law_draw rfl (by rfl) (ra_cons (re_var (i := 0) (by rfl) (by rfl)) (ra_cons (re_var (i := 2) (by rfl) (by rfl)) ra_nil))))
    (rss_one (rs_ret (re_add (re_add (re_mul (re_str (l := [46]) rfl) (re_var (i := 4) (by rfl) (by rfl))) (re_ix (re_str (l := [97, 98, 122]) rfl) (re_call F.C__law_draw rfl (by rfl) (ra_cons (re_var (i := 0) (by rfl) (by rfl)) (ra_cons re_int ra_nil))))) (re_mul (re_str (l := [46]) rfl) (re_sub (re_sub (re_var (i := 2) (by rfl) (by rfl)) (re_var (i := 4) (by rfl) (by rfl))) re_int)))))) rss_nil)
    (rss_cons (rs_if (rt_cmp oc_eq (re_var (i := 3) (by rfl) (by rfl)) re_int (nomark _)) (rss_one (rs_ret (re_sl (re_mul (re_ix (re_lst (ra_cons (re_str (l := [97]) rfl) (ra_cons (re_str (l := [97, 98]) rfl) (ra_cons (re_str (l := [46]) rfl) (ra_cons (re_str (l := [97, 46]) rfl) ra_nil))))) (re_call F.C__law_draw rfl (by rfl) (ra_cons (re_var (i := 0) (by rfl) (by rfl)) (ra_cons re_int ra_nil)))) (re_var (i := 2) (by rfl) (by rfl))) ro_none (ro_some (re_var (i := 2) (by rfl) (by rfl)))))) rss_nil)
    (rss_cons (rs_set (i := 5) (by rfl) (by rfl) (re_ix (re_lst (ra_cons (re_str (l := [97, 98, 46]) rfl) (ra_cons (re_str (l := []) rfl) (ra_cons (re_str (l := []) rfl) (ra_cons (re_str (l := [97, 98, 99, 100, 101, 102, 103, 104, 105, 106, 107, 108, 109, 110, 111, 112, 113, 114, 115, 116, 117, 118, 119, 120, 121, 122, 46]) rfl) ra_nil))))) (re_var (i := 3) (by rfl) (by rfl))))
    (rss_one (rs_ret (re_mt m_join (re_str (l := []) rfl) (ra_cons (re_lc (own := ([("k", 6)] : List (Str × Nat))) rfl (ri_rng1 (by rfl) F.T_range (ra_cons (re_var (i := 2) (by rfl) (by rfl)) ra_nil)) (by decide +kernel) (rg_name (i := 6) (by rfl) (by rfl)) rts_nil (re_ix (re_var (i := 5) (by rfl) (by rfl)) (re_call F.C__law_draw rfl (by rfl) (ra_cons (re_var (i := 0) (by rfl) (by rfl)) (ra_cons (re_blt b_len F.T_len (by rfl) (ra_cons (re_var (i := 5) (by rfl) (by rfl)) ra_nil)) ra_nil)))) (by decide +kernel)) ra_nil)))))))))
theorem sc__law_seen_two : FnScope ["bag", "most", "size", "lower", "upper", "hidden", "spoilt", "any_signs", "found", "place", "sign"] ["bag", "most"] (defScope s_law_seen_two) := ⟨rfl, rfl, rfl, by decide +kernel, rfl, by decide +kernel, by decide +kernel⟩
theorem rf__law_seen_two (F : Fns G) : RSs G ["bag", "most", "size", "lower", "upper", "hidden", "spoilt", "any_signs", "found", "place", "sign"] ⟨true, true⟩ (defScope s_law_seen_two) (defBody s_law_seen_two) ((cSeq (cSet 2 (cOp2 addD (cC (.int 1)) (cCall G.call "_law_draw" (cArgs 2 (cConsA (cVar 0) (cConsA (cVar 1) cNilA))))))
    (cSeq (cSet 3 (cCall G.call "_law_rim" (cArgs 2 (cConsA (cVar 0) (cConsA (cC (.int 9)) cNilA)))))
    (cSeq (cSet 4 (cCall G.call "_law_rim" (cArgs 2 (cConsA (cVar 0) (cConsA (cC (.int 9)) cNilA)))))
    (cSeq (cSet 5 (cOp2 ixD (cLst (cConsA (cC (.int 1)) (cConsA (cC (.int 3)) (cConsA (cC (.int 40)) cNilA)))) (cCall G.call "_law_draw" (cArgs 2 (cConsA (cVar 0) (cConsA (cC (.int 3)) cNilA))))))
    (cSeq (cSet 6 (cOp2 ixD (cLst (cConsA (cC (.int 0)) (cConsA (cC (.int 0)) (cConsA (cC (.int 30)) cNilA)))) (cCall G.call "_law_draw" (cArgs 2 (cConsA (cVar 0) (cConsA (cC (.int 3)) cNilA))))))
    (cSeq (cSet 7 (cOp2 (eqD false) (cCall G.call "_law_draw" (cArgs 2 (cConsA (cVar 0) (cConsA (cC (.int 6)) cNilA)))) (cC (.int 0))))
    (cSeq (cSet 8 (cC (.str [])))
    (cSeq (cFor (cRng1 (cConsA (cVar 2) cNilA)) (gN 9) (cSeq (cSet 10 (cOp2 ixD (cVar 4) (cOp2 modD (cVar 9) (cBlt lenD (cConsA (cVar 4) cNilA)))))
    (cSeq (cSet 10 (cIf (cTruB (cOp2 (eqD false) (cVar 10) (cC (.str [46])))) (cOp2 ixD (cVar 3) (cOp2 modD (cVar 9) (cBlt lenD (cConsA (cVar 3) cNilA)))) (cVar 10)))
    (cSeq (cIfS (cOrT (cTru (cVar 7)) (cAndT (cTruB (cOp2 gtD (cVar 6) (cC (.int 0)))) (cTruB (cOp2 (eqD false) (cCall G.call "_law_draw" (cArgs 2 (cConsA (cVar 0) (cConsA (cVar 6) cNilA)))) (cC (.int 0)))))) (cSet 10 (cOp2 ixD (cC (.str [97, 98, 46, 99])) (cCall G.call "_law_draw" (cArgs 2 (cConsA (cVar 0) (cConsA (cC (.int 4)) cNilA)))))) cNil)
    (cSet 8 (cOp2 addD (cVar 8) (cIf (cTruB (cOp2 gtD (cCall G.call "_law_draw" (cArgs 2 (cConsA (cVar 0) (cConsA (cOp2 addD (cVar 5) (cC (.int 1))) cNilA)))) (cC (.int 0)))) (cVar 10) (cC (.str [63])))))))))
    (cRet (cVar 8))))))))))) :=
  (rss_cons (rs_set (i := 2) (by rfl) (by rfl) (re_add re_int (re_call F.C__law_draw rfl (by rfl) (ra_cons (re_var (i := 0) (by rfl) (by rfl)) (ra_cons (re_var (i := 1) (by rfl) (by rfl)) ra_nil)))))
    (rss_cons (rs_set (i := 3) (by rfl) (by rfl) (re_call F.C__law_rim rfl (by rfl) (ra_cons (re_var (i := 0) (by rfl) (by rfl)) (ra_cons re_int ra_nil))))
    (rss_cons (rs_set (i := 4) (by rfl) (by rfl) (re_call F.C__law_rim rfl (by rfl) (ra_cons (re_var (i := 0) (by rfl) (by rfl)) (ra_cons re_int ra_nil))))
    (rss_cons (rs_set (i := 5) (by rfl) (by rfl) (re_ix (re_lst (ra_cons re_int (ra_cons re_int (ra_cons re_int ra_nil)))) (re_call F.C__law_draw rfl (by rfl) (ra_cons (re_var (i := 0) (by rfl) (by rfl)) (ra_cons re_int ra_nil)))))
    (rss_cons (rs_set (i := 6) (by rfl) (by rfl) (re_ix (re_lst (ra_cons re_int (ra_cons re_int (ra_cons re_int ra_nil)))) (re_call F.C__law_draw rfl (by rfl) (ra_cons (re_var (i := 0) (by rfl) (by rfl)) (ra_cons re_int ra_nil)))))
    (rss_cons (rs_set (i := 7) (by rfl) (by rfl) (re_cmp oc_eq (re_call F.C__law_draw rfl (by rfl) (ra_cons (re_var (i := 0) (by rfl) (by rfl)) (ra_cons re_int ra_nil))) re_int (nomark _)))
    (rss_cons (rs_set (i := 8) (by rfl) (by rfl) (re_str (l := []) rfl))
    (rss_cons (rs_for rfl (ri_rng1 (by rfl) F.T_range (ra_cons (re_var (i := 2) (by rfl) (by rfl)) ra_nil)) (rg_name (i := 9) (by rfl) (by rfl)) (rss_cons (rs_set (i := 10) (by rfl) (by rfl) (re_ix (re_var (i := 4) (by rfl) (by rfl)) (re_mod (re_var (i := 9) (by rfl) (by rfl)) (re_blt b_len F.T_len (by rfl) (ra_cons (re_var (i := 4) (by rfl) (by rfl)) ra_nil)))))
    (rss_cons (rs_set (i := 10) (by rfl) (by rfl) (re_if (rt_cmp oc_eq (re_var (i := 10) (by rfl) (by rfl)) (re_str (l := [46]) rfl) (nomark _)) (re_ix (re_var (i := 3) (by rfl) (by rfl)) (re_mod (re_var (i := 9) (by rfl) (by rfl)) (re_blt b_len F.T_len (by rfl) (ra_cons (re_var (i := 3) (by rfl) (by rfl)) ra_nil)))) (re_var (i := 10) (by rfl) (by rfl))))
    (rss_cons (rs_if (rt_w (rw_or (rt_tru (re_var (i := 7) (by rfl) (by rfl))) (rw_or1 (rt_w (rw_and (rt_cmp oc_gt (re_var (i := 6) (by rfl) (by rfl)) re_int (nomark _)) (rw_and1 (rt_cmp oc_eq (re_call F.C__law_draw rfl (by rfl) (ra_cons (re_var (i := 0) (by rfl) (by rfl)) (ra_cons (re_var (i := 6) (by rfl) (by rfl)) ra_nil))) re_int (nomark _)))))))) (rss_one (rs_set (i := 10) (by rfl) (by rfl) (re_ix (re_str (l := [97, 98, 46, 99]) rfl) (re_call F.C__law_draw rfl (by rfl) (ra_cons (re_var (i := 0) (by rfl) (by rfl)) (ra_cons re_int ra_nil)))))) rss_nil)
    (rss_one (rs_set (i := 8) (by rfl) (by rfl) (re_add (re_var (i := 8) (by rfl) (by rfl)) (re_if (rt_cmp oc_gt (re_call F.C__law_draw rfl (by rfl) (ra_cons (re_var (i := 0) (by rfl) (by rfl)) (ra_cons (re_add (re_var (i := 5) (by rfl) (by rfl)) re_int) ra_nil))) re_int (nomark _)) (re_var (i := 10) (by rfl) (by rfl)) (re_str (l := [63]) rfl)))))))))
    (rss_one (rs_ret (re_var (i := 8) (by rfl) (by rfl))))))))))))
theorem sc__law_upper : FnScope ["seen", "size", "found", "at", "some"] ["seen", "size"] (defScope s_law_upper) := ⟨rfl, rfl, rfl, by decide +kernel, rfl, by decide +kernel, by decide +kernel⟩
theorem rf__law_upper (F : Fns G) : RSs1 G ["seen", "size", "found", "at", "some"] ⟨true, true⟩ (defScope s_law_upper) (defBody s_law_upper) ((cSeq (cSet 2 (cC (.str [])))
    (cSeq (cFor (cRng1 (cConsA (cVar 1) cNilA)) (gN 3) (cSeq (cSet 4 (cOp1 ssLD (cOp1 ltxD (cOp1 (replD 63 []) (cSlS (cVar 0) (cPart (cVar 3)) (cPart (cVar 1)))))))
    (cSet 2 (cOp2 addD (cVar 2) (cIf (cTruB (cOp2 (eqD false) (cBlt lenD (cConsA (cVar 4) cNilA)) (cC (.int 1)))) (cOp2 ixD (cVar 4) (cC (.int 0))) (cC (.str [46])))))))
    (cRet (cVar 2))))) :=
  (rss1_cons (RSt.lift (rs_set (i := 2) (by rfl) (by rfl) (re_str (l := []) rfl)))
    (rss1_cons (rs1_for rfl (ri_rng1 (by rfl) F.T_range (ra_cons (re_var (i := 1) (by rfl) (by rfl)) ra_nil)) (rg_name (i := 3) (by rfl) (by rfl)) (rss1_cons (rs1_set (i := 4) (by rfl) (by rfl) (re1_ssL rfl F.T_sorted (by rfl) F.T_set (by rfl) (re1_lt rfl F.T_list (by rfl) (re1_repl (d := 63) (l := []) (RE.lift (re_sls (re_var (i := 0) (by rfl) (by rfl)) (ro_some (re_var (i := 3) (by rfl) (by rfl))) (ro_some (re_var (i := 1) (by rfl) (by rfl))))) rfl rfl))))
    (rss1_one (RSt.lift (rs_set (i := 2) (by rfl) (by rfl) (re_add (re_var (i := 2) (by rfl) (by rfl)) (re_if (rt_cmp oc_eq (re_blt b_len F.T_len (by rfl) (ra_cons (re_var (i := 4) (by rfl) (by rfl)) ra_nil)) re_int (nomark _)) (re_ix (re_var (i := 4) (by rfl) (by rfl)) re_int) (re_str (l := [46]) rfl))))))))
    (rss1_one (RSt.lift (rs_ret (re_var (i := 2) (by rfl) (by rfl)))))))
theorem sc_law : FnScope ["script", "bag", "turn", "seen", "lower", "upper", "told", "rim", "left", "due"] ["script"] (defScope s_law) := ⟨rfl, rfl, rfl, by decide +kernel, rfl, by decide +kernel, by decide +kernel⟩
theorem rf_law (F : Fns G) : RSs1 G ["script", "bag", "turn", "seen", "lower", "upper", "told", "rim", "left", "due"] ⟨true, true⟩ (defScope s_law) (defBody s_law) ((cSeq (cSet 1 (cCall G.call "_law_bag" (cArgs 1 (cConsA (cVar 0) cNilA))))
    (cSeq (cFor (cRng1 (cConsA (cOp2 addD (cC (.int 3)) (cBlt minD (cConsA (cC (.int 6)) (cConsA (cBlt lenD (cConsA (cVar 0) cNilA)) cNilA)))) cNilA)) (gN 2) (cSeq (cSet 3 (cCall G.call "_law_seen_two" (cArgs 2 (cConsA (cVar 1) (cConsA (cOp2 ixD (cLst (cConsA (cC (.int 12)) (cConsA (cC (.int 60)) (cConsA (cC (.int 300)) cNilA)))) (cCall G.call "_law_draw" (cArgs 2 (cConsA (cVar 1) (cConsA (cC (.int 3)) cNilA))))) cNilA)))))
    (cSeq (cSet 4 (cOp2 addD (cC (.int 1)) (cCall G.call "_law_draw" (cArgs 2 (cConsA (cVar 1) (cConsA (cOp2 ixD (cLst (cConsA (cC (.int 9)) (cConsA (cC (.int 40)) cNilA))) (cCall G.call "_law_draw" (cArgs 2 (cConsA (cVar 1) (cConsA (cC (.int 2)) cNilA))))) cNilA))))))
    (cSeq (cSet 5 (cOp2 addD (cC (.int 1)) (cCall G.call "_law_draw" (cArgs 2 (cConsA (cVar 1) (cConsA (cOp2 ixD (cLst (cConsA (cC (.int 9)) (cConsA (cC (.int 40)) cNilA))) (cCall G.call "_law_draw" (cArgs 2 (cConsA (cVar 1) (cConsA (cC (.int 2)) cNilA))))) cNilA))))))
    (cSeq (cSet 6 (cCall G.call "two_for" (cArgs 3 (cConsA (cVar 3) (cConsA (cVar 4) (cConsA (cVar 5) cNilA))))))
    (cSeq (cSet 7 (cCall G.call "_law_upper" (cArgs 2 (cConsA (cVar 3) (cConsA (cVar 5) cNilA)))))
    (cSeq (cSet 8 (cCall G.call "beneath" (cArgs 2 (cConsA (cVar 3) (cConsA (cVar 7) cNilA)))))
    (cSeq (cIfS (cTruB (cOp2 (isNonD false) (cVar 8) (cC .non))) (cRet (cC (.bl false))) cNil)
    (cSeq (cSet 9 (cCall G.call "rim_for" (cArgs 2 (cConsA (cVar 8) (cConsA (cVar 4) cNilA)))))
    (cSeq (cIfS (cTruB (cOp2 (eqD true) (cOp2 (isNonD false) (cVar 6) (cC .non)) (cOp2 (isNonD false) (cVar 9) (cC .non)))) (cRet (cC (.bl false))) cNil)
    (cSeq (cIfS (cAndT (cTruB (cOp2 (isNonD true) (cVar 6) (cC .non))) (cOrT (cTruB (cOp2 (eqD true) (cOp2 ixD (cVar 6) (cC (.int 0))) (cVar 9))) (cTruB (cOp2 (eqD true) (cOp1 (replD 63 [46]) (cOp2 ixD (cVar 6) (cC (.int 1)))) (cVar 7))))) (cRet (cC (.bl false))) cNil)
    (cSeq (cIfS (cTruB (cOp2 (isNonD true) (cCall G.call "rim_for" (cArgs 2 (cConsA (cVar 3) (cConsA (cVar 5) cNilA)))) (cC .non))) (cIfS (cOrT (cTruB (cOp2 (isNonD false) (cVar 6) (cC .non))) (cTruB (cOp2 (eqD true) (cOp1 (replD 46 []) (cOp1 (replD 63 []) (cOp2 ixD (cVar 6) (cC (.int 0))))) (cC (.str []))))) (cRet (cC (.bl false))) cNil) cNil)
    (cIfS (cAndT (cTruB (cOp2 (isNonD true) (cCall G.call "rim_for" (cArgs 2 (cConsA (cVar 3) (cConsA (cVar 4) cNilA)))) (cC .non))) (cTruB (cOp2 (isNonD false) (cVar 6) (cC .non)))) (cRet (cC (.bl false))) cNil)))))))))))))
    (cRet (cC (.bl true)))))) :=
  (rss1_cons (RSt.lift (rs_set (i := 1) (by rfl) (by rfl) (re_call F.C__law_bag rfl (by rfl) (ra_cons (re_var (i := 0) (by rfl) (by rfl)) ra_nil))))
    (rss1_cons (rs1_for rfl (ri_rng1 (by rfl) F.T_range (ra_cons (re_add re_int (re_blt (b_min rfl) F.T_min (by rfl) (ra_cons re_int (ra_cons (re_blt b_len F.T_len (by rfl) (ra_cons (re_var (i := 0) (by rfl) (by rfl)) ra_nil)) ra_nil)))) ra_nil)) (rg_name (i := 2) (by rfl) (by rfl)) (rss1_cons (RSt.lift (rs_set (i := 3) (by rfl) (by rfl) (re_call F.C__law_seen_two rfl (by rfl) (ra_cons (re_var (i := 1) (by rfl) (by rfl)) (ra_cons (re_ix (re_lst (ra_cons re_int (ra_cons re_int (ra_cons re_int ra_nil)))) (re_call F.C__law_draw rfl (by rfl) (ra_cons (re_var (i := 1) (by rfl) (by rfl)) (ra_cons re_int ra_nil)))) ra_nil)))))
    (rss1_cons (RSt.lift (rs_set (i := 4) (by rfl) (by rfl) (re_add re_int (re_call F.C__law_draw rfl (by rfl) (ra_cons (re_var (i := 1) (by rfl) (by rfl)) (ra_cons (re_ix (re_lst (ra_cons re_int (ra_cons re_int ra_nil))) (re_call F.C__law_draw rfl (by rfl) (ra_cons (re_var (i := 1) (by rfl) (by rfl)) (ra_cons re_int ra_nil)))) ra_nil))))))
    (rss1_cons (RSt.lift (rs_set (i := 5) (by rfl) (by rfl) (re_add re_int (re_call F.C__law_draw rfl (by rfl) (ra_cons (re_var (i := 1) (by rfl) (by rfl)) (ra_cons (re_ix (re_lst (ra_cons re_int (ra_cons re_int ra_nil))) (re_call F.C__law_draw rfl (by rfl) (ra_cons (re_var (i := 1) (by rfl) (by rfl)) (ra_cons re_int ra_nil)))) ra_nil))))))
    (rss1_cons (RSt.lift (rs_set (i := 6) (by rfl) (by rfl) (re_call F.C_two_for rfl (by rfl) (ra_cons (re_var (i := 3) (by rfl) (by rfl)) (ra_cons (re_var (i := 4) (by rfl) (by rfl)) (ra_cons (re_var (i := 5) (by rfl) (by rfl)) ra_nil))))))
    (rss1_cons (RSt.lift (rs_set (i := 7) (by rfl) (by rfl) (re_call F.C__law_upper rfl (by rfl) (ra_cons (re_var (i := 3) (by rfl) (by rfl)) (ra_cons (re_var (i := 5) (by rfl) (by rfl)) ra_nil)))))
    (rss1_cons (RSt.lift (rs_set (i := 8) (by rfl) (by rfl) (re_call F.C_beneath rfl (by rfl) (ra_cons (re_var (i := 3) (by rfl) (by rfl)) (ra_cons (re_var (i := 7) (by rfl) (by rfl)) ra_nil)))))
    (rss1_cons (RSt.lift (rs_if (rt_cmp oc_is (re_var (i := 8) (by rfl) (by rfl)) re_non (nomark _)) (rss_one (rs_ret re_bl)) rss_nil))
    (rss1_cons (RSt.lift (rs_set (i := 9) (by rfl) (by rfl) (re_call F.C_rim_for rfl (by rfl) (ra_cons (re_var (i := 8) (by rfl) (by rfl)) (ra_cons (re_var (i := 4) (by rfl) (by rfl)) ra_nil)))))
    (rss1_cons (RSt.lift (rs_if (rt_cmp oc_ne (re_cmp oc_is (re_var (i := 6) (by rfl) (by rfl)) re_non (nomark _)) (re_cmp oc_is (re_var (i := 9) (by rfl) (by rfl)) re_non (nomark _)) (nomark _)) (rss_one (rs_ret re_bl)) rss_nil))
    (rss1_cons (rs1_ifT (rt1_w (rw1_and (RT.lift (rt_cmp oc_isnot (re_var (i := 6) (by rfl) (by rfl)) re_non (nomark _))) (rw1_and1 (rt1_w (rw1_or (RT.lift (rt_cmp oc_ne (re_ix (re_var (i := 6) (by rfl) (by rfl)) re_int) (re_var (i := 9) (by rfl) (by rfl)) (nomark _))) (rw1_or1 (rt1_cmp oc_ne (re1_repl (d := 63) (l := [46]) (RE.lift (re_ix (re_var (i := 6) (by rfl) (by rfl)) re_int)) rfl rfl) (RE.lift (re_var (i := 7) (by rfl) (by rfl))) (nomark _)))))))) (rss1_one (RSt.lift (rs_ret re_bl))) rss1_nil)
    (rss1_cons (rs1_if (rt_cmp oc_isnot (re_call F.C_rim_for rfl (by rfl) (ra_cons (re_var (i := 3) (by rfl) (by rfl)) (ra_cons (re_var (i := 5) (by rfl) (by rfl)) ra_nil))) re_non (nomark _)) (rss1_one (rs1_ifT (rt1_w (rw1_or (RT.lift (rt_cmp oc_is (re_var (i := 6) (by rfl) (by rfl)) re_non (nomark _))) (rw1_or1 (rt1_cmp oc_ne (re1_repl (d := 46) (l := []) (re1_repl (d := 63) (l := []) (RE.lift (re_ix (re_var (i := 6) (by rfl) (by rfl)) re_int)) rfl rfl) rfl rfl) (RE.lift (re_str (l := []) rfl)) (nomark _))))) (rss1_one (RSt.lift (rs_ret re_bl))) rss1_nil)) rss1_nil)
    (rss1_one (RSt.lift (rs_if (rt_w (rw_and (rt_cmp oc_isnot (re_call F.C_rim_for rfl (by rfl) (ra_cons (re_var (i := 3) (by rfl) (by rfl)) (ra_cons (re_var (i := 4) (by rfl) (by rfl)) ra_nil))) re_non (nomark _)) (rw_and1 (rt_cmp oc_is (re_var (i := 6) (by rfl) (by rfl)) re_non (nomark _))))) (rss_one (rs_ret re_bl)) rss_nil)))))))))))))))
    (rss1_one (RSt.lift (rs_ret re_bl)))))
end
end Hd

set_option Elab.async false
set_option linter.all false
set_option maxRecDepth 100000
set_option maxHeartbeats 0
namespace Hd
open PySem PySem.Spec PyProof.Rows L2
def tabs : List He.Tab := []
/-- no list of the module -/
def nolist (K : PySem.W.Frag) : Bool := K.all fun q => match q.2 with
  | ⟨.type c, none, .seq _ _, _⟩ => !(decide (c = "list"))
  | _ => true
def cods : List He.Defn := [("is_rim", none)]
def fa2 : List He.Fa := [.glo "is_whole", .glo "is_mark", .glo "is_mark_or_none", .glo "is_rim", .glo "is_seen", .glo "check_seen", .glo "check_length", .glo "checked_rim", .glo "seen_of", .glo "signs_in", .glo "rim_of", .glo "two_for", .glo "beneath", .glo "upper_rim", .glo "piece_beneath", .glo "rim_for", .glo "_law_bag", .glo "_law_stir", .glo "_law_draw", .glo "_law_mixed", .glo "_law_rim", .glo "_law_seen_two", .glo "_law_upper", .glo "law", .free "ValueError", .free "all", .free "bool", .free "enumerate", .free "int", .free "isinstance", .free "len", .free "list", .free "min", .free "range", .free "set", .free "sorted", .free "str", .glo "NoNumber", .exc "NoNumber", .glo "NoPress", .exc "NoPress", .glo "NoSeen", .exc "NoSeen"]
def more (K : PySem.W.Frag) : Bool := nolist K
abbrev hk : PySem.W.Hook := He.hookX 5 fa2 fn tabs cods more
def ob (s : PySem.W.SharedT) : He.AlX := He.obsX 5 fa2 fn tabs cods more (HandSHeadRun.getT s)
theorem ob_eq (s : PySem.W.SharedT) : ob s = hk.obs s.abs := He.obsX_eq (HandSHeadRun.getT_eq s)
abbrev qv : PySem.Program := PySem.W.view R.prog [35]
theorem run_f (w : World) : HandSHeadRun.RunEqI R qv hk ob 6000 (loose.drop 0) (w.withFollow "special-get-raises" false) := by
  unfold HandSHeadRun.RunEqI
  kernel_rfl
theorem run_t (w : World) : HandSHeadRun.RunEqI R qv hk ob 6000 (loose.drop 0) (w.withFollow "special-get-raises" true) := by
  unfold HandSHeadRun.RunEqI
  kernel_rfl
theorem run (w : World) : HandSHeadRun.RunEqI R qv hk ob 6000 (loose.drop 0) w := PySem.W.byRow2 "special-get-raises" run_f run_t w
end Hd

set_option Elab.async false
set_option linter.all false
set_option maxRecDepth 100000
set_option maxHeartbeats 4000000
set_option autoImplicit false
namespace Hd
open PySem PySem.Spec PyProof.Rows L2 Kx
structure Tx (mg : Str → Option Value) : Prop where
  len : mg "len" = none
  str : mg "str" = none
  isi : mg "isinstance" = none
section
variable {P : Program} {w : World} {K : PySem.W.Frag} {mg : Str → Option Value} {base : Heap} {f : Addr} {fd : FuncData}
theorem leaf_mark (F : FnP K "is_mark" s_is_mark f fd) (T : Tx mg) : Leaf P w K mg 1 f mk := by
  intro A R s c t hd o k
  have hb := FunD.bindsA (ps := ["thing"]) F (fun _ _ _ _ _ _ us hl => match us, hl with | [_], _ => rfl) s [.str ⟨#[c]⟩ t] rfl
  obtain ⟨oc, od, dV, kV, doc, pm, an, cdv, ct, osl, rfl, lk, hcd, _, _⟩ := F.ex
  refine Att.call_fn (binds := [("thing", .str ⟨#[c]⟩ t)]) o.kin o.lim lk hcd (by omega) hb (by first | rfl | decide | with_unfolding_all rfl) (fun s1 IC => ?_) rfl rfl rfl
  have kp := IC.toInCall.keep
  have ns := IC.toInCall.ns
  have o1 : Wo K mg s1.heap := o.keep kp
  obtain ⟨h1, tk1, rfl⟩ := IC.toInCall.same
  show wpAny _ _ (execs [_] _) _ _ _
  refine wpAny_execs_cons (wpAny_Return_some ?_)
  refine BoolOp_and ?_
  refine wpAny_Call_Name_kw (nm_blt (v := .builtin "isinstance") o1 rfl rfl rfl rfl T.isi (by decide +kernel) ?_)
  refine callWith_builtin1 ?_ rfl rfl
  refine Calls.spliced_cons (nm_local rfl rfl ns rfl ?_)
  refine Calls.spliced_cons (nm_blt (v := .type "str") o1 rfl rfl rfl rfl T.str (by decide +kernel) ?_)
  refine Calls.spliced_nil ?_
  refine PySem.W.kia_one PySem.W.kitx_str o1.kin True.intro (kit_ty (r := true) (by decide +kernel)) (fun z => nomatch z) fun tk => ?_
  refine wpAny_truthy_bool ?_
  rw [if_pos rfl]
  -- len(thing) == 1
  refine BoolOp_and ?_
  refine wpAny_Compare1 ?_
  refine wpAny_Call_Name_kw (nm_blt (v := .builtin "len") o1 rfl rfl rfl rfl T.len (by decide +kernel) ?_)
  refine callWith_builtin1 ?_ rfl rfl
  refine Calls.spliced_cons (nm_local rfl rfl ns rfl ?_)
  refine Calls.spliced_nil ?_
  refine len_str (by show ¬ ((1 : Nat) : Int) ≥ 2 ^ 63; decide) ?_
  refine wpAny_Constant_int ?_
  refine eq_int ?_
  refine wpAny_truthy_bool ?_
  rw [show (((⟨#[c]⟩ : Str).length : Int) == 1) = true from rfl, if_pos rfl]
  -- 'a' <= thing <= 'z'
  refine BoolOp_one (Compare_chain ?_)
  refine Calls.Constant_str ?_
  refine chain_link ?_
  refine nm_local rfl rfl ns rfl ?_
  refine PySem.P.le_str ?_
  refine wpAny_truthy_bool ?_
  have e1 : (!decide ((⟨#[c]⟩ : Str).cps.toList < ("a" : Str).cps.toList)) = decide (97 ≤ c) := by
    show (!decide ([c] < [97])) = decide (97 ≤ c)
    by_cases h : 97 ≤ c
    · rw [decide_eq_true h, decide_eq_false (by rw [List.cons_lt_cons_iff]; simp; omega)]
      rfl
    · rw [decide_eq_false h, decide_eq_true (by rw [List.cons_lt_cons_iff]; omega)]
      rfl
  have e2 : (!decide (("z" : Str).cps.toList < (⟨#[c]⟩ : Str).cps.toList)) = decide (c ≤ 122) := by
    show (!decide ([122] < [c])) = decide (c ≤ 122)
    by_cases h : c ≤ 122
    · rw [decide_eq_true h, decide_eq_false (by rw [List.cons_lt_cons_iff]; simp; omega)]
      rfl
    · rw [decide_eq_false h, decide_eq_true (by rw [List.cons_lt_cons_iff]; omega)]
      rfl
  have kk : ∀ (tk : Nat), Keeps s { s with heap := h1, toks := tk } := fun tk => ⟨h1, tk, rfl, kp⟩
  have em : mk c = (decide (97 ≤ c) && decide (c ≤ 122)) := rfl
  rw [e1]
  by_cases h : 97 ≤ c
  · rw [decide_eq_true h, if_pos rfl]
    refine chain_last ?_
    refine Calls.Constant_str ?_
    refine PySem.P.le_str ?_
    rw [e2]
    have z := k _ (kk (tk + 1 + 1 + 1 + 1 + 1))
    rw [em, decide_eq_true h, Bool.true_and] at z
    exact z
  · rw [decide_eq_false h, if_neg Bool.false_ne_true]
    have z := k _ (kk (tk + 1 + 1 + 1 + 1))
    rw [em, decide_eq_false h, Bool.false_and] at z
    exact z
theorem leaf_markN {fm : Addr} (F : FnP K "is_mark_or_none" s_is_mark_or_none f fd) (L : Leaf P w K mg 1 fm mk) (gm : mg "is_mark" = some (.ref fm)) (km : PySem.W.keepIn K (.ref fm) = true) : Leaf P w K mg 2 f mkN := by
  intro A R s c t hd o k
  have hb := FunD.bindsA (ps := ["thing"]) F (fun _ _ _ _ _ _ us hl => match us, hl with | [_], _ => rfl) s [.str ⟨#[c]⟩ t] rfl
  obtain ⟨oc, od, dV, kV, doc, pm, an, cdv, ct, osl, rfl, lk, hcd, _, _⟩ := F.ex
  refine Att.call_fn (binds := [("thing", .str ⟨#[c]⟩ t)]) o.kin o.lim lk hcd (by omega) hb (by first | rfl | decide | with_unfolding_all rfl) (fun s1 IC => ?_) rfl rfl rfl
  have kp := IC.toInCall.keep
  have ns := IC.toInCall.ns
  have o1 : Wo K mg s1.heap := o.keep kp
  obtain ⟨h1, tk1, rfl⟩ := IC.toInCall.same
  show wpAny _ _ (execs [_] _) _ _ _
  refine wpAny_execs_cons (wpAny_Return_some ?_)
  refine BoolOp_or ?_
  refine wpAny_Call_Name_kw (nm_glob o1 rfl rfl rfl gm ?_)
  refine PySem.W.callWith_K (h₀ := h1) o1.kin km (Calls.spliced_cons (nm_local rfl rfl ns rfl (Calls.spliced_nil ⟨o1.kin, ?_⟩))) rfl rfl
  refine wpAny_call (L _ _ _ c t (by show A.depth + 1 + 1 < _; omega) o1 fun s2 k2 => ?_)
  have ks := Keeps.tr (a := s) (b := { s with heap := h1, toks := tk1 }) ⟨h1, tk1, rfl, kp⟩ k2
  refine wpAny_truthy_bool ?_
  have em : mkN c = (mk c || c == 46) := rfl
  cases hm : mk c with
  | true =>
    rw [if_pos rfl]
    have z := k _ ks
    rw [em, hm, Bool.true_or] at z
    exact z
  | false =>
    rw [if_neg Bool.false_ne_true]
    obtain ⟨h2, tk2, rfl, kp2⟩ := k2
    have ns2 := ns.keeps kp2
    refine BoolOp_one (wpAny_Compare1 ?_)
    refine nm_local rfl rfl ns2 rfl ?_
    refine Calls.Constant_str ?_
    refine PySem.P.eq_str ?_
    have z := k _ (Keeps.tk ks (tk2 + 1))
    have e3 : ((⟨#[c]⟩ : Str).cps.toList == ("." : Str).cps.toList) = (c == 46) := by
      show ([c] == [46]) = (c == 46)
      simp
    rw [em, hm, Bool.false_or, ← e3] at z
    exact z
theorem el_markN {fn : Addr} (L : Leaf P w K mg 2 fn mkN) (gn : mg "is_mark_or_none" = some (.ref fn)) (kn : PySem.W.keepIn K (.ref fn) = true) : ∀ {X : Cx} (hK : X.K = K) (hm : X.mg = mg) (hP : X.prog = P) (hw : X.w = w) (ok : X.Ok) (hd : X.A.depth + 5 < recursionLimit), ∀ (scope : Scope) (px pq pr : Pos), scope.kind = .function → scope.names.lookup ("sign" : Str) = some .local → scope.names.lookup ("is_mark_or_none" : Str) = some .globalImplicit →
      EltD X scope "sign" (.Call (.Name "is_mark_or_none" px) [.Name "sign" pq] [] pr) mkN := by
    intro X hK hm hP hw ok hd scope px pq pr h1 h2 h3 ce B E c' t z m e1 e2 e3 hB hD hU kb ns hv
    subst hK hm hP hw
    have o := Wo.of ok kb
    refine wpAny_Call_Name_kw (nm_glob o (by rw [e1]; exact h1) (by show ce.scope.names.lookup _ = _; rw [e1]; exact h3) e2 gn ?_)
    refine PySem.W.callWith_K (h₀ := z.heap) o.kin kn (Calls.spliced_cons (nm_local (by rw [e1]; exact h1) (by show ce.scope.names.lookup _ = _; rw [e1]; exact h2) ns hv (Calls.spliced_nil ⟨o.kin, ?_⟩))) rfl rfl
    exact wpAny_call (L _ _ _ c' t (by omega) o fun s2 k2 => ⟨rfl, k2⟩)
end
open Dn
section
variable {G : Gc} {f : Addr} {fd : FuncData}
theorem sc_is_rim : FnScope ["thing"] ["thing"] (defScope s_is_rim) := ⟨rfl, rfl, rfl, by decide +kernel, rfl, by decide +kernel, by decide +kernel⟩
theorem rf_is_rim {c Pt fn : Addr} (F : Fns G) (hP : Pt ∈ G.Tb) (hu : G.ucd = true) (hcd : G.cd = .ref c) (TB : GxR.TabB G.base G.mg c Pt) (L : Leaf G.P G.w G.K G.mg 2 fn mkN) (gn : G.mg "is_mark_or_none" = some (.ref fn)) (kn : PySem.W.keepIn G.K (.ref fn) = true) : RSs G ["thing"] ⟨true, true⟩ (defScope s_is_rim) (defBody s_is_rim) (cRet (cAnd (cBlt isiD (cConsA (cVar 0) (cConsA (cC (.ty "str")) cNilA))) (cAnd (cOp2 gtD (cBlt lenD (cConsA (cVar 0) cNilA)) (cC (.int 0))) (cAllS mkN (cVar 0))))) :=
  (rss_one (rs_ret (re_and (re_blt b_isi F.T_isinstance (by rfl) (ra_cons (re_var (i := 0) (by rfl) (by rfl)) (ra_cons (re_ty F.T_str (by decide +kernel) (by rfl)) ra_nil))) (re_and (re_cmp oc_gt (re_blt b_len F.T_len (by rfl) (ra_cons (re_var (i := 0) (by rfl) (by rfl)) ra_nil)) re_int (nomark _)) (re_one (re_allS hP hu hcd TB rfl F.T_all (by rfl) (fun X h => ⟨rfl, rfl, by decide +kernel, rfl, rfl, fun y hy e => by simp at hy; rcases hy with rfl | rfl | rfl <;> cases e⟩) (re_var (i := 0) (by rfl) (by rfl)) (fun X W k ok => el_markN L gn kn k.hK k.hmg k.hprog k.hw ok (by have := (k.room rfl).dp; omega) _ _ _ _ rfl rfl rfl) (fun _ _ => rfl)))))))
end
end Hd

set_option Elab.async false
set_option linter.all false
set_option maxRecDepth 100000
set_option maxHeartbeats 4000000
set_option autoImplicit false
namespace Hd
open PySem PySem.Spec PyProof.Rows L2 Kx Dn Dn.L58
section
variable {P : Program} {w : World} {K : PySem.W.Frag} {mg : Str → Option Value} {base h : Heap}
abbrev Sa (w : World) (h : Heap) (K : PySem.W.Frag) : Prop := He.SaysX fa2 fn tabs cods more w h K
theorem gl (X : K.In h) (Gn : h.Ns mainGlobals mg) {x : Str} (c : (He.Fa.glo x).ok K = true) : mg x = some (.ref (He.ga K x)) := He.glo_ok X Gn c
abbrev Pt (K : PySem.W.Frag) : Addr := (He.cT K ("is_rim", none)).2
abbrev Gq (P : Program) (w : World) (K : PySem.W.Frag) (mg : Str → Option Value) (base : Heap) (u : Bool) (cd : Value) (k : Nat) : Gc := Gk bod P w K mg base (Pt K) u cd k
theorem lk_is_whole : bod.lookup ("is_whole" : Str) = some m_is_whole := by kernel_rfl
theorem lk_is_mark : bod.lookup ("is_mark" : Str) = some m_is_mark := by kernel_rfl
theorem lk_is_mark_or_none : bod.lookup ("is_mark_or_none" : Str) = some m_is_mark_or_none := by kernel_rfl
theorem lk_is_rim : bod.lookup ("is_rim" : Str) = some m_is_rim := by kernel_rfl
theorem lk_is_seen : bod.lookup ("is_seen" : Str) = some m_is_seen := by kernel_rfl
theorem lk_check_seen : bod.lookup ("check_seen" : Str) = some m_check_seen := by kernel_rfl
theorem lk_check_length : bod.lookup ("check_length" : Str) = some m_check_length := by kernel_rfl
theorem lk_checked_rim : bod.lookup ("checked_rim" : Str) = some m_checked_rim := by kernel_rfl
theorem lk_seen_of : bod.lookup ("seen_of" : Str) = some m_seen_of := by kernel_rfl
theorem lk_signs_in : bod.lookup ("signs_in" : Str) = some m_signs_in := by kernel_rfl
theorem lk_rim_of : bod.lookup ("rim_of" : Str) = some m_rim_of := by kernel_rfl
theorem lk_two_for : bod.lookup ("two_for" : Str) = some m_two_for := by kernel_rfl
theorem lk_beneath : bod.lookup ("beneath" : Str) = some m_beneath := by kernel_rfl
theorem lk_upper_rim : bod.lookup ("upper_rim" : Str) = some m_upper_rim := by kernel_rfl
theorem lk_piece_beneath : bod.lookup ("piece_beneath" : Str) = some m_piece_beneath := by kernel_rfl
theorem lk_rim_for : bod.lookup ("rim_for" : Str) = some m_rim_for := by kernel_rfl
theorem lk__law_bag : bod.lookup ("_law_bag" : Str) = some m__law_bag := by kernel_rfl
theorem lk__law_stir : bod.lookup ("_law_stir" : Str) = some m__law_stir := by kernel_rfl
theorem lk__law_draw : bod.lookup ("_law_draw" : Str) = some m__law_draw := by kernel_rfl
theorem lk__law_mixed : bod.lookup ("_law_mixed" : Str) = some m__law_mixed := by kernel_rfl
theorem lk__law_rim : bod.lookup ("_law_rim" : Str) = some m__law_rim := by kernel_rfl
theorem lk__law_seen_two : bod.lookup ("_law_seen_two" : Str) = some m__law_seen_two := by kernel_rfl
theorem lk__law_upper : bod.lookup ("_law_upper" : Str) = some m__law_upper := by kernel_rfl
theorem lk_law : bod.lookup ("law" : Str) = some m_law := by kernel_rfl
theorem df_is_whole (c : Sa w h K) : ∃ fd, FunD K "is_whole" "is_whole" (defArgs s_is_whole) (defBody s_is_whole) (defScope s_is_whole) [] [] (He.ga K "is_whole") fd := c.t.d.def_ 0 (d := d_is_whole) rfl
theorem bi_is_whole {f : Addr} {fd : FuncData} (F : FunD K "is_whole" "is_whole" (defArgs s_is_whole) (defBody s_is_whole) (defScope s_is_whole) [] [] f fd) : Binds K fd ["thing", "least"] [] := FunD.bindsN F fun _ _ _ _ _ _ us hl => match us, hl with | [_, _], _ => rfl
theorem df_is_mark (c : Sa w h K) : ∃ fd, FunD K "is_mark" "is_mark" (defArgs s_is_mark) (defBody s_is_mark) (defScope s_is_mark) [] [] (He.ga K "is_mark") fd := c.t.d.def_ 1 (d := d_is_mark) rfl
theorem bi_is_mark {f : Addr} {fd : FuncData} (F : FunD K "is_mark" "is_mark" (defArgs s_is_mark) (defBody s_is_mark) (defScope s_is_mark) [] [] f fd) : Binds K fd ["thing"] [] := FunD.bindsN F fun _ _ _ _ _ _ us hl => match us, hl with | [_], _ => rfl
theorem df_is_mark_or_none (c : Sa w h K) : ∃ fd, FunD K "is_mark_or_none" "is_mark_or_none" (defArgs s_is_mark_or_none) (defBody s_is_mark_or_none) (defScope s_is_mark_or_none) [] [] (He.ga K "is_mark_or_none") fd := c.t.d.def_ 2 (d := d_is_mark_or_none) rfl
theorem bi_is_mark_or_none {f : Addr} {fd : FuncData} (F : FunD K "is_mark_or_none" "is_mark_or_none" (defArgs s_is_mark_or_none) (defBody s_is_mark_or_none) (defScope s_is_mark_or_none) [] [] f fd) : Binds K fd ["thing"] [] := FunD.bindsN F fun _ _ _ _ _ _ us hl => match us, hl with | [_], _ => rfl
theorem df_is_rim (c : Sa w h K) : ∃ fd, FunD K "is_rim" "is_rim" (defArgs s_is_rim) (defBody s_is_rim) (defScope s_is_rim) [] [] (He.ga K "is_rim") fd := c.t.d.def_ 3 (d := d_is_rim) rfl
theorem bi_is_rim {f : Addr} {fd : FuncData} (F : FunD K "is_rim" "is_rim" (defArgs s_is_rim) (defBody s_is_rim) (defScope s_is_rim) [] [] f fd) : Binds K fd ["thing"] [] := FunD.bindsN F fun _ _ _ _ _ _ us hl => match us, hl with | [_], _ => rfl
theorem df_is_seen (c : Sa w h K) : ∃ fd, FunD K "is_seen" "is_seen" (defArgs s_is_seen) (defBody s_is_seen) (defScope s_is_seen) [] [] (He.ga K "is_seen") fd := c.t.d.def_ 4 (d := d_is_seen) rfl
theorem bi_is_seen {f : Addr} {fd : FuncData} (F : FunD K "is_seen" "is_seen" (defArgs s_is_seen) (defBody s_is_seen) (defScope s_is_seen) [] [] f fd) : Binds K fd ["thing"] [] := FunD.bindsN F fun _ _ _ _ _ _ us hl => match us, hl with | [_], _ => rfl
theorem df_check_seen (c : Sa w h K) : ∃ fd, FunD K "check_seen" "check_seen" (defArgs s_check_seen) (defBody s_check_seen) (defScope s_check_seen) [] [] (He.ga K "check_seen") fd := c.t.d.def_ 5 (d := d_check_seen) rfl
theorem bi_check_seen {f : Addr} {fd : FuncData} (F : FunD K "check_seen" "check_seen" (defArgs s_check_seen) (defBody s_check_seen) (defScope s_check_seen) [] [] f fd) : Binds K fd ["seen"] [] := FunD.bindsN F fun _ _ _ _ _ _ us hl => match us, hl with | [_], _ => rfl
theorem df_check_length (c : Sa w h K) : ∃ fd, FunD K "check_length" "check_length" (defArgs s_check_length) (defBody s_check_length) (defScope s_check_length) [V.int 40] [] (He.ga K "check_length") fd := c.t.d.def_ 6 (d := d_check_length) rfl
theorem bi_check_length {f : Addr} {fd : FuncData} (F : FunD K "check_length" "check_length" (defArgs s_check_length) (defBody s_check_length) (defScope s_check_length) [V.int 40] [] f fd) : Binds K fd ["length", "longest"] [] := by
  obtain ⟨ds, r, b⟩ := F.binds1 (ps := ["length", "longest"]) 2 1 (by simp) rfl fun _ _ _ _ _ _ _ us its hu hi => match us, hu, its, hi with | [_, _], _, [_], _ => ⟨_, rfl, by first | rfl | with_unfolding_all rfl | kernel_rfl⟩
  cases r
  exact b
theorem bo_check_length {f : Addr} {fd : FuncData} (F : FunD K "check_length" "check_length" (defArgs s_check_length) (defBody s_check_length) (defScope s_check_length) [V.int 40] [] f fd) : ∃ us, Vals ([40].map V.int) us ∧ Binds K fd ["length", "longest"] us := F.binds1 1 0 (by simp) rfl fun _ _ _ _ _ _ _ us its hu hi => match us, hu, its, hi with | [_], _, [_], _ => ⟨_, rfl, by first | rfl | with_unfolding_all rfl | kernel_rfl⟩
theorem df_checked_rim (c : Sa w h K) : ∃ fd, FunD K "checked_rim" "checked_rim" (defArgs s_checked_rim) (defBody s_checked_rim) (defScope s_checked_rim) [] [] (He.ga K "checked_rim") fd := c.t.d.def_ 7 (d := d_checked_rim) rfl
theorem bi_checked_rim {f : Addr} {fd : FuncData} (F : FunD K "checked_rim" "checked_rim" (defArgs s_checked_rim) (defBody s_checked_rim) (defScope s_checked_rim) [] [] f fd) : Binds K fd ["rim"] [] := FunD.bindsN F fun _ _ _ _ _ _ us hl => match us, hl with | [_], _ => rfl
theorem df_seen_of (c : Sa w h K) : ∃ fd, FunD K "seen_of" "seen_of" (defArgs s_seen_of) (defBody s_seen_of) (defScope s_seen_of) [] [] (He.ga K "seen_of") fd := c.t.d.def_ 8 (d := d_seen_of) rfl
theorem bi_seen_of {f : Addr} {fd : FuncData} (F : FunD K "seen_of" "seen_of" (defArgs s_seen_of) (defBody s_seen_of) (defScope s_seen_of) [] [] f fd) : Binds K fd ["seen", "at", "length"] [] := FunD.bindsN F fun _ _ _ _ _ _ us hl => match us, hl with | [_, _, _], _ => rfl
theorem df_signs_in (c : Sa w h K) : ∃ fd, FunD K "signs_in" "signs_in" (defArgs s_signs_in) (defBody s_signs_in) (defScope s_signs_in) [] [] (He.ga K "signs_in") fd := c.t.d.def_ 9 (d := d_signs_in) rfl
theorem bi_signs_in {f : Addr} {fd : FuncData} (F : FunD K "signs_in" "signs_in" (defArgs s_signs_in) (defBody s_signs_in) (defScope s_signs_in) [] [] f fd) : Binds K fd ["text"] [] := FunD.bindsN F fun _ _ _ _ _ _ us hl => match us, hl with | [_], _ => rfl
theorem df_rim_of (c : Sa w h K) : ∃ fd, FunD K "rim_of" "rim_of" (defArgs s_rim_of) (defBody s_rim_of) (defScope s_rim_of) [] [] (He.ga K "rim_of") fd := c.t.d.def_ 10 (d := d_rim_of) rfl
theorem bi_rim_of {f : Addr} {fd : FuncData} (F : FunD K "rim_of" "rim_of" (defArgs s_rim_of) (defBody s_rim_of) (defScope s_rim_of) [] [] f fd) : Binds K fd ["seen", "length"] [] := FunD.bindsN F fun _ _ _ _ _ _ us hl => match us, hl with | [_, _], _ => rfl
theorem df_two_for (c : Sa w h K) : ∃ fd, FunD K "two_for" "two_for" (defArgs s_two_for) (defBody s_two_for) (defScope s_two_for) [] [] (He.ga K "two_for") fd := c.t.d.def_ 11 (d := d_two_for) rfl
theorem bi_two_for {f : Addr} {fd : FuncData} (F : FunD K "two_for" "two_for" (defArgs s_two_for) (defBody s_two_for) (defScope s_two_for) [] [] f fd) : Binds K fd ["seen", "lower", "upper"] [] := FunD.bindsN F fun _ _ _ _ _ _ us hl => match us, hl with | [_, _, _], _ => rfl
theorem df_beneath (c : Sa w h K) : ∃ fd, FunD K "beneath" "beneath" (defArgs s_beneath) (defBody s_beneath) (defScope s_beneath) [] [] (He.ga K "beneath") fd := c.t.d.def_ 12 (d := d_beneath) rfl
theorem bi_beneath {f : Addr} {fd : FuncData} (F : FunD K "beneath" "beneath" (defArgs s_beneath) (defBody s_beneath) (defScope s_beneath) [] [] f fd) : Binds K fd ["seen", "rim"] [] := FunD.bindsN F fun _ _ _ _ _ _ us hl => match us, hl with | [_, _], _ => rfl
theorem df_upper_rim (c : Sa w h K) : ∃ fd, FunD K "upper_rim" "upper_rim" (defArgs s_upper_rim) (defBody s_upper_rim) (defScope s_upper_rim) [] [] (He.ga K "upper_rim") fd := c.t.d.def_ 13 (d := d_upper_rim) rfl
theorem bi_upper_rim {f : Addr} {fd : FuncData} (F : FunD K "upper_rim" "upper_rim" (defArgs s_upper_rim) (defBody s_upper_rim) (defScope s_upper_rim) [] [] f fd) : Binds K fd ["seen", "length"] [] := FunD.bindsN F fun _ _ _ _ _ _ us hl => match us, hl with | [_, _], _ => rfl
theorem df_piece_beneath (c : Sa w h K) : ∃ fd, FunD K "piece_beneath" "piece_beneath" (defArgs s_piece_beneath) (defBody s_piece_beneath) (defScope s_piece_beneath) [] [] (He.ga K "piece_beneath") fd := c.t.d.def_ 14 (d := d_piece_beneath) rfl
theorem bi_piece_beneath {f : Addr} {fd : FuncData} (F : FunD K "piece_beneath" "piece_beneath" (defArgs s_piece_beneath) (defBody s_piece_beneath) (defScope s_piece_beneath) [] [] f fd) : Binds K fd ["seen", "rim"] [] := FunD.bindsN F fun _ _ _ _ _ _ us hl => match us, hl with | [_, _], _ => rfl
theorem df_rim_for (c : Sa w h K) : ∃ fd, FunD K "rim_for" "rim_for" (defArgs s_rim_for) (defBody s_rim_for) (defScope s_rim_for) [] [] (He.ga K "rim_for") fd := c.t.d.def_ 15 (d := d_rim_for) rfl
theorem bi_rim_for {f : Addr} {fd : FuncData} (F : FunD K "rim_for" "rim_for" (defArgs s_rim_for) (defBody s_rim_for) (defScope s_rim_for) [] [] f fd) : Binds K fd ["seen", "length"] [] := FunD.bindsN F fun _ _ _ _ _ _ us hl => match us, hl with | [_, _], _ => rfl
theorem df__law_bag (c : Sa w h K) : ∃ fd, FunD K "_law_bag" "_law_bag" (defArgs s_law_bag) (defBody s_law_bag) (defScope s_law_bag) [] [] (He.ga K "_law_bag") fd := c.t.d.def_ 16 (d := d_law_bag) rfl
theorem bi__law_bag {f : Addr} {fd : FuncData} (F : FunD K "_law_bag" "_law_bag" (defArgs s_law_bag) (defBody s_law_bag) (defScope s_law_bag) [] [] f fd) : Binds K fd ["script"] [] := FunD.bindsN F fun _ _ _ _ _ _ us hl => match us, hl with | [_], _ => rfl
theorem df__law_stir (c : Sa w h K) : ∃ fd, FunD K "_law_stir" "_law_stir" (defArgs s_law_stir) (defBody s_law_stir) (defScope s_law_stir) [] [] (He.ga K "_law_stir") fd := c.t.d.def_ 17 (d := d_law_stir) rfl
theorem bi__law_stir {f : Addr} {fd : FuncData} (F : FunD K "_law_stir" "_law_stir" (defArgs s_law_stir) (defBody s_law_stir) (defScope s_law_stir) [] [] f fd) : Binds K fd ["number", "place"] [] := FunD.bindsN F fun _ _ _ _ _ _ us hl => match us, hl with | [_, _], _ => rfl
theorem df__law_draw (c : Sa w h K) : ∃ fd, FunD K "_law_draw" "_law_draw" (defArgs s_law_draw) (defBody s_law_draw) (defScope s_law_draw) [] [] (He.ga K "_law_draw") fd := c.t.d.def_ 18 (d := d_law_draw) rfl
theorem bi__law_draw {f : Addr} {fd : FuncData} (F : FunD K "_law_draw" "_law_draw" (defArgs s_law_draw) (defBody s_law_draw) (defScope s_law_draw) [] [] f fd) : Binds K fd ["bag", "many"] [] := FunD.bindsN F fun _ _ _ _ _ _ us hl => match us, hl with | [_, _], _ => rfl
theorem df__law_mixed (c : Sa w h K) : ∃ fd, FunD K "_law_mixed" "_law_mixed" (defArgs s_law_mixed) (defBody s_law_mixed) (defScope s_law_mixed) [] [] (He.ga K "_law_mixed") fd := c.t.d.def_ 19 (d := d_law_mixed) rfl
theorem bi__law_mixed {f : Addr} {fd : FuncData} (F : FunD K "_law_mixed" "_law_mixed" (defArgs s_law_mixed) (defBody s_law_mixed) (defScope s_law_mixed) [] [] f fd) : Binds K fd ["bag", "row"] [] := FunD.bindsN F fun _ _ _ _ _ _ us hl => match us, hl with | [_, _], _ => rfl
theorem df__law_rim (c : Sa w h K) : ∃ fd, FunD K "_law_rim" "_law_rim" (defArgs s_law_rim) (defBody s_law_rim) (defScope s_law_rim) [] [] (He.ga K "_law_rim") fd := c.t.d.def_ 20 (d := d_law_rim) rfl
theorem bi__law_rim {f : Addr} {fd : FuncData} (F : FunD K "_law_rim" "_law_rim" (defArgs s_law_rim) (defBody s_law_rim) (defScope s_law_rim) [] [] f fd) : Binds K fd ["bag", "most"] [] := FunD.bindsN F fun _ _ _ _ _ _ us hl => match us, hl with | [_, _], _ => rfl
theorem df__law_seen_two (c : Sa w h K) : ∃ fd, FunD K "_law_seen_two" "_law_seen_two" (defArgs s_law_seen_two) (defBody s_law_seen_two) (defScope s_law_seen_two) [] [] (He.ga K "_law_seen_two") fd := c.t.d.def_ 21 (d := d_law_seen_two) rfl
theorem bi__law_seen_two {f : Addr} {fd : FuncData} (F : FunD K "_law_seen_two" "_law_seen_two" (defArgs s_law_seen_two) (defBody s_law_seen_two) (defScope s_law_seen_two) [] [] f fd) : Binds K fd ["bag", "most"] [] := FunD.bindsN F fun _ _ _ _ _ _ us hl => match us, hl with | [_, _], _ => rfl
theorem df__law_upper (c : Sa w h K) : ∃ fd, FunD K "_law_upper" "_law_upper" (defArgs s_law_upper) (defBody s_law_upper) (defScope s_law_upper) [] [] (He.ga K "_law_upper") fd := c.t.d.def_ 22 (d := d_law_upper) rfl
theorem bi__law_upper {f : Addr} {fd : FuncData} (F : FunD K "_law_upper" "_law_upper" (defArgs s_law_upper) (defBody s_law_upper) (defScope s_law_upper) [] [] f fd) : Binds K fd ["seen", "size"] [] := FunD.bindsN F fun _ _ _ _ _ _ us hl => match us, hl with | [_, _], _ => rfl
theorem df_law (c : Sa w h K) : ∃ fd, FunD K "law" "law" (defArgs s_law) (defBody s_law) (defScope s_law) [] [] (He.ga K "law") fd := c.t.d.def_ 23 (d := d_law) rfl
theorem bi_law {f : Addr} {fd : FuncData} (F : FunD K "law" "law" (defArgs s_law) (defBody s_law) (defScope s_law) [] [] f fd) : Binds K fd ["script"] [] := FunD.bindsN F fun _ _ _ _ _ _ us hl => match us, hl with | [_], _ => rfl
structure Cs (G : Gc) : Prop where
  C_is_whole : CalD G 2 "is_whole"
  C_is_mark : CalD G 1 "is_mark"
  C_is_mark_or_none : CalD G 1 "is_mark_or_none"
  C_is_rim : CalD G 1 "is_rim"
  C_is_seen : CalD G 1 "is_seen"
  C_check_seen : CalD G 1 "check_seen"
  C_check_length : CalD G 2 "check_length"
  C_checked_rim : CalD G 1 "checked_rim"
  C_seen_of : CalD G 3 "seen_of"
  C_signs_in : CalD G 1 "signs_in"
  C_rim_of : CalD G 2 "rim_of"
  C_two_for : CalD G 3 "two_for"
  C_beneath : CalD G 2 "beneath"
  C_upper_rim : CalD G 2 "upper_rim"
  C_piece_beneath : CalD G 2 "piece_beneath"
  C_rim_for : CalD G 2 "rim_for"
  C__law_bag : CalD G 1 "_law_bag"
  C__law_stir : CalD G 2 "_law_stir"
  C__law_draw : CalD G 2 "_law_draw"
  C__law_mixed : CalD G 2 "_law_mixed"
  C__law_rim : CalD G 2 "_law_rim"
  C__law_seen_two : CalD G 2 "_law_seen_two"
  C__law_upper : CalD G 2 "_law_upper"
  C_law : CalD G 1 "law"
  O_check_length : CalO G 1 ([40] : List Int) "check_length"
theorem fns_of (X : K.In h) (Gn : h.Ns mainGlobals mg) (c : Sa w h K) {u : Bool} {cd : Value} {k : Nat} (Cq : Cs (Gq P w K mg base u cd k)) : Fns (Gq P w K mg base u cd k) := by
  have hm : more K = true := c.more
  unfold more at hm
  exact {
    C_is_whole := Cq.C_is_whole
    C_is_mark := Cq.C_is_mark
    C_is_mark_or_none := Cq.C_is_mark_or_none
    C_is_rim := Cq.C_is_rim
    C_is_seen := Cq.C_is_seen
    C_check_seen := Cq.C_check_seen
    C_check_length := Cq.C_check_length
    C_checked_rim := Cq.C_checked_rim
    C_seen_of := Cq.C_seen_of
    C_signs_in := Cq.C_signs_in
    C_rim_of := Cq.C_rim_of
    C_two_for := Cq.C_two_for
    C_beneath := Cq.C_beneath
    C_upper_rim := Cq.C_upper_rim
    C_piece_beneath := Cq.C_piece_beneath
    C_rim_for := Cq.C_rim_for
    C__law_bag := Cq.C__law_bag
    C__law_stir := Cq.C__law_stir
    C__law_draw := Cq.C__law_draw
    C__law_mixed := Cq.C__law_mixed
    C__law_rim := Cq.C__law_rim
    C__law_seen_two := Cq.C__law_seen_two
    C__law_upper := Cq.C__law_upper
    C_law := Cq.C_law
    O_check_length := Cq.O_check_length
    T_all := He.free_ok X Gn (c.t.d.fact 25 (f := .free "all") rfl)
    T_bool := He.free_ok X Gn (c.t.d.fact 26 (f := .free "bool") rfl)
    T_enumerate := He.free_ok X Gn (c.t.d.fact 27 (f := .free "enumerate") rfl)
    T_int := He.free_ok X Gn (c.t.d.fact 28 (f := .free "int") rfl)
    T_isinstance := He.free_ok X Gn (c.t.d.fact 29 (f := .free "isinstance") rfl)
    T_len := He.free_ok X Gn (c.t.d.fact 30 (f := .free "len") rfl)
    T_list := He.free_ok X Gn (c.t.d.fact 31 (f := .free "list") rfl)
    T_min := He.free_ok X Gn (c.t.d.fact 32 (f := .free "min") rfl)
    T_range := He.free_ok X Gn (c.t.d.fact 33 (f := .free "range") rfl)
    T_set := He.free_ok X Gn (c.t.d.fact 34 (f := .free "set") rfl)
    T_sorted := He.free_ok X Gn (c.t.d.fact 35 (f := .free "sorted") rfl)
    T_str := He.free_ok X Gn (c.t.d.fact 36 (f := .free "str") rfl)
    X_NoNumber := exc_of (gl X Gn (c.t.d.fact 37 (f := .glo "NoNumber") rfl)) (He.exc_ok (c.t.d.fact 38 (f := .exc "NoNumber") rfl))
    X_NoPress := exc_of (gl X Gn (c.t.d.fact 39 (f := .glo "NoPress") rfl)) (He.exc_ok (c.t.d.fact 40 (f := .exc "NoPress") rfl))
    X_NoSeen := exc_of (gl X Gn (c.t.d.fact 41 (f := .glo "NoSeen") rfl)) (He.exc_ok (c.t.d.fact 42 (f := .exc "NoSeen") rfl))
  }
theorem cs_zero (X : K.In h) (Gn : h.Ns mainGlobals mg) (c : Sa w h K) (u : Bool) (cd : Value) : Cs (Gq P w K mg base u cd 0) := by
  obtain ⟨fd_is_whole, F_is_whole⟩ := df_is_whole c
  obtain ⟨fd_is_mark, F_is_mark⟩ := df_is_mark c
  obtain ⟨fd_is_mark_or_none, F_is_mark_or_none⟩ := df_is_mark_or_none c
  obtain ⟨fd_is_rim, F_is_rim⟩ := df_is_rim c
  obtain ⟨fd_is_seen, F_is_seen⟩ := df_is_seen c
  obtain ⟨fd_check_seen, F_check_seen⟩ := df_check_seen c
  obtain ⟨fd_check_length, F_check_length⟩ := df_check_length c
  obtain ⟨fd_checked_rim, F_checked_rim⟩ := df_checked_rim c
  obtain ⟨fd_seen_of, F_seen_of⟩ := df_seen_of c
  obtain ⟨fd_signs_in, F_signs_in⟩ := df_signs_in c
  obtain ⟨fd_rim_of, F_rim_of⟩ := df_rim_of c
  obtain ⟨fd_two_for, F_two_for⟩ := df_two_for c
  obtain ⟨fd_beneath, F_beneath⟩ := df_beneath c
  obtain ⟨fd_upper_rim, F_upper_rim⟩ := df_upper_rim c
  obtain ⟨fd_piece_beneath, F_piece_beneath⟩ := df_piece_beneath c
  obtain ⟨fd_rim_for, F_rim_for⟩ := df_rim_for c
  obtain ⟨fd__law_bag, F__law_bag⟩ := df__law_bag c
  obtain ⟨fd__law_stir, F__law_stir⟩ := df__law_stir c
  obtain ⟨fd__law_draw, F__law_draw⟩ := df__law_draw c
  obtain ⟨fd__law_mixed, F__law_mixed⟩ := df__law_mixed c
  obtain ⟨fd__law_rim, F__law_rim⟩ := df__law_rim c
  obtain ⟨fd__law_seen_two, F__law_seen_two⟩ := df__law_seen_two c
  obtain ⟨fd__law_upper, F__law_upper⟩ := df__law_upper c
  obtain ⟨fd_law, F_law⟩ := df_law c
  exact {
    C_is_whole := cal_zero F_is_whole (gl X Gn (c.t.d.fact 0 (f := .glo "is_whole") rfl)) (bi_is_whole F_is_whole) rfl
    C_is_mark := cal_zero F_is_mark (gl X Gn (c.t.d.fact 1 (f := .glo "is_mark") rfl)) (bi_is_mark F_is_mark) rfl
    C_is_mark_or_none := cal_zero F_is_mark_or_none (gl X Gn (c.t.d.fact 2 (f := .glo "is_mark_or_none") rfl)) (bi_is_mark_or_none F_is_mark_or_none) rfl
    C_is_rim := cal_zero F_is_rim (gl X Gn (c.t.d.fact 3 (f := .glo "is_rim") rfl)) (bi_is_rim F_is_rim) rfl
    C_is_seen := cal_zero F_is_seen (gl X Gn (c.t.d.fact 4 (f := .glo "is_seen") rfl)) (bi_is_seen F_is_seen) rfl
    C_check_seen := cal_zero F_check_seen (gl X Gn (c.t.d.fact 5 (f := .glo "check_seen") rfl)) (bi_check_seen F_check_seen) rfl
    C_check_length := cal_zero F_check_length (gl X Gn (c.t.d.fact 6 (f := .glo "check_length") rfl)) (bi_check_length F_check_length) rfl
    C_checked_rim := cal_zero F_checked_rim (gl X Gn (c.t.d.fact 7 (f := .glo "checked_rim") rfl)) (bi_checked_rim F_checked_rim) rfl
    C_seen_of := cal_zero F_seen_of (gl X Gn (c.t.d.fact 8 (f := .glo "seen_of") rfl)) (bi_seen_of F_seen_of) rfl
    C_signs_in := cal_zero F_signs_in (gl X Gn (c.t.d.fact 9 (f := .glo "signs_in") rfl)) (bi_signs_in F_signs_in) rfl
    C_rim_of := cal_zero F_rim_of (gl X Gn (c.t.d.fact 10 (f := .glo "rim_of") rfl)) (bi_rim_of F_rim_of) rfl
    C_two_for := cal_zero F_two_for (gl X Gn (c.t.d.fact 11 (f := .glo "two_for") rfl)) (bi_two_for F_two_for) rfl
    C_beneath := cal_zero F_beneath (gl X Gn (c.t.d.fact 12 (f := .glo "beneath") rfl)) (bi_beneath F_beneath) rfl
    C_upper_rim := cal_zero F_upper_rim (gl X Gn (c.t.d.fact 13 (f := .glo "upper_rim") rfl)) (bi_upper_rim F_upper_rim) rfl
    C_piece_beneath := cal_zero F_piece_beneath (gl X Gn (c.t.d.fact 14 (f := .glo "piece_beneath") rfl)) (bi_piece_beneath F_piece_beneath) rfl
    C_rim_for := cal_zero F_rim_for (gl X Gn (c.t.d.fact 15 (f := .glo "rim_for") rfl)) (bi_rim_for F_rim_for) rfl
    C__law_bag := cal_zero F__law_bag (gl X Gn (c.t.d.fact 16 (f := .glo "_law_bag") rfl)) (bi__law_bag F__law_bag) rfl
    C__law_stir := cal_zero F__law_stir (gl X Gn (c.t.d.fact 17 (f := .glo "_law_stir") rfl)) (bi__law_stir F__law_stir) rfl
    C__law_draw := cal_zero F__law_draw (gl X Gn (c.t.d.fact 18 (f := .glo "_law_draw") rfl)) (bi__law_draw F__law_draw) rfl
    C__law_mixed := cal_zero F__law_mixed (gl X Gn (c.t.d.fact 19 (f := .glo "_law_mixed") rfl)) (bi__law_mixed F__law_mixed) rfl
    C__law_rim := cal_zero F__law_rim (gl X Gn (c.t.d.fact 20 (f := .glo "_law_rim") rfl)) (bi__law_rim F__law_rim) rfl
    C__law_seen_two := cal_zero F__law_seen_two (gl X Gn (c.t.d.fact 21 (f := .glo "_law_seen_two") rfl)) (bi__law_seen_two F__law_seen_two) rfl
    C__law_upper := cal_zero F__law_upper (gl X Gn (c.t.d.fact 22 (f := .glo "_law_upper") rfl)) (bi__law_upper F__law_upper) rfl
    C_law := cal_zero F_law (gl X Gn (c.t.d.fact 23 (f := .glo "law") rfl)) (bi_law F_law) rfl
    O_check_length := calO_zero F_check_length (gl X Gn (c.t.d.fact 6 (f := .glo "check_length") rfl)) (bo_check_length F_check_length) rfl
  }
theorem cs_succ (X : K.In h) (Gn : h.Ns mainGlobals mg) (c : Sa w h K) (TB : GxR.TabB base mg (He.cT K ("is_rim", none)).1 (Pt K)) {k : Nat} (Fk : ∀ u cd, Fns (Gq P w K mg base u cd k)) (u : Bool) (cd : Value) : Cs (Gq P w K mg base u cd (k + 1)) := by
  have F := Fk false .none
  obtain ⟨fd_is_whole, F_is_whole⟩ := df_is_whole c
  obtain ⟨fd_is_mark, F_is_mark⟩ := df_is_mark c
  obtain ⟨fd_is_mark_or_none, F_is_mark_or_none⟩ := df_is_mark_or_none c
  obtain ⟨fd_is_rim, F_is_rim⟩ := df_is_rim c
  obtain ⟨fd_is_seen, F_is_seen⟩ := df_is_seen c
  obtain ⟨fd_check_seen, F_check_seen⟩ := df_check_seen c
  obtain ⟨fd_check_length, F_check_length⟩ := df_check_length c
  obtain ⟨fd_checked_rim, F_checked_rim⟩ := df_checked_rim c
  obtain ⟨fd_seen_of, F_seen_of⟩ := df_seen_of c
  obtain ⟨fd_signs_in, F_signs_in⟩ := df_signs_in c
  obtain ⟨fd_rim_of, F_rim_of⟩ := df_rim_of c
  obtain ⟨fd_two_for, F_two_for⟩ := df_two_for c
  obtain ⟨fd_beneath, F_beneath⟩ := df_beneath c
  obtain ⟨fd_upper_rim, F_upper_rim⟩ := df_upper_rim c
  obtain ⟨fd_piece_beneath, F_piece_beneath⟩ := df_piece_beneath c
  obtain ⟨fd_rim_for, F_rim_for⟩ := df_rim_for c
  obtain ⟨fd__law_bag, F__law_bag⟩ := df__law_bag c
  obtain ⟨fd__law_stir, F__law_stir⟩ := df__law_stir c
  obtain ⟨fd__law_draw, F__law_draw⟩ := df__law_draw c
  obtain ⟨fd__law_mixed, F__law_mixed⟩ := df__law_mixed c
  obtain ⟨fd__law_rim, F__law_rim⟩ := df__law_rim c
  obtain ⟨fd__law_seen_two, F__law_seen_two⟩ := df__law_seen_two c
  obtain ⟨fd__law_upper, F__law_upper⟩ := df__law_upper c
  obtain ⟨fd_law, F_law⟩ := df_law c
  have L1 := leaf_mark (P := P) (w := w) F_is_mark ⟨F.T_len, F.T_str, F.T_isinstance⟩
  have L2 := leaf_markN (P := P) (w := w) F_is_mark_or_none L1 (gl X Gn (c.t.d.fact 1 (f := .glo "is_mark") rfl)) F_is_mark.kp
  exact {
    C_is_whole := cal_succ F_is_whole (gl X Gn (c.t.d.fact 0 (f := .glo "is_whole") rfl)) (bi_is_whole F_is_whole) sc_is_whole rfl lk_is_whole rfl (rf_is_whole F) (fun h => by cases h)
    C_is_mark := cal_succ F_is_mark (gl X Gn (c.t.d.fact 1 (f := .glo "is_mark") rfl)) (bi_is_mark F_is_mark) sc_is_mark rfl lk_is_mark rfl (rf_is_mark F) (fun h => by cases h)
    C_is_mark_or_none := cal_succ F_is_mark_or_none (gl X Gn (c.t.d.fact 2 (f := .glo "is_mark_or_none") rfl)) (bi_is_mark_or_none F_is_mark_or_none) sc_is_mark_or_none rfl lk_is_mark_or_none rfl (rf_is_mark_or_none F) (fun h => by cases h)
    C_is_rim := cal_succ F_is_rim (gl X Gn (c.t.d.fact 3 (f := .glo "is_rim") rfl)) (bi_is_rim F_is_rim) sc_is_rim rfl lk_is_rim rfl (rf_is_rim (Fk true (.ref (He.cT K ("is_rim", none)).1)) (.head _) rfl rfl TB L2 (gl X Gn (c.t.d.fact 2 (f := .glo "is_mark_or_none") rfl)) F_is_mark_or_none.kp) (fun _ => code_of F_is_rim)
    C_is_seen := cal_succ1 F_is_seen (gl X Gn (c.t.d.fact 4 (f := .glo "is_seen") rfl)) (bi_is_seen F_is_seen) sc_is_seen rfl lk_is_seen rfl (by decide +kernel) (by decide) (rf_is_seen F) (fun h => by cases h)
    C_check_seen := cal_succ F_check_seen (gl X Gn (c.t.d.fact 5 (f := .glo "check_seen") rfl)) (bi_check_seen F_check_seen) sc_check_seen rfl lk_check_seen rfl (rf_check_seen F) (fun h => by cases h)
    C_check_length := cal_succ F_check_length (gl X Gn (c.t.d.fact 6 (f := .glo "check_length") rfl)) (bi_check_length F_check_length) sc_check_length rfl lk_check_length rfl (rf_check_length F) (fun h => by cases h)
    C_checked_rim := cal_succ F_checked_rim (gl X Gn (c.t.d.fact 7 (f := .glo "checked_rim") rfl)) (bi_checked_rim F_checked_rim) sc_checked_rim rfl lk_checked_rim rfl (rf_checked_rim F) (fun h => by cases h)
    C_seen_of := cal_succ1 F_seen_of (gl X Gn (c.t.d.fact 8 (f := .glo "seen_of") rfl)) (bi_seen_of F_seen_of) sc_seen_of rfl lk_seen_of rfl (by decide +kernel) (by decide) (rf_seen_of F) (fun h => by cases h)
    C_signs_in := cal_succ F_signs_in (gl X Gn (c.t.d.fact 9 (f := .glo "signs_in") rfl)) (bi_signs_in F_signs_in) sc_signs_in rfl lk_signs_in rfl (rf_signs_in F) (fun h => by cases h)
    C_rim_of := cal_succ F_rim_of (gl X Gn (c.t.d.fact 10 (f := .glo "rim_of") rfl)) (bi_rim_of F_rim_of) sc_rim_of rfl lk_rim_of rfl (rf_rim_of F) (fun h => by cases h)
    C_two_for := cal_succ F_two_for (gl X Gn (c.t.d.fact 11 (f := .glo "two_for") rfl)) (bi_two_for F_two_for) sc_two_for rfl lk_two_for rfl (rf_two_for F) (fun h => by cases h)
    C_beneath := cal_succ F_beneath (gl X Gn (c.t.d.fact 12 (f := .glo "beneath") rfl)) (bi_beneath F_beneath) sc_beneath rfl lk_beneath rfl (rf_beneath F) (fun h => by cases h)
    C_upper_rim := cal_succ F_upper_rim (gl X Gn (c.t.d.fact 13 (f := .glo "upper_rim") rfl)) (bi_upper_rim F_upper_rim) sc_upper_rim rfl lk_upper_rim rfl (rf_upper_rim F) (fun h => by cases h)
    C_piece_beneath := cal_succ F_piece_beneath (gl X Gn (c.t.d.fact 14 (f := .glo "piece_beneath") rfl)) (bi_piece_beneath F_piece_beneath) sc_piece_beneath rfl lk_piece_beneath rfl (rf_piece_beneath F) (fun h => by cases h)
    C_rim_for := cal_succ F_rim_for (gl X Gn (c.t.d.fact 15 (f := .glo "rim_for") rfl)) (bi_rim_for F_rim_for) sc_rim_for rfl lk_rim_for rfl (rf_rim_for F) (fun h => by cases h)
    C__law_bag := cal_succ F__law_bag (gl X Gn (c.t.d.fact 16 (f := .glo "_law_bag") rfl)) (bi__law_bag F__law_bag) sc__law_bag rfl lk__law_bag rfl (rf__law_bag F) (fun h => by cases h)
    C__law_stir := cal_succ F__law_stir (gl X Gn (c.t.d.fact 17 (f := .glo "_law_stir") rfl)) (bi__law_stir F__law_stir) sc__law_stir rfl lk__law_stir rfl (rf__law_stir F) (fun h => by cases h)
    C__law_draw := cal_succ F__law_draw (gl X Gn (c.t.d.fact 18 (f := .glo "_law_draw") rfl)) (bi__law_draw F__law_draw) sc__law_draw rfl lk__law_draw rfl (rf__law_draw F) (fun h => by cases h)
    C__law_mixed := cal_succ F__law_mixed (gl X Gn (c.t.d.fact 19 (f := .glo "_law_mixed") rfl)) (bi__law_mixed F__law_mixed) sc__law_mixed rfl lk__law_mixed rfl (rf__law_mixed F) (fun h => by cases h)
    C__law_rim := cal_succ F__law_rim (gl X Gn (c.t.d.fact 20 (f := .glo "_law_rim") rfl)) (bi__law_rim F__law_rim) sc__law_rim rfl lk__law_rim rfl (rf__law_rim F) (fun h => by cases h)
    C__law_seen_two := cal_succ F__law_seen_two (gl X Gn (c.t.d.fact 21 (f := .glo "_law_seen_two") rfl)) (bi__law_seen_two F__law_seen_two) sc__law_seen_two rfl lk__law_seen_two rfl (rf__law_seen_two F) (fun h => by cases h)
    C__law_upper := cal_succ1 F__law_upper (gl X Gn (c.t.d.fact 22 (f := .glo "_law_upper") rfl)) (bi__law_upper F__law_upper) sc__law_upper rfl lk__law_upper rfl (by decide +kernel) (by decide) (rf__law_upper F) (fun h => by cases h)
    C_law := cal_succ1 F_law (gl X Gn (c.t.d.fact 23 (f := .glo "law") rfl)) (bi_law F_law) sc_law rfl lk_law rfl (by decide +kernel) (by decide) (rf_law F) (fun h => by cases h)
    O_check_length := calO_succ F_check_length (gl X Gn (c.t.d.fact 6 (f := .glo "check_length") rfl)) (bo_check_length F_check_length) sc_check_length rfl lk_check_length rfl (rf_check_length F) (fun h => by cases h)
  }
theorem fns (X : K.In h) (Gn : h.Ns mainGlobals mg) (c : Sa w h K) (TB : GxR.TabB base mg (He.cT K ("is_rim", none)).1 (Pt K)) : ∀ (k : Nat) (u : Bool) (cd : Value), Fns (Gq P w K mg base u cd k)
  | 0, u, cd => fns_of X Gn c (cs_zero X Gn c u cd)
  | k + 1, u, cd => fns_of X Gn c (cs_succ X Gn c TB (fns X Gn c TB k) u cd)
end
end Hd

set_option Elab.async false
set_option linter.all false
set_option maxRecDepth 100000
set_option maxHeartbeats 4000000
set_option autoImplicit false
namespace Hd
open PySem PySem.Spec PyProof.Rows L2 Kx Dn Dn.L58
section
variable {P : Program} {w : World} {K : PySem.W.Frag} {mg : Str → Option Value} {h : Heap}
theorem no_list (c : Sa w h K) {a : Addr} : ∀ o its n, K.lookup a = some o → o.cls = .type "list" → o.dict = none → o.data = .seq its n → False := by
  intro o its n h1 h2 h3 h4
  have hm : more K = true := c.more
  unfold more at hm
  have hn := hm
  have := List.all_eq_true.mp hn _ (He.lookup_mem h1)
  obtain ⟨oc, od, dt, sl⟩ := o
  subst h2 h3 h4
  cases this
theorem at_law {l : PySem.W.OpenLaw} {fa : Addr} (hl : l.prog = P) (X : K.In h) (Gn : h.Ns mainGlobals mg) (c : Sa w h K) (hfa : mg ("law" : Str) = some (.ref fa)) (hp : Pure bod 30) : LamX.LawAtS l w K (L2.CX P w) (2 * 30) 63 "script" mg fa h := by
  subst hl
  obtain ⟨fd, F⟩ := df_law c
  have e := hfa.symm.trans (gl X Gn (c.t.d.fact 23 (f := .glo "law") rfl))
  cases e
  have b := FunD.bindsA (ps := ["script"]) F fun _ _ _ _ _ _ us hl => match us, hl with | [_], _ => rfl
  refine ⟨fd, [He.cT K ("is_rim", none)], spD (Gq l.prog w K mg h false .none 30) 1 (den bod 30 "law"), fun p hp => ?_, fun p hp => ?_, fun p hp => ?_, fun s v => b s [v] rfl, fun H a ns hl _ hT hS => end_ok hl (no_list c) hS (hT _ (.head _)) hp, fun base Kb Nb hTB => ?_⟩
  · cases hp with
    | head => exact c.empty _ (.head _)
    | tail _ m => cases m
  · cases hp with
    | head => exact c.out _ (.head _)
    | tail _ m => cases m
  · cases hp with
    | head => exact PySem.W.codeHd_of_K X (c.hd _ (.head _))
    | tail _ m => cases m
  · have TB := hTB _ (.head _)
    exact fn_succ1 (u := false) (cd := .none) (k := 29) F sc_law rfl lk_law rfl (by decide +kernel) (by decide) (rf_law (fns X Gn c ⟨TB.code, TB.bm, TB.gP⟩ 29 false .none)) (fun h => by cases h)
end
end Hd
open PySem PySem.W PySem.Calls PyProof.Rows
theorem rimprints_k58_whole_two_by_one_and_benea_if (hp : Dn.Pure Dn.L58.bod 30) : PySem.Challenge.rw_rimprints_k58_whole_two_by_one_and_benea.Holds := by
  w_on; o_law
  refine HandSHeadRun.head_imp (r := OpenLaw.row PySem.Challenge.rw_rimprints_k58_whole_two_by_one_and_benea) (q := Hd.qv) (H := Hd.hk) (ob := Hd.ob) (M := 6000) (loose := Hd.loose.drop 0) (d := HandSHeadRun.topDef (OpenLaw.row PySem.Challenge.rw_rimprints_k58_whole_two_by_one_and_benea).prog 35) (kwd := []) Hd.ob_eq
    Hd.run (by kernel_rfl) (by kernel_rfl) (by kernel_rfl) (by rfl) (by first | assumption | decide +kernel) (by decide +kernel) ⟨rfl, rfl, rfl, rfl, rfl, by decide +kernel⟩ ?hw ?hc
  case hw => w_witness2
  case hc =>
    refine LamX.walk_ofTsE (l := PySem.Challenge.rw_rimprints_k58_whole_two_by_one_and_benea) (n := 63) (k := 2 * 30) (x := "script") (CX := fun w => L2.CX PySem.Challenge.rw_rimprints_k58_whole_two_by_one_and_benea.prog w) rfl (by decide) (by kernel_rfl) ⟨rfl, by decide, by decide⟩ ?F ?CX
    · intro w mg fa h Y G hmg0
      obtain ⟨K, KX, c⟩ := Y
      have hmg : mg ("law" : PySem.Str) = some (.ref fa) := by
        have e : (HandSHeadRun.topDef (OpenLaw.row PySem.Challenge.rw_rimprints_k58_whole_two_by_one_and_benea).prog 35).name = ("law" : PySem.Str) := by kernel_rfl
        rw [← e]
        exact hmg0
      exact ⟨K, KX, Hd.at_law rfl KX G c hmg hp⟩
    · intro w H s e s' h
      obtain ⟨_, _, _, _, _, _, _, _, _, _, hh⟩ := h
      first | exact hh.2 | exact hh.1 | exact hh | exact hh.2.2 | (simp at hh)

set_option maxRecDepth 100000 in
set_option maxHeartbeats 4000000 in
theorem PySem.Challenge.cw_rimprints_k58_whole_two_by_one_and_benea_holds : PySem.Challenge.rw_rimprints_k58_whole_two_by_one_and_benea.Holds := by
  exact rimprints_k58_whole_two_by_one_and_benea_if Dn.L58.pure58
