import PyProof.Rows.All
import Wide.All
import OpenK.AllK
import Wide.FinOn
import KE.KStateDown
import Lean
import HandS.ForMost
import HandS.Exc
import HandS.ExcInit
import HandS.ExcField
import HandS.ExcIs
import HandS.TryMany
import HandS.IsInst
import HandS.Walk
import HandS.Wide
import HandS.StrMore
import HandS.FStr
import HandS.Conv
import HandS.WordsExc
import HandS.Defaults
import HandS.Flow
import HandS.HeadHook2
import KE.GoesEnum
import PyProof.ReprRoads
import HandS.More
import HandS.ExcOwn
import KE.IntTextLaws
import KE.KIntText
import HandS.Text
import KE.IntTextText
import HandS.Head0
import HandS.Head1
import HandS.Head2
import HandS.HeadHook1
import HandS.Ends
import HandS.HeadEnd
import PySem.Challenge.RW_clashborn_k00_kinds_checker_lines
set_option Elab.async false
set_option linter.all false
set_option maxRecDepth 100000
set_option maxHeartbeats 0
namespace V0
open PySem PySem.Spec PyProof.Rows L2
/-! ### the text and its defs -/
def topS (i : Nat) : Stmt := PySem.Challenge.pw_clashborn_k00_kinds_checker_lines.main.body.getD i (.Pass ⟨0, 0, 0, 0⟩)
abbrev FnP (K : PySem.W.Frag) (x : Str) (st : Stmt) (f : Addr) (fd : FuncData) : Prop := FunD K x x (defArgs st) (defBody st) (defScope st) [] [] f fd
/-- a def of the text, by its name, with its promise -/
structure Df (P : Program) (w : World) (K : PySem.W.Frag) (mg : Str → Option Value) (base : Heap) (CX : CXT) (k : Nat) (x : Str) (st : Stmt) (ps : List Str) (sp : Sp) : Prop where
  ex : ∃ (f : Addr) (fd : FuncData), FnOk P w K mg base CX k f fd ps sp ∧ mg x = some (.ref f) ∧ PySem.W.keepIn K (.ref f) = true ∧ Binds K fd ps [] ∧ FnP K x st f fd
/-- what the top has left of a def -/
def Has (K : PySem.W.Frag) (mg : Str → Option Value) (x : Str) (st : Stmt) : Prop := ∃ (f : Addr) (fd : FuncData), mg x = some (.ref f) ∧ FnP K x st f fd
section
variable {X : Cx} {CX : CXT} {k : Nat} {st : Stmt} {ps : List Str} {sp : Sp} {E : XK} {x : Str} {p pos : Pos} {e : Expr} {es : List Expr} {t : TA}
theorem pe_df (G : Df X.prog X.w X.K X.mg X.base CX k x st ps sp) (hr : Room k X.A) (hg : Gl X x) (hx : Passes CX X E)
    (ha : PA X (e :: es) t) (hdb : (x == ("__debug__" : Str)) = false := by decide) (he : starEach (e :: es) X.env = (false, eval e X.env) :: starEach es X.env := by rfl) (hpl : (backTo pos (starEach es X.env)).any (·.1) = false := by rfl) :
    PE X (.Call (.Name x p) (e :: es) [] pos) (tCall sp [] E t) := by
  obtain ⟨f, fd, F, hm, hk, hb, _⟩ := G.ex
  exact pe_call F hr hg hm hk hb .nil hx ha hdb he hpl
theorem pe_df0 (G : Df X.prog X.w X.K X.mg X.base CX k x st ps sp) (hr : Room k X.A) (hg : Gl X x) (hx : Passes CX X E)
    (hdb : (x == ("__debug__" : Str)) = false := by decide) :
    PE X (.Call (.Name x p) [] [] pos) (tCall sp [] E tNil) := by
  obtain ⟨f, fd, F, hm, hk, hb, _⟩ := G.ex
  exact pe_call0 F hr hg hm hk hb .nil hx hdb
end
section
variable {P : Program} {w : World} {K : PySem.W.Frag} {mg : Str → Option Value} {base : Heap}
/-- a def that lets nothing out -/
theorem df_mk {x : Str} {st : Stmt} {N ps : List Str} {k : Nat} {sp : Sp} (F : Has K mg x st) (S : FnScope N ps (defScope st)) (len : ∀ vs H Q E, sp vs H Q E → vs.length = ps.length)
    (hb : ∀ (kV doc pm : Value) (an : Option Addr) (cdv ct : Value) (us : List Value), us.length = ps.length → bindArgs (PySem.W.fnOf x x (defArgs st) (defBody st) (defScope st) .none kV doc pm an cdv ct) ⟨us, []⟩ = pure (ps.zip us))
    (hbody : ∀ (f : Addr) (cdv : Value) (A : Around) (outer : List Env) (s : Shared) (H : Hp) (vs : List V) (Q : VK) (E : XK), Room k (A.deeper (envOfC x (defScope st) s.heap.objs.size f cdv)) → sp vs H Q E →
      ∃ t, PSs (cxOf CX0 P w K mg base N x (defScope st) f cdv A outer s H E).nox (defBody st) t ∧ t { nx := fun _ H' => Q .non H', rt := Q } (start N vs) H) : Df P w K mg base CX0 (k + 1) x st ps sp := by
  obtain ⟨f, fd, hm, F⟩ := F
  refine ⟨f, fd, F.ok S len fun cdv A outer s H vs Q E hr h => ?_, hm, F.kp, F.bindsN hb, F⟩
  obtain ⟨t, h1, h2⟩ := hbody f cdv A outer s H vs Q E hr h
  exact ⟨t, h1.nox, h2⟩
/-- a def that may raise -/
theorem df_mkX {x : Str} {st : Stmt} {N ps : List Str} {k : Nat} {sp : Sp} (F : Has K mg x st) (S : FnScope N ps (defScope st)) (len : ∀ vs H Q E, sp vs H Q E → vs.length = ps.length)
    (hb : ∀ (kV doc pm : Value) (an : Option Addr) (cdv ct : Value) (us : List Value), us.length = ps.length → bindArgs (PySem.W.fnOf x x (defArgs st) (defBody st) (defScope st) .none kV doc pm an cdv ct) ⟨us, []⟩ = pure (ps.zip us))
    (hbody : ∀ (f : Addr) (cdv : Value) (A : Around) (outer : List Env) (s : Shared) (H : Hp) (vs : List V) (Q : VK) (E : XK), Room k (A.deeper (envOfC x (defScope st) s.heap.objs.size f cdv)) → sp vs H Q E →
      ∃ t, PSs (cxOf (L2.CX P w) P w K mg base N x (defScope st) f cdv A outer s H E) (defBody st) t ∧ t { nx := fun _ H' => Q .non H', rt := Q } (start N vs) H) : Df P w K mg base (L2.CX P w) (k + 1) x st ps sp := by
  obtain ⟨f, fd, hm, F⟩ := F
  exact ⟨f, fd, F.ok S len fun cdv A outer s H vs Q E hr h => hbody f cdv A outer s H vs Q E hr h, hm, F.kp, F.bindsN hb, F⟩
end
/-! ### a text of one sign times a number -/
/-- a text by its list of signs -/
def tx (l : List Nat) : Str := ⟨l.toArray⟩
theorem tx_len (l : List Nat) : (tx l).length = l.length := by
  show l.toArray.size = _
  simp
theorem tx_app (a b : List Nat) : tx a ++ tx b = tx (a ++ b) := by
  show (⟨a.toArray ++ b.toArray⟩ : Str) = ⟨(a ++ b).toArray⟩
  simp
theorem tx_inj {a b : List Nat} (h : tx a = tx b) : a = b := by
  have h1 : a.toArray = b.toArray := congrArg Str.cps h
  simpa using h1
theorem tx_of (s : Str) : s = tx s.cps.toList := by
  obtain ⟨a⟩ := s
  show (⟨a⟩ : Str) = ⟨a.toList.toArray⟩
  simp
theorem rep_fold (c : Nat) : ∀ (m : Nat) (acc : Array Nat), (List.replicate m (#[c] : Array Nat)).foldl (· ++ ·) acc = acc ++ (List.replicate m c).toArray
  | 0, acc => by simp
  | m + 1, acc => by
    rw [List.replicate_succ, List.foldl_cons, rep_fold c m, List.replicate_succ]
    apply Array.ext'
    simp
def rRepS : R2 := fun x y H Q => ∃ (c : Nat) (n : Int), x = .str (tx [c]) ∧ y = .int n ∧ n ≤ 100000 ∧ -100000 ≤ n ∧ Q (.str (tx (List.replicate n.toNat c))) H
theorem op_repS {X : Cx} : OpR X (binaryOp .Mult) rRepS := by
  intro pins s σ H x y v u Q I rx ry h
  obtain ⟨c, n, rfl, rfl, hn, hm, q⟩ := h
  obtain ⟨t, rfl⟩ := rx
  obtain ⟨t', rfl⟩ := ry
  have l1 : (tx [c]).length = 1 := tx_len _
  refine PySem.P.mul_str (by
    have a : decide (n < -(2 ^ 63 : Int)) = false := decide_eq_false (by omega)
    have b : decide (n ≥ (2 : Int) ^ 63) = false := decide_eq_false (by omega)
    rw [a, b]
    rfl) (fun h1 _ => by
      rw [l1]
      have h2 : (0 : Int) < n := by omega
      have h3 : (1 : Int) * n ≤ 2 ^ 63 - 1 := by omega
      have h4 := (Int.le_ediv_iff_mul_le h2).mpr h3
      omega) (fun h1 _ => by
      rw [l1]
      show decide (_ > sizeLine) = false
      refine decide_eq_false ?_
      rw [sizeLine_eq]
      omega) ?_
  by_cases h1 : n < 1
  · rw [if_pos h1]
    have e : n.toNat = 0 := by omega
    rw [e] at q
    exact ⟨by decide, .str (tx []), H, I.tok _, ⟨_, rfl⟩, q⟩
  · rw [if_neg h1]
    by_cases h2 : (n == 1 || (tx [c]).length == 0) = true
    · rw [if_pos h2]
      have h3 : n = 1 := by
        rw [l1] at h2
        simpa using h2
      subst h3
      exact ⟨.str (tx [c]), H, I, ⟨_, rfl⟩, q⟩
    · rw [if_neg h2]
      have e : (List.replicate n.toNat (tx [c]).cps).foldl (· ++ ·) #[] = (List.replicate n.toNat c).toArray := by
        show (List.replicate n.toNat (#[c] : Array Nat)).foldl (· ++ ·) #[] = _
        rw [rep_fold]
        simp
      rw [e]
      refine ⟨?_, .str (tx (List.replicate n.toNat c)), H, I.tok _, ⟨_, rfl⟩, q⟩
      show (List.replicate n.toNat c).toArray.size ≤ sizeLine
      rw [sizeLine_eq]
      simp
      omega
/-! ### a call with keywords alone -/
section
variable {X : Cx} {CX : CXT} {k : Nat} {st : Stmt} {ps ks : List Str} {sp : Sp} {E : XK} {x : Str} {p pos : Pos} {kws : List Keyword} {tk : TA} {g : List Value → List Value → List Value} {gV : List V → List V → List V}
theorem pe_kw0 {f : Addr} {fd : FuncData} (F : FnOk X.prog X.w X.K X.mg X.base CX k f fd ps sp) (hr : Room k X.A) (hg : Gl X x) (hm : X.mg x = some (.ref f)) (hk : PySem.W.keepIn X.K (.ref f) = true) (hb : KBn X.K fd ps 0 ks g gV) (hx : Passes CX X E) (hkw : PK X kws tk)
    (hall : (backToKw pos (keywordEach kws X.env)).all (·.1.isSome) = true := by rfl) (hks : (backToKw pos (keywordEach kws X.env)).filterMap (·.1) = ks := by rfl) (hdb : (x == ("__debug__" : Str)) = false := by decide)
    (hpl : ((backTo pos (starEach [] X.env)).any (·.1) || (backToKw pos (keywordEach kws X.env)).any (·.1.isNone)) = false := by rfl) :
    PE X (.Call (.Name x p) [] kws pos) (tCallN 0 ks.length sp gV E tNil tk) := by
  refine ⟨fun pins s σ H Q I h => ?_⟩
  refine wpAny_Call_Name_kw (ld_glob I hg hm ?_ hdb)
  refine PySem.W.callWith_KW0 (h₀ := X.base) I.ok.mod.kin hk hall ?_ hpl
  refine thn (hkw.run pos pins s σ H _ I h) fun ws s2 ⟨zs, H2, I2, rz, l1, l2, q2⟩ => ⟨I2.kIn, ?_⟩
  rw [hks]
  exact run_fnN (us := []) (vs := []) F hr hb hx I2 .nil rz rfl l2 q2
end
end V0
namespace V0
open PySem PySem.Spec PyProof.Rows L2
/-! ### enumerate of a tuple, of a text -/
section
variable {prog : Program} {w : World} {A : Around} {E : Value → Shared → Prop} {s : Shared}
theorem new_enum1 {v : Value} {o : Obj} {B : Heap → Prop} (b : Begins v o B) :
    Meets (Builtin.«enumerate.__new__» ⟨[.type "enumerate", v], []⟩) (fun _ R z => B z.heap ∧
      R (.ok (.ret (.ref (z.heap.push o).objs.size))) { z with heap := (z.heap.push o).push { cls := .type "enumerate", data := .fields #[.none, .bool false, .ref z.heap.objs.size, rawInt 0, .none, .none] } }) :=
  .of_wp fun prog w A R z hz => by
    obtain ⟨hp, gs, dn, tk, os'⟩ := z
    obtain ⟨hB, hz⟩ := hz
    have subE := sub_enumerate
    have it1 : ∀ {A2 : Around} {E2 : Value → Shared → Prop} {Q2 : Value → Shared → Prop}, Q2 (.ref hp.objs.size) ⟨hp.push o, gs, dn, tk, os'⟩ → wpAny (model prog w) A2 (pyIter v) Q2 E2 ⟨hp, gs, dn, tk, os'⟩ :=
      fun q2 => b.iter prog w _ _ ⟨hp, gs, dn, tk, os'⟩ _ hB q2
    wp_walk using it1
    refine wpAny_stack_any fun st => wpAny_pure ?_
    split
    · rename_i c _ _ _ _ _
      cases (c == Value.type "enumerate") <;> (wp_walk using it1; exact ⟨_, rfl, hz⟩)
    · wp_walk using it1
      exact ⟨_, rfl, hz⟩
theorem enum1_call {v : Value} {o : Obj} {B : Heap → Prop} {Q : Value → Shared → Prop} (b : Begins v o B) (hB : B s.heap)
    (h : ∀ g, IsEnum g (s.heap.objs.size + 1) s.heap.objs.size 0 .none → g.get? s.heap.objs.size = some o → (∀ c u, s.heap.get? c = some u → g.get? c = some u) → Q (.ref (s.heap.objs.size + 1)) { s with heap := g }) :
    wpAny (model prog w) A (call (.type "enumerate") [v]) Q E s := by
  refine callType_new F.called_enumerate (by decide) (F.typeCall_enumerate_1 _) (F.newCall_enumerate_1 _) (fun obj => F.args_object_init_2 obj _) F.entry_enumerate_new (new_enum1 b) ⟨hB, ?_⟩
  have sz : (s.heap.push o).objs.size = s.heap.objs.size + 1 := Heap.size_push ..
  show _ ∧ _
  rw [sz]
  have isE : IsEnum ((s.heap.push o).push { cls := .type "enumerate", data := .fields #[.none, .bool false, .ref s.heap.objs.size, rawInt 0, .none, .none] }) (s.heap.objs.size + 1) s.heap.objs.size 0 .none := by
    have z := Heap.get?_push_size (s.heap.push o) (o := { cls := .type "enumerate", data := .fields #[.none, .bool false, .ref s.heap.objs.size, rawInt 0, .none, .none] }) rfl
    rw [sz] at z
    exact z
  exact ⟨⟨_, isE, rfl⟩, h _ isE (Heap.get?_push_of_some _ (Heap.get?_push_size _ b.free)) fun c u x => Heap.get?_push_of_some _ (Heap.get?_push_of_some _ x)⟩
end
/-- the tuple at a, each item in a new pair with its number -/
def Itu (K : PySem.W.Frag) (a : Addr) : It :=
  ⟨fun i H => ∃ (ys : List V) (y : V), SqT K H a ys ∧ ys[i]? = some y, fun i H v H' => ∃ T y, v = .ref T ∧ H T = none ∧ H' = upd H T (.tup [.int (i : Nat), y]) ∧ ∀ ys, SqT K H a ys → ys[i]? = some y, fun i H => ∃ ys : List V, SqT K H a ys ∧ ys.length ≤ i⟩
/-- a text, each sign in a new pair with its number -/
def Itw (x : Str) : It :=
  ⟨fun i _ => i < x.cps.size, fun i H v H' => ∃ (T : Addr) (c : Nat), v = .ref T ∧ H T = none ∧ H' = upd H T (.tup [.int (i : Nat), .str (tx [c])]) ∧ x.cps[i]? = some c, fun i _ => x.cps.size ≤ i⟩
/-- one turn: what is drawn comes in a new pair -/
theorem enum_go {X : Cx} {pins : List (Addr × Obj)} {s : Shared} {σ : L2.St} {H : Hp} {E : Value → Shared → Prop} {e it : Addr} {fp : List Addr} {n i : Nat} {P : Nat → Value → Prop} {St : Nat → Heap → Prop} {old : Value} {y : V} {elts : List Expr} {kk : Nat} {tpos : Pos} {R : V → Hp → Shared → Prop}
    (I : Inv X pins σ H s) (ff : ∀ b ∈ [e, it], FpOk X pins H b) (D : Draws X.prog X.w X.A.in1 it fp n P St) (en : IsEnum s.heap e it ((i : Nat) : Int) old) (st : St i s.heap) (lt : i < n) (ne : e ≠ it) (nf : e ∉ fp) (ry : ∀ u, P i u → RelV y u)
    (fin : ∀ T g tk, H T = none → Inv X pins σ (upd H T (.tup [.int (i : Nat), y])) { s with heap := g, toks := tk } → (∃ x, IsEnum g e it ((i + 1 : Nat) : Int) x) → St (i + 1) g → (∀ b ∈ [e, it], upd H T (.tup [.int (i : Nat), y]) b = none) → R (.ref T) (upd H T (.tup [.int (i : Nat), y])) { s with heap := g, toks := tk }) :
    wpAny (model X.prog X.w) X.A (pyNext (.ref e)) (fun r s1 => ∃ u, r = some u ∧ wpAny (model X.prog X.w) X.A (letOwnedTupleGo (.Tuple elts kk tpos) (.ref e) u) (fun _ s2 => ∃ x H', RelV x u ∧ R x H' s2) E s1) E s := by
  have lt_e : e < s.heap.objs.size := Heap.lt_size en
  have lt_i : it < s.heap.objs.size := by
    obtain ⟨oi, q⟩ := D.live i _ st
    exact Heap.lt_size q
  refine wpAny_pyNext_enum_itemD D en st lt ne nf fun u g tk hP out st' hT sz kp => ?_
  refine ⟨_, rfl, wpAny_letOwnedTupleGo_enum (s := { s with heap := g, toks := tk + 1 }) out fun g2 en2 sb => ?_⟩
  have tup2 : g2.get? s.heap.objs.size = some { cls := .type "tuple", data := .seq #[.int i tk, u] } := (sb.2 _ (Nat.ne_of_gt lt_e)).trans hT
  have ok2 : ObjOk X.prog X.w (upd H s.heap.objs.size (.tup [.int (i : Nat), y])) g2 s.heap.objs.size (.tup [.int (i : Nat), y]) :=
    ⟨by show 2 ≤ sizeLine; decide, [.int i tk, u], .cons ⟨_, rfl⟩ (.cons (ry u hP) .nil), ⟨_, tup2, rfl, _, rfl⟩⟩
  have fr : H s.heap.objs.size = none := I.hok.fresh (Nat.le_refl _)
  have J : Inv X pins σ (upd H s.heap.objs.size (.tup [.int (i : Nat), y])) { s with heap := g2, toks := tk + 1 } :=
    I.turnedNew (ch := [e, it]) (fun b ob nb q => (sb.2 b (fun z => nb (by simp [z]))).trans (kp b ob (fun z => nb (by simp [z])) (fun z => nb (by simp [z])) q)) ff (Nat.le_refl _) ok2
  refine ⟨.ref s.heap.objs.size, _, rfl, fin _ g2 (tk + 1) fr J ⟨u, ?_⟩ (D.frame _ _ _ st' fun b hb o q => (sb.2 b fun z => nf (z ▸ hb)).trans q) fun b hb => ?_⟩
  · have e1 : ((i + 1 : Nat) : Int) = (i : Int) + 1 := by omega
    rw [e1]
    exact en2
  · have lb : b < s.heap.objs.size := by
      rcases List.mem_cons.mp hb with z | z
      · rw [z]
        exact lt_e
      · rw [List.mem_singleton.mp z]
        exact lt_i
    rw [upd_ne (Nat.ne_of_lt lb)]
    exact (ff b hb).1
theorem turn_enumT {P : Program} {w : World} {K : PySem.W.Frag} {elts : List Expr} {kk : Nat} {tpos : Pos} (a e it : Addr) :
    Turn P w K (.Tuple elts kk tpos) (Itu K a) [e, it] e (fun i h => (∃ old, IsEnum h e it ((i : Nat) : Int) old) ∧ h.IsTupleIter it a i ∧ e ≠ it) where
  mem := by simp
  obj := fun i h st b hb => by
    obtain ⟨⟨old, q1⟩, ⟨o, q2, q3, q4⟩, _⟩ := st
    rcases List.mem_cons.mp hb with z | z
    · rw [z]
      exact ⟨_, q1, fun v q => nomatch q⟩
    · rw [List.mem_singleton.mp z]
      exact ⟨o, q2, fun v q => by rw [q4] at q; cases q⟩
  keep := fun i h h' st k => by
    obtain ⟨⟨old, q1⟩, q2, q3⟩ := st
    exact ⟨⟨old, k e (by simp) _ q1⟩, q2.at fun o q => k it (by simp) o q, q3⟩
  item := by
    intro X hP hw hK hc i pins s σ H E I ff st hg
    subst hP hw hK
    obtain ⟨⟨old, en⟩, iti, ne⟩ := st
    obtain ⟨ys, y, hq, hy⟩ := hg
    obtain ⟨its, rv, isT, hz⟩ := I.tuple hq
    obtain ⟨u, hu, ru⟩ := rv.get hy
    have isT2 : s.heap.IsTuple a its.toArray := isT
    have na : e ≠ a := fun z => by
      obtain ⟨o, q1, q2, _⟩ := isT2
      have en' : s.heap.get? a = some _ := z ▸ en
      rw [en'] at q1
      cases q1
      exact absurd (Value.type.inj q2) (by decide)
    have nt : a ≠ it := fun z => by
      obtain ⟨o, q1, q2, _⟩ := isT2
      obtain ⟨o', r1, r2, _⟩ := iti
      rw [z, r1] at q1
      cases q1
      rw [r2] at q2
      exact absurd (Value.type.inj q2) (by decide)
    have lt : i < its.toArray.size := by
      have := (List.getElem?_eq_some_iff.mp hu).1
      simpa using this
    refine wpAny_mono (enum_go (elts := elts) (kk := kk) (tpos := tpos) (R := fun x H' s2 => Inv X pins σ H' s2 ∧ (Itu X.K a).yld i H x H' ∧ ((∃ old, IsEnum s2.heap e it ((i + 1 : Nat) : Int) old) ∧ s2.heap.IsTupleIter it a (i + 1) ∧ e ≠ it) ∧ ∀ b ∈ [e, it], H' b = none) (y := y) I ff
      (Draws.tuple (show X.A.in1.handled = none from I.ok.hd hc) it a nt its.toArray) en ⟨iti, isT2⟩ lt ne (by simp [ne, na]) (fun v hv => ?_) (fun T g tk hT J x st' hb => ?_)) (fun r s1 q => ?_) (fun _ _ q => q)
    · have e1 : its[i]? = some v := by simpa using hv
      rw [hu] at e1
      cases e1
      exact ru
    · exact ⟨J, ⟨T, y, rfl, hT, rfl, fun zs hz' => by rw [I.tuple_inj hz' hq]; exact hy⟩, ⟨x, st'.1, ne⟩, hb⟩
    · obtain ⟨v, hv, q⟩ := q
      exact ⟨v, hv, wpAny_mono q (fun _ s2 ⟨x, H', rx, J, yl, tn, hb⟩ => ⟨x, H', J, rx, yl, tn, hb⟩) fun _ _ z => z⟩
  done := by
    intro X hP hw hK hc i pins s σ H E I ff st hg
    subst hP hw hK
    obtain ⟨⟨old, en⟩, iti, ne⟩ := st
    obtain ⟨ys, hq, hy⟩ := hg
    obtain ⟨its, rv, isT, hz⟩ := I.tuple hq
    have isT2 : s.heap.IsTuple a its.toArray := isT
    have nt : a ≠ it := fun z => by
      obtain ⟨o, q1, q2, _⟩ := isT2
      obtain ⟨o', r1, r2, _⟩ := iti
      rw [z, r1] at q1
      cases q1
      rw [r2] at q2
      exact absurd (Value.type.inj q2) (by decide)
    obtain ⟨f0, f1, f2, f3, f4, f5⟩ := ff it (by simp)
    have el : its.toArray.size ≤ i := by
      have := rv.length
      simp
      omega
    have D : Draws X.prog X.w X.A.in1 it [it, a] i (fun _ _ => False) (fun j h => j = i ∧ h.IsTupleIter it a i ∧ h.IsTuple a its.toArray) :=
      { live := fun j h st => by
          obtain ⟨o, q, _⟩ := st.2.1
          exact ⟨o, q⟩
        frame := fun j h h' st k => ⟨st.1, st.2.1.at fun o q => k it (by simp) o q, st.2.2.at fun o q => k a (by simp) o q⟩
        item := fun j s Q E lt st _ => absurd st.1 (Nat.ne_of_lt lt)
        done := fun s Q E st hE => wpAny_nextOf_tuple_end (show X.A.in1.handled = none from I.ok.hd hc) st.2.1 st.2.2 (Array.getElem?_eq_none el) hE }
    exact wpAny_pyNext_enum_endD D en ⟨rfl, iti, isT2⟩ fun g xb => ⟨rfl, I.turned (t' := s.toks) (fun b o nb q => xb b o nb q) f0 f1 f3 f4 f5⟩
  self := fun A i s Q E st h => by
    obtain ⟨⟨_, en⟩, _⟩ := st
    exact wpAny_pyIter_enum en h
theorem turn_enumS {P : Program} {w : World} {K : PySem.W.Frag} {elts : List Expr} {kk : Nat} {tpos : Pos} (x : Str) (t : Tok) (e it : Addr) :
    Turn P w K (.Tuple elts kk tpos) (Itw x) [e, it] e (fun i h => (∃ old, IsEnum h e it ((i : Nat) : Int) old) ∧ h.IsStrIter it (strIterType x) x t i ∧ e ≠ it ∧ i ≤ x.cps.size) where
  mem := by simp
  obj := fun i h st b hb => by
    obtain ⟨⟨old, q1⟩, ⟨o, q2, q3, q4⟩, _⟩ := st
    rcases List.mem_cons.mp hb with z | z
    · rw [z]
      exact ⟨_, q1, fun v q => nomatch q⟩
    · rw [List.mem_singleton.mp z]
      exact ⟨o, q2, fun v q => by rw [q4] at q; cases q⟩
  keep := fun i h h' st k => by
    obtain ⟨⟨old, q1⟩, ⟨o, q2, q5⟩, q3⟩ := st
    exact ⟨⟨old, k e (by simp) _ q1⟩, ⟨o, k it (by simp) o q2, q5⟩, q3⟩
  item := by
    intro X hP hw hK hc i pins s σ H E I ff st hg
    subst hP hw hK
    obtain ⟨⟨old, en⟩, iti, ne, _⟩ := st
    have lt : i < x.cps.size := hg
    refine wpAny_mono (enum_go (elts := elts) (kk := kk) (tpos := tpos) (R := fun v H' s2 => Inv X pins σ H' s2 ∧ (Itw x).yld i H v H' ∧ ((∃ old, IsEnum s2.heap e it ((i + 1 : Nat) : Int) old) ∧ s2.heap.IsStrIter it (strIterType x) x t (i + 1) ∧ e ≠ it ∧ i + 1 ≤ x.cps.size) ∧ ∀ b ∈ [e, it], H' b = none) (y := .str (tx [x.cps[i]])) I ff
      (Draws.text (show X.A.in1.handled = none from I.ok.hd hc) it x t) en iti lt ne (by simp [ne]) (fun v hv => ?_) (fun T g tk hT J en' st' hb => ?_)) (fun r s1 q => ?_) (fun _ _ q => q)
    · obtain ⟨c, u, h1, rfl⟩ := hv
      rw [Array.getElem?_eq_getElem lt] at h1
      cases h1
      exact ⟨u, rfl⟩
    · exact ⟨J, ⟨T, x.cps[i], rfl, hT, rfl, Array.getElem?_eq_getElem lt⟩, ⟨en', st', ne, lt⟩, hb⟩
    · obtain ⟨v, hv, q⟩ := q
      exact ⟨v, hv, wpAny_mono q (fun _ s2 ⟨x, H', rx, J, yl, tn, hb⟩ => ⟨x, H', J, rx, yl, tn, hb⟩) fun _ _ z => z⟩
  done := by
    intro X hP hw hK hc i pins s σ H E I ff st hg
    subst hP hw hK
    obtain ⟨⟨old, en⟩, iti, ne, le⟩ := st
    obtain ⟨f0, f1, f2, f3, f4, f5⟩ := ff it (by simp)
    have ei : i = x.cps.size := Nat.le_antisymm le hg
    subst ei
    exact wpAny_pyNext_enum_endD (Draws.text (show X.A.in1.handled = none from I.ok.hd hc) it x t) en iti fun g xb => ⟨rfl, I.turned (t' := s.toks) (fun b o nb q => xb b o nb q) f0 f1 f3 f4 f5⟩
  self := fun A i s Q E st h => by
    obtain ⟨⟨_, en⟩, _⟩ := st
    exact wpAny_pyIter_enum en h
def iEnumT (K : PySem.W.Frag) (ta : TA) : TI := fun σ H R => ta σ H fun vs H1 => ∃ a ys, vs = [.ref a] ∧ SqT K H1 a ys ∧ R (Itu K a) H1
def iEnumS (ta : TA) : TI := fun σ H R => ta σ H fun vs H1 => ∃ x, vs = [.str x] ∧ R (Itw x) H1
section
variable {X : Cx} {e : Expr} {ta : TA} {p pos tpos : Pos} {elts : List Expr} {kk : Nat}
theorem fresh_two {pins : List (Addr × Obj)} {σ : L2.St} {H : Hp} {s : Shared} (I : Inv X pins σ H s) (b : Addr) (hb : b ∈ [s.heap.objs.size + 1, s.heap.objs.size]) : FpOk X pins H b := by
  have le : s.heap.objs.size ≤ b := by
    rcases List.mem_cons.mp hb with z | z
    · rw [z]
      exact Nat.le_succ _
    · rw [List.mem_singleton.mp z]
      exact Nat.le_refl _
  exact I.fpOk le (I.hok.fresh le)
theorem pi_enumT (hg : Gl X "enumerate") (hm : X.mg "enumerate" = none) (ha : PA X [e] ta) (hs : starEach [e] X.env = [(false, eval e X.env)] := by rfl) :
    PI X (.Tuple elts kk tpos) (.Call (.Name "enumerate" p) [e] [] pos) (iEnumT X.K ta) := by
  refine ⟨fun pins s σ H R I h => Call_ (ld_blt I hg hm boot_enumerate (PyProof.Rows.callWith_type1 (thn (ha.run pos pins s σ H _ I h) fun us s1 ⟨vs, H1, I1, r1, q1⟩ => ?_) hs rfl))⟩
  obtain ⟨a, ys, ev, hq, q⟩ := q1
  subst ev
  cases r1 with
  | cons r rr =>
    cases rr
    cases r
    obtain ⟨its, rv, isT, hz⟩ := I1.tuple hq
    refine enum1_call (begins_tuple a its.toArray) (show s1.heap.IsTuple a its.toArray from isT) fun g en io kp => wpAny_pyIter_enum en ?_
    exact ⟨s1.heap.objs.size + 1, [s1.heap.objs.size + 1, s1.heap.objs.size], _, _, H1, rfl, I1.kept (t' := s1.toks) kp, turn_enumT a (s1.heap.objs.size + 1) s1.heap.objs.size, ⟨⟨.none, en⟩, ⟨_, io, rfl, rfl⟩, Nat.succ_ne_self _⟩, fresh_two I1, q⟩
theorem pi_enumS (hg : Gl X "enumerate") (hm : X.mg "enumerate" = none) (ha : PA X [e] ta) (hs : starEach [e] X.env = [(false, eval e X.env)] := by rfl) :
    PI X (.Tuple elts kk tpos) (.Call (.Name "enumerate" p) [e] [] pos) (iEnumS ta) := by
  refine ⟨fun pins s σ H R I h => Call_ (ld_blt I hg hm boot_enumerate (PyProof.Rows.callWith_type1 (thn (ha.run pos pins s σ H _ I h) fun us s1 ⟨vs, H1, I1, r1, q1⟩ => ?_) hs rfl))⟩
  obtain ⟨x, ev, q⟩ := q1
  subst ev
  cases r1 with
  | cons r rr =>
    cases rr
    obtain ⟨t, rfl⟩ := r
    refine enum1_call (begins_text x t) trivial fun g en io kp => wpAny_pyIter_enum en ?_
    exact ⟨s1.heap.objs.size + 1, [s1.heap.objs.size + 1, s1.heap.objs.size], _, _, H1, rfl, I1.kept (t' := s1.toks) kp, turn_enumS x t (s1.heap.objs.size + 1) s1.heap.objs.size, ⟨⟨.none, en⟩, ⟨_, io, rfl, rfl⟩, Nat.succ_ne_self _, Nat.zero_le _⟩, fresh_two I1, q⟩
end
theorem walk_enumT {K : PySem.W.Frag} {a : Addr} {ys : List V} : Walk (Itu K a) ys.length (fun H => SqT K H a ys) (YPair (fun i => some (.int (i : Nat))) (fun i => ys[i]?)) :=
  ⟨fun i _ hi q => ⟨ys, ys[i], q, by simp [hi]⟩, fun _ q => ⟨ys, q, Nat.le_refl _⟩, fun i H v H' _ q y => by
    obtain ⟨T, z, h1, h2, h3, h4⟩ := y
    exact ⟨T, .int (i : Nat), z, h1, h2, h3, rfl, h4 ys q⟩⟩
theorem walk_enumS {x : Str} : Walk (Itw x) x.cps.size (fun _ => True) (fun i H v H' => ∃ (T : Addr) (c : Nat), v = .ref T ∧ H T = none ∧ H' = upd H T (.tup [.int (i : Nat), .str (tx [c])]) ∧ x.cps[i]? = some c) :=
  ⟨fun _ _ hi _ => hi, fun _ _ => Nat.le_refl _, fun _ _ _ _ _ _ y => y⟩
end V0
namespace V0
open PySem PySem.Spec PyProof.Rows L2
/-! ### data: its weight, its text's length -/
mutual
def wt : PyData → Nat
  | .none => 8
  | .bool _ => 8
  | .int i => if i.natAbs.log2 < 1920 then 1930 else 100000000
  | .str s => if s.cps.toList.all (fun c => decide (c < 128)) then 10 * s.length + 8 else 100000000
  | .list xs => 8 + wtAll xs
  | .tuple xs => 8 + wtAll xs
  | .dict _ => 100000000
def wtAll : List PyData → Nat
  | [] => 0
  | x :: r => wt x + 2 + wtAll r
end
/-- small data: ASCII texts, no great weight, not deep -/
def small (d : PyData) : Bool := decide (wt d ≤ 1000000) && decide (d.depth ≤ 20)
theorem small_wt {d : PyData} (h : small d = true) : wt d ≤ 1000000 := of_decide_eq_true (Bool.and_eq_true_iff.mp h).1
theorem small_dp {d : PyData} (h : small d = true) : d.depth ≤ 20 := of_decide_eq_true (Bool.and_eq_true_iff.mp h).2
theorem small_mk {d : PyData} (h1 : wt d ≤ 1000000) (h2 : d.depth ≤ 20) : small d = true := Bool.and_eq_true_iff.mpr ⟨decide_eq_true h1, decide_eq_true h2⟩
theorem wtAll_mem {x : PyData} : ∀ {xs : List PyData}, x ∈ xs → wt x + 2 ≤ wtAll xs
  | y :: r, h => by
    simp only [wtAll]
    rcases List.mem_cons.mp h with e | e
    · rw [e]
      omega
    · have := wtAll_mem e
      omega
theorem depthAll_mem {x : PyData} : ∀ {xs : List PyData}, x ∈ xs → x.depth ≤ PyData.depthAll xs
  | y :: r, h => by
    simp only [PyData.depthAll]
    rcases List.mem_cons.mp h with e | e
    · rw [e]
      omega
    · have := depthAll_mem e
      omega
theorem small_tup {x : PyData} {xs : List PyData} (h : small (.tuple xs) = true) (hx : x ∈ xs) : small x = true := by
  have h1 := small_wt h
  have h2 := small_dp h
  simp only [wt, PyData.depth] at h1 h2
  have := wtAll_mem hx
  have := depthAll_mem hx
  exact small_mk (by omega) (by omega)
theorem small_lst {x : PyData} {xs : List PyData} (h : small (.list xs) = true) (hx : x ∈ xs) : small x = true := by
  have h1 := small_wt h
  have h2 := small_dp h
  simp only [wt, PyData.depth] at h1 h2
  have := wtAll_mem hx
  have := depthAll_mem hx
  exact small_mk (by omega) (by omega)
theorem wtAll_len : ∀ xs : List PyData, xs.length ≤ wtAll xs
  | [] => Nat.le_refl _
  | x :: r => by
    have := wtAll_len r
    simp only [wtAll, List.length_cons]
    omega
theorem small_str {s : Str} (h : small (.str s) = true) : s.length ≤ 100000 ∧ ∀ c ∈ s.cps.toList, c < 128 := by
  have h1 := small_wt h
  simp only [wt] at h1
  by_cases c : s.cps.toList.all (fun c => decide (c < 128)) = true
  · rw [if_pos c] at h1
    refine ⟨by omega, fun x hx => ?_⟩
    exact of_decide_eq_true (List.all_eq_true.mp c x hx)
  · rw [if_neg c] at h1
    omega
theorem small_len {xs : List PyData} (h : small (.tuple xs) = true) : xs.length ≤ 1000000 := by
  have h1 := small_wt h
  simp only [wt] at h1
  have := wtAll_len xs
  omega
theorem small_lenL {xs : List PyData} (h : small (.list xs) = true) : xs.length ≤ 1000000 := by
  have h1 := small_wt h
  simp only [wt] at h1
  have := wtAll_len xs
  omega
mutual
theorem can_of : ∀ d : PyData, wt d < 100000000 → d.canLay0 = true
  | .none, _ => by simp [PyData.canLay0]
  | .bool _, _ => by simp [PyData.canLay0]
  | .int _, _ => by simp [PyData.canLay0]
  | .str s, h => by
    simp only [wt] at h
    by_cases c : s.cps.toList.all (fun c => decide (c < 128)) = true
    · simp only [PyData.canLay0, PyData.strOk]
      rw [Array.all_eq_true']
      intro x hx
      have := of_decide_eq_true (List.all_eq_true.mp c x (by simpa using hx))
      exact decide_eq_true (by omega)
    · rw [if_neg c] at h
      omega
  | .list xs, h => by
    simp only [wt] at h
    simpa [PyData.canLay0] using can_ofAll xs (by omega)
  | .tuple xs, h => by
    simp only [wt] at h
    simpa [PyData.canLay0] using can_ofAll xs (by omega)
  | .dict _, h => by
    simp only [wt] at h
    omega
theorem can_ofAll : ∀ xs : List PyData, wtAll xs < 100000000 → PyData.canLayAll0 xs = true
  | [], _ => by simp [PyData.canLayAll0]
  | x :: r, h => by
    simp only [wtAll] at h
    simp [PyData.canLayAll0, can_of x (by omega), can_ofAll r (by omega)]
end
theorem small_shaped {d : PyData} (h : small d = true) : SeqAt.shaped d = true := by
  unfold SeqAt.shaped
  rw [can_of d (by have := small_wt h; omega), decide_eq_true (by have := small_dp h; omega)]
  rfl
mutual
theorem shown_le : ∀ d : PyData, wt d < 100000000 → d.shown.length ≤ wt d ∧ d.showable = true
  | .none, _ => by
    simp only [PyData.shown, wt, PyData.showable]
    exact ⟨by decide, trivial⟩
  | .bool b, _ => by
    simp only [PyData.shown, wt, PyData.showable]
    cases b <;> exact ⟨by decide, trivial⟩
  | .int i, h => by
    simp only [wt] at h ⊢
    by_cases c : i.natAbs.log2 < 1920
    · rw [if_pos c]
      refine ⟨?_, by simp only [PyData.showable]; exact decide_eq_true c⟩
      have := PyProof.Rows.int_text_len_1921 c
      simp only [PyData.shown]
      omega
    · rw [if_neg c] at h
      omega
  | .str s, h => by
    simp only [wt] at h ⊢
    by_cases c : s.cps.toList.all (fun c => decide (c < 128)) = true
    · rw [if_pos c]
      refine ⟨?_, by simp only [PyData.showable]⟩
      have := StrLaws.reprText_len s fun x hx => Nat.lt_of_lt_of_le (of_decide_eq_true (List.all_eq_true.mp c x hx)) (by decide)
      simp only [PyData.shown]
      omega
    · rw [if_neg c] at h
      omega
  | .list xs, h => by
    simp only [wt] at h ⊢
    obtain ⟨h1, h2⟩ := shown_leAll xs (by omega)
    refine ⟨?_, by simpa only [PyData.showable] using h2⟩
    simp only [PyData.shown]
    have := listText_len_le (PyData.shownAll xs)
    omega
  | .tuple xs, h => by
    simp only [wt] at h ⊢
    obtain ⟨h1, h2⟩ := shown_leAll xs (by omega)
    refine ⟨?_, by simpa only [PyData.showable] using h2⟩
    simp only [PyData.shown]
    have := tupleText_len_le (PyData.shownAll xs)
    omega
  | .dict _, h => by
    simp only [wt] at h
    omega
theorem shown_leAll : ∀ xs : List PyData, wtAll xs < 100000000 → ((PyData.shownAll xs).map (·.length)).sum + 2 * (PyData.shownAll xs).length ≤ wtAll xs ∧ PyData.showableAll xs = true
  | [], _ => by simp [PyData.shownAll, wtAll, PyData.showableAll]
  | x :: r, h => by
    simp only [wtAll] at h ⊢
    obtain ⟨h1, h2⟩ := shown_le x (by omega)
    obtain ⟨h3, h4⟩ := shown_leAll r (by omega)
    simp only [PyData.shownAll, PyData.showableAll, List.map_cons, List.sum_cons, List.length_cons, h2, h4, Bool.and_self, and_true]
    omega
end
/-! ### data in a heap that grows -/
section
variable {K : PySem.W.Frag} {H H' : Hp}
theorem Same.seqT {a : Addr} {xs : List V} (e : Same H H') (h : SqT K H a xs) : SqT K H' a xs := by
  rcases h with (h | ⟨o, h⟩) | h
  · exact .inl (.inl (e _ _ h))
  · exact .inl (.inr ⟨o, e _ _ h⟩)
  · exact .inr h
mutual
theorem dp_mono (s : Same H H') : ∀ {v : V} {d : PyData}, Dp K H v d → Dp K H' v d
  | _, _, .non => .non
  | _, _, .bl b => .bl b
  | _, _, .int i => .int i
  | _, _, .str x => .str x
  | _, _, .lst h a => .lst (Same.seq s h) (dpa_mono s a)
  | _, _, .tup h a => .tup (Same.seqT s h) (dpa_mono s a)
theorem dpa_mono (s : Same H H') : ∀ {vs : List V} {ds : List PyData}, DpAll K H vs ds → DpAll K H' vs ds
  | _, _, .nil => .nil
  | _, _, .cons h a => .cons (dp_mono s h) (dpa_mono s a)
end
theorem dpa_len : ∀ {vs : List V} {ds : List PyData}, DpAll K H vs ds → vs.length = ds.length
  | _, _, .nil => rfl
  | _, _, .cons _ a => congrArg Nat.succ (dpa_len a)
theorem dpa_get : ∀ {vs : List V} {ds : List PyData} {i : Nat} {d : PyData}, DpAll K H vs ds → ds[i]? = some d → ∃ v, vs[i]? = some v ∧ Dp K H v d
  | _, _, i, d, .nil, h => by simp at h
  | _, _, 0, d, .cons h a, e => by
    cases Option.some.inj e
    exact ⟨_, rfl, h⟩
  | _, _, i + 1, d, .cons h a, e => by
    obtain ⟨v, h1, h2⟩ := dpa_get (i := i) a e
    exact ⟨v, h1, h2⟩
theorem dpa_getV : ∀ {vs : List V} {ds : List PyData} {i : Nat} {v : V}, DpAll K H vs ds → vs[i]? = some v → ∃ d, ds[i]? = some d ∧ Dp K H v d
  | _, _, i, d, .nil, h => by simp at h
  | _, _, 0, d, .cons h a, e => by
    cases Option.some.inj e
    exact ⟨_, rfl, h⟩
  | _, _, i + 1, d, .cons h a, e => by
    obtain ⟨v, h1, h2⟩ := dpa_getV (i := i) a e
    exact ⟨v, h1, h2⟩
theorem dpa_app : ∀ {vs us : List V} {ds es : List PyData}, DpAll K H vs ds → DpAll K H us es → DpAll K H (vs ++ us) (ds ++ es)
  | _, _, _, _, .nil, h => h
  | _, _, _, _, .cons h a, b => .cons h (dpa_app a b)
theorem dpa_strs : ∀ (l : List Str), DpAll K H (l.map V.str) (l.map PyData.str)
  | [] => .nil
  | x :: r => .cons (.str x) (dpa_strs r)
theorem dpa_ints : ∀ (l : List Int), DpAll K H (l.map V.int) (l.map PyData.int)
  | [] => .nil
  | x :: r => .cons (.int x) (dpa_ints r)
end
theorem same_upd {H : Hp} {p : Addr} {o : HO} (h : H p = none) : Same H (upd H p o) := fun b x e => by
  rw [upd_ne (ne_of_none e h)]
  exact e
end V0
namespace V0
open PySem PySem.Spec PyProof.Rows L2
/-- what the top has left: where each def stands, that the built-ins are the built-ins -/
structure Tops (K : PySem.W.Frag) (mg : Str → Option Value) : Prop where
  b_ValueError : mg "ValueError" = none
  b_abs : mg "abs" = none
  b_all : mg "all" = none
  b_bool : mg "bool" = none
  b_enumerate : mg "enumerate" = none
  b_int : mg "int" = none
  b_isinstance : mg "isinstance" = none
  b_len : mg "len" = none
  b_list : mg "list" = none
  b_min : mg "min" = none
  b_range : mg "range" = none
  b_repr : mg "repr" = none
  b_sorted : mg "sorted" = none
  b_str : mg "str" = none
  b_tuple : mg "tuple" = none
  d_is_integer : Has K mg "is_integer" (topS 9)
  d_is_number : Has K mg "is_number" (topS 10)
  d_is_word : Has K mg "is_word" (topS 11)
  d_is_wide_word : Has K mg "is_wide_word" (topS 12)
  d_is_words : Has K mg "is_words" (topS 13)
  d_is_blank : Has K mg "is_blank" (topS 14)
  d_is_rising : Has K mg "is_rising" (topS 15)
  d_is_lot : Has K mg "is_lot" (topS 16)
  d_is_pair : Has K mg "is_pair" (topS 17)
  d_words_fault : Has K mg "words_fault" (topS 18)
  d_house_fault : Has K mg "house_fault" (topS 19)
  d_is_house : Has K mg "is_house" (topS 20)
  d_lets_house : Has K mg "lets_house" (topS 22)
  d_need : Has K mg "need" (topS 24)
  d_blank_of : Has K mg "blank_of" (topS 26)
  d_is_figures : Has K mg "is_figures" (topS 28)
  d_is_short_field : Has K mg "is_short_field" (topS 29)
  d_read_short : Has K mg "read_short" (topS 30)
  d_read_house : Has K mg "read_house" (topS 31)
  d_short_line : Has K mg "short_line" (topS 33)
  d_house_line : Has K mg "house_line" (topS 34)
  d__law_pool : Has K mg "_law_pool" (topS 36)
  d__law_take : Has K mg "_law_take" (topS 37)
  d__law_whole : Has K mg "_law_whole" (topS 38)
  d__law_letters : Has K mg "_law_letters" (topS 39)
  d__law_row : Has K mg "_law_row" (topS 40)
  d__law_rising : Has K mg "_law_rising" (topS 41)
  d__law_fault : Has K mg "_law_fault" (topS 42)
  d__law_home : Has K mg "_law_home" (topS 43)
  d__law_things : Has K mg "_law_things" (topS 44)
  d__law_kind : Has K mg "_law_kind" (topS 45)
  d__law_kinds : Has K mg "_law_kinds" (topS 46)
  d__law_spoilt : Has K mg "_law_spoilt" (topS 47)
  d__law_checked : Has K mg "_law_checked" (topS 48)
  d__law_checker : Has K mg "_law_checker" (topS 49)
  d__law_same : Has K mg "_law_same" (topS 50)
  d__law_figures : Has K mg "_law_figures" (topS 51)
  d__law_short : Has K mg "_law_short" (topS 52)
  d__law_read_short : Has K mg "_law_read_short" (topS 53)
  d__law_read_home : Has K mg "_law_read_home" (topS 54)
  d__law_read : Has K mg "_law_read" (topS 55)
  d__law_turned : Has K mg "_law_turned" (topS 56)
  d__law_short_lines : Has K mg "_law_short_lines" (topS 57)
  d__law_home_lines : Has K mg "_law_home_lines" (topS 58)
  d_law : Has K mg "law" (topS 59)
/-! ### the kinds of data -/
def tyD : PyData → String
  | .none => "NoneType"
  | .bool _ => "bool"
  | .int _ => "int"
  | .str _ => "str"
  | .list _ => "list"
  | .tuple _ => "tuple"
  | .dict _ => "dict"
/-- isinstance of data and a built-in class -/
inductive Ty5 where
  | i | b | s | l | t
def Ty5.nm : Ty5 → String
  | .i => "int"
  | .b => "bool"
  | .s => "str"
  | .l => "list"
  | .t => "tuple"
def isD : Ty5 → PyData → Bool
  | .i, .int _ => true
  | .i, .bool _ => true
  | .b, .bool _ => true
  | .s, .str _ => true
  | .l, .list _ => true
  | .t, .tuple _ => true
  | _, _ => false
theorem tyx_of {K : PySem.W.Frag} {H : Hp} {v : V} {d : PyData} (h : Dp K H v d) : TyX K H v (.type (tyD d)) := by
  cases h with
  | non => exact .base .non
  | bl b => exact .base (.bl b)
  | int i => exact .base (.int i)
  | str x => exact .base (.str x)
  | lst h a =>
    rcases h with (h | ⟨o, h⟩) | ⟨o, its, n, h1, h2, _⟩
    · exact .base (.lst h)
    · exact .base (.frz h)
    · exact .kList h1 h2
  | tup h a =>
    rcases h with (h | ⟨o, h⟩) | ⟨o, its, n, h1, h2, _⟩
    · exact .base (.tup h)
    · exact .fTuple h
    · exact .kTuple h1 h2
theorem kit_d {K : PySem.W.Frag} {d : PyData} {T : Ty5} (hd : ∀ l, d ≠ .dict l) : PySem.W.kitOne K (.type (tyD d)) (.type T.nm) = some (isD T d) := by
  cases d <;> first | exact absurd rfl (hd _) | (cases T <;> rfl)
theorem dp_nodict {K : PySem.W.Frag} {H : Hp} {v : V} {d : PyData} (h : Dp K H v d) : ∀ l, d ≠ .dict l := by
  intro l e
  subst e
  cases h
section
variable {X : Cx}
/-- isinstance(x, T), x data -/
def rIsD (K : PySem.W.Frag) (T : Ty5) : List V → Hp → VK → Prop := fun xs H Q => ∃ x d, xs = [x, .ty T.nm] ∧ Dp K H x d ∧ Q (.bl (isD T d)) H
theorem call_isD (T : Ty5) : CallR X (.builtin "isinstance") (rIsD X.K T) := by
  intro pins s σ H xs us Q I r h
  obtain ⟨x, d, rfl, hd, q⟩ := h
  exact call_isi pins s σ H _ us Q I r ⟨x, .ty T.nm, _, _, _, rfl, .ty T.nm, tyx_of hd, kit_d (dp_nodict hd), q⟩
end
/-! ### [b(x) for x in ..], then all(..) -/
theorem lcB {J : It} {n : Nat} {G : Hp → Prop} {Y : Nat → Hp → V → Hp → Prop} (w : Walk J n G Y) {g : TG} {te : TE} {vs : List Nat} {σ : L2.St} {H : Hp} {D : Addr} {Qd : Hp → Prop} (bs : Nat → V) (hn : n ≤ 1000000) (hD : H D = none)
    (hG : ∀ H', Same H H' → G H') (hs : ∀ i x H1 H2, i < n → Same H H1 → Y i H1 x H2 → ∀ R : VK, (∀ H4, Same H1 H4 → R (bs i) H4) → g x (wipe σ vs) H2 fun σ2 H3 => wipe σ2 vs = wipe σ vs ∧ te σ2 H3 R)
    (fin : ∀ H', Same H H' → H' D = some (.lst ((List.range n).map bs)) → Qd H') :
    ∃ W : Nat → Nat → Hp → Prop, (∃ m, W 0 m (upd H D (.lst []))) ∧ ∀ i m H, W i m H →
      (J.stop i H ∧ Qd H) ∨ (J.go i H ∧ ∃ Nx : Hp → Prop, (∀ H', Nx H' → ∃ m', m' < m ∧ W (i + 1) m' H') ∧ ∀ x H', J.yld i H x H' → g x (wipe σ vs) H' fun σ2 H2 => wipe σ2 vs = wipe σ vs ∧ tYes σ2 H2 fun b H3 =>
        if b = true then te σ2 H3 fun y H4 => ∃ acc, H4 D = some (.lst acc) ∧ acc.length < sizeLine ∧ Nx (upd H4 D (.lst (acc ++ [y]))) else Nx H3) := by
  refine lc_it (tt := tYes) (Qd := Qd) w (fun i H' => Same H H' ∧ H' D = some (.lst ((List.range i).map bs))) ⟨same_upd hD, upd_same⟩ (fun i H' _ p => hG H' p.1) (fun i x H1 H2 hi p y => ?_) (fun H' p => fin H' p.1 p.2)
  refine hs i x H1 H2 hi p.1 y _ fun H4 s4 => ?_
  refine ⟨_, s4 _ _ p.2, ?_, fun b o e => ?_, ?_⟩
  · rw [List.length_map, List.length_range, sizeLine_eq]
    omega
  · rw [upd_ne (ne_of_none e hD)]
    exact s4 _ _ (p.1 _ _ e)
  · rw [upd_same, List.range_succ, List.map_append]
    rfl
theorem map_range {α β : Type} (f : α → β) : ∀ (l : List α) (d : α), (List.range l.length).map (fun i => f (l.getD i d)) = l.map f := fun l d => by
  apply List.ext_getElem?
  intro i
  rw [List.getElem?_map, List.getElem?_map]
  by_cases h : i < l.length
  · rw [List.getElem?_range h, List.getElem?_eq_getElem h]
    simp [List.getD, List.getElem?_eq_getElem h]
  · rw [List.getElem?_eq_none (by simpa using h), List.getElem?_eq_none (by omega)]
    rfl
/-! ### what the defs reckon -/
def isIntD : PyData → Bool
  | .int _ => true
  | _ => false
def isNumD : PyData → Bool
  | .int i => decide (0 ≤ i)
  | _ => false
def ltr (c : Nat) : Bool := decide (c ∈ [73, 88, 89, 90])
def wordL (l : List Nat) : Bool := decide (0 < l.length) && l.all ltr
def isWordD : PyData → Bool
  | .str s => wordL s.cps.toList
  | _ => false
def isWideD (p : Int) : PyData → Bool
  | .str s => wordL s.cps.toList && decide ((s.length : Int) = p)
  | _ => false
def isWordsD (p : Int) : PyData → Bool
  | .tuple ds => ds.all (isWideD p)
  | _ => false
theorem str_len (z : Str) : z.length = z.cps.toList.length := by
  show z.cps.size = _
  simp
theorem wordL_map (z : Str) (h : 0 < z.length) : ((List.range z.cps.size).map (fun i => ltr (z.cps.getD i 0))).all id = wordL z.cps.toList := by
  have e1 : (List.range z.cps.size).map (fun i => ltr (z.cps.getD i 0)) = z.cps.toList.map ltr := by
    rw [← map_range ltr z.cps.toList 0]
    simp [Array.getD_eq_getD_getElem?, List.getD_eq_getElem?_getD]
  rw [e1]
  unfold wordL
  rw [← str_len, decide_eq_true h, List.all_map]
  rfl
theorem wordL_none {z : Str} (h : ¬ 0 < z.length) : wordL z.cps.toList = false := by
  unfold wordL
  rw [← str_len, decide_eq_false h]
  rfl
/-- a def of one thing, that tells a truth of it -/
def spB1 (K : PySem.W.Frag) (f : PyData → Bool) : Sp := fun vs H Q _ => ∃ v d, vs = [v] ∧ Dp K H v d ∧ small d = true ∧ ∀ H', Same H H' → Q (.bl (f d)) H'
/-- .. of a number and a thing -/
def spB2 (K : PySem.W.Frag) (f : Int → PyData → Bool) : Sp := fun vs H Q _ => ∃ p v d, vs = [.int p, v] ∧ Dp K H v d ∧ small d = true ∧ ∀ H', Same H H' → Q (.bl (f p d)) H'
section
variable {P : Program} {w : World} {K : PySem.W.Frag} {mg : Str → Option Value} {base : Heap}
--DEFS
end
end V0
namespace V0
open PySem PySem.Spec PyProof.Rows L2
section
variable {P : Program} {w : World} {K : PySem.W.Frag} {mg : Str → Option Value} {base : Heap}
abbrev s_is_integer : Stmt := topS 9
theorem sc_is_integer : FnScope ["thing"] ["thing"] (defScope s_is_integer) := ⟨rfl, rfl, rfl, by decide +kernel, rfl, by decide +kernel, by decide +kernel⟩
theorem ok_is_integer  (T : Tops K mg) : Df P w K mg base CX0 1 "is_integer" s_is_integer ["thing"] (spB1 K isIntD) := by
  refine df_mk (k := 1-1) T.d_is_integer sc_is_integer (fun vs H Q E h => ?_) (fun _ _ _ _ _ _ us hl => match us, hl with | [_], _ => rfl) (fun f cdv A outer s H vs Q E hr h => ?_)
  · obtain ⟨v, d, rfl, _⟩ := h
    rfl
  · obtain ⟨v, d, rfl, hd, hs, q⟩ := h
    refine ⟨_, (pss_one (ps_ret ((pe_and (pe_callB (call_isD .i) (by rfl) T.b_isinstance (by decide +kernel) (pa_cons (pv 0) (pa_cons (pe_bltn (v := .ty "int") rfl T.b_int (by decide +kernel) rfl) pa_nil))) (pe_one (pe_not (pe_callB (call_isD .b) (by rfl) T.b_isinstance (by decide +kernel) (pa_cons (pv 0) (pa_cons (pe_bltn (v := .ty "bool") rfl T.b_bool (by decide +kernel) rfl) pa_nil))))))))), ?_⟩
    refine ⟨_, rfl, _, d, rfl, hd, _, rfl, ?_⟩
    cases d with
    | int i => exact iteT ⟨_, rfl, _, _, rfl, hd, _, rfl, q H (Same.refl H)⟩
    | bool b => exact iteT ⟨_, rfl, _, _, rfl, hd, _, rfl, q H (Same.refl H)⟩
    | dict _ => exact absurd rfl (dp_nodict hd _)
    | _ => exact iteF (q H (Same.refl H))
abbrev s_is_number : Stmt := topS 10
theorem sc_is_number : FnScope ["thing"] ["thing"] (defScope s_is_number) := ⟨rfl, rfl, rfl, by decide +kernel, rfl, by decide +kernel, by decide +kernel⟩
theorem ok_is_number  (T : Tops K mg) : Df P w K mg base CX0 2 "is_number" s_is_number ["thing"] (spB1 K isNumD) := by
  have G_is_integer := ok_is_integer (P := P) (w := w) (base := base) T
  refine df_mk (k := 2-1) T.d_is_number sc_is_number (fun vs H Q E h => ?_) (fun _ _ _ _ _ _ us hl => match us, hl with | [_], _ => rfl) (fun f cdv A outer s H vs Q E hr h => ?_)
  · obtain ⟨v, d, rfl, _⟩ := h
    rfl
  · obtain ⟨v, d, rfl, hd, hs, q⟩ := h
    refine ⟨_, (pss_one (ps_ret ((pe_and (pe_df G_is_integer (hr.mono (by decide)) (by rfl) pass0 (pa_cons (pv 0) pa_nil)) (pe_one (pe_cmpR op_ge (pv 0) (pe_int) (nomark _))))))), ?_⟩
    refine ⟨_, rfl, v, d, rfl, hd, hs, fun H' s => ⟨_, rfl, ?_⟩⟩
    cases d with
    | int i =>
      cases hd
      exact iteT ⟨_, rfl, _, _, rfl, rfl, q H' s⟩
    | _ => exact iteF (q H' s)
abbrev s_is_word : Stmt := topS 11
theorem sc_is_word : FnScope ["thing", "letter"] ["thing"] (defScope s_is_word) := ⟨rfl, rfl, rfl, by decide +kernel, rfl, by decide +kernel, by decide +kernel⟩
theorem ok_is_word  (T : Tops K mg) : Df P w K mg base CX0 1 "is_word" s_is_word ["thing"] (spB1 K isWordD) := by
  refine df_mk (k := 1-1) T.d_is_word sc_is_word (fun vs H Q E h => ?_) (fun _ _ _ _ _ _ us hl => match us, hl with | [_], _ => rfl) (fun f cdv A outer s H vs Q E hr h => ?_)
  · obtain ⟨v, d, rfl, _⟩ := h
    rfl
  · obtain ⟨v, d, rfl, hd, hs, q⟩ := h
    refine ⟨_, (pss_one (ps_ret ((pe_and (pe_callB (call_isD .s) (by rfl) T.b_isinstance (by decide +kernel) (pa_cons (pv 0) (pa_cons (pe_bltn (v := .ty "str") rfl T.b_str (by decide +kernel) rfl) pa_nil))) (pe_and (pe_cmpR op_gt (pe_callB call_len (by rfl) T.b_len (by decide +kernel) (pa_cons (pv 0) pa_nil)) (pe_int) (nomark _)) (pe_one (pe_callB (cr_all rfl) (by rfl) T.b_all (by decide +kernel) (pa_cons (pe_lc (own := [("letter", 1)]) (g := gName 1) (by rfl) sc_is_word.nd (pi_str (pv 0)) (blkOk_by (own := [("letter", 1)]) (N := ["thing", "letter"]) (sc := defScope s_is_word) (by decide +kernel)) (fun _ _ _ _ _ => pg_name (i := 1) sc_is_word.nd rfl (Or.inl rfl)) (fun _ _ _ _ _ => pts_nil) (fun _ _ _ _ _ => (pe_cmpR op_in_sign (pv 1) (pe_str) (by rfl)))) pa_nil)))))))), ?_⟩
    refine ⟨_, rfl, _, d, rfl, hd, _, rfl, ?_⟩
    cases d with
    | str z =>
      cases hd
      obtain ⟨hz, _⟩ := small_str hs
      refine iteT ⟨_, rfl, _, z.length, rfl, ⟨by rw [sizeLine_eq]; omega, rfl⟩, _, _, rfl, rfl, _, rfl, ?_⟩
      by_cases h0 : 0 < z.length
      · rw [if_pos (decide_eq_true (by omega))]
        refine ⟨_, rfl, z, rfl, fun D hD => lcB walk_str (fun i => .bl (ltr (z.cps.getD i 0))) (by show z.length ≤ _; omega) hD (fun _ _ => trivial) (fun i x H1 H2 hi s1 y R hR => ?_) (fun H' s' hl => ?_)⟩
        · obtain ⟨rfl, c, hc, rfl⟩ := y
          refine ⟨rfl, _, rfl, c, _, rfl, rfl, ?_⟩
          have e : z.cps.getD i 0 = c := by simp [Array.getD_eq_getD_getElem?, hc]
          rw [e] at hR
          exact hR _ (Same.refl _)
        · refine ⟨D, (List.range z.cps.size).map (fun i => ltr (z.cps.getD i 0)), rfl, .inl (.inl (by rw [hl, List.map_map]; rfl)), ?_⟩
          have e := wordL_map z h0
          rw [e]
          exact q H' s'
      · rw [if_neg (by rw [decide_eq_false (by omega)]; exact Bool.false_ne_true)]
        have e : isWordD (.str z) = false := wordL_none h0
        rw [e] at q
        exact q H (Same.refl H)
    | dict _ => exact absurd rfl (dp_nodict hd _)
    | _ => exact iteF (q H (Same.refl H))
end
end V0
namespace V0
open PySem
def intOf : PyData → Int
  | .int i => i
  | _ => 0
def riseB : List PyData → Bool
  | [] => true
  | [_] => true
  | a :: b :: r => decide (intOf a < intOf b) && riseB (b :: r)
def risingD : PyData → Bool
  | .tuple ds => ds.all isNumD && riseB ds
  | _ => false
def lotD (m : Int) : PyData → Bool
  | .tuple ds => (ds.all isNumD && riseB ds) && (ds.isEmpty || decide (intOf (ds.getLastD .none) < m))
  | _ => false
def lotL (m : Int) : Int → List PyData → Bool
  | _, [] => true
  | l, .int i :: r => (decide (l < i) && decide (i < m)) && lotL m i r
  | _, _ => false
theorem intOf_int (i : Int) : intOf (.int i) = i := rfl
theorem last_ge : ∀ (a : PyData) (r : List PyData), riseB (a :: r) = true → intOf a ≤ intOf ((a :: r).getLastD .none)
  | a, [], _ => Int.le_refl _
  | a, b :: r, h => by
    simp only [riseB, Bool.and_eq_true, decide_eq_true_eq] at h
    have := last_ge b r h.2
    simp only [List.getLastD_cons] at this ⊢
    omega
theorem lotL_gen (m : Int) : ∀ (ds : List PyData) (l : Int), -1 ≤ l → lotL m l ds = ((ds.all isNumD && riseB ds) && (ds.isEmpty || (decide (l < intOf (ds.headD .none)) && decide (intOf (ds.getLastD .none) < m))))
  | [], l, _ => rfl
  | .int i :: r, l, hl => by
    simp only [lotL, List.all_cons, isNumD, List.isEmpty_cons, Bool.false_or, List.headD_cons, intOf_int]
    by_cases h : l < i
    · have ih := lotL_gen m r i (by omega)
      rw [ih]
      cases r with
      | nil =>
        simp only [riseB, List.all_nil, List.isEmpty_nil, Bool.true_or, Bool.and_true, List.getLastD_cons, List.getLastD_nil, intOf_int]
        have : (0 : Int) ≤ i := by omega
        simp [h, this]
      | cons y r' =>
        have h0 : (0 : Int) ≤ i := by omega
        rw [Bool.eq_iff_iff]
        simp only [riseB, List.isEmpty_cons, Bool.false_or, List.headD_cons, List.getLastD_cons, intOf_int, Bool.and_eq_true, decide_eq_true_eq]
        constructor
        · rintro ⟨⟨_, h2⟩, ⟨h3, h4⟩, h5, h6⟩
          exact ⟨⟨⟨h0, h3⟩, h5, h4⟩, decide_eq_true h, h6⟩
        · rintro ⟨⟨⟨_, h3⟩, h5, h4⟩, _, h6⟩
          have h7 := last_ge y r' h4
          simp only [List.getLastD_cons] at h7
          have h8 : intOf y < m := by omega
          have h10 : i < intOf y := of_decide_eq_true h5
          have h9 : i < m := by omega
          exact ⟨⟨h, h9⟩, ⟨h3, h4⟩, h5, h6⟩
    · simp [h]
  | .none :: r, l, _ => by simp [lotL, isNumD]
  | .bool _ :: r, l, _ => by simp [lotL, isNumD]
  | .str _ :: r, l, _ => by simp [lotL, isNumD]
  | .list _ :: r, l, _ => by simp [lotL, isNumD]
  | .tuple _ :: r, l, _ => by simp [lotL, isNumD]
  | .dict _ :: r, l, _ => by simp [lotL, isNumD]
theorem lotL_eq (m : Int) (ds : List PyData) : lotL m (-1) ds = lotD m (.tuple ds) := by
  rw [lotL_gen m ds (-1) (Int.le_refl _)]
  cases ds with
  | nil => rfl
  | cons a r =>
    simp only [lotD, List.isEmpty_cons, Bool.false_or, List.headD_cons]
    rw [Bool.eq_iff_iff]
    simp only [Bool.and_eq_true, decide_eq_true_eq, List.all_cons]
    constructor
    · rintro ⟨⟨⟨h1, h2⟩, h3⟩, _, h5⟩
      exact ⟨⟨⟨h1, h2⟩, h3⟩, h5⟩
    · rintro ⟨⟨⟨h1, h2⟩, h3⟩, h5⟩
      refine ⟨⟨⟨h1, h2⟩, h3⟩, ?_, h5⟩
      cases a with
      | int i =>
        have h6 : (0 : Int) ≤ i := of_decide_eq_true h1
        exact decide_eq_true (by rw [intOf_int]; omega)
      | _ => cases h1
/-! ### houses -/
def blankS (z : Str) : Bool := decide (z.cps.toList = List.replicate z.length 73)
/-- the first fault of the words from the k-th on, seen the ones before -/
def wordsFault (p : Int) : List Str → Nat → List PyData → Option (Str × Int)
  | _, _, [] => none
  | seen, k, .str z :: r => if isWideD p (.str z) = true then (if blankS z = true then some ("blank", (k : Int)) else if z ∈ seen then some ("again", (k : Int)) else wordsFault p (seen ++ [z]) (k + 1) r) else some ("word", (k : Int))
  | _, k, _ :: _ => some ("word", (k : Int))
def houseFault : PyData → Option (Str × Int)
  | .tuple [a, b] => match a with
    | .int p => if p < 1 then some ("places", -1) else match b with
      | .tuple ws => wordsFault p [] 0 ws
      | _ => some ("words", -1)
    | _ => some ("places", -1)
  | _ => some ("shape", -1)
end V0
namespace V0
open PySem PyProof.Rows
theorem cnt_le (c : Nat) : ∀ l : List Nat, 0 ≤ cnt c l ∧ cnt c l ≤ (l.length : Int)
  | [] => by rw [cnt_nil]; simp
  | n :: r => by
    obtain ⟨h1, h2⟩ := cnt_le c r
    rw [cnt_cons, List.length_cons]
    split <;> omega
theorem cnt_full (c : Nat) : ∀ l : List Nat, cnt c l = (l.length : Int) ↔ l = List.replicate l.length c
  | [] => by rw [cnt_nil]; simp
  | n :: r => by
    have ih := cnt_full c r
    have h := cnt_le c r
    rw [cnt_cons, List.length_cons, List.replicate_succ, List.cons.injEq, ← ih]
    by_cases e : n = c
    · rw [if_pos e]
      constructor
      · intro q
        exact ⟨e, by omega⟩
      · rintro ⟨_, q⟩
        omega
    · rw [if_neg e]
      constructor
      · intro q
        omega
      · rintro ⟨q, _⟩
        exact absurd q e
theorem count_full (z : Str) : decide (L2.V.int (Txt.count z "I") = L2.V.int ((z.length : Nat) : Int)) = blankS z := by
  unfold blankS
  refine decide_eq_decide.mpr ?_
  rw [L2.V.int.injEq]
  have e : Txt.count z ("I" : Str) = cnt 73 z.cps.toList := count_is z 73
  rw [e, str_len]
  exact cnt_full 73 z.cps.toList
theorem inV_str (z : Str) (l : List Str) : L2.inV (.str z) (l.map L2.V.str) = decide (z ∈ l) := by
  induction l with
  | nil => rfl
  | cons a r ih =>
    have h : L2.inV (.str z) ((a :: r).map L2.V.str) = ((a == z) || L2.inV (.str z) (r.map L2.V.str)) := rfl
    rw [h, ih, Bool.eq_iff_iff]
    simp only [Bool.or_eq_true, beq_iff_eq, decide_eq_true_eq, List.mem_cons]
    constructor
    · rintro (e | e)
      · exact .inl e.symm
      · exact .inr e
    · rintro (e | e)
      · exact .inl e.symm
      · exact .inr e
theorem flat_strs (l : List Str) : (l.map L2.V.str).all L2.flatV = true := by
  simp [List.all_map, List.all_eq_true, L2.flatV]
/-- a fault as data -/
def faultD : Option (Str × Int) → PyData
  | none => .none
  | some (x, k) => .tuple [.str x, .int k]
end V0
namespace V0
open PySem PySem.Spec PyProof.Rows L2
def isPairD : PyData → Bool
  | .tuple ds => decide (ds.length = 2)
  | _ => false
def spBlank : Sp := fun vs H Q _ => ∃ z : Str, vs = [.str z] ∧ z.length ≤ 100000 ∧ ∀ H', Same H H' → Q (.bl (blankS z)) H'
section
variable {P : Program} {w : World} {K : PySem.W.Frag} {mg : Str → Option Value} {base : Heap}
abbrev s_is_wide_word : Stmt := topS 12
theorem sc_is_wide_word : FnScope ["places", "thing"] ["places", "thing"] (defScope s_is_wide_word) := ⟨rfl, rfl, rfl, by decide +kernel, rfl, by decide +kernel, by decide +kernel⟩
theorem ok_is_wide_word  (T : Tops K mg) : Df P w K mg base CX0 2 "is_wide_word" s_is_wide_word ["places", "thing"] (spB2 K isWideD) := by
  have G_is_word := ok_is_word (P := P) (w := w) (base := base) T
  refine df_mk (k := 2-1) T.d_is_wide_word sc_is_wide_word (fun vs H Q E h => ?_) (fun _ _ _ _ _ _ us hl => match us, hl with | [_, _], _ => rfl) (fun f cdv A outer s H vs Q E hr h => ?_)
  · obtain ⟨p, v, d, rfl, _⟩ := h
    rfl
  · obtain ⟨p, v, d, rfl, hd, hs, q⟩ := h
    refine ⟨_, (pss_one (ps_ret ((pe_and (pe_df G_is_word (hr.mono (by decide)) (by rfl) pass0 (pa_cons (pv 1) pa_nil)) (pe_one (pe_cmpR op_eq (pe_callB call_len (by rfl) T.b_len (by decide +kernel) (pa_cons (pv 1) pa_nil)) (pv 0) (nomark _))))))), ?_⟩
    refine ⟨_, rfl, v, d, rfl, hd, hs, fun H' s => ⟨_, rfl, ?_⟩⟩
    cases d with
    | str z =>
      cases hd
      obtain ⟨hz, _⟩ := small_str hs
      show if wordL z.cps.toList = true then _ else _
      cases hw : wordL z.cps.toList with
      | true =>
        refine iteT ⟨_, rfl, _, z.length, rfl, ⟨by rw [sizeLine_eq]; omega, rfl⟩, _, rfl, rfl, ?_⟩
        have e : isWideD p (.str z) = decide (V.int ((z.length : Nat) : Int) = V.int p) := by
          show (wordL z.cps.toList && decide ((z.length : Int) = p)) = _
          rw [hw]
          simp
        rw [← e]
        exact q H' s
      | false =>
        have e : isWideD p (.str z) = false := by
          show (wordL z.cps.toList && decide ((z.length : Int) = p)) = _
          rw [hw]
          rfl
        rw [e] at q
        exact iteF (q H' s)
    | dict _ => exact absurd rfl (dp_nodict hd _)
    | _ => exact iteF (q H' s)
abbrev s_is_words : Stmt := topS 13
theorem sc_is_words : FnScope ["places", "thing", "word"] ["places", "thing"] (defScope s_is_words) := ⟨rfl, rfl, rfl, by decide +kernel, rfl, by decide +kernel, by decide +kernel⟩
theorem ok_is_words  (T : Tops K mg) : Df P w K mg base CX0 3 "is_words" s_is_words ["places", "thing"] (spB2 K isWordsD) := by
  have G_is_wide_word := ok_is_wide_word (P := P) (w := w) (base := base) T
  refine df_mk (k := 3-1) T.d_is_words sc_is_words (fun vs H Q E h => ?_) (fun _ _ _ _ _ _ us hl => match us, hl with | [_, _], _ => rfl) (fun f cdv A outer s H vs Q E hr h => ?_)
  · obtain ⟨p, v, d, rfl, _⟩ := h
    rfl
  · obtain ⟨p, v, d, rfl, hd, hs, q⟩ := h
    refine ⟨_, (pss_one (ps_ret ((pe_and (pe_callB (call_isD .t) (by rfl) T.b_isinstance (by decide +kernel) (pa_cons (pv 1) (pa_cons (pe_bltn (v := .ty "tuple") rfl T.b_tuple (by decide +kernel) rfl) pa_nil))) (pe_one (pe_callB (cr_all rfl) (by rfl) T.b_all (by decide +kernel) (pa_cons (pe_lc (own := [("word", 2)]) (g := gName 2) (by rfl) sc_is_words.nd (pi_tup (pv 1)) (blkOk_by (own := [("word", 2)]) (N := ["places", "thing", "word"]) (sc := defScope s_is_words) (by decide +kernel)) (fun _ _ _ _ _ => pg_name (i := 2) sc_is_words.nd rfl (Or.inl rfl)) (fun _ _ _ _ _ => pts_nil) (fun _ _ _ _ _ => (pe_df G_is_wide_word (hr.mono (by decide)) (by rfl) pass0 (pa_cons (pv 0) (pa_cons (pv 2) pa_nil))))) pa_nil))))))), ?_⟩
    refine ⟨_, rfl, _, d, rfl, hd, _, rfl, ?_⟩
    cases d with
    | tuple ds =>
      cases hd with
      | @tup a xs _ hq ha =>
      refine iteT ⟨_, rfl, a, rfl, ⟨xs, hq⟩, fun D hD => lcB walk_tup (fun i => .bl (isWideD p (ds.getD i .none))) (by rw [dpa_len ha]; exact small_len hs) hD (fun H' s' => Same.seqT s' hq) (fun i x H1 H2 hi s1 y R hR => ?_) (fun H' s' hl => ?_)⟩
      · obtain ⟨rfl, hx⟩ := y
        obtain ⟨di, hdi, hdx⟩ := dpa_getV ha hx
        refine ⟨rfl, _, rfl, _, rfl, p, x, di, rfl, dp_mono s1 hdx, small_tup hs (List.mem_of_getElem? hdi), fun H' s' => ?_⟩
        have e : ds.getD i .none = di := by simp [List.getD_eq_getElem?_getD, hdi]
        rw [e] at hR
        exact hR H' s'
      · refine ⟨D, ds.map (isWideD p), rfl, .inl (.inl (by rw [hl, dpa_len ha, map_range (fun d => V.bl (isWideD p d)), List.map_map]; rfl)), ?_⟩
        have e : (ds.map (isWideD p)).all id = isWordsD p (.tuple ds) := by simp [isWordsD, List.all_map]
        rw [e]
        exact q H' s'
    | dict _ => exact absurd rfl (dp_nodict hd _)
    | _ => exact iteF (q H (Same.refl H))
abbrev s_is_pair : Stmt := topS 17
theorem sc_is_pair : FnScope ["thing"] ["thing"] (defScope s_is_pair) := ⟨rfl, rfl, rfl, by decide +kernel, rfl, by decide +kernel, by decide +kernel⟩
theorem ok_is_pair  (T : Tops K mg) : Df P w K mg base CX0 1 "is_pair" s_is_pair ["thing"] (spB1 K isPairD) := by
  refine df_mk (k := 1-1) T.d_is_pair sc_is_pair (fun vs H Q E h => ?_) (fun _ _ _ _ _ _ us hl => match us, hl with | [_], _ => rfl) (fun f cdv A outer s H vs Q E hr h => ?_)
  · obtain ⟨v, d, rfl, _⟩ := h
    rfl
  · obtain ⟨v, d, rfl, hd, hs, q⟩ := h
    refine ⟨_, (pss_one (ps_ret ((pe_and (pe_callB (call_isD .t) (by rfl) T.b_isinstance (by decide +kernel) (pa_cons (pv 0) (pa_cons (pe_bltn (v := .ty "tuple") rfl T.b_tuple (by decide +kernel) rfl) pa_nil))) (pe_one (pe_cmpR op_eq (pe_callB call_len (by rfl) T.b_len (by decide +kernel) (pa_cons (pv 0) pa_nil)) (pe_int) (nomark _))))))), ?_⟩
    refine ⟨_, rfl, _, d, rfl, hd, _, rfl, ?_⟩
    cases d with
    | tuple ds =>
      cases hd with
      | @tup a xs _ hq ha =>
      refine iteT ⟨_, rfl, _, xs.length, rfl, .inr ⟨xs, hq, rfl⟩, rfl, ?_⟩
      have e : decide (V.int ((xs.length : Nat) : Int) = V.int 2) = isPairD (.tuple ds) := by
        rw [dpa_len ha]
        simp only [V.int.injEq, isPairD]
        exact decide_eq_decide.mpr (by omega)
      rw [e]
      exact q H (Same.refl H)
    | dict _ => exact absurd rfl (dp_nodict hd _)
    | _ => exact iteF (q H (Same.refl H))
abbrev s_is_blank : Stmt := topS 14
theorem sc_is_blank : FnScope ["word"] ["word"] (defScope s_is_blank) := ⟨rfl, rfl, rfl, by decide +kernel, rfl, by decide +kernel, by decide +kernel⟩
theorem ok_is_blank  (T : Tops K mg) : Df P w K mg base CX0 1 "is_blank" s_is_blank ["word"] spBlank := by
  refine df_mk (k := 1-1) T.d_is_blank sc_is_blank (fun vs H Q E h => ?_) (fun _ _ _ _ _ _ us hl => match us, hl with | [_], _ => rfl) (fun f cdv A outer s H vs Q E hr h => ?_)
  · obtain ⟨z, rfl, _⟩ := h
    rfl
  · obtain ⟨z, rfl, hz, q⟩ := h
    refine ⟨_, (pss_one (ps_ret (pe_cmpR op_eq (pv 0) (pe_op op_repS (pe_str) (pe_callB call_len (by rfl) T.b_len (by decide +kernel) (pa_cons (pv 0) pa_nil))) (nomark _)))), ?_⟩
    refine ⟨_, rfl, _, rfl, _, z.length, rfl, ⟨by rw [sizeLine_eq]; omega, rfl⟩, 73, (z.length : Int), rfl, rfl, by omega, by omega, rfl, ?_⟩
    have e : decide (V.str z = V.str (tx (List.replicate ((z.length : Int)).toNat 73))) = blankS z := by
      unfold blankS
      refine decide_eq_decide.mpr ⟨fun e => ?_, fun e => ?_⟩
      · have e2 := V.str.inj e
        rw [tx_of z] at e2
        exact tx_inj e2
      · rw [tx_of z]
        exact congrArg (fun l => V.str (tx l)) e
    rw [e]
    exact q H (Same.refl H)
end
end V0
namespace V0
open PySem PySem.Spec PyProof.Rows L2
def riseL : List PyData → List Bool
  | a :: b :: r => decide (intOf a < intOf b) :: riseL (b :: r)
  | _ => []
theorem riseL_all : ∀ ds : List PyData, (riseL ds).all id = riseB ds
  | [] => rfl
  | [_] => rfl
  | a :: b :: r => by
    simp only [riseL, riseB, List.all_cons, id, riseL_all (b :: r)]
theorem riseL_eq : ∀ ds : List PyData, (List.range ((ds.length : Int) - 1).toNat).map (fun i => decide (intOf (ds.getD i .none) < intOf (ds.getD (i + 1) .none))) = riseL ds
  | [] => rfl
  | [_] => rfl
  | a :: b :: r => by
    have ih := riseL_eq (b :: r)
    have e1 : (((b :: r).length : Int) - 1).toNat = r.length := by simp
    have e2 : (((a :: b :: r).length : Int) - 1).toNat = r.length + 1 := by simp only [List.length_cons]; omega
    rw [e1] at ih
    rw [e2, List.range_succ_eq_map, List.map_cons, List.map_map]
    show decide (intOf a < intOf b) :: _ = decide (intOf a < intOf b) :: riseL (b :: r)
    rw [← ih]
    rfl
section
variable {P : Program} {w : World} {K : PySem.W.Frag} {mg : Str → Option Value} {base : Heap}
abbrev s_is_rising : Stmt := topS 15
theorem sc_is_rising : FnScope ["thing", "entry", "k"] ["thing"] (defScope s_is_rising) := ⟨rfl, rfl, rfl, by decide +kernel, rfl, by decide +kernel, by decide +kernel⟩
theorem ok_is_rising  (T : Tops K mg) : Df P w K mg base CX0 3 "is_rising" s_is_rising ["thing"] (spB1 K risingD) := by
  have G_is_number := ok_is_number (P := P) (w := w) (base := base) T
  refine df_mk (k := 3-1) T.d_is_rising sc_is_rising (fun vs H Q E h => ?_) (fun _ _ _ _ _ _ us hl => match us, hl with | [_], _ => rfl) (fun f cdv A outer s H vs Q E hr h => ?_)
  · obtain ⟨v, d, rfl, _⟩ := h
    rfl
  · obtain ⟨v, d, rfl, hd, hs, q⟩ := h
    refine ⟨_, (pss_cons (ps_if (PW.pt (pw_or (pt_not (pt_val (pe_callB (call_isD .t) (by rfl) T.b_isinstance (by decide +kernel) (pa_cons (pv 0) (pa_cons (pe_bltn (v := .ty "tuple") rfl T.b_tuple (by decide +kernel) rfl) pa_nil))))) (pw_or1 (pt_not (pt_val (pe_callB (cr_all rfl) (by rfl) T.b_all (by decide +kernel) (pa_cons (pe_lc (own := [("entry", 1)]) (g := gName 1) (by rfl) sc_is_rising.nd (pi_tup (pv 0)) (blkOk_by (own := [("entry", 1)]) (N := ["thing", "entry", "k"]) (sc := defScope s_is_rising) (by decide +kernel)) (fun _ _ _ _ _ => pg_name (i := 1) sc_is_rising.nd rfl (Or.inl rfl)) (fun _ _ _ _ _ => pts_nil) (fun _ _ _ _ _ => (pe_df G_is_number (hr.mono (by decide)) (by rfl) pass0 (pa_cons (pv 1) pa_nil)))) pa_nil))))))) (pss_one (ps_ret (pe_bl))) pss_nil)
        (pss_one (ps_ret (pe_callB (cr_all rfl) (by rfl) T.b_all (by decide +kernel) (pa_cons (pe_lc (own := [("k", 2)]) (g := gName 2) (by rfl) sc_is_rising.nd (pi_range2 (by rfl) T.b_range (pa_cons (pe_int) (pa_cons (pe_callB call_len (by rfl) T.b_len (by decide +kernel) (pa_cons (pv 0) pa_nil)) pa_nil))) (blkOk_by (own := [("k", 2)]) (N := ["thing", "entry", "k"]) (sc := defScope s_is_rising) (by decide +kernel)) (fun _ _ _ _ _ => pg_name (i := 2) sc_is_rising.nd rfl (Or.inl rfl)) (fun _ _ _ _ _ => pts_nil) (fun _ _ _ _ _ => (pe_cmpR op_lt (pe_ix (show IxR _ (rIxT K) from ix_tup) (pv 0) (pe_op op_sub (pv 2) (pe_int)) (fun _ _ => rfl)) (pe_ix (show IxR _ (rIxT K) from ix_tup) (pv 0) (pv 2) (fun _ _ => rfl)) (nomark _)))) pa_nil))))), ?_⟩
    refine ⟨_, rfl, _, d, rfl, hd, _, rfl, ?_⟩
    cases d with
    | tuple ds =>
      cases hd with
      | @tup a xs _ hq ha =>
      have hl1 := dpa_len ha
      have hl2 := small_len hs
      refine iteF ⟨_, rfl, a, rfl, ⟨xs, hq⟩, fun D hD => lcB walk_tup (fun i => .bl (isNumD (ds.getD i .none))) (by omega) hD (fun H' s' => Same.seqT s' hq) (fun i x H1 H2 hi s1 y R hR => ?_) (fun H' s' hl => ?_)⟩
      · obtain ⟨rfl, hx⟩ := y
        obtain ⟨di, hdi, hdx⟩ := dpa_getV ha hx
        refine ⟨rfl, _, rfl, x, di, rfl, dp_mono s1 hdx, small_tup hs (List.mem_of_getElem? hdi), fun H' s' => ?_⟩
        have e : ds.getD i .none = di := by simp [List.getD_eq_getElem?_getD, hdi]
        rw [e] at hR
        exact hR H' s'
      · refine ⟨D, ds.map isNumD, rfl, .inl (.inl (by rw [hl, hl1, map_range (fun d => V.bl (isNumD d)), List.map_map]; rfl)), _, rfl, ?_⟩
        have e : (ds.map isNumD).all id = ds.all isNumD := by simp [List.all_map]
        rw [e]
        have hq' : SqT K H' a xs := Same.seqT s' hq
        cases hn : ds.all isNumD with
        | false =>
          have e2 : risingD (.tuple ds) = false := by
            show (ds.all isNumD && riseB ds) = false
            rw [hn]
            rfl
          rw [e2] at q
          exact iteT (q H' s')
        | true =>
          refine iteF ⟨_, rfl, _, xs.length, rfl, .inr ⟨xs, hq', rfl⟩, 1, (xs.length : Int), rfl, ⟨by decide, by decide, by omega, by omega⟩, fun D2 hD2 => lcB walk_range (fun i => .bl (decide (intOf (ds.getD i .none) < intOf (ds.getD (i + 1) .none)))) (by omega) hD2 (fun _ _ => trivial) (fun i x H1 H2 hi s1 y R hR => ?_) (fun H'' s'' hl => ?_)⟩
          · obtain ⟨rfl, rfl⟩ := y
            have i1 : i + 1 < ds.length := by omega
            have i0 : i < ds.length := by omega
            obtain ⟨v1, hv1, hd1⟩ := dpa_get ha (List.getElem?_eq_getElem i1)
            obtain ⟨v0, hv0, hd0⟩ := dpa_get ha (List.getElem?_eq_getElem i0)
            have n1 : isNumD ds[i + 1] = true := List.all_eq_true.mp hn _ (List.getElem_mem i1)
            have n0 : isNumD ds[i] = true := List.all_eq_true.mp hn _ (List.getElem_mem i0)
            have g1 : ds.getD (i + 1) .none = ds[i + 1] := by simp [List.getD_eq_getElem?_getD, List.getElem?_eq_getElem i1]
            have g0 : ds.getD i .none = ds[i] := by simp [List.getD_eq_getElem?_getD, List.getElem?_eq_getElem i0]
            obtain ⟨z1, e1⟩ : ∃ z, ds[i + 1] = .int z := by
              cases hh : ds[i + 1] with
              | int z => exact ⟨z, rfl⟩
              | _ => rw [hh] at n1; cases n1
            obtain ⟨z0, e0⟩ : ∃ z, ds[i] = .int z := by
              cases hh : ds[i] with
              | int z => exact ⟨z, rfl⟩
              | _ => rw [hh] at n0; cases n0
            rw [e1] at hd1
            rw [e0] at hd0
            cases hd1
            cases hd0
            rw [g1, g0, e1, e0] at hR
            refine ⟨rfl, _, rfl, _, rfl, _, _, rfl, rfl, a, xs, _, V.int z0, rfl, rfl, Same.seqT s1 hq', at_of (by omega) hv0, _, rfl, _, rfl, a, xs, _, V.int z1, rfl, rfl, Same.seqT s1 hq', at_of (by omega) hv1, _, _, rfl, rfl, ?_⟩
            exact hR _ (Same.refl _)
          · have hr2 : (List.range ((xs.length : Int) - 1).toNat).map (fun i => decide (intOf (ds.getD i .none) < intOf (ds.getD (i + 1) .none))) = riseL ds := by
              rw [hl1]
              exact riseL_eq ds
            refine ⟨D2, riseL ds, rfl, .inl (.inl (by rw [hl, ← hr2, List.map_map]; rfl)), ?_⟩
            have e2 : (riseL ds).all id = risingD (.tuple ds) := by
              show _ = (ds.all isNumD && riseB ds)
              rw [hn, riseL_all]
              rfl
            rw [e2]
            exact q H'' (s'.trans s'')
    | dict _ => exact absurd rfl (dp_nodict hd _)
    | _ => exact iteT (iteT (q H (Same.refl H)))
end
end V0
namespace V0
open PySem PySem.Spec PyProof.Rows L2
section
variable {P : Program} {w : World} {K : PySem.W.Frag} {mg : Str → Option Value} {base : Heap}
abbrev s_is_lot : Stmt := topS 16
theorem sc_is_lot : FnScope ["many", "thing"] ["many", "thing"] (defScope s_is_lot) := ⟨rfl, rfl, rfl, by decide +kernel, rfl, by decide +kernel, by decide +kernel⟩
theorem ok_is_lot  (T : Tops K mg) : Df P w K mg base CX0 4 "is_lot" s_is_lot ["many", "thing"] (spB2 K lotD) := by
  have G_is_rising := ok_is_rising (P := P) (w := w) (base := base) T
  refine df_mk (k := 4-1) T.d_is_lot sc_is_lot (fun vs H Q E h => ?_) (fun _ _ _ _ _ _ us hl => match us, hl with | [_, _], _ => rfl) (fun f cdv A outer s H vs Q E hr h => ?_)
  · obtain ⟨p, v, d, rfl, _⟩ := h
    rfl
  · obtain ⟨p, v, d, rfl, hd, hs, q⟩ := h
    refine ⟨_, (pss_one (ps_ret ((pe_and (pe_df G_is_rising (hr.mono (by decide)) (by rfl) pass0 (pa_cons (pv 1) pa_nil)) (pe_one ((pe_or (pe_cmpR (op_eqD hr.units) (pv 1) (pe_tup pa_nil) (nomark _)) (pe_one (pe_cmpR op_lt (pe_ix (show IxR _ (rIxT K) from ix_tup) (pv 1) (pe_un un_neg (pe_int)) (fun _ _ => rfl)) (pv 0) (nomark _)))))))))), ?_⟩
    refine ⟨_, rfl, v, d, rfl, hd, hs, fun H' s => ⟨_, rfl, ?_⟩⟩
    cases d with
    | tuple ds =>
      have hd' := dp_mono s hd
      cases hr2 : risingD (.tuple ds) with
      | false =>
        have e : lotD p (.tuple ds) = false := by
          show (risingD (.tuple ds) && _) = false
          rw [hr2]
          rfl
        rw [e] at q
        exact iteF (q H' s)
      | true =>
        refine iteT ⟨_, rfl, Nat.zero_le _, fun t ht => ⟨.tuple ds, .tuple [], dp_mono (same_upd ht) hd', .tup (.inl (.inl upd_same)) .nil, small_shaped hs, rfl, _, rfl, ?_⟩⟩
        have s2 : Same H (upd H' t (.tup [])) := s.trans (same_upd ht)
        cases ds with
        | nil =>
          refine iteT ?_
          exact q _ s2
        | cons x r =>
          have e0 : PyData.eqv (.tuple (x :: r)) (.tuple []) = false := rfl
          rw [e0]
          cases hd' with
          | @tup a xs _ hq ha =>
          have hn : ((x :: r).all isNumD) = true := (Bool.and_eq_true_iff.mp hr2).1
          have hne : x :: r ≠ [] := List.cons_ne_nil _ _
          have hL : (x :: r)[(x :: r).length - 1]? = some ((x :: r).getLast hne) := by rw [← List.getLast?_eq_getElem?, List.getLast?_eq_getLast hne]
          obtain ⟨vl, hvl, hdl⟩ := dpa_get ha hL
          have nl := List.all_eq_true.mp hn _ (List.getLast_mem hne)
          obtain ⟨z, ez⟩ : ∃ z, (x :: r).getLast hne = .int z := by
            cases hh : (x :: r).getLast hne with
            | int z => exact ⟨z, rfl⟩
            | _ => rw [hh] at nl; cases nl
          rw [ez] at hdl
          cases hdl
          have el : lotD p (.tuple (x :: r)) = decide (z < p) := by
            show (risingD (.tuple (x :: r)) && (false || decide (intOf ((x :: r).getLastD .none) < p))) = _
            rw [hr2]
            have : (x :: r).getLastD .none = .int z := by rw [← ez]; simp [List.getLastD_eq_getLast?, List.getLast?_eq_getLast hne]
            rw [this]
            rfl
          rw [el] at q
          have hxs : xs ≠ [] := by intro e; rw [e] at ha; cases ha
          have hxl : xs.length = (x :: r).length := dpa_len ha
          have hlast : xs = xs.dropLast ++ [V.int z] := by
            have h1 := List.dropLast_concat_getLast hxs
            have h2 : xs.getLast hxs = V.int z := by
              have h3 : xs[xs.length - 1]? = some (xs.getLast hxs) := by rw [← List.getLast?_eq_getElem?, List.getLast?_eq_getLast hxs]
              rw [hxl, hvl] at h3
              exact (Option.some.inj h3).symm
            rw [h2] at h1
            exact h1.symm
          refine iteF ⟨_, rfl, 1, rfl, a, xs, -1, V.int z, rfl, rfl, Same.seqT (same_upd ht) hq, ?_, _, rfl, _, _, rfl, rfl, ?_⟩
          · rw [hlast]
            exact atI_last _ _
          · exact q _ s2
    | dict _ => exact absurd rfl (dp_nodict hd _)
    | _ => exact iteF (q H' s)
abbrev s__law_whole : Stmt := topS 38
theorem sc__law_whole : FnScope ["_law_v"] ["_law_v"] (defScope s__law_whole) := ⟨rfl, rfl, rfl, by decide +kernel, rfl, by decide +kernel, by decide +kernel⟩
theorem ok__law_whole  (T : Tops K mg) : Df P w K mg base CX0 1 "_law_whole" s__law_whole ["_law_v"] (spB1 K isIntD) := by
  refine df_mk (k := 1-1) T.d__law_whole sc__law_whole (fun vs H Q E h => ?_) (fun _ _ _ _ _ _ us hl => match us, hl with | [_], _ => rfl) (fun f cdv A outer s H vs Q E hr h => ?_)
  · obtain ⟨v, d, rfl, _⟩ := h
    rfl
  · obtain ⟨v, d, rfl, hd, hs, q⟩ := h
    refine ⟨_, (pss_one (ps_ret ((pe_and (pe_callB (call_isD .i) (by rfl) T.b_isinstance (by decide +kernel) (pa_cons (pv 0) (pa_cons (pe_bltn (v := .ty "int") rfl T.b_int (by decide +kernel) rfl) pa_nil))) (pe_one (pe_not (pe_callB (call_isD .b) (by rfl) T.b_isinstance (by decide +kernel) (pa_cons (pv 0) (pa_cons (pe_bltn (v := .ty "bool") rfl T.b_bool (by decide +kernel) rfl) pa_nil))))))))), ?_⟩
    refine ⟨_, rfl, _, d, rfl, hd, _, rfl, ?_⟩
    cases d with
    | int i => exact iteT ⟨_, rfl, _, _, rfl, hd, _, rfl, q H (Same.refl H)⟩
    | bool b => exact iteT ⟨_, rfl, _, _, rfl, hd, _, rfl, q H (Same.refl H)⟩
    | dict _ => exact absurd rfl (dp_nodict hd _)
    | _ => exact iteF (q H (Same.refl H))
abbrev s__law_letters : Stmt := topS 39
theorem sc__law_letters : FnScope ["_law_v", "_law_c"] ["_law_v"] (defScope s__law_letters) := ⟨rfl, rfl, rfl, by decide +kernel, rfl, by decide +kernel, by decide +kernel⟩
theorem ok__law_letters  (T : Tops K mg) : Df P w K mg base CX0 1 "_law_letters" s__law_letters ["_law_v"] (spB1 K isWordD) := by
  refine df_mk (k := 1-1) T.d__law_letters sc__law_letters (fun vs H Q E h => ?_) (fun _ _ _ _ _ _ us hl => match us, hl with | [_], _ => rfl) (fun f cdv A outer s H vs Q E hr h => ?_)
  · obtain ⟨v, d, rfl, _⟩ := h
    rfl
  · obtain ⟨v, d, rfl, hd, hs, q⟩ := h
    refine ⟨_, (pss_cons (ps_if (PW.pt (pw_or (pt_not (pt_val (pe_callB (call_isD .s) (by rfl) T.b_isinstance (by decide +kernel) (pa_cons (pv 0) (pa_cons (pe_bltn (v := .ty "str") rfl T.b_str (by decide +kernel) rfl) pa_nil))))) (pw_or1 (pt_cmpR op_eq (pv 0) (pe_str) (nomark _))))) (pss_one (ps_ret (pe_bl))) pss_nil)
        (pss_cons (ps_for PassesOwn.never rfl (pi_str (pv 0)) (pg_name (i := 1) sc__law_letters.nd rfl (Or.inl rfl)) (pss_one (ps_if (pt_cmpR op_notIn_sign (pv 1) (pe_str) (by rfl)) (pss_one (ps_ret (pe_bl))) pss_nil)))
        (pss_one (ps_ret (pe_bl))))), ?_⟩
    refine ⟨_, rfl, _, d, rfl, hd, _, rfl, ?_⟩
    cases d with
    | str z =>
      cases hd
      refine iteF ⟨_, rfl, rfl, _, rfl, ?_⟩
      by_cases h0 : V.str z = V.str ""
      · rw [decide_eq_true h0]
        have e : isWordD (.str z) = false := by
          rw [V.str.inj h0]
          rfl
        rw [e] at q
        exact iteT (q H (Same.refl H))
      · rw [decide_eq_false h0]
        have hz : 0 < z.length := by
          refine Nat.pos_of_ne_zero fun e => h0 ?_
          rw [tx_of z]
          have e2 : z.cps.toList = [] := List.length_eq_zero_iff.mp ((str_len z).symm.trans e)
          rw [e2]
          rfl
        refine iteF ⟨_, rfl, z, rfl, for_it walk_str (fun i σ H' => H' = H ∧ (∃ y, σ = [some (.str z), y]) ∧ ∀ j, j < i → ltr (z.cps.getD j 0) = true) ⟨rfl, ⟨none, rfl⟩, fun j hj => absurd hj (Nat.not_lt_zero j)⟩ (fun _ _ _ _ _ => trivial) (fun i x σ H1 H2 hi hp hy => ?_) (fun σ H1 hp => ?_)⟩
        · obtain ⟨rfl, ⟨y, rfl⟩, hall⟩ := hp
          obtain ⟨rfl, c, hc, rfl⟩ := hy
          have e : z.cps.getD i 0 = c := by simp [Array.getD_eq_getD_getElem?, hc]
          refine ⟨_, rfl, c, _, rfl, rfl, _, rfl, ?_⟩
          cases hl : ltr c with
          | true =>
            have e2 : decide (c ∈ (("IXYZ" : Str)).cps.toList) = true := hl
            rw [e2]
            refine iteF ⟨rfl, ⟨_, rfl⟩, fun j hj => ?_⟩
            by_cases hji : j = i
            · rw [hji, e]
              exact hl
            · exact hall j (by omega)
          | false =>
            have e2 : decide (c ∈ (("IXYZ" : Str)).cps.toList) = false := hl
            rw [e2]
            have e3 : isWordD (.str z) = false := by
              show wordL z.cps.toList = false
              rw [← wordL_map z hz]
              refine Bool.eq_false_iff.mpr fun h => ?_
              have h2 := List.all_eq_true.mp h (ltr c) (List.mem_map.mpr ⟨i, List.mem_range.mpr hi, by rw [e]⟩)
              rw [hl] at h2
              cases h2
            rw [e3] at q
            exact iteT (q _ (Same.refl _))
        · obtain ⟨rfl, ⟨y, rfl⟩, hall⟩ := hp
          have e3 : isWordD (.str z) = true := by
            show wordL z.cps.toList = true
            rw [← wordL_map z hz]
            refine List.all_eq_true.mpr fun b hb => ?_
            obtain ⟨j, hj, rfl⟩ := List.mem_map.mp hb
            exact hall j (List.mem_range.mp hj)
          rw [e3] at q
          exact q _ (Same.refl _)
    | dict _ => exact absurd rfl (dp_nodict hd _)
    | _ => exact iteT (iteT (q H (Same.refl H)))
end
end V0
namespace V0
open PySem PySem.Spec PyProof.Rows L2
section
variable {P : Program} {w : World} {K : PySem.W.Frag} {mg : Str → Option Value} {base : Heap}
abbrev s__law_row : Stmt := topS 40
theorem sc__law_row : FnScope ["_law_n", "_law_v", "_law_c"] ["_law_n", "_law_v"] (defScope s__law_row) := ⟨rfl, rfl, rfl, by decide +kernel, rfl, by decide +kernel, by decide +kernel⟩
theorem ok__law_row  (T : Tops K mg) : Df P w K mg base CX0 2 "_law_row" s__law_row ["_law_n", "_law_v"] (spB2 K isWordsD) := by
  have G__law_letters := ok__law_letters (P := P) (w := w) (base := base) T
  refine df_mk (k := 2-1) T.d__law_row sc__law_row (fun vs H Q E h => ?_) (fun _ _ _ _ _ _ us hl => match us, hl with | [_, _], _ => rfl) (fun f cdv A outer s H vs Q E hr h => ?_)
  · obtain ⟨p, v, d, rfl, _⟩ := h
    rfl
  · obtain ⟨p, v, d, rfl, hd, hs, q⟩ := h
    refine ⟨_, (pss_cons (ps_if (pt_not (pt_val (pe_callB (call_isD .t) (by rfl) T.b_isinstance (by decide +kernel) (pa_cons (pv 1) (pa_cons (pe_bltn (v := .ty "tuple") rfl T.b_tuple (by decide +kernel) rfl) pa_nil))))) (pss_one (ps_ret (pe_bl))) pss_nil)
        (pss_cons (ps_for PassesOwn.never rfl (pi_tup (pv 1)) (pg_name (i := 2) sc__law_row.nd rfl (Or.inl rfl)) (pss_one (ps_if (PW.pt (pw_or (pt_not (pt_val (pe_df G__law_letters (hr.mono (by decide)) (by rfl) pass0 (pa_cons (pv 2) pa_nil)))) (pw_or1 (pt_cmpR op_ne (pe_callB call_len (by rfl) T.b_len (by decide +kernel) (pa_cons (pv 2) pa_nil)) (pv 0) (nomark _))))) (pss_one (ps_ret (pe_bl))) pss_nil)))
        (pss_one (ps_ret (pe_bl))))), ?_⟩
    refine ⟨_, rfl, _, d, rfl, hd, _, rfl, ?_⟩
    cases d with
    | tuple ds =>
      cases hd with
      | @tup a xs _ hq ha =>
      refine iteF ⟨_, rfl, a, rfl, ⟨xs, hq⟩, for_it walk_tup (fun i σ H' => Same H H' ∧ (∃ y, σ = [some (.int p), some (.ref a), y]) ∧ ∀ j, j < i → isWideD p (ds.getD j .none) = true) ⟨Same.refl H, ⟨none, rfl⟩, fun j hj => absurd hj (Nat.not_lt_zero j)⟩ (fun i σ H' _ hp => Same.seqT hp.1 hq) (fun i x σ H1 H2 hi hp hy => ?_) (fun σ H1 hp => ?_)⟩
      · obtain ⟨s1, ⟨y, rfl⟩, hall⟩ := hp
        obtain ⟨rfl, hx⟩ := hy
        obtain ⟨di, hdi, hdx⟩ := dpa_getV ha hx
        have e : ds.getD i .none = di := by simp [List.getD_eq_getElem?_getD, hdi]
        have hdx1 := dp_mono s1 hdx
        have hsi := small_tup hs (List.mem_of_getElem? hdi)
        have bad : isWideD p di = false → isWordsD p (.tuple ds) = false := fun hb => by
          refine Bool.eq_false_iff.mpr fun h => ?_
          have h2 := List.all_eq_true.mp h di (List.mem_of_getElem? hdi)
          rw [hb] at h2
          cases h2
        have good : ∀ H', Same H2 H' → isWideD p di = true → (Same H H' ∧ (∃ y, [some (V.int p), some (.ref a), some x] = [some (.int p), some (.ref a), y]) ∧ ∀ j, j < i + 1 → isWideD p (ds.getD j .none) = true) := fun H' s' hb => by
          refine ⟨s1.trans s', ⟨_, rfl⟩, fun j hj => ?_⟩
          by_cases hji : j = i
          · rw [hji, e]
            exact hb
          · exact hall j (by omega)
        refine ⟨_, rfl, x, di, rfl, hdx1, hsi, fun H' s' => ⟨_, rfl, ?_⟩⟩
        cases hw : isWordD di with
        | false =>
          have hb : isWideD p di = false := by
            cases di with
            | str z =>
              show (wordL z.cps.toList && _) = false
              rw [show wordL z.cps.toList = false from hw]
              rfl
            | _ => rfl
          have qb := bad hb
          rw [qb] at q
          exact iteT (iteT (q H' (s1.trans s')))
        | true =>
          cases di with
          | str z =>
            cases hdx1
            obtain ⟨hz, _⟩ := small_str hsi
            have eb : isWideD p (.str z) = decide ((z.length : Int) = p) := by
              show (wordL z.cps.toList && _) = _
              rw [show wordL z.cps.toList = true from hw]
              rfl
            refine iteF ⟨_, rfl, _, z.length, rfl, ⟨by rw [sizeLine_eq]; omega, rfl⟩, _, rfl, rfl, _, rfl, ?_⟩
            by_cases hzp : (z.length : Int) = p
            · rw [decide_eq_true (congrArg V.int hzp)]
              rw [decide_eq_true hzp] at eb
              exact iteF (good H' s' eb)
            · rw [decide_eq_false (fun e => hzp (V.int.inj e))]
              rw [decide_eq_false hzp] at eb
              have qb := bad eb
              rw [qb] at q
              exact iteT (q H' (s1.trans s'))
          | _ => cases hw
      · obtain ⟨s1, ⟨y, rfl⟩, hall⟩ := hp
        have e : isWordsD p (.tuple ds) = true := by
          refine List.all_eq_true.mpr fun di hdi => ?_
          obtain ⟨j, hj, rfl⟩ := List.getElem_of_mem hdi
          have := hall j (by rw [dpa_len ha]; exact hj)
          simpa [List.getD_eq_getElem?_getD, List.getElem?_eq_getElem hj] using this
        rw [e] at q
        exact q H1 s1
    | dict _ => exact absurd rfl (dp_nodict hd _)
    | _ => exact iteT (q H (Same.refl H))
abbrev s__law_rising : Stmt := topS 41
theorem sc__law_rising : FnScope ["_law_m", "_law_v", "_law_last", "_law_c"] ["_law_m", "_law_v"] (defScope s__law_rising) := ⟨rfl, rfl, rfl, by decide +kernel, rfl, by decide +kernel, by decide +kernel⟩
theorem ok__law_rising  (T : Tops K mg) : Df P w K mg base CX0 2 "_law_rising" s__law_rising ["_law_m", "_law_v"] (spB2 K lotD) := by
  have G__law_whole := ok__law_whole (P := P) (w := w) (base := base) T
  refine df_mk (k := 2-1) T.d__law_rising sc__law_rising (fun vs H Q E h => ?_) (fun _ _ _ _ _ _ us hl => match us, hl with | [_, _], _ => rfl) (fun f cdv A outer s H vs Q E hr h => ?_)
  · obtain ⟨p, v, d, rfl, _⟩ := h
    rfl
  · obtain ⟨p, v, d, rfl, hd, hs, q⟩ := h
    refine ⟨_, (pss_cons (ps_if (pt_not (pt_val (pe_callB (call_isD .t) (by rfl) T.b_isinstance (by decide +kernel) (pa_cons (pv 1) (pa_cons (pe_bltn (v := .ty "tuple") rfl T.b_tuple (by decide +kernel) rfl) pa_nil))))) (pss_one (ps_ret (pe_bl))) pss_nil)
        (pss_cons (ps_set (i := 2) sc__law_rising.nd rfl (Or.inl rfl) (pe_un un_neg (pe_int)))
        (pss_cons (ps_for PassesOwn.never rfl (pi_tup (pv 1)) (pg_name (i := 3) sc__law_rising.nd rfl (Or.inl rfl)) (pss_cons (ps_if (PW.pt (pw_or (pt_not (pt_val (pe_df G__law_whole (hr.mono (by decide)) (by rfl) pass0 (pa_cons (pv 3) pa_nil)))) (pw_or (pt_cmpR op_le (pv 3) (pv 2) (nomark _)) (pw_or1 (pt_cmpR op_ge (pv 3) (pv 0) (nomark _)))))) (pss_one (ps_ret (pe_bl))) pss_nil)
        (pss_one (ps_set (i := 2) sc__law_rising.nd rfl (Or.inl rfl) (pv 3)))))
        (pss_one (ps_ret (pe_bl)))))), ?_⟩
    refine ⟨_, rfl, _, d, rfl, hd, _, rfl, ?_⟩
    cases d with
    | tuple ds =>
      cases hd with
      | @tup a xs _ hq ha =>
      rw [← lotL_eq] at q
      refine iteF ⟨1, rfl, _, rfl, a, rfl, ⟨xs, hq⟩, for_it walk_tup (fun i σ H' => Same H H' ∧ ∃ l y, σ = [some (.int p), some (.ref a), some (.int l), y] ∧ lotL p (-1) ds = lotL p l (ds.drop i)) ⟨Same.refl H, -1, none, rfl, rfl⟩ (fun i σ H' _ hp => Same.seqT hp.1 hq) (fun i x σ H1 H2 hi hp hy => ?_) (fun σ H1 hp => ?_)⟩
      · obtain ⟨s1, l, y, rfl, hl⟩ := hp
        obtain ⟨rfl, hx⟩ := hy
        obtain ⟨di, hdi, hdx⟩ := dpa_getV ha hx
        have hdr : ds.drop i = di :: ds.drop (i + 1) := by
          obtain ⟨hlt, e⟩ := List.getElem?_eq_some_iff.mp hdi
          rw [List.drop_eq_getElem_cons hlt, e]
        have hdx1 := dp_mono s1 hdx
        have hsi := small_tup hs (List.mem_of_getElem? hdi)
        rw [hl, hdr] at q
        refine ⟨_, rfl, x, di, rfl, hdx1, hsi, fun H' s' => ⟨_, rfl, ?_⟩⟩
        cases di with
        | int z =>
          cases hdx1
          refine iteF ⟨_, rfl, _, rfl, _, _, rfl, rfl, _, rfl, ?_⟩
          by_cases h1 : z ≤ l
          · rw [decide_eq_true h1]
            have e : lotL p l (.int z :: ds.drop (i + 1)) = false := by
              show ((decide (l < z) && _) && _) = false
              rw [decide_eq_false (by omega)]
              rfl
            rw [e] at q
            exact iteT (iteT (q H' (s1.trans s')))
          · rw [decide_eq_false h1]
            refine iteF ⟨_, rfl, _, rfl, _, _, rfl, rfl, _, rfl, ?_⟩
            by_cases h2 : p ≤ z
            · rw [decide_eq_true h2]
              have e : lotL p l (.int z :: ds.drop (i + 1)) = false := by
                show ((_ && decide (z < p)) && _) = false
                rw [show decide (z < p) = false from decide_eq_false (by omega), Bool.and_false]
                rfl
              rw [e] at q
              exact iteT (q H' (s1.trans s'))
            · rw [decide_eq_false h2]
              refine iteF ⟨_, rfl, s1.trans s', z, _, rfl, ?_⟩
              rw [hl, hdr]
              show ((decide (l < z) && decide (z < p)) && _) = _
              rw [show decide (l < z) = true from decide_eq_true (by omega), show decide (z < p) = true from decide_eq_true (by omega)]
              rfl
        | _ => exact iteT (iteT (q H' (s1.trans s')))
      · obtain ⟨s1, l, y, rfl, hl⟩ := hp
        have e : ds.drop xs.length = [] := by rw [dpa_len ha]; exact List.drop_length
        rw [hl, e] at q
        exact q H1 s1
    | dict _ => exact absurd rfl (dp_nodict hd _)
    | _ => exact iteT (q H (Same.refl H))
end
end V0
namespace V0
open PySem PySem.Spec PyProof.Rows L2
abbrev fault (x : Str) (k : Int) : Option (Str × Int) := some (x, k)
theorem wf_bad {p : Int} {seen : List Str} {k : Nat} {x : PyData} {r : List PyData} (h : isWordD x = false) : wordsFault p seen k (x :: r) = fault "word" (k : Int) := by
  cases x with
  | str z =>
    have e : isWideD p (.str z) = false := by
      show (wordL z.cps.toList && _) = false
      rw [show wordL z.cps.toList = false from h]
      rfl
    show (if isWideD p (.str z) = true then _ else _) = _
    rw [e]
    rfl
  | _ => rfl
theorem wf_narrow {p : Int} {seen : List Str} {k : Nat} {z : Str} {r : List PyData} (h : isWideD p (.str z) = false) : wordsFault p seen k (.str z :: r) = fault "word" (k : Int) := by
  show (if isWideD p (.str z) = true then _ else _) = _
  rw [h]
  rfl
theorem wf_blank {p : Int} {seen : List Str} {k : Nat} {z : Str} {r : List PyData} (h : isWideD p (.str z) = true) (hb : blankS z = true) : wordsFault p seen k (.str z :: r) = fault "blank" (k : Int) := by
  show (if isWideD p (.str z) = true then (if blankS z = true then _ else _) else _) = _
  rw [if_pos h, if_pos hb]
theorem wf_again {p : Int} {seen : List Str} {k : Nat} {z : Str} {r : List PyData} (h : isWideD p (.str z) = true) (hb : blankS z = false) (hm : z ∈ seen) : wordsFault p seen k (.str z :: r) = fault "again" (k : Int) := by
  show (if isWideD p (.str z) = true then (if blankS z = true then _ else if z ∈ seen then _ else _) else _) = _
  rw [if_pos h, if_neg (by rw [hb]; exact Bool.false_ne_true), if_pos hm]
theorem wf_next {p : Int} {seen : List Str} {k : Nat} {z : Str} {r : List PyData} (h : isWideD p (.str z) = true) (hb : blankS z = false) (hm : ¬ z ∈ seen) : wordsFault p seen k (.str z :: r) = wordsFault p (seen ++ [z]) (k + 1) r := by
  show (if isWideD p (.str z) = true then (if blankS z = true then _ else if z ∈ seen then _ else _) else _) = _
  rw [if_pos h, if_neg (by rw [hb]; exact Bool.false_ne_true), if_neg hm]
theorem two_ok : 2 ≤ sizeLine := by decide
theorem walk_r0 {n : Nat} : Walk (Itr 0 n) n (fun _ => True) (fun i H x H' => H' = H ∧ x = .int (i : Nat)) :=
  walk_range.mono (fun _ h => h) fun i H x H' _ _ y => ⟨y.1, by rw [y.2]; show V.int (0 + (i : Int)) = _; rw [Int.zero_add]⟩
theorem dp_fault {K : PySem.W.Frag} {H : Hp} {t : Addr} {x : Str} {k : Int} : Dp K (upd H t (.tup [.str x, .int k])) (.ref t) (faultD (some (x, k))) := .tup (.inl (.inl upd_same)) (.cons (.str x) (.cons (.int k) .nil))
/-- a def of one thing, that tells its first fault as a house -/
def spF (K : PySem.W.Frag) : Sp := fun vs H Q _ => ∃ v d, vs = [v] ∧ Dp K H v d ∧ small d = true ∧ ∀ r H', Same H H' → Dp K H' r (faultD (houseFault d)) → Q r H'
section
variable {P : Program} {w : World} {K : PySem.W.Frag} {mg : Str → Option Value} {base : Heap}
abbrev s__law_fault : Stmt := topS 42
theorem sc__law_fault : FnScope ["_law_v", "_law_seen", "_law_k", "_law_w"] ["_law_v"] (defScope s__law_fault) := ⟨rfl, rfl, rfl, by decide +kernel, rfl, by decide +kernel, by decide +kernel⟩
theorem ok__law_fault  (T : Tops K mg) : Df P w K mg base CX0 2 "_law_fault" s__law_fault ["_law_v"] (spF K) := by
  have G__law_whole := ok__law_whole (P := P) (w := w) (base := base) T
  have G__law_letters := ok__law_letters (P := P) (w := w) (base := base) T
  refine df_mk (k := 2-1) T.d__law_fault sc__law_fault (fun vs H Q E h => ?_) (fun _ _ _ _ _ _ us hl => match us, hl with | [_], _ => rfl) (fun f cdv A outer s H vs Q E hr h => ?_)
  · obtain ⟨v, d, rfl, _⟩ := h
    rfl
  · obtain ⟨v, d, rfl, hd, hs, q⟩ := h
    refine ⟨_, (pss_cons (ps_if (PW.pt (pw_or (pt_not (pt_val (pe_callB (call_isD .t) (by rfl) T.b_isinstance (by decide +kernel) (pa_cons (pv 0) (pa_cons (pe_bltn (v := .ty "tuple") rfl T.b_tuple (by decide +kernel) rfl) pa_nil))))) (pw_or1 (pt_cmpR op_ne (pe_callB call_len (by rfl) T.b_len (by decide +kernel) (pa_cons (pv 0) pa_nil)) (pe_int) (nomark _))))) (pss_one (ps_ret (pe_tup (pa_cons (pe_str) (pa_cons (pe_un un_neg (pe_int)) pa_nil))))) pss_nil)
        (pss_cons (ps_if (PW.pt (pw_or (pt_not (pt_val (pe_df G__law_whole (hr.mono (by decide)) (by rfl) pass0 (pa_cons (pe_ix (show IxR _ (rIxT K) from ix_tup) (pv 0) (pe_int) (fun _ _ => rfl)) pa_nil)))) (pw_or1 (pt_cmpR op_lt (pe_ix (show IxR _ (rIxT K) from ix_tup) (pv 0) (pe_int) (fun _ _ => rfl)) (pe_int) (nomark _))))) (pss_one (ps_ret (pe_tup (pa_cons (pe_str) (pa_cons (pe_un un_neg (pe_int)) pa_nil))))) pss_nil)
        (pss_cons (ps_if (pt_not (pt_val (pe_callB (call_isD .t) (by rfl) T.b_isinstance (by decide +kernel) (pa_cons (pe_ix (show IxR _ (rIxT K) from ix_tup) (pv 0) (pe_int) (fun _ _ => rfl)) (pa_cons (pe_bltn (v := .ty "tuple") rfl T.b_tuple (by decide +kernel) rfl) pa_nil))))) (pss_one (ps_ret (pe_tup (pa_cons (pe_str) (pa_cons (pe_un un_neg (pe_int)) pa_nil))))) pss_nil)
        (pss_cons (ps_set (i := 1) sc__law_fault.nd rfl (Or.inl rfl) (pe_lst pa_nil))
        (pss_cons (ps_for PassesOwn.never rfl (pi_range1 (by rfl) T.b_range (pa_cons (pe_callB call_len (by rfl) T.b_len (by decide +kernel) (pa_cons (pe_ix (show IxR _ (rIxT K) from ix_tup) (pv 0) (pe_int) (fun _ _ => rfl)) pa_nil)) pa_nil)) (pg_name (i := 2) sc__law_fault.nd rfl (Or.inl rfl)) (pss_cons (ps_set (i := 3) sc__law_fault.nd rfl (Or.inl rfl) (pe_ix (show IxR _ (rIxT K) from ix_tup) (pe_ix (show IxR _ (rIxT K) from ix_tup) (pv 0) (pe_int) (fun _ _ => rfl)) (pv 2) (fun _ _ => rfl)))
        (pss_cons (ps_if (PW.pt (pw_or (pt_not (pt_val (pe_df G__law_letters (hr.mono (by decide)) (by rfl) pass0 (pa_cons (pv 3) pa_nil)))) (pw_or1 (pt_cmpR op_ne (pe_callB call_len (by rfl) T.b_len (by decide +kernel) (pa_cons (pv 3) pa_nil)) (pe_ix (show IxR _ (rIxT K) from ix_tup) (pv 0) (pe_int) (fun _ _ => rfl)) (nomark _))))) (pss_one (ps_ret (pe_tup (pa_cons (pe_str) (pa_cons (pv 2) pa_nil))))) pss_nil)
        (pss_cons (ps_if (pt_cmpR op_eq (pe_bm PySem.F.plainAttrs_str PySem.F.slot_str_count PySem.F.type_str_count mt_count (pv 3) (pa_cons (pe_str) pa_nil)) (pe_callB call_len (by rfl) T.b_len (by decide +kernel) (pa_cons (pv 3) pa_nil)) (nomark _)) (pss_one (ps_ret (pe_tup (pa_cons (pe_str) (pa_cons (pv 2) pa_nil))))) pss_nil)
        (pss_cons (ps_if (pt_cmpR op_in_seq (pv 3) (pv 1) (by rfl)) (pss_one (ps_ret (pe_tup (pa_cons (pe_str) (pa_cons (pv 2) pa_nil))))) pss_nil)
        (pss_one (ps_expr (pe_bm PySem.F.plainAttrs_list PySem.F.slot_list_append PySem.F.type_list_append mt_append (pv 1) (pa_cons (pv 3) pa_nil)))))))))
        (pss_one (ps_ret (pe_non)))))))), ?_⟩
    refine ⟨_, rfl, _, d, rfl, hd, _, rfl, ?_⟩
    have shape : houseFault d = fault "shape" (-1) → ∀ H' , Same H H' → ∀ t, H' t = none → Q (.ref t) (upd H' t (.tup [.str "shape", .int (-1)])) := fun e H' s' t ht => by
      refine q _ _ (s'.trans (same_upd ht)) ?_
      rw [e]
      exact dp_fault
    cases d with
    | tuple ds =>
      have hd0 := hd
      cases hd with
      | @tup a xs _ hq ha =>
      have hlen := dpa_len ha
      refine iteF ⟨_, rfl, _, xs.length, rfl, .inr ⟨xs, hq, rfl⟩, rfl, _, rfl, ?_⟩
      by_cases h2 : xs.length = 2
      · rw [show decide (V.int ((xs.length : Nat) : Int) = V.int 2) = true from decide_eq_true (by rw [h2]; rfl)]
        obtain ⟨d0, d1, rfl⟩ : ∃ d0 d1, ds = [d0, d1] := by
          match ds, hlen with
          | [d0, d1], _ => exact ⟨d0, d1, rfl⟩
          | [], e => rw [h2] at e; cases e
          | [_], e => rw [h2] at e; cases e
          | _ :: _ :: _ :: _, e => rw [h2] at e; simp at e
        obtain ⟨v0, hv0, hd0⟩ := dpa_get (i := 0) ha rfl
        obtain ⟨v1, hv1, hd1⟩ := dpa_get (i := 1) ha rfl
        have s0 : small d0 = true := small_tup hs (by simp)
        have s1' : small d1 = true := small_tup hs (by simp)
        refine iteF ⟨_, rfl, a, xs, 0, v0, rfl, rfl, hq, at_of (j := 0) rfl hv0, v0, d0, rfl, hd0, s0, fun H' s' => ⟨_, rfl, ?_⟩⟩
        have places : houseFault (.tuple [d0, d1]) = fault "places" (-1) → ∀ H' , Same H H' → ∀ t, H' t = none → Q (.ref t) (upd H' t (.tup [.str "places", .int (-1)])) := fun e H' s' t ht => by
          refine q _ _ (s'.trans (same_upd ht)) ?_
          rw [e]
          exact dp_fault
        cases d0 with
        | int p =>
          cases hd0
          have hq' := Same.seqT s' hq
          refine iteF ⟨_, rfl, a, xs, 0, _, rfl, rfl, hq', at_of (j := 0) rfl hv0, _, _, rfl, rfl, _, rfl, ?_⟩
          by_cases hp : p < 1
          · rw [decide_eq_true hp]
            exact iteT ⟨1, rfl, two_ok, fun t ht => places (by show (if p < 1 then _ else _) = _; rw [if_pos hp]) _ s' t ht⟩
          · rw [decide_eq_false hp]
            refine iteF ⟨_, rfl, a, xs, 1, v1, rfl, rfl, hq', at_of (j := 1) rfl hv1, v1, d1, rfl, dp_mono s' hd1, _, rfl, ?_⟩
            have wordsQ : houseFault (.tuple [.int p, d1]) = fault "words" (-1) → ∀ t, H' t = none → Q (.ref t) (upd H' t (.tup [.str "words", .int (-1)])) := fun e t ht => by
              refine q _ _ (s'.trans (same_upd ht)) ?_
              rw [e]
              exact dp_fault
            cases d1 with
            | tuple ws =>
              have hd1' := hd1
              cases hd1' with
              | @tup b ys _ hr1 hb =>
              have hw : houseFault (.tuple [.int p, .tuple ws]) = wordsFault p [] 0 ws := by
                show (if p < 1 then _ else _) = _
                rw [if_neg hp]
              rw [hw] at q
              have hlw := dpa_len hb
              have hlw2 := small_len s1'
              refine iteF ⟨Nat.zero_le _, fun so hso => ⟨_, rfl, a, xs, 1, _, rfl, rfl, Same.seqT (same_upd hso) hq', at_of (j := 1) rfl hv1, _, ys.length, rfl, .inr ⟨ys, Same.seqT (same_upd hso) (Same.seqT s' hr1), rfl⟩, _, rfl, by omega, by omega, ?_⟩⟩
              have hsoH : H so = none := s'.free hso
              refine for_it walk_r0 (fun i σ H2 => ∃ (seen : List Str) (y2 y3 : Option V), σ = [some (.ref a), some (.ref so), y2, y3] ∧ Same H' H2 ∧ H2 so = some (.lst (seen.map V.str)) ∧ seen.length ≤ i ∧ wordsFault p [] 0 ws = wordsFault p seen i (ws.drop i)) ⟨[], none, none, rfl, same_upd hso, upd_same, Nat.le_refl _, rfl⟩ (fun _ _ _ _ _ => trivial) (fun i x σ H2 H3 hi hp' hy => ?_) (fun σ H2 hp' => ?_)
              · obtain ⟨seen, y2, y3, rfl, s2, hseen, hsl, hwf⟩ := hp'
                obtain ⟨rfl, rfl⟩ := hy
                have hiw : i < ws.length := by omega
                obtain ⟨vw, hvw, hdw⟩ := dpa_get hb (List.getElem?_eq_getElem hiw)
                have hsw : small ws[i] = true := small_tup s1' (List.getElem_mem hiw)
                have hdr : ws.drop i = ws[i] :: ws.drop (i + 1) := List.drop_eq_getElem_cons hiw
                rw [hwf, hdr] at q
                have sA : Same H H3 := s'.trans s2
                have hdw3 := dp_mono sA hdw
                refine ⟨_, rfl, a, xs, 1, _, rfl, rfl, Same.seqT sA hq, at_of (j := 1) rfl hv1, _, rfl, b, ys, _, vw, rfl, rfl, Same.seqT sA hr1, at_of (by omega) hvw, ?_⟩
                refine ⟨_, rfl, vw, ws[i], rfl, hdw3, hsw, fun H4 s4 => ⟨_, rfl, ?_⟩⟩
                have wq : wordsFault p seen i (ws[i] :: ws.drop (i + 1)) = fault "word" (i : Int) → ∀ H', Same H4 H' → ∀ t, H' t = none → Q (.ref t) (upd H' t (.tup [.str "word", .int (i : Int)])) := fun e H' s' t ht => by
                  refine q _ _ (((sA.trans s4).trans s').trans (same_upd ht)) ?_
                  rw [e]
                  exact dp_fault
                cases hww : isWordD ws[i] with
                | false => exact iteT (iteT ⟨_, rfl, two_ok, fun t ht => wq (wf_bad hww) _ (Same.refl _) t ht⟩)
                | true =>
                  obtain ⟨z, hz⟩ : ∃ z, ws[i] = .str z := by
                    cases hh : ws[i] with
                    | str z => exact ⟨z, rfl⟩
                    | _ => rw [hh] at hww; cases hww
                  rw [hz] at hww hdw3 hsw wq q
                  cases hdw3
                  obtain ⟨hzl, _⟩ := small_str hsw
                  have hzl2 : z.length ≤ sizeLine := by rw [sizeLine_eq]; omega
                  have sB := sA.trans s4
                  refine iteF ⟨_, rfl, _, z.length, rfl, ⟨hzl2, rfl⟩, _, rfl, a, xs, 0, _, rfl, rfl, Same.seqT sB hq, at_of (j := 0) rfl hv0, rfl, _, rfl, ?_⟩
                  by_cases hzp : (z.length : Int) = p
                  · rw [decide_eq_true (congrArg V.int hzp)]
                    have hwide : isWideD p (.str z) = true := by
                      show (wordL z.cps.toList && _) = true
                      rw [show wordL z.cps.toList = true from hww, decide_eq_true hzp]
                      rfl
                    refine iteF ⟨_, rfl, rfl, z, _, rfl, rfl, _, rfl, _, z.length, rfl, ⟨hzl2, rfl⟩, rfl, _, rfl, ?_⟩
                    rw [count_full]
                    cases hbl : blankS z with
                    | true =>
                      refine iteT ⟨_, rfl, two_ok, fun t ht => ?_⟩
                      refine q _ _ (sB.trans (same_upd ht)) ?_
                      rw [wf_blank hwide hbl]
                      exact dp_fault
                    | false =>
                      have hseen4 := s4 _ _ hseen
                      refine iteF ⟨_, rfl, _, rfl, so, seen.map V.str, rfl, .inl (.inl (.inl hseen4)), rfl, flat_strs seen, _, rfl, ?_⟩
                      rw [show (if false = true then !inV (.str z) (seen.map V.str) else inV (.str z) (seen.map V.str)) = decide (z ∈ seen) from inV_str z seen]
                      by_cases hm : z ∈ seen
                      · rw [decide_eq_true hm]
                        refine iteT ⟨_, rfl, two_ok, fun t ht => ?_⟩
                        refine q _ _ (sB.trans (same_upd ht)) ?_
                        rw [wf_again hwide hbl hm]
                        exact dp_fault
                      · rw [decide_eq_false hm]
                        refine iteF ⟨_, rfl, .inl ⟨rfl, _, .inl (.inl hseen4)⟩, _, rfl, so, _, _, rfl, rfl, hseen4, by rw [List.length_map, sizeLine_eq]; omega, ?_⟩
                        refine ⟨seen ++ [z], _, _, rfl, fun b' o e => ?_, by rw [upd_same, List.map_append]; rfl, by rw [List.length_append, List.length_singleton]; omega, ?_⟩
                        · rw [upd_ne (ne_of_none e hso)]
                          exact s4 _ _ (s2 _ _ e)
                        · rw [hwf, hdr, hz, wf_next hwide hbl hm]
                  · rw [decide_eq_false (fun e => hzp (V.int.inj e))]
                    have hwide : isWideD p (.str z) = false := by
                      show (wordL z.cps.toList && _) = false
                      rw [decide_eq_false hzp, Bool.and_false]
                    exact iteT ⟨_, rfl, two_ok, fun t ht => wq (wf_narrow hwide) _ (Same.refl _) t ht⟩
              · obtain ⟨seen, y2, y3, rfl, s2, hseen, hsl, hwf⟩ := hp'
                rw [hwf, hlw, Int.toNat_natCast, List.drop_length] at q
                exact q _ _ (s'.trans s2) .non
            | dict _ => exact absurd rfl (dp_nodict hd1 _)
            | _ => exact iteT ⟨1, rfl, two_ok, fun t ht => wordsQ (by show (if p < 1 then _ else _) = _; rw [if_neg hp]) t ht⟩
        | dict _ => exact absurd rfl (dp_nodict hd0 _)
        | _ => exact iteT (iteT ⟨1, rfl, two_ok, fun t ht => places rfl _ s' t ht⟩)
      · rw [show decide (V.int ((xs.length : Nat) : Int) = V.int 2) = false from decide_eq_false (fun e => h2 (by have := V.int.inj e; omega))]
        refine iteT ⟨1, rfl, two_ok, fun t ht => shape ?_ _ (Same.refl H) t ht⟩
        match ds, hlen with
        | [d0, d1], e => exact absurd e h2
        | [], e => rfl
        | [_], e => rfl
        | _ :: _ :: _ :: _, e => rfl
    | dict _ => exact absurd rfl (dp_nodict hd _)
    | _ => exact iteT (iteT ⟨1, rfl, two_ok, fun t ht => shape rfl _ (Same.refl H) t ht⟩)
end
end V0
namespace V0
open PySem PySem.Spec PyProof.Rows L2
/-! ### the errors: classes with an __init__ of two fields -/
/-- what the top has left of the class x, its __init__ the def st -/
structure Ex2 (K : PySem.W.Frag) (mg : Str → Option Value) (x q f1 f2 : Str) (st : Stmt) (C : Addr) : Prop where
  oex : OexC K C
  xf : XfC K C
  gC : mg x = some (.ref C)
  n1 : PySem.W.findIn K (.ref C) f1 = some none
  n2 : PySem.W.findIn K (.ref C) f2 = some none
  ini : ∃ (fI : Addr) (fd : FuncData), PySem.W.findIn K (.ref C) "__init__" = some (some (.ref fI)) ∧ PySem.W.typeIn K (.ref fI) = some (.type "function") ∧ FunD K "__init__" q (defArgs st) (defBody st) (defScope st) [] [] fI fd
/-- __init__(self, a, b): both fields are set -/
def spInit (K : PySem.W.Frag) (f1 f2 : Str) : Sp := fun vs H Q _ => ∃ (a C : Addr) (v1 v2 : V), vs = [.ref a, v1, v2] ∧ OexC K C ∧ PySem.W.findIn K (.ref C) f1 = some none ∧ PySem.W.findIn K (.ref C) f2 = some none ∧ H a = some (exo a C none) ∧
  ∀ dx, H dx = none → dx ≠ a → Q .non (upd (upd (upd H dx (exd dx [(f1, v1)])) a (exo a C (some dx))) dx (exd dx [(f2, v2), (f1, v1)]))
section
variable {P : Program} {w : World} {K : PySem.W.Frag} {mg : Str → Option Value} {base : Heap}
abbrev i_InvalidPaper : Stmt := inClass (topS 5) 0
theorem sc_InvalidPaper : FnScope ["self", "word", "at"] ["self", "word", "at"] (defScope i_InvalidPaper) := ⟨rfl, rfl, rfl, by decide +kernel, rfl, by decide +kernel, by decide +kernel⟩
theorem ok_init_InvalidPaper {fI : Addr} {fd : FuncData} (F : FunD K "__init__" "InvalidPaper.__init__" (defArgs i_InvalidPaper) (defBody i_InvalidPaper) (defScope i_InvalidPaper) [] [] fI fd) : FnOk P w K mg base CX0 1 fI fd ["self", "word", "at"] (spInit K "word" "at") := by
  refine F.ok sc_InvalidPaper (fun vs H Q E h => ?_) (fun cdv A outer s H vs Q E hr h => ?_)
  · obtain ⟨a, C, v1, v2, rfl, _⟩ := h
    rfl
  · obtain ⟨a, C, v1, v2, rfl, T, n1, n2, ha, q⟩ := h
    refine ⟨_, pss_cons (ps_ost (pv 0) (pv 1)) (pss_one (ps_ost (pv 0) (pv 2))), ?_⟩
    refine ⟨_, rfl, _, rfl, a, C, rfl, T, n1, .inl ⟨ha, fun dx hdx ne => ?_⟩⟩
    refine ⟨_, rfl, _, rfl, a, C, rfl, T, n2, .inr ⟨dx, _, upd_same, ?_, ?_, q dx hdx ne⟩⟩
    · rw [upd_ne ne, upd_same]
    · show 1 ≤ 900
      decide
abbrev i_NotUsable : Stmt := inClass (topS 6) 0
theorem sc_NotUsable : FnScope ["self", "word", "at"] ["self", "word", "at"] (defScope i_NotUsable) := ⟨rfl, rfl, rfl, by decide +kernel, rfl, by decide +kernel, by decide +kernel⟩
theorem ok_init_NotUsable {fI : Addr} {fd : FuncData} (F : FunD K "__init__" "NotUsable.__init__" (defArgs i_NotUsable) (defBody i_NotUsable) (defScope i_NotUsable) [] [] fI fd) : FnOk P w K mg base CX0 1 fI fd ["self", "word", "at"] (spInit K "word" "at") := by
  refine F.ok sc_NotUsable (fun vs H Q E h => ?_) (fun cdv A outer s H vs Q E hr h => ?_)
  · obtain ⟨a, C, v1, v2, rfl, _⟩ := h
    rfl
  · obtain ⟨a, C, v1, v2, rfl, T, n1, n2, ha, q⟩ := h
    refine ⟨_, pss_cons (ps_ost (pv 0) (pv 1)) (pss_one (ps_ost (pv 0) (pv 2))), ?_⟩
    refine ⟨_, rfl, _, rfl, a, C, rfl, T, n1, .inl ⟨ha, fun dx hdx ne => ?_⟩⟩
    refine ⟨_, rfl, _, rfl, a, C, rfl, T, n2, .inr ⟨dx, _, upd_same, ?_, ?_, q dx hdx ne⟩⟩
    · rw [upd_ne ne, upd_same]
    · show 1 ≤ 900
      decide
abbrev i_InvalidText : Stmt := inClass (topS 7) 0
theorem sc_InvalidText : FnScope ["self", "line", "field"] ["self", "line", "field"] (defScope i_InvalidText) := ⟨rfl, rfl, rfl, by decide +kernel, rfl, by decide +kernel, by decide +kernel⟩
theorem ok_init_InvalidText {fI : Addr} {fd : FuncData} (F : FunD K "__init__" "InvalidText.__init__" (defArgs i_InvalidText) (defBody i_InvalidText) (defScope i_InvalidText) [] [] fI fd) : FnOk P w K mg base CX0 1 fI fd ["self", "line", "field"] (spInit K "line" "field") := by
  refine F.ok sc_InvalidText (fun vs H Q E h => ?_) (fun cdv A outer s H vs Q E hr h => ?_)
  · obtain ⟨a, C, v1, v2, rfl, _⟩ := h
    rfl
  · obtain ⟨a, C, v1, v2, rfl, T, n1, n2, ha, q⟩ := h
    refine ⟨_, pss_cons (ps_ost (pv 0) (pv 1)) (pss_one (ps_ost (pv 0) (pv 2))), ?_⟩
    refine ⟨_, rfl, _, rfl, a, C, rfl, T, n1, .inl ⟨ha, fun dx hdx ne => ?_⟩⟩
    refine ⟨_, rfl, _, rfl, a, C, rfl, T, n2, .inr ⟨dx, _, upd_same, ?_, ?_, q dx hdx ne⟩⟩
    · rw [upd_ne ne, upd_same]
    · show 1 ≤ 900
      decide
end
/-- the end of X(a, b): a new error, its own dict at d -/
theorem mk2_end {K : PySem.W.Frag} {C : Addr} {f1 f2 : Str} {v1 v2 : V} {H1 : Hp} {Q : XK} (T : OexC K C) (n1 : PySem.W.findIn K (.ref C) f1 = some none) (n2 : PySem.W.findIn K (.ref C) f2 = some none)
    (q : ∀ d H', Same H1 H' → H1 d = none → H' d = some (.xd [(f2, v2), (f1, v1)]) → Q (.ref C) (some d) H') : [v1, v2].length ≤ 1000 ∧ ∀ a, H1 a = none → spInit K f1 f2 (.ref a :: ([v1, v2] ++ [])) (upd H1 a (exo a C none))
      (fun v H2 => v = .non ∧ ∃ (d : Addr) (fs : List (Str × V)), H2 a = some (exo a C (some d)) ∧ H2 d = some (exd d fs) ∧ H1 d = none ∧ Q (.ref C) (some d) (upd (del H2 a) d (.xd fs))) (fun _ _ _ => False) := by
  refine ⟨by show 2 ≤ 1000; decide, fun a ha => ?_⟩
  refine ⟨a, C, v1, v2, rfl, T, n1, n2, upd_same, fun dx hdx ne => ?_⟩
  have hd1 : H1 dx = none := by
    rw [upd_ne ne] at hdx
    exact hdx
  refine ⟨rfl, dx, _, ?_, upd_same, hd1, ?_⟩
  · rw [upd_ne (Ne.symm ne), upd_same]
  · refine q dx _ (fun b o e => ?_) hd1 upd_same
    have nb : b ≠ dx := ne_of_none e hd1
    have na : b ≠ a := ne_of_none e ha
    rw [upd_ne nb, del_ne na, upd_ne nb, upd_ne na, upd_ne nb, upd_ne na]
    exact e
section
variable {X : Cx} {C : Addr} {W : WX} {e1 e2 : Expr} {ta : TA} {p pos pos2 : Pos}
theorem ps_raise_InvalidPaper (T : Ex2 X.K X.mg "InvalidPaper" "InvalidPaper.__init__" "word" "at" i_InvalidPaper C) (hc : X.calm = true) (tk : Takes X W) (hr : Room 2 X.A) (ha : PA X [e1, e2] ta) (hg : Gl X "InvalidPaper" := by rfl)
    (he : starEach [e1, e2] X.env = (false, eval e1 X.env) :: starEach [e2] X.env := by rfl) (hpl : (backTo pos (starEach [e2] X.env)).any (·.1) = false := by rfl) :
    PS X (.Raise (some (.Call (.Name "InvalidPaper" p) [e1, e2] [] pos)) none pos2) (fun _ σ H => tMkO C (spInit X.K "word" "at") [] ta σ H fun cls d H' => W cls d σ H') := by
  obtain ⟨fI, fd, h1, h2, F⟩ := T.ini
  exact ps_raise hc tk (pmk_oex T.oex h1 h2 (ok_init_InvalidPaper (P := X.prog) (w := X.w) (mg := X.mg) (base := X.base) F) hr (F.bindsN fun _ _ _ _ _ _ us hl => match us, hl with | [_, _, _], _ => rfl) .nil pass0 hg T.gC ha (by decide) he hpl)
theorem ps_raise_NotUsable (T : Ex2 X.K X.mg "NotUsable" "NotUsable.__init__" "word" "at" i_NotUsable C) (hc : X.calm = true) (tk : Takes X W) (hr : Room 2 X.A) (ha : PA X [e1, e2] ta) (hg : Gl X "NotUsable" := by rfl)
    (he : starEach [e1, e2] X.env = (false, eval e1 X.env) :: starEach [e2] X.env := by rfl) (hpl : (backTo pos (starEach [e2] X.env)).any (·.1) = false := by rfl) :
    PS X (.Raise (some (.Call (.Name "NotUsable" p) [e1, e2] [] pos)) none pos2) (fun _ σ H => tMkO C (spInit X.K "word" "at") [] ta σ H fun cls d H' => W cls d σ H') := by
  obtain ⟨fI, fd, h1, h2, F⟩ := T.ini
  exact ps_raise hc tk (pmk_oex T.oex h1 h2 (ok_init_NotUsable (P := X.prog) (w := X.w) (mg := X.mg) (base := X.base) F) hr (F.bindsN fun _ _ _ _ _ _ us hl => match us, hl with | [_, _, _], _ => rfl) .nil pass0 hg T.gC ha (by decide) he hpl)
theorem ps_raise_InvalidText (T : Ex2 X.K X.mg "InvalidText" "InvalidText.__init__" "line" "field" i_InvalidText C) (hc : X.calm = true) (tk : Takes X W) (hr : Room 2 X.A) (ha : PA X [e1, e2] ta) (hg : Gl X "InvalidText" := by rfl)
    (he : starEach [e1, e2] X.env = (false, eval e1 X.env) :: starEach [e2] X.env := by rfl) (hpl : (backTo pos (starEach [e2] X.env)).any (·.1) = false := by rfl) :
    PS X (.Raise (some (.Call (.Name "InvalidText" p) [e1, e2] [] pos)) none pos2) (fun _ σ H => tMkO C (spInit X.K "line" "field") [] ta σ H fun cls d H' => W cls d σ H') := by
  obtain ⟨fI, fd, h1, h2, F⟩ := T.ini
  exact ps_raise hc tk (pmk_oex T.oex h1 h2 (ok_init_InvalidText (P := X.prog) (w := X.w) (mg := X.mg) (base := X.base) F) hr (F.bindsN fun _ _ _ _ _ _ us hl => match us, hl with | [_, _, _], _ => rfl) .nil pass0 hg T.gC ha (by decide) he hpl)
end
/-- what the top has left of the errors -/
structure Errs (K : PySem.W.Frag) (mg : Str → Option Value) (cP cU cT : Addr) : Prop where
  ip : Ex2 K mg "InvalidPaper" "InvalidPaper.__init__" "word" "at" i_InvalidPaper cP
  nu : Ex2 K mg "NotUsable" "NotUsable.__init__" "word" "at" i_NotUsable cU
  it : Ex2 K mg "InvalidText" "InvalidText.__init__" "line" "field" i_InvalidText cT
end V0
namespace V0
open PySem PySem.Spec PyProof.Rows L2
abbrev seenK (seen : List Str) : List (Key × V) := seen.map fun z => (Sum.inr z, V.bl true)
theorem seen_any (z : Str) (seen : List Str) : ((seenK seen).any fun kv => decide (kv.1 = Sum.inr z)) = decide (z ∈ seen) := by
  rw [Bool.eq_iff_iff]
  simp only [seenK, List.any_map, List.any_eq_true, Function.comp, decide_eq_true_eq]
  constructor
  · rintro ⟨y, hy, e⟩
    rw [← Sum.inr.inj e]
    exact hy
  · intro h
    exact ⟨z, h, rfl⟩
theorem seen_put {z : Str} {seen : List Str} (h : ¬ z ∈ seen) : putK (seenK seen) (Sum.inr z) (V.bl true) = seenK (seen ++ [z]) := by
  unfold putK
  rw [seen_any, decide_eq_false h, if_neg Bool.false_ne_true]
  simp [seenK]
theorem seen_find (z : Str) (seen : List Str) : (valV (seenK seen) (Sum.inr z)).isSome = decide (z ∈ seen) := by
  rw [← seen_any]
  unfold valV
  rw [Option.isSome_map, Bool.eq_iff_iff, List.find?_isSome, List.any_eq_true]
theorem seen_some {z : Str} {seen : List Str} (h : z ∈ seen) : (valV (seenK seen) (Sum.inr z)).isSome = true := by
  rw [seen_find, decide_eq_true h]
theorem seen_none {z : Str} {seen : List Str} (h : ¬ z ∈ seen) : (valV (seenK seen) (Sum.inr z)).isSome = false := by
  rw [seen_find, decide_eq_false h]
def spWF (K : PySem.W.Frag) : Sp := fun vs H Q _ => ∃ (p : Int) (a : Addr) (ys : List V) (ws : List PyData), vs = [.int p, .ref a] ∧ SqT K H a ys ∧ DpAll K H ys ws ∧ small (.tuple ws) = true ∧ ∀ r H', Same H H' → Dp K H' r (faultD (wordsFault p [] 0 ws)) → Q r H'
section
variable {P : Program} {w : World} {K : PySem.W.Frag} {mg : Str → Option Value} {base : Heap} {cP cU cT : Addr}
abbrev s_words_fault : Stmt := topS 18
theorem sc_words_fault : FnScope ["places", "words", "seen", "k", "word"] ["places", "words"] (defScope s_words_fault) := ⟨rfl, rfl, rfl, by decide +kernel, rfl, by decide +kernel, by decide +kernel⟩
theorem ok_words_fault  (T : Tops K mg) : Df P w K mg base CX0 3 "words_fault" s_words_fault ["places", "words"] (spWF K) := by
  have G_is_wide_word := ok_is_wide_word (P := P) (w := w) (base := base) T
  have G_is_blank := ok_is_blank (P := P) (w := w) (base := base) T
  refine df_mk (k := 3-1) T.d_words_fault sc_words_fault (fun vs H Q E h => ?_) (fun _ _ _ _ _ _ us hl => match us, hl with | [_, _], _ => rfl) (fun f cdv A outer s H vs Q E hr h => ?_)
  · obtain ⟨p, a, ys, ws, rfl, _⟩ := h
    rfl
  · obtain ⟨p, a, ys, ws, rfl, hq, hb, hs, q⟩ := h
    refine ⟨_, (pss_cons (ps_set (i := 2) sc_words_fault.nd rfl (Or.inl rfl) (pe_dnewK))
        (pss_cons (ps_for PassesOwn.never rfl (pi_enumT (by rfl) T.b_enumerate (pa_cons (pv 1) pa_nil)) (pg_tup (by rfl) (pgs_cons (pg_name (i := 3) sc_words_fault.nd rfl (Or.inl rfl)) (pgs_cons (pg_name (i := 4) sc_words_fault.nd rfl (Or.inl rfl)) pgs_nil))) (pss_cons (ps_if (pt_not (pt_val (pe_df G_is_wide_word (hr.mono (by decide)) (by rfl) pass0 (pa_cons (pv 0) (pa_cons (pv 4) pa_nil))))) (pss_one (ps_ret (pe_tup (pa_cons (pe_str) (pa_cons (pv 3) pa_nil))))) pss_nil)
        (pss_cons (ps_if (pt_val (pe_df G_is_blank (hr.mono (by decide)) (by rfl) pass0 (pa_cons (pv 4) pa_nil))) (pss_one (ps_ret (pe_tup (pa_cons (pe_str) (pa_cons (pv 3) pa_nil))))) pss_nil)
        (pss_cons (ps_if (pt_cmp (pc_din (hu_of hr) (pv 4) (pv 2))) (pss_one (ps_ret (pe_tup (pa_cons (pe_str) (pa_cons (pv 3) pa_nil))))) pss_nil)
        (pss_one (ps_dput (hu_of hr) (pv 2) (pv 4) (pe_bl) rfl))))))
        (pss_one (ps_ret (pe_non))))), ?_⟩
    refine fun sd hsd => ?_
    have hl := dpa_len hb
    refine ⟨_, rfl, a, ys, rfl, Same.seqT (same_upd hsd) hq, for_it walk_enumT (fun i σ H2 => ∃ (seen : List Str) (y3 y4 : Option V), σ = [some (.int p), some (.ref a), some (.ref sd), y3, y4] ∧ Same H H2 ∧ H2 sd = some (.dK (seen.map fun z => (Sum.inr z, V.bl true))) ∧ seen.length ≤ i ∧ wordsFault p [] 0 ws = wordsFault p seen i (ws.drop i)) ⟨[], none, none, rfl, same_upd hsd, upd_same, Nat.le_refl _, rfl⟩ (fun i σ H2 _ hp => by obtain ⟨_, _, _, _, s2, _⟩ := hp; exact Same.seqT s2 hq) (fun i x σ H2 H3 hi hp hy => ?_) (fun σ H2 hp => ?_)⟩
    · obtain ⟨seen, y3, y4, rfl, s2, hseen, hsl, hwf⟩ := hp
      obtain ⟨t, v1, y, rfl, ht, rfl, e1, e2⟩ := hy
      cases e1
      obtain ⟨dw, hdw, hdy⟩ := dpa_getV hb e2
      have s3 : Same H2 (upd H2 t (.tup [.int (i : Nat), y])) := same_upd ht
      have sA := s2.trans s3
      have hdr : ws.drop i = dw :: ws.drop (i + 1) := by
        obtain ⟨hlt, e⟩ := List.getElem?_eq_some_iff.mp hdw
        rw [List.drop_eq_getElem_cons hlt, e]
      have hsw : small dw = true := small_tup hs (List.mem_of_getElem? hdw)
      rw [hwf, hdr] at q
      have hdy3 := dp_mono sA hdy
      have hseen3 := s3 _ _ hseen
      refine ⟨t, [.int (i : Nat), y], rfl, .inl (.inl upd_same), rfl, .int (i : Nat), [y], rfl, y, [], rfl, rfl, ?_⟩
      refine ⟨_, rfl, _, rfl, p, y, dw, rfl, hdy3, hsw, fun H4 s4 => ⟨_, rfl, ?_⟩⟩
      have sB := sA.trans s4
      cases hwd : isWideD p dw with
      | false =>
        refine iteT ⟨_, rfl, two_ok, fun t2 ht2 => q _ _ (sB.trans (same_upd ht2)) ?_⟩
        have e : wordsFault p seen i (dw :: ws.drop (i + 1)) = fault "word" (i : Int) := by
          cases dw with
          | str z => exact wf_narrow hwd
          | _ => rfl
        rw [e]
        exact dp_fault
      | true =>
        obtain ⟨z, rfl⟩ : ∃ z, dw = .str z := by
          cases dw with
          | str z => exact ⟨z, rfl⟩
          | _ => cases hwd
        cases hdy3
        obtain ⟨hz, _⟩ := small_str hsw
        refine iteF ⟨_, rfl, z, rfl, hz, fun H5 s5 => ⟨_, rfl, ?_⟩⟩
        have sC := sB.trans s5
        cases hbl : blankS z with
        | true =>
          refine iteT ⟨_, rfl, two_ok, fun t2 ht2 => q _ _ (sC.trans (same_upd ht2)) ?_⟩
          rw [wf_blank hwd hbl]
          exact dp_fault
        | false =>
          have hseen5 := s5 _ _ (s4 _ _ hseen3)
          refine iteF ⟨_, rfl, _, rfl, sd, _, rfl, DGet.k (k := Sum.inr z) hseen5, _, rfl, ?_⟩
          by_cases hm : z ∈ seen
          · rw [seen_some hm]
            refine iteT ⟨_, rfl, two_ok, fun t2 ht2 => q _ _ (sC.trans (same_upd ht2)) ?_⟩
            rw [wf_again hwd hbl hm]
            exact dp_fault
          · rw [seen_none hm]
            refine iteF ⟨_, rfl, _, rfl, sd, _, rfl, DPut.k (k := Sum.inr z) hseen5 (by rw [List.length_map, sizeLine_eq]; have := small_len hs; omega), ?_⟩
            refine ⟨seen ++ [z], _, _, rfl, fun b' o e => ?_, ?_, by rw [List.length_append, List.length_singleton]; omega, ?_⟩
            · rw [upd_ne (ne_of_none e hsd)]
              exact sC _ _ e
            · rw [upd_same, seen_put hm]
            · rw [hwf, hdr, wf_next hwd hbl hm]
    · obtain ⟨seen, y3, y4, rfl, s2, hseen, hsl, hwf⟩ := hp
      rw [hwf, hl, List.drop_length] at q
      exact q _ _ s2 .non
end
end V0
namespace V0
open PySem PySem.Spec PyProof.Rows L2
theorem notpair {ds : List PyData} (h : isPairD (.tuple ds) = false) : houseFault (.tuple ds) = fault "shape" (-1) := by
  match ds, h with
  | [_, _], h => cases h
  | [], _ => rfl
  | [_], _ => rfl
  | _ :: _ :: _ :: _, _ => rfl
theorem pair_of {ds : List PyData} (h : isPairD (.tuple ds) = true) : ∃ d0 d1, ds = [d0, d1] := by
  have e : ds.length = 2 := of_decide_eq_true (show decide (ds.length = 2) = true from h)
  match ds, e with
  | [d0, d1], _ => exact ⟨d0, d1, rfl⟩
def isHouseD (d : PyData) : Bool := (houseFault d).isNone
theorem house_shape {d : PyData} (h : houseFault d = none) : ∃ p ws, d = .tuple [.int p, .tuple ws] := by
  cases d with
  | tuple ds =>
    match ds, h with
    | [.int p, .tuple ws], _ => exact ⟨p, ws, rfl⟩
    | [], h => cases h
    | [_], h => cases h
    | _ :: _ :: _ :: _, h => cases h
    | [.none, _], h => cases h
    | [.bool _, _], h => cases h
    | [.str _, _], h => cases h
    | [.list _, _], h => cases h
    | [.tuple _, _], h => cases h
    | [.dict _, _], h => cases h
    | [.int p, .none], h => exact absurd h (by show (if p < 1 then _ else _) ≠ _; split <;> simp)
    | [.int p, .bool _], h => exact absurd h (by show (if p < 1 then _ else _) ≠ _; split <;> simp)
    | [.int p, .int _], h => exact absurd h (by show (if p < 1 then _ else _) ≠ _; split <;> simp)
    | [.int p, .str _], h => exact absurd h (by show (if p < 1 then _ else _) ≠ _; split <;> simp)
    | [.int p, .list _], h => exact absurd h (by show (if p < 1 then _ else _) ≠ _; split <;> simp)
    | [.int p, .dict _], h => exact absurd h (by show (if p < 1 then _ else _) ≠ _; split <;> simp)
  | _ => cases h
/-- how many words a house has -/
def manyD : PyData → Nat
  | .tuple [_, .tuple ws] => ws.length
  | _ => 0
def spNeed (cU : Addr) : Sp := fun vs H Q E => ∃ (b : Bool) (x : Str), vs = [.bl b, .str x] ∧ (b = true → Q .non H) ∧ (b = false → ∀ d H', Same H H' → H' d = some (.xd [("at", .int (-1)), ("word", .str x)]) → E (.ref cU) (some d) H')
def spLets (K : PySem.W.Frag) (cP : Addr) : Sp := fun vs H Q E => ∃ v d, vs = [v] ∧ Dp K H v d ∧ small d = true ∧ (houseFault d = none → ∀ H', Same H H' → Q (.int (manyD d)) H') ∧
  ∀ x k, houseFault d = fault x k → ∀ dd H', Same H H' → H' dd = some (.xd [("at", .int k), ("word", .str x)]) → E (.ref cP) (some dd) H'
section
variable {P : Program} {w : World} {K : PySem.W.Frag} {mg : Str → Option Value} {base : Heap} {cP cU cT : Addr}
abbrev s_house_fault : Stmt := topS 19
theorem sc_house_fault : FnScope ["thing", "places", "words"] ["thing"] (defScope s_house_fault) := ⟨rfl, rfl, rfl, by decide +kernel, rfl, by decide +kernel, by decide +kernel⟩
theorem ok_house_fault  (T : Tops K mg) : Df P w K mg base CX0 4 "house_fault" s_house_fault ["thing"] (spF K) := by
  have G_is_pair := ok_is_pair (P := P) (w := w) (base := base) T
  have G_is_integer := ok_is_integer (P := P) (w := w) (base := base) T
  have G_words_fault := ok_words_fault (P := P) (w := w) (base := base) T
  refine df_mk (k := 4-1) T.d_house_fault sc_house_fault (fun vs H Q E h => ?_) (fun _ _ _ _ _ _ us hl => match us, hl with | [_], _ => rfl) (fun f cdv A outer s H vs Q E hr h => ?_)
  · obtain ⟨v, d, rfl, _⟩ := h
    rfl
  · obtain ⟨v, d, rfl, hd, hs, q⟩ := h
    refine ⟨_, (pss_cons (ps_if (pt_not (pt_val (pe_df G_is_pair (hr.mono (by decide)) (by rfl) pass0 (pa_cons (pv 0) pa_nil)))) (pss_one (ps_ret (pe_tup (pa_cons (pe_str) (pa_cons (pe_un un_neg (pe_int)) pa_nil))))) pss_nil)
        (pss_cons (ps_asg (pv 0) (pg_tup (by rfl) (pgs_cons (pg_name (i := 1) sc_house_fault.nd rfl (Or.inl rfl)) (pgs_cons (pg_name (i := 2) sc_house_fault.nd rfl (Or.inl rfl)) pgs_nil))))
        (pss_cons (ps_if (PW.pt (pw_or (pt_not (pt_val (pe_df G_is_integer (hr.mono (by decide)) (by rfl) pass0 (pa_cons (pv 1) pa_nil)))) (pw_or1 (pt_cmpR op_lt (pv 1) (pe_int) (nomark _))))) (pss_one (ps_ret (pe_tup (pa_cons (pe_str) (pa_cons (pe_un un_neg (pe_int)) pa_nil))))) pss_nil)
        (pss_cons (ps_if (pt_not (pt_val (pe_callB (call_isD .t) (by rfl) T.b_isinstance (by decide +kernel) (pa_cons (pv 2) (pa_cons (pe_bltn (v := .ty "tuple") rfl T.b_tuple (by decide +kernel) rfl) pa_nil))))) (pss_one (ps_ret (pe_tup (pa_cons (pe_str) (pa_cons (pe_un un_neg (pe_int)) pa_nil))))) pss_nil)
        (pss_one (ps_ret (pe_df G_words_fault (hr.mono (by decide)) (by rfl) pass0 (pa_cons (pv 1) (pa_cons (pv 2) pa_nil))))))))), ?_⟩
    refine ⟨_, rfl, v, d, rfl, hd, hs, fun H' s' => ⟨_, rfl, ?_⟩⟩
    have hd' := dp_mono s' hd
    have ret : ∀ x k, houseFault d = fault x k → ∀ H2, Same H' H2 → ∀ t, H2 t = none → Q (.ref t) (upd H2 t (.tup [.str x, .int k])) := fun x k e H2 s2 t ht => by
      refine q _ _ ((s'.trans s2).trans (same_upd ht)) ?_
      rw [e]
      exact dp_fault
    cases hp : isPairD d with
    | false =>
      have e : houseFault d = fault "shape" (-1) := by
        cases d with
        | tuple ds => exact notpair hp
        | _ => rfl
      exact iteT ⟨1, rfl, two_ok, fun t ht => ret _ _ e _ (Same.refl _) t ht⟩
    | true =>
      obtain ⟨d0, d1, rfl⟩ : ∃ d0 d1, d = .tuple [d0, d1] := by
        cases d with
        | tuple ds =>
          obtain ⟨d0, d1, e⟩ := pair_of hp
          exact ⟨d0, d1, by rw [e]⟩
        | _ => cases hp
      cases hd' with
      | @tup a xs _ hq ha =>
      have hlen := dpa_len ha
      obtain ⟨v0, v1, rfl⟩ : ∃ v0 v1, xs = [v0, v1] := by
        match xs, hlen with
        | [v0, v1], _ => exact ⟨v0, v1, rfl⟩
        | [], e => cases e
        | [_], e => cases e
        | _ :: _ :: _ :: _, e => simp at e
      obtain ⟨_, hv0, hd0⟩ := dpa_get (i := 0) ha rfl
      obtain ⟨_, hv1, hd1⟩ := dpa_get (i := 1) ha rfl
      cases hv0
      cases hv1
      have s0 : small d0 = true := small_tup hs (by simp)
      have s1' : small d1 = true := small_tup hs (by simp)
      refine iteF ⟨_, rfl, a, _, rfl, hq, rfl, v0, [v1], rfl, v1, [], rfl, rfl, ?_⟩
      refine ⟨_, rfl, v0, d0, rfl, hd0, s0, fun H2 s2 => ⟨_, rfl, ?_⟩⟩
      cases d0 with
      | int p =>
        cases hd0
        refine iteF ⟨_, rfl, _, _, rfl, rfl, _, rfl, ?_⟩
        by_cases hlt : p < 1
        · rw [decide_eq_true hlt]
          exact iteT ⟨1, rfl, two_ok, fun t ht => ret _ _ (by show (if p < 1 then _ else _) = _; rw [if_pos hlt]) _ s2 t ht⟩
        · rw [decide_eq_false hlt]
          refine iteF ⟨_, rfl, _, d1, rfl, dp_mono s2 hd1, _, rfl, ?_⟩
          cases d1 with
          | tuple ws =>
            cases hd1 with
            | @tup b ys _ hr1 hb =>
            have hw : houseFault (.tuple [.int p, .tuple ws]) = wordsFault p [] 0 ws := by
              show (if p < 1 then _ else _) = _
              rw [if_neg hlt]
            rw [hw] at q
            exact iteF ⟨_, rfl, _, rfl, p, b, ys, ws, rfl, Same.seqT s2 hr1, dpa_mono s2 hb, s1', fun r H3 s3 hr3 => q r H3 ((s'.trans s2).trans s3) hr3⟩
          | dict _ => exact absurd rfl (dp_nodict hd1 _)
          | _ => exact iteT ⟨1, rfl, two_ok, fun t ht => ret _ _ (by show (if p < 1 then _ else _) = _; rw [if_neg hlt]) _ s2 t ht⟩
      | dict _ => exact absurd rfl (dp_nodict hd0 _)
      | _ => exact iteT (iteT ⟨1, rfl, two_ok, fun t ht => ret _ _ rfl _ s2 t ht⟩)
abbrev s_is_house : Stmt := topS 20
theorem sc_is_house : FnScope ["thing"] ["thing"] (defScope s_is_house) := ⟨rfl, rfl, rfl, by decide +kernel, rfl, by decide +kernel, by decide +kernel⟩
theorem ok_is_house  (T : Tops K mg) : Df P w K mg base CX0 5 "is_house" s_is_house ["thing"] (spB1 K isHouseD) := by
  have G_house_fault := ok_house_fault (P := P) (w := w) (base := base) T
  refine df_mk (k := 5-1) T.d_is_house sc_is_house (fun vs H Q E h => ?_) (fun _ _ _ _ _ _ us hl => match us, hl with | [_], _ => rfl) (fun f cdv A outer s H vs Q E hr h => ?_)
  · obtain ⟨v, d, rfl, _⟩ := h
    rfl
  · obtain ⟨v, d, rfl, hd, hs, q⟩ := h
    refine ⟨_, (pss_one (ps_ret (pe_cmpR op_isN (pe_df G_house_fault (hr.mono (by decide)) (by rfl) pass0 (pa_cons (pv 0) pa_nil)) (pe_non) (nomark _)))), ?_⟩
    refine ⟨_, rfl, v, d, rfl, hd, hs, fun r H' s' hr2 => ⟨rfl, ?_⟩⟩
    have e : decide (r = V.non) = isHouseD d := by
      unfold isHouseD
      cases hf : houseFault d with
      | none =>
        rw [hf] at hr2
        cases hr2
        rfl
      | some y =>
        obtain ⟨x, k⟩ := y
        rw [hf] at hr2
        cases hr2
        rfl
    rw [e]
    exact q H' s'
abbrev s_need : Stmt := topS 24
theorem sc_need : FnScope ["held", "name"] ["held", "name"] (defScope s_need) := ⟨rfl, rfl, rfl, by decide +kernel, rfl, by decide +kernel, by decide +kernel⟩
theorem ok_need (Er : Errs K mg cP cU cT) (T : Tops K mg) : Df P w K mg base (L2.CX P w) 3 "need" s_need ["held", "name"] (spNeed cU) := by
  refine df_mkX (k := 3-1) T.d_need sc_need (fun vs H Q E h => ?_) (fun _ _ _ _ _ _ us hl => match us, hl with | [_, _], _ => rfl) (fun f cdv A outer s H vs Q E hr h => ?_)
  · obtain ⟨b, x, rfl, _⟩ := h
    rfl
  · obtain ⟨b, x, rfl, q1, q2⟩ := h
    refine ⟨_, (pss_one (ps_if (pt_not (pt_val (pv 0))) (pss_one (ps_raise_NotUsable Er.nu rfl (W := fun cls d _ H => E cls d H) (takes_of rfl rfl rfl rfl) (hr.mono (by decide)) (pa_cons (pv 1) (pa_cons (pe_un un_neg (pe_int)) pa_nil)))) pss_nil)), ?_⟩
    refine ⟨_, rfl, b, rfl, ?_⟩
    cases b with
    | true => exact iteF (q1 rfl)
    | false => exact iteT ⟨_, rfl, 1, rfl, mk2_end Er.nu.oex Er.nu.n1 Er.nu.n2 fun d H' s' hd he => q2 rfl d H' s' he⟩
abbrev s_lets_house : Stmt := topS 22
theorem sc_lets_house : FnScope ["thing", "fault"] ["thing"] (defScope s_lets_house) := ⟨rfl, rfl, rfl, by decide +kernel, rfl, by decide +kernel, by decide +kernel⟩
theorem ok_lets_house (Er : Errs K mg cP cU cT) (T : Tops K mg) : Df P w K mg base (L2.CX P w) 5 "lets_house" s_lets_house ["thing"] (spLets K cP) := by
  have G_house_fault := ok_house_fault (P := P) (w := w) (base := base) T
  refine df_mkX (k := 5-1) T.d_lets_house sc_lets_house (fun vs H Q E h => ?_) (fun _ _ _ _ _ _ us hl => match us, hl with | [_], _ => rfl) (fun f cdv A outer s H vs Q E hr h => ?_)
  · obtain ⟨v, d, rfl, _⟩ := h
    rfl
  · obtain ⟨v, d, rfl, hd, hs, q1, q2⟩ := h
    refine ⟨_, (pss_cons (ps_set (i := 1) sc_lets_house.nd rfl (Or.inl rfl) (pe_df G_house_fault (hr.mono (by decide)) (by rfl) pass0 (pa_cons (pv 0) pa_nil)))
        (pss_cons (ps_if (pt_cmpR op_notN (pv 1) (pe_non) (nomark _)) (pss_one (ps_raise_InvalidPaper Er.ip rfl (W := fun cls d _ H => E cls d H) (takes_of rfl rfl rfl rfl) (hr.mono (by decide)) (pa_cons (pe_ix (show IxR _ (rIxT K) from ix_tup) (pv 1) (pe_int) (fun _ _ => rfl)) (pa_cons (pe_ix (show IxR _ (rIxT K) from ix_tup) (pv 1) (pe_int) (fun _ _ => rfl)) pa_nil)))) pss_nil)
        (pss_one (ps_ret (pe_callB call_len (by rfl) T.b_len (by decide +kernel) (pa_cons (pe_ix (show IxR _ (rIxT K) from ix_tup) (pv 0) (pe_int) (fun _ _ => rfl)) pa_nil)))))), ?_⟩
    refine ⟨_, rfl, v, d, rfl, hd, hs, fun r H' s' hr2 => ?_⟩
    refine ⟨r, rfl, rfl, _, rfl, ?_⟩
    cases hf : houseFault d with
    | none =>
      rw [hf] at hr2
      cases hr2
      obtain ⟨p, ws, rfl⟩ := house_shape hf
      have hd' := dp_mono s' hd
      cases hd' with
      | @tup a xs _ hq ha =>
      obtain ⟨v1, hv1, hd1⟩ := dpa_get (i := 1) ha rfl
      cases hd1 with
      | @tup b ys _ hr1 hb =>
      refine iteF ⟨_, rfl, a, xs, 1, _, rfl, rfl, hq, at_of (j := 1) rfl hv1, _, ys.length, rfl, .inr ⟨ys, hr1, rfl⟩, ?_⟩
      rw [dpa_len hb]
      exact q1 hf H' s'
    | some y =>
      obtain ⟨x, k⟩ := y
      rw [hf] at hr2
      cases hr2 with
      | @tup t xs _ hq ha =>
      obtain ⟨v0, hv0, hd0⟩ := dpa_get (i := 0) ha rfl
      obtain ⟨v1, hv1, hd1⟩ := dpa_get (i := 1) ha rfl
      cases hd0
      cases hd1
      exact iteT ⟨_, rfl, t, xs, 0, _, rfl, rfl, hq, at_of (j := 0) rfl hv0, _, rfl, t, xs, 1, _, rfl, rfl, hq, at_of (j := 1) rfl hv1, mk2_end Er.ip.oex Er.ip.n1 Er.ip.n2 fun dd H2 s2 hdd he => q2 x k hf dd H2 (s'.trans s2) he⟩
end
end V0
namespace V0
open PySem PySem.Spec PyProof.Rows L2
theorem n399 : (2147483399 : Int) ≠ 0 := by decide
theorem n647 : (2147483647 : Int) ≠ 0 := by decide
theorem n646 : (2147483646 : Int) ≠ 0 := by decide
/-- what is drawn from: a great number that is used up, and a mixed one -/
def PoolOk (g m : Int) : Prop := 0 ≤ g ∧ 0 ≤ m ∧ m < 2147483647
def Pool (H : Hp) (p : Addr) : Prop := ∃ g m, H p = some (.lst [.int g, .int m]) ∧ PoolOk g m
/-- all but the pool at p as it was -/
def Sam (p : Addr) (H H' : Hp) : Prop := Same (del H p) (del H' p) ∧ Pool H' p
theorem Sam.trans {p : Addr} {H H1 H2 : Hp} (a : Sam p H H1) (b : Sam p H1 H2) : Sam p H H2 := ⟨a.1.trans b.1, b.2⟩
theorem same_del {p : Addr} {H H' : Hp} (s : Same H H') : Same (del H p) (del H' p) := fun b o e => by
  by_cases hb : b = p
  · rw [hb, del_same] at e
    cases e
  · rw [del_ne hb] at e ⊢
    exact s b o e
theorem Sam.of {p : Addr} {H H' : Hp} (hp : Pool H p) (s : Same H H') : Sam p H H' := by
  refine ⟨same_del s, ?_⟩
  obtain ⟨g, m, e, ok⟩ := hp
  exact ⟨g, m, s _ _ e, ok⟩
theorem del_le (H : Hp) (p : Addr) : Same (del H p) H := fun b o e => by
  by_cases hb : b = p
  · rw [hb, del_same] at e
    cases e
  · rw [del_ne hb] at e
    exact e
theorem sam_upd {p : Addr} {H : Hp} {g m : Int} (ok : PoolOk g m) : Sam p H (upd H p (.lst [.int g, .int m])) := by
  refine ⟨fun b o e => ?_, g, m, upd_same, ok⟩
  by_cases hb : b = p
  · rw [hb, del_same] at e
    cases e
  · rw [del_ne hb] at e ⊢
    rw [upd_ne hb]
    exact e
def spPool (K : PySem.W.Frag) : Sp := fun vs H Q _ => ∃ (a : Addr) (ns : List Int), vs = [.ref a] ∧ SqL K H a (ns.map V.int) ∧ ns.length ≤ 63 ∧ ∀ p H' g m, H p = none → Same H H' → H' p = some (.lst [.int g, .int m]) → PoolOk g m → Q (.ref p) H'
def spTake : Sp := fun vs H Q _ => ∃ (p : Addr) (t : Int), vs = [.ref p, .int t] ∧ Pool H p ∧ 0 < t ∧ t < 1000000 ∧ ∀ r H', 0 ≤ r → r < t → Sam p H H' → Q (.int r) H'
section
variable {P : Program} {w : World} {K : PySem.W.Frag} {mg : Str → Option Value} {base : Heap} {cP cU cT : Addr}
abbrev s__law_pool : Stmt := topS 36
theorem sc__law_pool : FnScope ["_law_script", "_law_great", "_law_mixed", "_law_cell", "_law_size"] ["_law_script"] (defScope s__law_pool) := ⟨rfl, rfl, rfl, by decide +kernel, rfl, by decide +kernel, by decide +kernel⟩
theorem ok__law_pool  (T : Tops K mg) : Df P w K mg base CX0 1 "_law_pool" s__law_pool ["_law_script"] (spPool K) := by
  refine df_mk (k := 1-1) T.d__law_pool sc__law_pool (fun vs H Q E h => ?_) (fun _ _ _ _ _ _ us hl => match us, hl with | [_], _ => rfl) (fun f cdv A outer s H vs Q E hr h => ?_)
  · obtain ⟨a, ns, rfl, _⟩ := h
    rfl
  · obtain ⟨a, ns, rfl, hS, hl, q⟩ := h
    refine ⟨_, (pss_cons (ps_set (i := 1) sc__law_pool.nd rfl (Or.inl rfl) (pe_int))
        (pss_cons (ps_set (i := 2) sc__law_pool.nd rfl (Or.inl rfl) (pe_op op_add (pe_int) (pe_op op_mul (pe_callB call_len (by rfl) T.b_len (by decide +kernel) (pa_cons (pv 0) pa_nil)) (pe_int))))
        (pss_cons (ps_for PassesOwn.never rfl (pi_list (pv 0)) (pg_name (i := 3) sc__law_pool.nd rfl (Or.inl rfl)) (pss_cons (ps_set (i := 4) sc__law_pool.nd rfl (Or.inl rfl) (pe_callB call_abs (by rfl) T.b_abs (by decide +kernel) (pa_cons (pv 3) pa_nil)))
        (pss_cons (ps_if (PW.pt (pw_and (pt_cmpR op_eq (pv 1) (pe_int) (nomark _)) (pw_and1 (pt_cmpR op_ge (pv 4) (pe_int) (nomark _))))) (pss_one (ps_set (i := 1) sc__law_pool.nd rfl (Or.inl rfl) (pv 4))) pss_nil)
        (pss_cons (ps_set (i := 2) sc__law_pool.nd rfl (Or.inl rfl) (pe_op op_modN (pe_callTy call_int1 (by rfl) T.b_int (by decide +kernel) (pa_cons (pe_op op_add (pe_op op_add (pe_op op_add (pe_op op_mul (pv 2) (pe_int)) (pe_op op_mul (pv 4) (pe_int))) (pe_callTy call_int1 (by rfl) T.b_int (by decide +kernel) (pa_cons (pe_cmpR op_lt (pv 3) (pe_int) (nomark _)) pa_nil))) (pe_int)) pa_nil)) (pe_int)))
        (pss_one (ps_set (i := 2) sc__law_pool.nd rfl (Or.inl rfl) (pe_op op_modN (pe_callTy call_int1 (by rfl) T.b_int (by decide +kernel) (pa_cons (pe_op op_add (pe_op op_mul (pv 2) (pe_int)) (pe_int)) pa_nil)) (pe_int))))))))
        (pss_one (ps_ret (pe_lst (pa_cons (pv 1) (pa_cons (pe_op op_add (pe_op op_modN (pe_callTy call_int1 (by rfl) T.b_int (by decide +kernel) (pa_cons (pv 2) pa_nil)) (pe_int)) (pe_int)) pa_nil)))))))), ?_⟩
    refine ⟨_, rfl, _, (ns.map V.int).length, rfl, .inl ⟨_, hS, rfl⟩, _, _, rfl, rfl, .inr (by decide), _, _, rfl, rfl, ?_⟩
    refine ⟨_, rfl, a, rfl, ⟨_, hS⟩, for_it walk_list (fun i σ H' => H' = H ∧ ∃ (g m : Int) (y3 y4 : Option V), σ = [some (.ref a), some (.int g), some (.int m), y3, y4] ∧ 0 ≤ g ∧ 0 ≤ m ∧ m < 2147483647) ⟨rfl, 0, _, none, none, rfl, Int.le_refl _, ?_, ?_⟩ (fun i σ H' _ hp => by rw [hp.1]; exact hS) (fun i x σ H1 H2 hi hp hy => ?_) (fun σ H1 hp => ?_)⟩
    · simp only [List.length_map]
      omega
    · simp only [List.length_map]
      omega
    · obtain ⟨rfl, g, m, y3, y4, rfl, h1, h2, h3⟩ := hp
      obtain ⟨rfl, hx⟩ := hy
      obtain ⟨c, rfl⟩ : ∃ c : Int, x = .int c := by
        rw [List.getElem?_map] at hx
        cases e : ns[i]? with
        | none => rw [e] at hx; cases hx
        | some c => rw [e] at hx; exact ⟨c, (Option.some.inj hx).symm⟩
      refine ⟨_, rfl, c, rfl, ?_⟩
      have hsz : 0 ≤ (if c < 0 then -c else c) := by split <;> omega
      generalize hzz : (if c < 0 then -c else c) = z at hsz ⊢
      refine ⟨_, rfl, rfl, _, rfl, ?_⟩
      have hm1 : 0 ≤ Int.fmod (Int.fmod (m * 16807 + z * 2 + (if (decide (c < 0)) = true then 1 else 0) + 1) 2147483399 * 39373 + 5) 2147483647 := Int.fmod_nonneg_of_pos _ (by decide)
      have hm2 : Int.fmod (Int.fmod (m * 16807 + z * 2 + (if (decide (c < 0)) = true then 1 else 0) + 1) 2147483399 * 39373 + 5) 2147483647 < 2147483647 := Int.fmod_lt_of_pos _ (by decide)
      have hk1 : 0 ≤ Int.fmod (m * 16807 + z * 2 + (if (decide (c < 0)) = true then 1 else 0) + 1) 2147483399 := Int.fmod_nonneg_of_pos _ (by decide)
      have hk2 : Int.fmod (m * 16807 + z * 2 + (if (decide (c < 0)) = true then 1 else 0) + 1) 2147483399 < 2147483399 := Int.fmod_lt_of_pos _ (by decide)
      have goal : ∀ g' : Int, 0 ≤ g' → ∃ (g m' : Int) (y3 y4 : Option V), [some (V.ref a), some (.int g'), some (.int (Int.fmod (Int.fmod (m * 16807 + z * 2 + (if (decide (c < 0)) = true then 1 else 0) + 1) 2147483399 * 39373 + 5) 2147483647)), some (.int c), some (.int z)] = [some (.ref a), some (.int g), some (.int m'), y3, y4] ∧ 0 ≤ g ∧ 0 ≤ m' ∧ m' < 2147483647 := fun g' hg' => ⟨g', _, _, _, rfl, hg', hm1, hm2⟩
      by_cases hg0 : V.int g = V.int 0
      · rw [decide_eq_true hg0]
        refine iteT ⟨_, rfl, _, _, rfl, rfl, _, rfl, ?_⟩
        by_cases hz18 : 1000000000000000000 ≤ z
        · rw [decide_eq_true hz18]
          refine iteT ⟨_, rfl, _, rfl, _, _, rfl, rfl, .inr (by decide), _, rfl, _, _, rfl, rfl, .inr (by decide), _, _, rfl, rfl, _, rfl, _, _, rfl, rfl, .inr ⟨_, rfl, _, _, rfl, rfl, _, _, rfl, rfl, .inl ⟨_, rfl, _, _, rfl, rfl, n399, ?_⟩⟩⟩
          exact ⟨_, rfl, _, _, rfl, rfl, .inr (by decide), _, _, rfl, rfl, .inl ⟨_, rfl, _, _, rfl, rfl, n647, rfl, goal z hsz⟩⟩
        · rw [decide_eq_false hz18]
          refine iteF ⟨_, rfl, _, _, rfl, rfl, .inr (by decide), _, rfl, _, _, rfl, rfl, .inr (by decide), _, _, rfl, rfl, _, rfl, _, _, rfl, rfl, .inr ⟨_, rfl, _, _, rfl, rfl, _, _, rfl, rfl, .inl ⟨_, rfl, _, _, rfl, rfl, n399, ?_⟩⟩⟩
          exact ⟨_, rfl, _, _, rfl, rfl, .inr (by decide), _, _, rfl, rfl, .inl ⟨_, rfl, _, _, rfl, rfl, n647, rfl, goal g h1⟩⟩
      · rw [decide_eq_false hg0]
        refine iteF (iteF ⟨_, rfl, _, _, rfl, rfl, .inr (by decide), _, rfl, _, _, rfl, rfl, .inr (by decide), _, _, rfl, rfl, _, rfl, _, _, rfl, rfl, .inr ⟨_, rfl, _, _, rfl, rfl, _, _, rfl, rfl, .inl ⟨_, rfl, _, _, rfl, rfl, n399, ?_⟩⟩⟩)
        exact ⟨_, rfl, _, _, rfl, rfl, .inr (by decide), _, _, rfl, rfl, .inl ⟨_, rfl, _, _, rfl, rfl, n647, rfl, goal g h1⟩⟩
    · obtain ⟨rfl, g, m, y3, y4, rfl, h1, h2, h3⟩ := hp
      refine ⟨_, rfl, _, rfl, .inl ⟨_, rfl, _, _, rfl, rfl, n646, _, _, rfl, rfl, two_ok, fun p hp => ?_⟩⟩
      have hr1 : 0 ≤ Int.fmod m 2147483646 := Int.fmod_nonneg_of_pos _ (by decide)
      have hr2 : Int.fmod m 2147483646 < 2147483646 := Int.fmod_lt_of_pos _ (by decide)
      exact q p _ _ _ hp (same_upd hp) upd_same ⟨h1, by omega, by omega⟩
abbrev s__law_take : Stmt := topS 37
theorem sc__law_take : FnScope ["_law_pool_here", "_law_top", "_law_digit"] ["_law_pool_here", "_law_top"] (defScope s__law_take) := ⟨rfl, rfl, rfl, by decide +kernel, rfl, by decide +kernel, by decide +kernel⟩
theorem ok__law_take  (T : Tops K mg) : Df P w K mg base CX0 1 "_law_take" s__law_take ["_law_pool_here", "_law_top"] spTake := by
  refine df_mk (k := 1-1) T.d__law_take sc__law_take (fun vs H Q E h => ?_) (fun _ _ _ _ _ _ us hl => match us, hl with | [_, _], _ => rfl) (fun f cdv A outer s H vs Q E hr h => ?_)
  · obtain ⟨p, t, rfl, _⟩ := h
    rfl
  · obtain ⟨p, t, rfl, ⟨g, m, hp, h1, h2, h3⟩, ht, ht2, q⟩ := h
    refine ⟨_, (pss_cons (ps_if (pt_cmpR op_gt (pe_ix ix_list (pv 0) (pe_int) (fun _ _ => rfl)) (pe_int) (nomark _)) (pss_cons (ps_set (i := 2) sc__law_take.nd rfl (Or.inl rfl) (pe_op op_modN (pe_callTy call_int1 (by rfl) T.b_int (by decide +kernel) (pa_cons (pe_ix ix_list (pv 0) (pe_int) (fun _ _ => rfl)) pa_nil)) (pv 1)))
        (pss_cons (ps_asg (pe_op op_fdivN (pe_ix ix_list (pv 0) (pe_int) (fun _ _ => rfl)) (pv 1)) (pg_sub (pv 0) (pe_int) set_list))
        (pss_one (ps_ret (pv 2))))) pss_nil)
        (pss_cons (ps_asg (pe_op op_modN (pe_callTy call_int1 (by rfl) T.b_int (by decide +kernel) (pa_cons (pe_op op_mul (pe_ix ix_list (pv 0) (pe_int) (fun _ _ => rfl)) (pe_int)) pa_nil)) (pe_int)) (pg_sub (pv 0) (pe_int) set_list))
        (pss_one (ps_ret (pe_op op_modN (pe_callTy call_int1 (by rfl) T.b_int (by decide +kernel) (pa_cons (pe_op op_fdivN (pe_ix ix_list (pv 0) (pe_int) (fun _ _ => rfl)) (pe_int)) pa_nil)) (pv 1)))))), ?_⟩
    have t0 : t ≠ 0 := by omega
    have tn : t.natAbs < 1073741824 := by omega
    have hS : SqL K H p [.int g, .int m] := .inl (.inl hp)
    refine ⟨_, rfl, p, _, 0, _, rfl, rfl, hS, at_of (j := 0) rfl rfl, g, 0, rfl, rfl, _, rfl, ?_⟩
    have fin : ∀ g' m', PoolOk g' m' → ∀ r, 0 ≤ r → r < t → Q (.int r) (upd H p (.lst [.int g', .int m'])) := fun g' m' ok r h1 h2 => q r _ h1 h2 (sam_upd ok)
    by_cases hg : 0 < g
    · rw [decide_eq_true hg]
      refine iteT ⟨_, rfl, p, _, 0, _, rfl, rfl, hS, at_of (j := 0) rfl rfl, .inl ⟨_, rfl, _, rfl, _, _, rfl, rfl, t0, ?_⟩⟩
      refine ⟨_, rfl, p, _, 0, _, rfl, rfl, hS, at_of (j := 0) rfl rfl, _, rfl, _, _, rfl, rfl, ⟨t0, tn⟩, _, rfl, p, _, 0, 0, rfl, rfl, hp, rfl, ?_⟩
      refine ⟨_, rfl, ?_⟩
      refine fin (g.fdiv t) m ⟨?_, h2, h3⟩ _ (Int.fmod_nonneg_of_pos _ ht) (Int.fmod_lt_of_pos _ ht)
      rw [Int.fdiv_eq_ediv_of_nonneg _ (by omega)]
      exact Int.ediv_nonneg h1 (by omega)
    · rw [decide_eq_false hg]
      refine iteF ⟨_, rfl, p, _, 1, _, rfl, rfl, hS, at_of (j := 1) rfl rfl, m, 39373, rfl, rfl, .inr (by decide), .inl ⟨_, rfl, _, _, rfl, rfl, n647, ?_⟩⟩
      refine ⟨_, rfl, p, _, 1, 1, rfl, rfl, hp, rfl, ?_⟩
      have k1 : 0 ≤ Int.fmod (m * 39373) 2147483647 := Int.fmod_nonneg_of_pos _ (by decide)
      have k2 : Int.fmod (m * 39373) 2147483647 < 2147483647 := Int.fmod_lt_of_pos _ (by decide)
      refine ⟨_, rfl, p, _, 1, _, rfl, rfl, .inl (.inl upd_same), at_of (j := 1) rfl rfl, _, 3, rfl, rfl, ⟨by decide, by decide⟩, .inl ⟨_, rfl, _, rfl, _, _, rfl, rfl, t0, ?_⟩⟩
      exact fin g _ ⟨h1, by omega, by omega⟩ _ (Int.fmod_nonneg_of_pos _ ht) (Int.fmod_lt_of_pos _ ht)
end
end V0
namespace V0
open PySem PySem.Spec PyProof.Rows L2
theorem sam_at {p b : Addr} {H H' : Hp} {o : HO} (s : Sam p H H') (nb : b ≠ p) (e : H b = some o) : H' b = some o := by
  have h := s.1 b o (by rw [del_ne nb]; exact e)
  rw [del_ne nb] at h
  exact h
theorem Sam.fresh {p b : Addr} {H H' : Hp} (s : Sam p H H') (nb : b ≠ p) (e : H' b = none) : H b = none := by
  cases h : H b with
  | none => rfl
  | some o =>
    rw [sam_at s nb h] at e
    cases e
theorem pool_ne {p b : Addr} {H : Hp} (hp : Pool H p) (h : H b = none) : b ≠ p := fun e => by
  obtain ⟨g, m, e1, _⟩ := hp
  rw [e, e1] at h
  cases h
/-- [e(x) for x in ..] where e draws: each of what is made is as R says -/
theorem lcP {J : It} {n : Nat} {G : Hp → Prop} {Y : Nat → Hp → V → Hp → Prop} (w : Walk J n G Y) {g : TG} {te : TE} {vs : List Nat} {σ : L2.St} {H : Hp} {D p : Addr} {Qd : Hp → Prop} (R : V → Prop) (hn : n ≤ 1000000) (hD : H D = none) (hp : Pool H p)
    (hG : ∀ H', Sam p H H' → G H') (hs : ∀ i x H1 H2, i < n → Sam p H H1 → Y i H1 x H2 → ∀ Q : VK, (∀ y H4, R y → Sam p H1 H4 → Q y H4) → g x (wipe σ vs) H2 fun σ2 H3 => wipe σ2 vs = wipe σ vs ∧ te σ2 H3 Q)
    (fin : ∀ H' ys, Sam p H H' → H' D = some (.lst ys) → ys.length = n → (∀ y ∈ ys, R y) → Qd H') :
    ∃ W : Nat → Nat → Hp → Prop, (∃ m, W 0 m (upd H D (.lst []))) ∧ ∀ i m H, W i m H →
      (J.stop i H ∧ Qd H) ∨ (J.go i H ∧ ∃ Nx : Hp → Prop, (∀ H', Nx H' → ∃ m', m' < m ∧ W (i + 1) m' H') ∧ ∀ x H', J.yld i H x H' → g x (wipe σ vs) H' fun σ2 H2 => wipe σ2 vs = wipe σ vs ∧ tYes σ2 H2 fun b H3 =>
        if b = true then te σ2 H3 fun y H4 => ∃ acc, H4 D = some (.lst acc) ∧ acc.length < sizeLine ∧ Nx (upd H4 D (.lst (acc ++ [y]))) else Nx H3) := by
  have nD : D ≠ p := pool_ne hp hD
  refine lc_it (tt := tYes) (Qd := Qd) w (fun i H' => Sam p H H' ∧ ∃ ys, H' D = some (.lst ys) ∧ ys.length = i ∧ ∀ y ∈ ys, R y) ⟨Sam.of hp (same_upd hD), [], upd_same, rfl, fun y hy => by cases hy⟩ (fun i H' _ q => hG H' q.1) (fun i x H1 H2 hi q y => ?_) (fun H' q => ?_)
  · obtain ⟨s1, ys, hys, hl, hr⟩ := q
    refine hs i x H1 H2 hi s1 y _ fun z H4 hz s4 => ?_
    refine ⟨ys, sam_at s4 nD hys, by rw [sizeLine_eq]; omega, ⟨fun b o e => ?_, ?_⟩, ys ++ [z], upd_same, by rw [List.length_append, hl]; rfl, fun y hy => ?_⟩
    · have nb : b ≠ D := fun e2 => by
        rw [e2, del_ne nD, hD] at e
        cases e
      have h1 := (s1.trans s4).1 _ _ e
      by_cases hbp : b = p
      · rw [hbp, del_same] at e
        cases e
      · rw [del_ne hbp] at h1 ⊢
        rw [upd_ne nb]
        exact h1
    · obtain ⟨g, m, e1, ok⟩ := s4.2
      exact ⟨g, m, by rw [upd_ne (Ne.symm nD)]; exact e1, ok⟩
    · rcases List.mem_append.mp hy with h1 | h1
      · exact hr y h1
      · rw [List.mem_singleton.mp h1]
        exact hz
  · obtain ⟨s1, ys, hys, hl, hr⟩ := q
    exact fin H' ys s1 hys hl hr
theorem join_signs : ∀ cs : List Nat, Txt.join "" (cs.map fun c => tx [c]) = tx cs := by
  intro cs
  rw [show Txt.join "" (cs.map fun c => tx [c]) = Str.join "" (cs.map fun c => tx [c]) from StrLaws.glued_eq_join _ _]
  induction cs with
  | nil => rfl
  | cons c r ih =>
    cases r with
    | nil => rfl
    | cons d r =>
      show tx [c] ++ "" ++ Str.join "" ((d :: r).map fun c => tx [c]) = _
      rw [ih]
      show tx [c] ++ tx [] ++ tx (d :: r) = _
      rw [tx_app, tx_app]
      rfl
theorem sum_signs (cs : List Nat) : ((cs.map fun c => tx [c]).map (·.length)).sum = cs.length := by
  induction cs with
  | nil => rfl
  | cons c r ih =>
    rw [List.map_cons, List.map_cons, List.sum_cons, ih, tx_len]
    simp only [List.length_cons, List.length_nil]
    omega
theorem signs_of {S : List Nat} : ∀ {ys : List V}, (∀ y ∈ ys, ∃ c, c ∈ S ∧ y = .str (tx [c])) → ∃ cs : List Nat, (∀ c ∈ cs, c ∈ S) ∧ ys = cs.map fun c => .str (tx [c])
  | [], _ => ⟨[], (fun c hc => nomatch hc), rfl⟩
  | y :: r, h => by
    obtain ⟨c, hc, rfl⟩ := h y List.mem_cons_self
    obtain ⟨cs, h1, rfl⟩ := signs_of (ys := r) fun z hz => h z (List.mem_cons_of_mem _ hz)
    refine ⟨c :: cs, fun x hx => ?_, rfl⟩
    rcases List.mem_cons.mp hx with e | e
    · rw [e]
      exact hc
    · exact h1 x e
theorem pick4 {r : Int} (h0 : 0 ≤ r) (h1 : r < 4) : ∃ c, (("IXZY" : Str)).cps[r.toNat]? = some c ∧ c ∈ [73, 88, 90, 89] := by
  have e : r = 0 ∨ r = 1 ∨ r = 2 ∨ r = 3 := by omega
  rcases e with rfl | rfl | rfl | rfl
  · exact ⟨73, rfl, by decide⟩
  · exact ⟨88, rfl, by decide⟩
  · exact ⟨90, rfl, by decide⟩
  · exact ⟨89, rfl, by decide⟩
theorem wide_of {n : Int} {cs : List Nat} (h0 : 0 < cs.length) (hl : (cs.length : Int) = n) (h : ∀ c ∈ cs, c ∈ [73, 88, 90, 89]) : isWideD n (.str (tx cs)) = true := by
  show (wordL (tx cs).cps.toList && decide (((tx cs).length : Int) = n)) = true
  rw [tx_len, decide_eq_true hl, Bool.and_true]
  show (decide (0 < cs.toArray.toList.length) && cs.toArray.toList.all ltr) = true
  rw [decide_eq_true (by simpa using h0), Bool.true_and]
  refine List.all_eq_true.mpr fun c hc => ?_
  have h2 := h c (by simpa using hc)
  simp only [List.mem_cons, List.not_mem_nil, or_false] at h2
  rcases h2 with rfl | rfl | rfl | rfl <;> rfl
/-- told words: at most k, unlike, each of n letters, none blank -/
def HomeOk (n : Int) (k : Nat) (ws : List Str) : Prop := ws.length ≤ k ∧ ws.Nodup ∧ ∀ w ∈ ws, isWideD n (.str w) = true ∧ blankS w = false
theorem HomeOk.more {n : Int} {k : Nat} {ws : List Str} (h : HomeOk n k ws) : HomeOk n (k + 1) ws := ⟨Nat.le_succ_of_le h.1, h.2⟩
theorem HomeOk.weak {n : Int} {k j : Nat} {ws : List Str} (h : HomeOk n k ws) (e : k ≤ j) : HomeOk n j ws := ⟨Nat.le_trans h.1 e, h.2⟩
theorem HomeOk.add {n : Int} {k : Nat} {ws : List Str} {z : Str} (h : HomeOk n k ws) (hz : ¬ z ∈ ws) (h1 : isWideD n (.str z) = true) (h2 : blankS z = false) : HomeOk n (k + 1) (ws ++ [z]) := by
  refine ⟨by rw [List.length_append]; have := h.1; simp; omega, ?_, fun w hw => ?_⟩
  · rw [List.nodup_append]
    refine ⟨h.2.1, List.nodup_cons.mpr ⟨List.not_mem_nil, List.nodup_nil⟩, fun a ha b hb e => ?_⟩
    rw [List.mem_singleton.mp hb] at e
    exact hz (e ▸ ha)
  · rcases List.mem_append.mp hw with e | e
    · exact h.2.2 w e
    · rw [List.mem_singleton.mp e]
      exact ⟨h1, h2⟩
def spHome : Sp := fun vs H Q _ => ∃ p : Addr, vs = [.ref p] ∧ Pool H p ∧ ∀ t l n ws H', 1 ≤ n → n ≤ 3 → HomeOk n 7 ws → Sam p H H' → t ≠ p → H' t = some (.tup [.int n, .ref l]) → H' l = some (.lst (ws.map V.str)) → l ≠ p → H l = none → Q (.ref t) H'
section
variable {P : Program} {w : World} {K : PySem.W.Frag} {mg : Str → Option Value} {base : Heap} {cP cU cT : Addr}
abbrev s__law_home : Stmt := topS 43
theorem sc__law_home : FnScope ["_law_pool_here", "_law_n", "_law_row_here", "_law_k", "_law_w", "_law_i"] ["_law_pool_here"] (defScope s__law_home) := ⟨rfl, rfl, rfl, by decide +kernel, rfl, by decide +kernel, by decide +kernel⟩
theorem ok__law_home  (T : Tops K mg) : Df P w K mg base CX0 2 "_law_home" s__law_home ["_law_pool_here"] spHome := by
  have G__law_take := ok__law_take (P := P) (w := w) (base := base) T
  refine df_mk (k := 2-1) T.d__law_home sc__law_home (fun vs H Q E h => ?_) (fun _ _ _ _ _ _ us hl => match us, hl with | [_], _ => rfl) (fun f cdv A outer s H vs Q E hr h => ?_)
  · obtain ⟨p, rfl, _⟩ := h
    rfl
  · obtain ⟨p, rfl, hP, q⟩ := h
    refine ⟨_, (pss_cons (ps_set (i := 1) sc__law_home.nd rfl (Or.inl rfl) (pe_op op_add (pe_int) (pe_df G__law_take (hr.mono (by decide)) (by rfl) pass0 (pa_cons (pv 0) (pa_cons (pe_int) pa_nil)))))
        (pss_cons (ps_set (i := 2) sc__law_home.nd rfl (Or.inl rfl) (pe_lst pa_nil))
        (pss_cons (ps_for PassesOwn.never rfl (pi_range1 (by rfl) T.b_range (pa_cons (pe_df G__law_take (hr.mono (by decide)) (by rfl) pass0 (pa_cons (pv 0) (pa_cons (pe_int) pa_nil))) pa_nil)) (pg_name (i := 3) sc__law_home.nd rfl (Or.inl rfl)) (pss_cons (ps_set (i := 4) sc__law_home.nd rfl (Or.inl rfl) (pe_bm PySem.F.plainAttrs_str PySem.F.slot_str_join PySem.F.type_str_join mt_join (pe_str) (pa_cons (pe_lc (own := [("_law_i", 5)]) (g := gName 5) (by rfl) sc__law_home.nd (pi_range1 (by rfl) T.b_range (pa_cons (pv 1) pa_nil)) (blkOk_by (own := [("_law_i", 5)]) (N := ["_law_pool_here", "_law_n", "_law_row_here", "_law_k", "_law_w", "_law_i"]) (sc := defScope s__law_home) (by decide +kernel)) (fun _ _ _ _ _ => pg_name (i := 5) sc__law_home.nd rfl (Or.inl rfl)) (fun _ _ _ _ _ => pts_nil) (fun _ _ _ _ _ => (pe_item_str (pe_str) (pe_df G__law_take (hr.mono (by decide)) (by rfl) pass0 (pa_cons (pv 0) (pa_cons (pe_int) pa_nil))) (fun _ _ => rfl)))) pa_nil)))
        (pss_one (ps_if (PW.pt (pw_and (pt_cmpR op_lt (pe_bm PySem.F.plainAttrs_str PySem.F.slot_str_count PySem.F.type_str_count mt_count (pv 4) (pa_cons (pe_str) pa_nil)) (pv 1) (nomark _)) (pw_and1 (pt_cmpR op_notIn_seq (pv 4) (pv 2) (by rfl))))) (pss_one (ps_expr (pe_bm PySem.F.plainAttrs_list PySem.F.slot_list_append PySem.F.type_list_append mt_append (pv 2) (pa_cons (pv 4) pa_nil)))) pss_nil))))
        (pss_one (ps_ret (pe_tup (pa_cons (pv 1) (pa_cons (pv 2) pa_nil)))))))), ?_⟩
    refine ⟨_, rfl, p, 3, rfl, hP, by decide, by decide, fun r H1 hr0 hr1 s1 => ⟨_, _, rfl, rfl, ?_⟩⟩
    refine ⟨Nat.zero_le _, fun l hl => ?_⟩
    have hPl : Pool H1 p := s1.2
    have nlp : l ≠ p := fun e => by
      obtain ⟨g, m, e1, _⟩ := hPl
      rw [e, e1] at hl
      cases hl
    have s2 : Sam p H1 (upd H1 l (.lst [])) := Sam.of hPl (same_upd hl)
    refine ⟨_, rfl, p, 8, rfl, s2.2, by decide, by decide, fun r2 H2 h20 h21 s3 => ⟨r2, rfl, by omega, by omega, ?_⟩⟩
    refine for_it walk_r0 (fun i σ H' => ∃ (ws : List Str) (y3 y4 y5 : Option V), σ = [some (.ref p), some (.int (1 + r)), some (.ref l), y3, y4, y5] ∧ Sam p H1 H' ∧ H' l = some (.lst (ws.map V.str)) ∧ HomeOk (1 + r) i ws) ⟨[], none, none, none, rfl, s2.trans s3, sam_at s3 nlp upd_same, ⟨Nat.zero_le _, List.nodup_nil, fun w hw => by cases hw⟩⟩ (fun _ _ _ _ _ => trivial) (fun i x σ H3 H4 hi hp hy => ?_) (fun σ H3 hp => ?_)
    · obtain ⟨ws, y3, y4, y5, rfl, s4, hws, hok⟩ := hp
      obtain ⟨rfl, rfl⟩ := hy
      refine ⟨rfl, _, rfl, 1 + r, rfl, by omega, by omega, fun D hD => lcP (p := p) walk_r0 (fun y => ∃ c, c ∈ [73, 88, 90, 89] ∧ y = .str (tx [c])) (by omega) hD s4.2 (fun _ _ => trivial) (fun j x H5 H6 hj s5 y R hR => ?_) (fun H5 ys s5 hys hyl hyr => ?_)⟩
      · obtain ⟨rfl, rfl⟩ := y
        refine ⟨rfl, _, rfl, p, 4, rfl, s5.2, by decide, by decide, fun r3 H7 h30 h31 s6 => ?_⟩
        obtain ⟨c, hc, hcm⟩ := pick4 h30 h31
        refine ⟨_, _, c, rfl, rfl, h30, by omega, by show r3 < 4; exact h31, hc, ?_⟩
        exact hR _ _ ⟨c, hcm, rfl⟩ s6
      · obtain ⟨cs, hcs, rfl⟩ := signs_of hyr
        have hcl : cs.length = (1 + r).toNat := by rw [← hyl, List.length_map]
        have hj : Txt.join "" (cs.map fun c => tx [c]) = tx cs := join_signs cs
        refine ⟨"", D, cs.map fun c => tx [c], rfl, rfl, .inl (.inl (.inl (by rw [hys, List.map_map]; rfl))), ?_, ?_⟩
        · rw [sum_signs, List.length_map, show ("" : Str).length = 0 from rfl]
          omega
        · rw [hj]
          have s6 := s4.trans s5
          have hlt : (tx cs).length = cs.length := tx_len cs
          refine ⟨_, rfl, rfl, _, _, rfl, rfl, _, rfl, _, _, rfl, rfl, _, rfl, ?_⟩
          have hwide : isWideD (1 + r) (.str (tx cs)) = true := wide_of (by omega) (by rw [hcl]; omega) hcs
          by_cases hbl : Txt.count (tx cs) ("I" : Str) < 1 + r
          · rw [decide_eq_true hbl]
            have hb : blankS (tx cs) = false := by
              rw [← count_full]
              refine decide_eq_false fun e => ?_
              have := V.int.inj e
              omega
            have hws5 : H5 l = some (.lst (ws.map V.str)) := sam_at s5 nlp hws
            refine iteT ⟨_, rfl, _, rfl, l, ws.map V.str, rfl, .inl (.inl (.inl hws5)), rfl, flat_strs ws, _, rfl, ?_⟩
            rw [show (if true = true then !inV (.str (tx cs)) (ws.map V.str) else inV (.str (tx cs)) (ws.map V.str)) = !decide (tx cs ∈ ws) from congrArg not (inV_str _ ws)]
            by_cases hm : tx cs ∈ ws
            · rw [decide_eq_true hm]
              exact iteF ⟨ws, _, _, _, rfl, s6, hws5, hok.more⟩
            · rw [decide_eq_false hm]
              refine iteT ⟨_, rfl, .inl ⟨rfl, _, .inl (.inl hws5)⟩, _, rfl, l, _, _, rfl, rfl, hws5, by rw [List.length_map, sizeLine_eq]; have := hok.1; omega, ?_⟩
              refine ⟨ws ++ [tx cs], _, _, _, rfl, ?_, by rw [upd_same, List.map_append]; rfl, hok.add hm hwide hb⟩
              exact ⟨fun b o e => by
                have nb : b ≠ l := fun z => by
                  rw [z, del_ne nlp, hl] at e
                  cases e
                by_cases hbp : b = p
                · rw [hbp, del_same] at e
                  cases e
                · rw [del_ne hbp, upd_ne nb]
                  have := s6.1 _ _ e
                  rw [del_ne hbp] at this
                  exact this, by
                obtain ⟨g, m, e1, ok⟩ := s6.2
                exact ⟨g, m, by rw [upd_ne (Ne.symm nlp)]; exact e1, ok⟩⟩
          · rw [decide_eq_false hbl]
            exact iteF (iteF ⟨ws, _, _, _, rfl, s6, sam_at s5 nlp hws, hok.more⟩)
    · obtain ⟨ws, y3, y4, y5, rfl, s4, hws, hok⟩ := hp
      refine ⟨_, rfl, _, rfl, two_ok, fun t ht => ?_⟩
      have ntl : l ≠ t := ne_of_none hws ht
      refine q t l (1 + r) ws _ (by omega) (by omega) (hok.weak (by omega)) ((s1.trans s4).trans (Sam.of s4.2 (same_upd ht))) ?_ upd_same (by rw [upd_ne ntl]; exact hws) nlp (s1.fresh nlp hl)
      have ntp : t ≠ p := fun e => by
        obtain ⟨g, m, e1, _⟩ := s4.2
        rw [e, e1] at ht
        cases ht
      exact ntp
end
end V0
namespace V0
open PySem PySem.Spec PyProof.Rows L2
/-! ### expressions that give data and make new things alone -/
/-- from H0 on, te gives the data d and makes new things alone -/
def YD (K : PySem.W.Frag) (H0 : Hp) (σ : L2.St) (te : TE) (d : PyData) : Prop := ∀ (H : Hp) (Q : VK), Same H0 H → (∀ v H', Same H H' → Dp K H' v d → Q v H') → te σ H Q
def YDs (K : PySem.W.Frag) (H0 : Hp) (σ : L2.St) (ta : TA) (ds : List PyData) : Prop := ∀ (H : Hp) (Q : List V → Hp → Prop), Same H0 H → (∀ vs H', Same H H' → DpAll K H' vs ds → Q vs H') → ta σ H Q
section
variable {K : PySem.W.Frag} {H0 H : Hp} {σ : L2.St} {te ta tb : TE} {tl : TA} {d d1 d2 : PyData} {ds : List PyData} {D : Ends} {i : Nat} {u : TS}
theorem yd_v {v : V} (h : Dp K H0 v d) : YD K H0 σ (tC v) d := fun H Q s k => k _ _ (Same.refl H) (dp_mono s h)
theorem yd_int {z : Int} : YD K H0 σ (tC (.int z)) (.int z) := yd_v (.int z)
theorem yd_str {z : Str} : YD K H0 σ (tC (.str z)) (.str z) := yd_v (.str z)
theorem yd_bl {z : Bool} : YD K H0 σ (tC (.bl z)) (.bool z) := yd_v (.bl z)
theorem yd_non : YD K H0 σ (tC .non) .none := yd_v .non
theorem yd_var {v : V} (hv : σ[i]? = some (some v)) (h : Dp K H0 v d) : YD K H0 σ (tVar i) d := fun H Q s k => ⟨v, hv, k _ _ (Same.refl H) (dp_mono s h)⟩
theorem yds_nil : YDs K H0 σ tNil [] := fun H Q _ k => k [] H (Same.refl H) .nil
theorem yds_cons (h : YD K H0 σ te d) (r : YDs K H0 σ tl ds) : YDs K H0 σ (tCons te tl) (d :: ds) := fun H Q s k =>
  h H _ s fun v H1 s1 hv => r H1 _ (s.trans s1) fun vs H2 s2 hvs => k _ _ (s1.trans s2) (.cons (dp_mono s2 hv) hvs)
theorem yd_tup (h : YDs K H0 σ tl ds) (hl : ds.length ≤ 1000 := by first | decide | simp) : YD K H0 σ (tTup tl) (.tuple ds) := fun H Q s k =>
  h H _ s fun vs H1 s1 hvs => ⟨by rw [dpa_len hvs, sizeLine_eq]; omega, fun p hp => k _ _ (s1.trans (same_upd hp)) (.tup (.inl (.inl upd_same)) (dpa_mono (same_upd hp) hvs))⟩
theorem yd_lst (h : YDs K H0 σ tl ds) (hl : ds.length ≤ 1000 := by first | decide | simp) : YD K H0 σ (tLst tl) (.list ds) := fun H Q s k =>
  h H _ s fun vs H1 s1 hvs => ⟨by rw [dpa_len hvs, sizeLine_eq]; omega, fun p hp => k _ _ (s1.trans (same_upd hp)) (.lst (.inl (.inl upd_same)) (dpa_mono (same_upd hp) hvs))⟩
theorem yd_neg {z : Int} (h : YD K H0 σ te (.int z)) : YD K H0 σ (tUn (rU fun i => .int (-i)) te) (.int (-z)) := fun H Q s k =>
  h H _ s fun v H1 s1 hv => by
    cases hv
    exact ⟨z, rfl, k _ _ s1 (.int _)⟩
theorem yd_rI {C : Int → Int → Prop} {g : Int → Int → Int} {x y : Int} (h1 : YD K H0 σ ta (.int x)) (h2 : YD K H0 σ tb (.int y)) (hc : C x y) : YD K H0 σ (tOp (rI C fun i j => .int (g i j)) ta tb) (.int (g x y)) := fun H Q s k =>
  h1 H _ s fun v H1 s1 hv => h2 H1 _ (s.trans s1) fun w H2 s2 hw => by
    cases hv
    cases hw
    exact ⟨x, y, rfl, rfl, hc, k _ _ (s1.trans s2) (.int _)⟩
theorem yd_rI0 {g : Int → Int → Int} {x y : Int} (h1 : YD K H0 σ ta (.int x)) (h2 : YD K H0 σ tb (.int y)) : YD K H0 σ (tOp (rI0 fun i j => .int (g i j)) ta tb) (.int (g x y)) := fun H Q s k =>
  h1 H _ s fun v H1 s1 hv => h2 H1 _ (s.trans s1) fun w H2 s2 hw => by
    cases hv
    cases hw
    exact ⟨x, y, rfl, rfl, k _ _ (s1.trans s2) (.int _)⟩
theorem yd_rep {c : Nat} {n : Int} (h1 : YD K H0 σ ta (.str (tx [c]))) (h2 : YD K H0 σ tb (.int n)) (hn : n ≤ 100000) (hm : -100000 ≤ n) : YD K H0 σ (tOp rRepS ta tb) (.str (tx (List.replicate n.toNat c))) := fun H Q s k =>
  h1 H _ s fun v H1 s1 hv => h2 H1 _ (s.trans s1) fun w H2 s2 hw => by
    cases hv
    cases hw
    exact ⟨c, n, rfl, rfl, hn, hm, k _ _ (s1.trans s2) (.str _)⟩
theorem yd_b1 {f : PyData → Bool} (h : YD K H0 σ te d) (hs : small d = true) : YD K H0 σ (tCall (spB1 K f) [] E0 (tCons te tNil)) (.bool (f d)) := fun H Q s k =>
  h H _ s fun v H1 s1 hv => ⟨v, d, rfl, hv, hs, fun H' s' => k _ _ (s1.trans s') (.bl _)⟩
theorem yd_b2 {f : Int → PyData → Bool} {n : Int} (h1 : YD K H0 σ ta (.int n)) (h : YD K H0 σ te d) (hs : small d = true) : YD K H0 σ (tCall (spB2 K f) [] E0 (tCons ta (tCons te tNil))) (.bool (f n d)) := fun H Q s k =>
  h1 H _ s fun w H1 s1 hw => h H1 _ (s.trans s1) fun v H2 s2 hv => by
    cases hw
    exact ⟨n, v, d, rfl, hv, hs, fun H' s' => k _ _ ((s1.trans s2).trans s') (.bl _)⟩
/-- x = e, e data -/
theorem yd_asg (h : YD K H0 σ te d) (s : Same H0 H) (k : ∀ v H', Same H H' → Dp K H' v d → u D (σ.set i (some v)) H') : tSeq (tAsg te (gName i)) u D σ H := h H _ s k
theorem yd_ret (h : YD K H0 σ te d) (s : Same H0 H) (k : ∀ v H', Same H H' → Dp K H' v d → D.rt v H') : tRet te D σ H := h H _ s k
end
end V0
namespace V0
open PySem PySem.Spec PyProof.Rows L2
/-- what stands in H' and not in B -/
def nw (B H' : Hp) : Hp := fun b => if B b = none then H' b else none
theorem nw_mono {B H H' : Hp} (s : Same H H') : Same (nw B H) (nw B H') := fun b o e => by
  unfold nw at e ⊢
  by_cases h : B b = none
  · rw [if_pos h] at e ⊢
    exact s b o e
  · rw [if_neg h] at e
    cases e
theorem nw_le {B H : Hp} : Same (nw B H) H := fun b o e => by
  unfold nw at e
  by_cases h : B b = none
  · rw [if_pos h] at e
    exact e
  · rw [if_neg h] at e
    cases e
theorem nw_new {B H : Hp} {p : Addr} {o : HO} (s : Same B H) (hp : H p = none) : nw B (upd H p o) p = some o := by
  unfold nw
  rw [if_pos (s.free hp), upd_same]
theorem nw_del {B H : Hp} {p : Addr} (h : B p ≠ none) : Same (nw B H) (del H p) := fun b o e => by
  have nb : b ≠ p := fun z => by
    unfold nw at e
    rw [z, if_neg h] at e
    cases e
  rw [del_ne nb]
  exact nw_le b o e
/-- from H0 on, te gives the data d, all of it new to B, and makes new things alone -/
def YN (K : PySem.W.Frag) (B H0 : Hp) (σ : L2.St) (te : TE) (d : PyData) : Prop := ∀ (H : Hp) (Q : VK), Same H0 H → Same B H → (∀ v H', Same H H' → Dp K (nw B H') v d → Q v H') → te σ H Q
def YNs (K : PySem.W.Frag) (B H0 : Hp) (σ : L2.St) (ta : TA) (ds : List PyData) : Prop := ∀ (H : Hp) (Q : List V → Hp → Prop), Same H0 H → Same B H → (∀ vs H', Same H H' → DpAll K (nw B H') vs ds → Q vs H') → ta σ H Q
section
variable {K : PySem.W.Frag} {B H0 H : Hp} {σ : L2.St} {te ta tb : TE} {tl : TA} {d d1 d2 : PyData} {ds : List PyData} {D : Ends} {i : Nat} {u : TS}
theorem yn_v {v : V} (h : Dp K (nw B H0) v d) : YN K B H0 σ (tC v) d := fun H Q s _ k => k _ _ (Same.refl H) (dp_mono (nw_mono s) h)
theorem yn_int {z : Int} : YN K B H0 σ (tC (.int z)) (.int z) := yn_v (.int z)
theorem yn_str {z : Str} : YN K B H0 σ (tC (.str z)) (.str z) := yn_v (.str z)
theorem yn_bl {z : Bool} : YN K B H0 σ (tC (.bl z)) (.bool z) := yn_v (.bl z)
theorem yn_non : YN K B H0 σ (tC .non) .none := yn_v .non
theorem yn_var {v : V} (hv : σ[i]? = some (some v)) (h : Dp K (nw B H0) v d) : YN K B H0 σ (tVar i) d := fun H Q s _ k => ⟨v, hv, k _ _ (Same.refl H) (dp_mono (nw_mono s) h)⟩
theorem yns_nil : YNs K B H0 σ tNil [] := fun H Q _ _ k => k [] H (Same.refl H) .nil
theorem yns_cons (h : YN K B H0 σ te d) (r : YNs K B H0 σ tl ds) : YNs K B H0 σ (tCons te tl) (d :: ds) := fun H Q s b k =>
  h H _ s b fun v H1 s1 hv => r H1 _ (s.trans s1) (b.trans s1) fun vs H2 s2 hvs => k _ _ (s1.trans s2) (.cons (dp_mono (nw_mono s2) hv) hvs)
theorem yn_tup (h : YNs K B H0 σ tl ds) (hl : ds.length ≤ 1000 := by first | decide | simp) : YN K B H0 σ (tTup tl) (.tuple ds) := fun H Q s b k =>
  h H _ s b fun vs H1 s1 hvs => ⟨by rw [dpa_len hvs, sizeLine_eq]; omega, fun p hp => k _ _ (s1.trans (same_upd hp)) (.tup (.inl (.inl (nw_new (b.trans s1) hp))) (dpa_mono (nw_mono (same_upd hp)) hvs))⟩
theorem yn_lst (h : YNs K B H0 σ tl ds) (hl : ds.length ≤ 1000 := by first | decide | simp) : YN K B H0 σ (tLst tl) (.list ds) := fun H Q s b k =>
  h H _ s b fun vs H1 s1 hvs => ⟨by rw [dpa_len hvs, sizeLine_eq]; omega, fun p hp => k _ _ (s1.trans (same_upd hp)) (.lst (.inl (.inl (nw_new (b.trans s1) hp))) (dpa_mono (nw_mono (same_upd hp)) hvs))⟩
theorem yn_neg {z : Int} (h : YN K B H0 σ te (.int z)) : YN K B H0 σ (tUn (rU fun i => .int (-i)) te) (.int (-z)) := fun H Q s b k =>
  h H _ s b fun v H1 s1 hv => by
    cases hv
    exact ⟨z, rfl, k _ _ s1 (.int _)⟩
theorem yn_rI {C : Int → Int → Prop} {g : Int → Int → Int} {x y : Int} (h1 : YN K B H0 σ ta (.int x)) (h2 : YN K B H0 σ tb (.int y)) (hc : C x y) : YN K B H0 σ (tOp (rI C fun i j => .int (g i j)) ta tb) (.int (g x y)) := fun H Q s b k =>
  h1 H _ s b fun v H1 s1 hv => h2 H1 _ (s.trans s1) (b.trans s1) fun w H2 s2 hw => by
    cases hv
    cases hw
    exact ⟨x, y, rfl, rfl, hc, k _ _ (s1.trans s2) (.int _)⟩
theorem yn_rep {c : Nat} {n : Int} (h1 : YN K B H0 σ ta (.str (tx [c]))) (h2 : YN K B H0 σ tb (.int n)) (hn : n ≤ 100000) (hm : -100000 ≤ n) : YN K B H0 σ (tOp rRepS ta tb) (.str (tx (List.replicate n.toNat c))) := fun H Q s b k =>
  h1 H _ s b fun v H1 s1 hv => h2 H1 _ (s.trans s1) (b.trans s1) fun w H2 s2 hw => by
    cases hv
    cases hw
    exact ⟨c, n, rfl, rfl, hn, hm, k _ _ (s1.trans s2) (.str _)⟩
end
end V0
namespace V0
open PySem PySem.Spec PyProof.Rows L2
theorem z02 : (0 : Int) ≤ 2 := by decide
theorem z04 : (0 : Int) ≤ 4 := by decide
def longI : Int := 1000000007 * 1000000009 * 998244353 * 1000003
def ltrAt (r : Int) : Nat := (("IXYZ" : Str)).cps.getD r.toNat 0
def fullS (i : Nat) : Str := tx [ltrAt (Builtin.bitAnd (1 + (i : Int)) 3)] ++ tx [ltrAt (Builtin.bitAnd ((1 + (i : Int)) / 2 ^ (2 : Int).toNat) 3)] ++ tx [ltrAt (Builtin.bitAnd ((1 + (i : Int)) / 2 ^ (4 : Int).toNat) 3)]
def fullL : List PyData := (List.range 41).map fun i => .str (fullS i)
theorem fullAnd : ∀ i : Nat, i < 41 → (0 ≤ Builtin.bitAnd (1 + (i : Int)) 3 ∧ Builtin.bitAnd (1 + (i : Int)) 3 < 4) ∧ (0 ≤ Builtin.bitAnd ((1 + (i : Int)) / 2 ^ (2 : Int).toNat) 3 ∧ Builtin.bitAnd ((1 + (i : Int)) / 2 ^ (2 : Int).toNat) 3 < 4) ∧
    (0 ≤ Builtin.bitAnd ((1 + (i : Int)) / 2 ^ (4 : Int).toNat) 3 ∧ Builtin.bitAnd ((1 + (i : Int)) / 2 ^ (4 : Int).toNat) 3 < 4) := by decide +kernel
theorem fullAt {r : Int} (h : 0 ≤ r ∧ r < 4) : 0 ≤ r ∧ r < 4 ∧ ∃ c, (("IXYZ" : Str)).cps[r.toNat]? = some c := by
  refine ⟨h.1, h.2, ?_⟩
  have e : r = 0 ∨ r = 1 ∨ r = 2 ∨ r = 3 := by omega
  rcases e with rfl | rfl | rfl | rfl
  · exact ⟨73, rfl⟩
  · exact ⟨88, rfl⟩
  · exact ⟨89, rfl⟩
  · exact ⟨90, rfl⟩
theorem dpa_fullL {K : PySem.W.Frag} {H : Hp} (n : Nat) : DpAll K H ((List.range 41).map fun i => V.str (fullS i)) fullL := by
  have h := dpa_strs (K := K) (H := H) ((List.range 41).map fullS)
  rw [List.map_map, List.map_map] at h
  exact h
def menuD : List PyData := [.int (Int.fdiv (longI * longI) 1000000000),
  .str (tx (List.replicate (61 : Int).toNat 88)),
  .tuple [.int 61, .tuple [.str (tx (List.replicate (61 : Int).toNat 88))]],
  .tuple [.int 3, .tuple fullL],
  .tuple [.str (tx (List.replicate (61 : Int).toNat 88))],
  .tuple fullL,
  .int 0,
  .int 1,
  .int 2,
  .int (-1),
  .int longI,
  .int (-longI),
  .bool true,
  .bool false,
  .none,
  .str "",
  .str "X",
  .str "IYZ",
  .str "I",
  .str "Q",
  .str "xz",
  .str "X Z",
  .str "XI,",
  .tuple [],
  .tuple [.int 0],
  .tuple [.int 0, .int 2],
  .tuple [.int 2, .int 0],
  .tuple [.int 1, .int 1],
  .tuple [.int 0, .bool true],
  .tuple [.bool false, .int 1],
  .tuple [.int (-1), .int 0],
  .tuple [.int 0, .none],
  .tuple [.int 1, .int longI],
  .list [.int 0, .int 2],
  .tuple [.str "X"],
  .tuple [.str "XI", .str "II", .str "XI"],
  .tuple [.str "XI", .str "X"],
  .list [.str "XI"],
  .tuple [.str "XI", .none],
  .tuple [.str "", .str "X"],
  .tuple [.int 1, .tuple []],
  .tuple [.int 0, .tuple []],
  .tuple [.bool true, .tuple [.str "X"]],
  .tuple [.str "1", .tuple [.str "X"]],
  .tuple [.int 1, .list [.str "X"]],
  .list [.int 1, .tuple [.str "X"]],
  .tuple [.int 2, .str "XI"],
  .tuple [.int 1, .tuple [.str "X"], .tuple []],
  .tuple [.int 2, .tuple [.str "XI", .str "II"]],
  .tuple [.int 2, .tuple [.str "IX", .str "XI", .str "IX"]]]
def spThings (K : PySem.W.Frag) : Sp := fun vs H Q _ => vs = [] ∧ ∀ v H', Same H H' → Dp K (nw H H') v (.list menuD) → Q v H'
section
variable {P : Program} {w : World} {K : PySem.W.Frag} {mg : Str → Option Value} {base : Heap} {cP cU cT : Addr}
abbrev s__law_things : Stmt := topS 44
theorem sc__law_things : FnScope ["_law_long", "_law_full", "_law_k"] [] (defScope s__law_things) := ⟨rfl, rfl, rfl, by decide +kernel, rfl, by decide +kernel, by decide +kernel⟩
theorem ok__law_things  (T : Tops K mg) : Df P w K mg base CX0 1 "_law_things" s__law_things [] (spThings K) := by
  refine df_mk (k := 1-1) T.d__law_things sc__law_things (fun vs H Q E h => ?_) (fun _ _ _ _ _ _ us hl => match us, hl with | [], _ => rfl) (fun f cdv A outer s H vs Q E hr h => ?_)
  · obtain ⟨rfl, _⟩ := h
    rfl
  · obtain ⟨rfl, q⟩ := h
    refine ⟨_, (pss_cons (ps_set (i := 0) sc__law_things.nd rfl (Or.inl rfl) (pe_op op_mul (pe_op op_mul (pe_op op_mul (pe_int) (pe_int)) (pe_int)) (pe_int)))
        (pss_cons (ps_set (i := 1) sc__law_things.nd rfl (Or.inl rfl) (pe_callTy call_tuple_of (by rfl) T.b_tuple (by decide +kernel) (pa_cons (pe_lc (own := [("_law_k", 2)]) (g := gName 2) (by rfl) sc__law_things.nd (pi_range2 (by rfl) T.b_range (pa_cons (pe_int) (pa_cons (pe_int) pa_nil))) (blkOk_by (own := [("_law_k", 2)]) (N := ["_law_long", "_law_full", "_law_k"]) (sc := defScope s__law_things) (by decide +kernel)) (fun _ _ _ _ _ => pg_name (i := 2) sc__law_things.nd rfl (Or.inl rfl)) (fun _ _ _ _ _ => pts_nil) (fun _ _ _ _ _ => (pe_op op_add_str (pe_op op_add_str (pe_item_str (pe_str) (pe_op op_and (pv 2) (pe_int)) (fun _ _ => rfl)) (pe_item_str (pe_str) (pe_op op_and (pe_op op_shr (pv 2) (pe_int)) (pe_int)) (fun _ _ => rfl))) (pe_item_str (pe_str) (pe_op op_and (pe_op op_shr (pv 2) (pe_int)) (pe_int)) (fun _ _ => rfl))))) pa_nil)))
        (pss_one (ps_ret (pe_lst (pa_cons (pe_op op_fdivN (pe_op op_mulW (pv 0) (pv 0)) (pe_int)) (pa_cons (pe_op op_repS (pe_str) (pe_int)) (pa_cons (pe_tup (pa_cons (pe_int) (pa_cons (pe_tup (pa_cons (pe_op op_repS (pe_str) (pe_int)) pa_nil)) pa_nil))) (pa_cons (pe_tup (pa_cons (pe_int) (pa_cons (pv 1) pa_nil))) (pa_cons (pe_tup (pa_cons (pe_op op_repS (pe_str) (pe_int)) pa_nil)) (pa_cons (pv 1) (pa_cons (pe_int) (pa_cons (pe_int) (pa_cons (pe_int) (pa_cons (pe_un un_neg (pe_int)) (pa_cons (pv 0) (pa_cons (pe_un un_neg (pv 0)) (pa_cons (pe_bl) (pa_cons (pe_bl) (pa_cons (pe_non) (pa_cons (pe_str) (pa_cons (pe_str) (pa_cons (pe_str) (pa_cons (pe_str) (pa_cons (pe_str) (pa_cons (pe_str) (pa_cons (pe_str) (pa_cons (pe_str) (pa_cons (pe_tup pa_nil) (pa_cons (pe_tup (pa_cons (pe_int) pa_nil)) (pa_cons (pe_tup (pa_cons (pe_int) (pa_cons (pe_int) pa_nil))) (pa_cons (pe_tup (pa_cons (pe_int) (pa_cons (pe_int) pa_nil))) (pa_cons (pe_tup (pa_cons (pe_int) (pa_cons (pe_int) pa_nil))) (pa_cons (pe_tup (pa_cons (pe_int) (pa_cons (pe_bl) pa_nil))) (pa_cons (pe_tup (pa_cons (pe_bl) (pa_cons (pe_int) pa_nil))) (pa_cons (pe_tup (pa_cons (pe_un un_neg (pe_int)) (pa_cons (pe_int) pa_nil))) (pa_cons (pe_tup (pa_cons (pe_int) (pa_cons (pe_non) pa_nil))) (pa_cons (pe_tup (pa_cons (pe_int) (pa_cons (pv 0) pa_nil))) (pa_cons (pe_lst (pa_cons (pe_int) (pa_cons (pe_int) pa_nil))) (pa_cons (pe_tup (pa_cons (pe_str) pa_nil)) (pa_cons (pe_tup (pa_cons (pe_str) (pa_cons (pe_str) (pa_cons (pe_str) pa_nil)))) (pa_cons (pe_tup (pa_cons (pe_str) (pa_cons (pe_str) pa_nil))) (pa_cons (pe_lst (pa_cons (pe_str) pa_nil)) (pa_cons (pe_tup (pa_cons (pe_str) (pa_cons (pe_non) pa_nil))) (pa_cons (pe_tup (pa_cons (pe_str) (pa_cons (pe_str) pa_nil))) (pa_cons (pe_tup (pa_cons (pe_int) (pa_cons (pe_tup pa_nil) pa_nil))) (pa_cons (pe_tup (pa_cons (pe_int) (pa_cons (pe_tup pa_nil) pa_nil))) (pa_cons (pe_tup (pa_cons (pe_bl) (pa_cons (pe_tup (pa_cons (pe_str) pa_nil)) pa_nil))) (pa_cons (pe_tup (pa_cons (pe_str) (pa_cons (pe_tup (pa_cons (pe_str) pa_nil)) pa_nil))) (pa_cons (pe_tup (pa_cons (pe_int) (pa_cons (pe_lst (pa_cons (pe_str) pa_nil)) pa_nil))) (pa_cons (pe_lst (pa_cons (pe_int) (pa_cons (pe_tup (pa_cons (pe_str) pa_nil)) pa_nil))) (pa_cons (pe_tup (pa_cons (pe_int) (pa_cons (pe_str) pa_nil))) (pa_cons (pe_tup (pa_cons (pe_int) (pa_cons (pe_tup (pa_cons (pe_str) pa_nil)) (pa_cons (pe_tup pa_nil) pa_nil)))) (pa_cons (pe_tup (pa_cons (pe_int) (pa_cons (pe_tup (pa_cons (pe_str) (pa_cons (pe_str) pa_nil))) pa_nil))) (pa_cons (pe_tup (pa_cons (pe_int) (pa_cons (pe_tup (pa_cons (pe_str) (pa_cons (pe_str) (pa_cons (pe_str) pa_nil)))) pa_nil))) pa_nil))))))))))))))))))))))))))))))))))))))))))))))))))))))), ?_⟩
    have cD : CDivN (longI * longI) 1000000000 := ⟨by decide, by decide⟩
    have cW : CMulW longI longI := by
      refine wide_mul (a := 200) (b := 200) ?_ ?_ (by decide) (by decide) (by decide) <;> decide
    refine yd_asg (K := K) (d := .int longI) (yd_rI (yd_rI (yd_rI yd_int yd_int (.inl (by decide))) yd_int (.inr (by decide))) yd_int (.inr (by decide))) (Same.refl H) fun v H1 s1 hv => ?_
    cases hv
    refine ⟨1, 42, rfl, ⟨by decide, by decide, by decide, by decide⟩, fun D hD => lcB walk_range (fun i => .str (fullS i)) (by decide) hD (fun _ _ => trivial) (fun i x H2 H3 hi s2 y R hR => ?_) (fun H2 s2 hl => ?_)⟩
    · obtain ⟨rfl, rfl⟩ := y
      have hi' : i < 41 := hi
      obtain ⟨a0, a1, c, hc⟩ := fullAt (fullAnd i hi').1
      obtain ⟨b0, b1, e, he⟩ := fullAt (fullAnd i hi').2.1
      obtain ⟨d0, d1, g, hg⟩ := fullAt (fullAnd i hi').2.2
      refine ⟨rfl, _, rfl, _, _, rfl, rfl, _, _, c, rfl, rfl, a0, by omega, by show _ < (4 : Int); exact a1, hc, ?_⟩
      refine ⟨_, rfl, _, _, rfl, rfl, z02, _, _, rfl, rfl, _, _, e, rfl, rfl, b0, by omega, by show _ < (4 : Int); exact b1, he, ?_⟩
      refine ⟨_, _, rfl, rfl, by show 2 ≤ sizeLine; decide, ?_⟩
      refine ⟨_, rfl, _, _, rfl, rfl, z04, _, _, rfl, rfl, _, _, g, rfl, rfl, d0, by omega, by show _ < (4 : Int); exact d1, hg, ?_⟩
      refine ⟨_, _, rfl, rfl, by show 3 ≤ sizeLine; decide, ?_⟩
      have e2 : fullS i = tx [c] ++ tx [e] ++ tx [g] := by
        unfold fullS ltrAt
        simp only [Array.getD_eq_getD_getElem?]
        rw [hc, he, hg]
        rfl
      rw [show (⟨#[c]⟩ : Str) ++ ⟨#[e]⟩ ++ ⟨#[g]⟩ = fullS i from e2.symm]
      exact hR _ (Same.refl _)
    · refine ⟨D, _, rfl, .inl ⟨.inl (.inl hl), fun l hl2 => ?_⟩⟩
      have s3 : Same H1 (upd H2 l (.tup ((List.range 41).map fun i => V.str (fullS i)))) := s2.trans (same_upd hl2)
      have hF : Dp K (nw H (upd H2 l (.tup ((List.range 41).map fun i => V.str (fullS i))))) (.ref l) (.tuple fullL) := .tup (.inl (.inl (nw_new (s1.trans s2) hl2))) (dpa_fullL 0)
      have yL : YN K H (upd H2 l (.tup ((List.range 41).map fun i => V.str (fullS i)))) [some (V.int longI), some (V.ref l), none] (tVar 0) (.int longI) := yn_var rfl (.int _)
      have yF : YN K H (upd H2 l (.tup ((List.range 41).map fun i => V.str (fullS i)))) [some (V.int longI), some (V.ref l), none] (tVar 1) (.tuple fullL) := yn_var rfl hF
      have yM : YN K H (upd H2 l (.tup ((List.range 41).map fun i => V.str (fullS i)))) [some (V.int longI), some (V.ref l), none] _ (.list menuD) := (yn_lst (yns_cons (yn_rI (C := CDivN) (g := fun i j => i.fdiv j) (yn_rI (C := CMulW) (g := fun i j => i * j) yL yL cW) yn_int cD) (yns_cons (yn_rep (c := 88) yn_str yn_int (by decide) (by decide)) (yns_cons (yn_tup (yns_cons yn_int (yns_cons (yn_tup (yns_cons (yn_rep (c := 88) yn_str yn_int (by decide) (by decide)) yns_nil)) yns_nil))) (yns_cons (yn_tup (yns_cons yn_int (yns_cons yF yns_nil))) (yns_cons (yn_tup (yns_cons (yn_rep (c := 88) yn_str yn_int (by decide) (by decide)) yns_nil)) (yns_cons yF (yns_cons yn_int (yns_cons yn_int (yns_cons yn_int (yns_cons (yn_neg yn_int) (yns_cons yL (yns_cons (yn_neg yL) (yns_cons yn_bl (yns_cons yn_bl (yns_cons yn_non (yns_cons yn_str (yns_cons yn_str (yns_cons yn_str (yns_cons yn_str (yns_cons yn_str (yns_cons yn_str (yns_cons yn_str (yns_cons yn_str (yns_cons (yn_tup yns_nil) (yns_cons (yn_tup (yns_cons yn_int yns_nil)) (yns_cons (yn_tup (yns_cons yn_int (yns_cons yn_int yns_nil))) (yns_cons (yn_tup (yns_cons yn_int (yns_cons yn_int yns_nil))) (yns_cons (yn_tup (yns_cons yn_int (yns_cons yn_int yns_nil))) (yns_cons (yn_tup (yns_cons yn_int (yns_cons yn_bl yns_nil))) (yns_cons (yn_tup (yns_cons yn_bl (yns_cons yn_int yns_nil))) (yns_cons (yn_tup (yns_cons (yn_neg yn_int) (yns_cons yn_int yns_nil))) (yns_cons (yn_tup (yns_cons yn_int (yns_cons yn_non yns_nil))) (yns_cons (yn_tup (yns_cons yn_int (yns_cons yL yns_nil))) (yns_cons (yn_lst (yns_cons yn_int (yns_cons yn_int yns_nil))) (yns_cons (yn_tup (yns_cons yn_str yns_nil)) (yns_cons (yn_tup (yns_cons yn_str (yns_cons yn_str (yns_cons yn_str yns_nil)))) (yns_cons (yn_tup (yns_cons yn_str (yns_cons yn_str yns_nil))) (yns_cons (yn_lst (yns_cons yn_str yns_nil)) (yns_cons (yn_tup (yns_cons yn_str (yns_cons yn_non yns_nil))) (yns_cons (yn_tup (yns_cons yn_str (yns_cons yn_str yns_nil))) (yns_cons (yn_tup (yns_cons yn_int (yns_cons (yn_tup yns_nil) yns_nil))) (yns_cons (yn_tup (yns_cons yn_int (yns_cons (yn_tup yns_nil) yns_nil))) (yns_cons (yn_tup (yns_cons yn_bl (yns_cons (yn_tup (yns_cons yn_str yns_nil)) yns_nil))) (yns_cons (yn_tup (yns_cons yn_str (yns_cons (yn_tup (yns_cons yn_str yns_nil)) yns_nil))) (yns_cons (yn_tup (yns_cons yn_int (yns_cons (yn_lst (yns_cons yn_str yns_nil)) yns_nil))) (yns_cons (yn_lst (yns_cons yn_int (yns_cons (yn_tup (yns_cons yn_str yns_nil)) yns_nil))) (yns_cons (yn_tup (yns_cons yn_int (yns_cons yn_str yns_nil))) (yns_cons (yn_tup (yns_cons yn_int (yns_cons (yn_tup (yns_cons yn_str yns_nil)) (yns_cons (yn_tup yns_nil) yns_nil)))) (yns_cons (yn_tup (yns_cons yn_int (yns_cons (yn_tup (yns_cons yn_str (yns_cons yn_str yns_nil))) yns_nil))) (yns_cons (yn_tup (yns_cons yn_int (yns_cons (yn_tup (yns_cons yn_str (yns_cons yn_str (yns_cons yn_str yns_nil)))) yns_nil))) yns_nil)))))))))))))))))))))))))))))))))))))))))))))))))))
      exact yM (upd H2 l (.tup ((List.range 41).map fun i => V.str (fullS i)))) Q (Same.refl _) (s1.trans s3) fun v H4 s4 hv => q v H4 ((s1.trans s3).trans s4) hv
end
end V0
namespace V0
open PySem PySem.Spec PyProof.Rows L2
section
variable {X : Cx} {CX : CXT} {k : Nat} {st : Stmt} {ps : List Str} {sp : Sp} {E : XK} {x : Str} {p pos : Pos} {kws : List Keyword} {tk : TA}
/-- f(a = .., b = ..): all parameters by keywords, in their order -/
theorem pe_dfk (G : Df X.prog X.w X.K X.mg X.base CX k x st ps sp) (hr : Room k X.A) (hg : Gl X x) (hx : Passes CX X E) (hkw : PK X kws tk)
    (hb : ∀ (kV doc pm : Value) (an : Option Addr) (cdv ct : Value) (ws : List Value), ws.length = ps.length → bindArgs (PySem.W.fnOf x x (defArgs st) (defBody st) (defScope st) .none kV doc pm an cdv ct) ⟨[], ps.zip ws⟩ = pure (ps.zip ws))
    (hall : (backToKw pos (keywordEach kws X.env)).all (·.1.isSome) = true := by rfl) (hks : (backToKw pos (keywordEach kws X.env)).filterMap (·.1) = ps := by rfl) (hdb : (x == ("__debug__" : Str)) = false := by decide)
    (hpl : ((backTo pos (starEach [] X.env)).any (·.1) || (backToKw pos (keywordEach kws X.env)).any (·.1.isNone)) = false := by rfl) :
    PE X (.Call (.Name x p) [] kws pos) (tCallN 0 ps.length sp (fun _ zs => zs) E tNil tk) := by
  obtain ⟨f, fd, F, hm, hk, _, FD⟩ := G.ex
  have kb : KBn X.K fd ps 0 ps (fun _ ws => ws) (fun _ zs => zs) := by
    obtain ⟨oc, od, dV, kV, doc, pm, an, cdv, ct, osl, rfl, lk, hcd, hD, hK⟩ := FD.ex
    rcases hD with ⟨_, rfl⟩ | ⟨e, _⟩
    · exact ⟨fun s us ws _ l1 l2 => .of_eq (by
        have e : us = [] := List.length_eq_zero_iff.mp l1
        subst e
        exact hb kV doc pm an cdv ct ws l2), fun _ r => r⟩
    · exact absurd rfl e
  exact pe_kw0 F hr hg hm hk kb hx hkw hall hks hdb hpl
end
section
variable {K : PySem.W.Frag} {H0 H : Hp} {σ : L2.St} {te ta tb : TE} {d : PyData}
theorem yd_k1 {f : PyData → Bool} (h : YD K H0 σ te d) (hs : small d = true) : YD K H0 σ (tCallN 0 1 (spB1 K f) (fun _ zs => zs) E0 tNil (tCons te tNil)) (.bool (f d)) := fun H Q s k =>
  h H _ s fun v H1 s1 hv => ⟨rfl, rfl, v, d, rfl, hv, hs, fun H' s' => k _ _ (s1.trans s') (.bl _)⟩
theorem yd_k2 {f : Int → PyData → Bool} {n : Int} (h1 : YD K H0 σ ta (.int n)) (h : YD K H0 σ te d) (hs : small d = true) : YD K H0 σ (tCallN 0 2 (spB2 K f) (fun _ zs => zs) E0 tNil (tCons ta (tCons te tNil))) (.bool (f n d)) := fun H Q s k =>
  h1 H _ s fun w H1 s1 hw => h H1 _ (s.trans s1) fun v H2 s2 hv => by
    cases hw
    exact ⟨rfl, rfl, n, v, d, rfl, hv, hs, fun H' s' => k _ _ ((s1.trans s2).trans s') (.bl _)⟩
/-- whole(v) and v >= 0 -/
theorem yd_num {i : Nat} {v : V} (h : YD K H0 σ te d) (hs : small d = true) (hv : σ[i]? = some (some v)) (hd : Dp K H0 v d) :
    YD K H0 σ (tAndV (tCall (spB1 K isIntD) [] E0 (tCons te tNil)) (tOp (rI0 fun i j => .bl (decide (j ≤ i))) (tVar i) (tC (.int 0)))) (.bool (isNumD d)) := fun H Q s k =>
  h H _ s fun v1 H1 s1 hv1 => ⟨v1, d, rfl, hv1, hs, fun H' s' => ⟨_, rfl, by
    cases d with
    | int z =>
      cases hd
      exact iteT ⟨_, hv, z, 0, rfl, rfl, k _ _ (s1.trans s') (.bl _)⟩
    | _ => exact iteF (k _ _ (s1.trans s') (.bl _))⟩⟩
theorem fault_non {K : PySem.W.Frag} {H : Hp} {r : V} {f : Option (Str × Int)} (h : Dp K H r (faultD f)) : decide (r = V.non) = f.isNone := by
  cases f with
  | none =>
    cases h
    rfl
  | some y =>
    obtain ⟨x, k⟩ := y
    cases h
    rfl
/-- fault(v) is None -/
theorem yd_fn (h : YD K H0 σ te d) (hs : small d = true) : YD K H0 σ (tOp (fun x y H Q => y = .non ∧ Q (.bl (decide (x = .non))) H) (tCall (spF K) [] E0 (tCons te tNil)) (tC .non)) (.bool (isHouseD d)) := fun H Q s k =>
  h H _ s fun v1 H1 s1 hv1 => ⟨v1, d, rfl, hv1, hs, fun r H' s' hr => ⟨rfl, by
    rw [fault_non hr]
    exact k _ _ (s1.trans s') (.bl _)⟩⟩
end
end V0
namespace V0
open PySem PySem.Spec PyProof.Rows L2
abbrev pairB (b : Bool) : PyData := .tuple [.bool b, .bool b]
theorem pairs_mem {x : PyData} : ∀ {l : List PyData}, x ∈ l → (∀ y ∈ l, ∃ b, y = pairB b) → ∃ b, x = pairB b := fun h k => k _ h
def spKind (K : PySem.W.Frag) : Sp := fun vs H Q _ => ∃ p m v d, vs = [.int p, .int m, v] ∧ Dp K H v d ∧ small d = true ∧ ∀ H', Same H H' → Q (.bl true) H'
section
variable {P : Program} {w : World} {K : PySem.W.Frag} {mg : Str → Option Value} {base : Heap} {cP cU cT : Addr}
abbrev s__law_kind : Stmt := topS 45
theorem sc__law_kind : FnScope ["_law_p", "_law_m", "_law_v", "_law_rows", "_law_got", "_law_due"] ["_law_p", "_law_m", "_law_v"] (defScope s__law_kind) := ⟨rfl, rfl, rfl, by decide +kernel, rfl, by decide +kernel, by decide +kernel⟩
theorem ok__law_kind  (T : Tops K mg) : Df P w K mg base CX0 6 "_law_kind" s__law_kind ["_law_p", "_law_m", "_law_v"] (spKind K) := by
  have G_is_integer := ok_is_integer (P := P) (w := w) (base := base) T
  have G__law_whole := ok__law_whole (P := P) (w := w) (base := base) T
  have G_is_number := ok_is_number (P := P) (w := w) (base := base) T
  have G_is_word := ok_is_word (P := P) (w := w) (base := base) T
  have G__law_letters := ok__law_letters (P := P) (w := w) (base := base) T
  have G_is_words := ok_is_words (P := P) (w := w) (base := base) T
  have G__law_row := ok__law_row (P := P) (w := w) (base := base) T
  have G_is_lot := ok_is_lot (P := P) (w := w) (base := base) T
  have G__law_rising := ok__law_rising (P := P) (w := w) (base := base) T
  have G_is_house := ok_is_house (P := P) (w := w) (base := base) T
  have G__law_fault := ok__law_fault (P := P) (w := w) (base := base) T
  refine df_mk (k := 6-1) T.d__law_kind sc__law_kind (fun vs H Q E h => ?_) (fun _ _ _ _ _ _ us hl => match us, hl with | [_, _, _], _ => rfl) (fun f cdv A outer s H vs Q E hr h => ?_)
  · obtain ⟨p, m, v, d, rfl, _⟩ := h
    rfl
  · obtain ⟨p, m, v, d, rfl, hd, hs, q⟩ := h
    refine ⟨_, (pss_cons (ps_set (i := 3) sc__law_kind.nd rfl (Or.inl rfl) (pe_lst (pa_cons (pe_tup (pa_cons (pe_df G_is_integer (hr.mono (by decide)) (by rfl) pass0 (pa_cons (pv 2) pa_nil)) (pa_cons (pe_df G__law_whole (hr.mono (by decide)) (by rfl) pass0 (pa_cons (pv 2) pa_nil)) pa_nil))) (pa_cons (pe_tup (pa_cons (pe_df G_is_number (hr.mono (by decide)) (by rfl) pass0 (pa_cons (pv 2) pa_nil)) (pa_cons ((pe_and (pe_df G__law_whole (hr.mono (by decide)) (by rfl) pass0 (pa_cons (pv 2) pa_nil)) (pe_one (pe_cmpR op_ge (pv 2) (pe_int) (nomark _))))) pa_nil))) (pa_cons (pe_tup (pa_cons (pe_df G_is_word (hr.mono (by decide)) (by rfl) pass0 (pa_cons (pv 2) pa_nil)) (pa_cons (pe_df G__law_letters (hr.mono (by decide)) (by rfl) pass0 (pa_cons (pv 2) pa_nil)) pa_nil))) (pa_cons (pe_tup (pa_cons (pe_df G_is_words (hr.mono (by decide)) (by rfl) pass0 (pa_cons (pv 0) (pa_cons (pv 2) pa_nil))) (pa_cons (pe_df G__law_row (hr.mono (by decide)) (by rfl) pass0 (pa_cons (pv 0) (pa_cons (pv 2) pa_nil))) pa_nil))) (pa_cons (pe_tup (pa_cons (pe_df G_is_lot (hr.mono (by decide)) (by rfl) pass0 (pa_cons (pv 1) (pa_cons (pv 2) pa_nil))) (pa_cons (pe_df G__law_rising (hr.mono (by decide)) (by rfl) pass0 (pa_cons (pv 1) (pa_cons (pv 2) pa_nil))) pa_nil))) (pa_cons (pe_tup (pa_cons (pe_df G_is_house (hr.mono (by decide)) (by rfl) pass0 (pa_cons (pv 2) pa_nil)) (pa_cons (pe_cmpR op_isN (pe_df G__law_fault (hr.mono (by decide)) (by rfl) pass0 (pa_cons (pv 2) pa_nil)) (pe_non) (nomark _)) pa_nil))) (pa_cons (pe_tup (pa_cons (pe_dfk G_is_words (hr.mono (by decide)) (by rfl) pass0 (pk_cons (pv 0) (pk_cons (pv 2) pk_nil)) (fun _ _ _ _ _ _ ws hl => match ws, hl with | [_, _], _ => rfl)) (pa_cons (pe_df G__law_row (hr.mono (by decide)) (by rfl) pass0 (pa_cons (pv 0) (pa_cons (pv 2) pa_nil))) pa_nil))) (pa_cons (pe_tup (pa_cons (pe_dfk G_is_lot (hr.mono (by decide)) (by rfl) pass0 (pk_cons (pv 1) (pk_cons (pv 2) pk_nil)) (fun _ _ _ _ _ _ ws hl => match ws, hl with | [_, _], _ => rfl)) (pa_cons (pe_df G__law_rising (hr.mono (by decide)) (by rfl) pass0 (pa_cons (pv 1) (pa_cons (pv 2) pa_nil))) pa_nil))) (pa_cons (pe_tup (pa_cons (pe_dfk G_is_integer (hr.mono (by decide)) (by rfl) pass0 (pk_cons (pv 2) pk_nil) (fun _ _ _ _ _ _ ws hl => match ws, hl with | [_], _ => rfl)) (pa_cons (pe_df G__law_whole (hr.mono (by decide)) (by rfl) pass0 (pa_cons (pv 2) pa_nil)) pa_nil))) (pa_cons (pe_tup (pa_cons (pe_dfk G_is_number (hr.mono (by decide)) (by rfl) pass0 (pk_cons (pv 2) pk_nil) (fun _ _ _ _ _ _ ws hl => match ws, hl with | [_], _ => rfl)) (pa_cons ((pe_and (pe_df G__law_whole (hr.mono (by decide)) (by rfl) pass0 (pa_cons (pv 2) pa_nil)) (pe_one (pe_cmpR op_ge (pv 2) (pe_int) (nomark _))))) pa_nil))) (pa_cons (pe_tup (pa_cons (pe_dfk G_is_word (hr.mono (by decide)) (by rfl) pass0 (pk_cons (pv 2) pk_nil) (fun _ _ _ _ _ _ ws hl => match ws, hl with | [_], _ => rfl)) (pa_cons (pe_df G__law_letters (hr.mono (by decide)) (by rfl) pass0 (pa_cons (pv 2) pa_nil)) pa_nil))) (pa_cons (pe_tup (pa_cons (pe_dfk G_is_house (hr.mono (by decide)) (by rfl) pass0 (pk_cons (pv 2) pk_nil) (fun _ _ _ _ _ _ ws hl => match ws, hl with | [_], _ => rfl)) (pa_cons (pe_cmpR op_isN (pe_df G__law_fault (hr.mono (by decide)) (by rfl) pass0 (pa_cons (pv 2) pa_nil)) (pe_non) (nomark _)) pa_nil))) pa_nil))))))))))))))
        (pss_cons (ps_for PassesOwn.never rfl (pi_list (pv 3)) (pg_tup (by rfl) (pgs_cons (pg_name (i := 4) sc__law_kind.nd rfl (Or.inl rfl)) (pgs_cons (pg_name (i := 5) sc__law_kind.nd rfl (Or.inl rfl)) pgs_nil))) (pss_one (ps_if (PW.pt (pw_or (pt_not (pt_val (pe_callB (call_isD .b) (by rfl) T.b_isinstance (by decide +kernel) (pa_cons (pv 4) (pa_cons (pe_bltn (v := .ty "bool") rfl T.b_bool (by decide +kernel) rfl) pa_nil))))) (pw_or1 (pt_cmpR op_ne (pv 4) (pv 5) (nomark _))))) (pss_one (ps_ret (pe_bl))) pss_nil)))
        (pss_one (ps_ret (pe_bl))))), ?_⟩
    have yP : YD K H [some (V.int p), some (V.int m), some v, none, none, none] (tVar 0) (.int p) := yd_var rfl (.int p)
    have yM : YD K H [some (V.int p), some (V.int m), some v, none, none, none] (tVar 1) (.int m) := yd_var rfl (.int m)
    have yV : YD K H [some (V.int p), some (V.int m), some v, none, none, none] (tVar 2) d := yd_var rfl hd
    refine yd_asg (K := K) (H0 := H) (d := .list [pairB (isIntD d), pairB (isNumD d), pairB (isWordD d), pairB (isWordsD p d), pairB (lotD m d), pairB (isHouseD d), pairB (isWordsD p d), pairB (lotD m d), pairB (isIntD d), pairB (isNumD d), pairB (isWordD d), pairB (isHouseD d)]) ?yR (Same.refl H) fun t H1 s1 ht => ?_
    case yR => exact yd_lst (yds_cons (yd_tup (yds_cons (yd_b1 yV hs) (yds_cons (yd_b1 yV hs) yds_nil))) (yds_cons (yd_tup (yds_cons (yd_b1 yV hs) (yds_cons (yd_num (i := 2) yV hs rfl hd) yds_nil))) (yds_cons (yd_tup (yds_cons (yd_b1 yV hs) (yds_cons (yd_b1 yV hs) yds_nil))) (yds_cons (yd_tup (yds_cons (yd_b2 yP yV hs) (yds_cons (yd_b2 yP yV hs) yds_nil))) (yds_cons (yd_tup (yds_cons (yd_b2 yM yV hs) (yds_cons (yd_b2 yM yV hs) yds_nil))) (yds_cons (yd_tup (yds_cons (yd_b1 yV hs) (yds_cons (yd_fn yV hs) yds_nil))) (yds_cons (yd_tup (yds_cons (yd_k2 yP yV hs) (yds_cons (yd_b2 yP yV hs) yds_nil))) (yds_cons (yd_tup (yds_cons (yd_k2 yM yV hs) (yds_cons (yd_b2 yM yV hs) yds_nil))) (yds_cons (yd_tup (yds_cons (yd_k1 yV hs) (yds_cons (yd_b1 yV hs) yds_nil))) (yds_cons (yd_tup (yds_cons (yd_k1 yV hs) (yds_cons (yd_num (i := 2) yV hs rfl hd) yds_nil))) (yds_cons (yd_tup (yds_cons (yd_k1 yV hs) (yds_cons (yd_b1 yV hs) yds_nil))) (yds_cons (yd_tup (yds_cons (yd_k1 yV hs) (yds_cons (yd_fn yV hs) yds_nil))) yds_nil))))))))))))
    cases ht with
    | @lst a xs _ hq ha =>
    refine ⟨_, rfl, a, rfl, ⟨xs, hq⟩, for_it walk_list (fun i σ H' => Same H H' ∧ Same H1 H' ∧ ∃ y4 y5, σ = [some (.int p), some (.int m), some v, some (.ref a), y4, y5]) ⟨s1, Same.refl _, none, none, rfl⟩ (fun i σ H' _ hp => Same.seq hp.2.1 hq) (fun i x σ H2 H3 hi hp hy => ?_) (fun σ H2 hp => ?_)⟩
    · obtain ⟨s2, s3, y4, y5, rfl⟩ := hp
      obtain ⟨rfl, hx⟩ := hy
      obtain ⟨di, hdi, hdx⟩ := dpa_getV ha hx
      obtain ⟨b, rfl⟩ := pairs_mem (List.mem_of_getElem? hdi) (by simp)
      cases dp_mono s3 hdx with
      | @tup c zs _ hz hzz =>
      obtain ⟨z0, z1, rfl⟩ : ∃ z0 z1, zs = [z0, z1] := by
        match zs, dpa_len hzz with
        | [z0, z1], _ => exact ⟨z0, z1, rfl⟩
      obtain ⟨_, e0, h0⟩ := dpa_get (i := 0) hzz rfl
      obtain ⟨_, e1, h1⟩ := dpa_get (i := 1) hzz rfl
      cases e0
      cases e1
      cases h0
      cases h1
      refine ⟨c, _, rfl, hz, rfl, _, _, rfl, _, [], rfl, rfl, ?_⟩
      refine ⟨_, rfl, _, .bool b, rfl, .bl b, _, rfl, ?_⟩
      refine iteF ⟨_, rfl, _, rfl, rfl, _, rfl, ?_⟩
      rw [decide_eq_true rfl]
      exact iteF ⟨s2, s3, _, _, rfl⟩
    · obtain ⟨s2, s3, y4, y5, rfl⟩ := hp
      exact q _ s2
end
end V0
namespace V0
open PySem PySem.Spec PyProof.Rows L2
/-! ### defs that are called where no repr is under way -/
/-- a def's promise, kept where no repr is under way -/
structure FnG (P : Program) (w : World) (K : PySem.W.Frag) (mg : Str → Option Value) (base : Heap) (CX : CXT) (k : Nat) (f : Addr) (fd : FuncData) (ps : List Str) (sp : Sp) : Prop where
  len : ∀ vs H Q E, sp vs H Q E → vs.length = ps.length
  run : ∀ (A : Around) (out : List Env) (z : Shared) (H : Hp) (ar : Args) (us : List Value) (vs : List V) (Q : VK) (E : XK), A.guards = some [] → Room k A → Env0 P w K mg base A out z H → BindsTo z fd ar (ps.zip us) → Vals vs us → sp vs H Q E →
    codeAny (model P w) A (.call (.ref f) ar) (CR CX out P w H z Q E) z
theorem fnG_of {CX : CXT} {P : Program} {w : World} {K : PySem.W.Frag} {mg : Str → Option Value} {base : Heap} {k : Nat} {f : Addr} {nm qu : Str} {pa : Arguments} {bd : List Stmt} {sc : Scope} {dV kV dc pm cd ct oc : Value} {an od : Option Addr}
    {sl : Array (Option Value)} {N ps : List Str} {sp : Sp} (lk : K.lookup f = some ⟨oc, od, .func (PySem.W.fnOf nm qu pa bd sc dV kV dc pm an cd ct), sl⟩) (hc : PySem.W.codeIn K cd qu = true) (S : FnScope N ps sc) (len : ∀ vs H Q E, sp vs H Q E → vs.length = ps.length)
    (body : ∀ (A : Around) (out : List Env) (z : Shared) (H : Hp) (vs : List V) (Q : VK) (E : XK), A.guards = some [] → Room k (A.deeper (envOfC qu sc z.heap.objs.size f cd)) → sp vs H Q E →
      ∃ t, PSs (cxOf CX P w K mg base N qu sc f cd A out z H E) bd t ∧ t { nx := fun _ H' => Q .non H', rt := Q } (start N vs) H) : FnG P w K mg base CX (k + 1) f (PySem.W.fnOf nm qu pa bd sc dV kV dc pm an cd ct) ps sp := by
  refine ⟨len, fun A out z H ar us vs Q E gd room e0 hb rv hs => ?_⟩
  have kz : K.In z.heap := e0.mod.kin.keeps fun b o q => (e0.bs b o q).1
  have nl : z.heap.NoLimit := e0.mod.nolimit.keeps fun b o q => (e0.bs b o q).1
  have kd : ∀ y ∈ ps.zip us, sc.names.lookup y.1 = some .local ∨ (sc.names.lookup y.1 = some .cell ∧ ((cellsFrom (z.heap.objs.size + 1) sc.names []).lookup y.1).isSome = true) := by
    rintro ⟨n, v⟩ hy
    cases S.par n (List.of_mem_zip hy).1 with
    | inl q => exact .inl q
    | inr q => exact .inr ⟨q, PySem.W.cellsFrom_some _ _ _ (.inl q)⟩
  refine codeAny_call_function room.depth (kz _ _ lk) rfl S.co S.gen rfl (PySem.W.codeRec_of kz hc) (hb _ _ _ _ (wpAny_newFunctionEnv_cells S.kind kd fun env he z1 x => ?_))
  subst he
  refine ⟨nl.keeps x.toInCall.keep, codeAny_func ?_⟩
  obtain ⟨t, ht, hq⟩ := body A out z H vs Q E gd (room.deeper _) hs
  refine wpAny_mono (ht.run [] z1 (start N vs) H _ (inv_start S room.hd e0 (len _ _ _ _ hs) rv x) hq) (fun fl z' q => ?_) fun e z' q => q
  match fl, q with
  | .ret u, q =>
    obtain ⟨v, σ', H', J, ru, q2⟩ := q
    exact ⟨v, H', J.os, J.bare, J.base, J.hok, ru, q2⟩
  | .next, q =>
    obtain ⟨σ', H', J, q2⟩ := q
    exact ⟨V.non, H', J.os, J.bare, J.base, J.hok, rfl, q2⟩
  | .brk, q =>
    obtain ⟨_, _, _, q2⟩ := q
    exact q2.elim
  | .cont, q =>
    obtain ⟨_, _, _, q2⟩ := q
    exact q2.elim
/-- such a def of the text, by its name -/
structure Dg (P : Program) (w : World) (K : PySem.W.Frag) (mg : Str → Option Value) (base : Heap) (CX : CXT) (k : Nat) (x : Str) (st : Stmt) (ps : List Str) (sp : Sp) : Prop where
  ex : ∃ (f : Addr) (fd : FuncData), FnG P w K mg base CX k f fd ps sp ∧ mg x = some (.ref f) ∧ PySem.W.keepIn K (.ref f) = true ∧ Binds K fd ps [] ∧ FnP K x st f fd
section
variable {X : Cx} {CX : CXT} {k : Nat} {st : Stmt} {ps : List Str} {sp : Sp} {E : XK} {x : Str} {p pos : Pos} {e : Expr} {es : List Expr} {t : TA}
theorem pe_dg (G : Dg X.prog X.w X.K X.mg X.base CX k x st ps sp) (gd : X.A.guards = some []) (hr : Room k X.A) (hg : Gl X x) (hx : Passes CX X E) (ha : PA X (e :: es) t) (hdb : (x == ("__debug__" : Str)) = false := by decide)
    (he : starEach (e :: es) X.env = (false, eval e X.env) :: starEach es X.env := by rfl) (hpl : (backTo pos (starEach es X.env)).any (·.1) = false := by rfl) : PE X (.Call (.Name x p) (e :: es) [] pos) (tCall sp [] E t) := by
  obtain ⟨f, fd, F, hm, hk, hb, _⟩ := G.ex
  refine ⟨fun pins z σ H Q I h => wpAny_Call_Name_kw (ld_glob I hg hm (PySem.W.callWith_K (h₀ := X.base) I.ok.mod.kin hk (thn (ha.run pos pins z σ H _ I h) fun us z1 ⟨vs, H1, I1, r, q⟩ => ⟨I1.kIn, ?_⟩) he hpl) hdb)⟩
  have q' : sp vs H1 Q E := by
    have q1 : sp (vs ++ []) H1 Q E := q
    rw [List.append_nil] at q1
    exact q1
  have hl : us.length = ps.length := by rw [← r.length]; exact F.len _ _ _ _ q'
  have hb' := hb z1 us I1.kIn (by rw [List.append_nil]; exact hl)
  rw [List.append_nil] at hb'
  refine wpAny_call (codeAny_mono (F.run X.A X.stack z1 H1 ⟨us, []⟩ us vs Q E gd hr I1.env0 hb' r q') fun r z' hq => ?_)
  match r, hq with
  | .error e, hq => exact hx pins σ H1 z1 e z' I1 hq
  | .ok (.ret u), hq => exact I1.after hq
  | .ok .next, hq => exact hq.elim
  | .ok .brk, hq => exact hq.elim
  | .ok .cont, hq => exact hq.elim
end
section
variable {P : Program} {w : World} {K : PySem.W.Frag} {mg : Str → Option Value} {base : Heap}
theorem dg_mk {x : Str} {st : Stmt} {N ps : List Str} {k : Nat} {sp : Sp} (F : Has K mg x st) (S : FnScope N ps (defScope st)) (len : ∀ vs H Q E, sp vs H Q E → vs.length = ps.length)
    (hb : ∀ (kV doc pm : Value) (an : Option Addr) (cdv ct : Value) (us : List Value), us.length = ps.length → bindArgs (PySem.W.fnOf x x (defArgs st) (defBody st) (defScope st) .none kV doc pm an cdv ct) ⟨us, []⟩ = pure (ps.zip us))
    (hbody : ∀ (f : Addr) (cdv : Value) (A : Around) (outer : List Env) (s : Shared) (H : Hp) (vs : List V) (Q : VK) (E : XK), A.guards = some [] → Room k (A.deeper (envOfC x (defScope st) s.heap.objs.size f cdv)) → sp vs H Q E →
      ∃ t, PSs (cxOf CX0 P w K mg base N x (defScope st) f cdv A outer s H E).nox (defBody st) t ∧ t { nx := fun _ H' => Q .non H', rt := Q } (start N vs) H) : Dg P w K mg base CX0 (k + 1) x st ps sp := by
  obtain ⟨f, fd, hm, F⟩ := F
  refine ⟨f, fd, ?_, hm, F.kp, F.bindsN hb, F⟩
  obtain ⟨oc, od, dV, kV, doc, pm, an, cdv, ct, osl, rfl, lk, hcd, _, _⟩ := F.ex
  refine fnG_of lk hcd S len fun A outer s H vs Q E gd hr h => ?_
  obtain ⟨t, h1, h2⟩ := hbody f cdv A outer s H vs Q E gd hr h
  exact ⟨t, h1.nox, h2⟩
end
/-! ### repr of data -/
section
variable {X : Cx}
theorem call_reprD (gd : X.A.guards = some []) (hu : X.A.units + 64 < cLine) : CallR X (.builtin "repr") (fun xs H Q => ∃ v d, xs = [v] ∧ Dp X.K H v d ∧ small d = true ∧ Q (.str d.shown) H) := by
  intro pins s σ H xs us Q I r h
  obtain ⟨v, d, rfl, hd, hs, q⟩ := h
  cases r with
  | cons rv rr =>
    rename_i u us'
    cases rr
    obtain ⟨as, hR⟩ := Dp.reads I d v u hd rv
    have hw : wt d < 100000000 := by have := small_wt hs; omega
    obtain ⟨hsh, hsb⟩ := shown_le d hw
    have hsz : d.shown.length ≤ sizeLine := by rw [sizeLine_eq]; have := small_wt hs; omega
    have fin : ∀ (h' : Heap) (t1 : Tok) (tk : Nat), (∀ b o, s.heap.get? b = some o → h'.get? b = some o) → EP X pins σ Q (.str d.shown t1) { s with heap := h', toks := tk } := fun h' t1 tk k => ⟨.str d.shown, H, I.kept (t' := tk) k, ⟨t1, rfl⟩, q⟩
    have nd : d.hasDict = false := PyData.hasDict_of_canLay d (can_of d hw)
    cases hd with
    | non =>
      cases (show u = Value.none from rv)
      exact PySem.P.repr_of_none (fin _ _ _ fun _ _ z => z)
    | bl b =>
      cases (show u = Value.bool b from rv)
      refine PySem.P.repr_of_bool ?_
      have f2 := fin s.heap s.toks (s.toks + 1) fun _ _ z => z
      simp only [PyData.shown] at f2
      exact f2
    | int i =>
      obtain ⟨t, rfl⟩ := (show ∃ t, u = Value.int i t from rv)
      refine PySem.P.repr_of_int (by simpa [PyData.showable] using hsb) ?_
      have f2 := fin s.heap s.toks (s.toks + 1) fun _ _ z => z
      simp only [PyData.shown] at f2
      exact f2
    | str x =>
      obtain ⟨t, rfl⟩ := (show ∃ t, u = Value.str x t from rv)
      have f2 := fin s.heap s.toks (s.toks + 1) fun _ _ z => z
      simp only [PyData.shown] at f2 hsz
      exact PySem.P.repr_of_str f2 hsz
    | lst h1 h2 =>
      cases (show u = Value.ref _ from rv)
      exact repr_of_reads' hR hsb (PyData.noDict_hsm nd) gd (by have := small_dp hs; omega) (fun _ _ z => z) (fun h' t1 tk k => fin h' t1 tk k) hsz
    | tup h1 h2 =>
      cases (show u = Value.ref _ from rv)
      exact repr_of_reads' hR hsb (PyData.noDict_hsm nd) gd (by have := small_dp hs; omega) (fun _ _ z => z) (fun h' t1 tk k => fin h' t1 tk k) hsz
end
end V0
namespace V0
open PySem PySem.Spec PyProof.Rows L2
theorem pick6 {r : Int} (h0 : 0 ≤ r) (h1 : r < 6) : ∃ z : Int, ([V.int 0, .int 1, .int 2, .int 3, .int 5, .int (100000000000000000000 * 100000000000000000000)] : List V)[r.toNat]? = some (.int z) := by
  have e : r = 0 ∨ r = 1 ∨ r = 2 ∨ r = 3 ∨ r = 4 ∨ r = 5 := by omega
  rcases e with rfl | rfl | rfl | rfl | rfl | rfl <;> exact ⟨_, rfl⟩
theorem ints_of {R : Int → Prop} : ∀ {ys : List V}, (∀ y ∈ ys, ∃ z : Int, R z ∧ y = .int z) → ∃ is : List Int, (∀ z ∈ is, R z) ∧ ys = is.map V.int
  | [], _ => ⟨[], (fun c hc => nomatch hc), rfl⟩
  | y :: r, h => by
    obtain ⟨c, hc, rfl⟩ := h y List.mem_cons_self
    obtain ⟨cs, h1, rfl⟩ := ints_of (ys := r) fun z hz => h z (List.mem_cons_of_mem _ hz)
    refine ⟨c :: cs, fun x hx => ?_, rfl⟩
    rcases List.mem_cons.mp hx with e | e
    · rw [e]
      exact hc
    · exact h1 x e
theorem menu_small : menuD.all small = true := by decide +kernel
theorem wt_int {z : Int} (h : -1 ≤ z ∧ z < 6) : wt (.int z) = 1930 := by
  simp only [wt]
  have e : z.natAbs.log2 < 1920 := by
    have : z = -1 ∨ z = 0 ∨ z = 1 ∨ z = 2 ∨ z = 3 ∨ z = 4 ∨ z = 5 := by omega
    rcases this with rfl | rfl | rfl | rfl | rfl | rfl | rfl <;> decide
  rw [if_pos e]
theorem small_ints : ∀ {is : List Int}, is.length ≤ 5 → (∀ z ∈ is, -1 ≤ z ∧ z < 6) → small (.tuple (is.map .int)) = true := fun {is} hl h => by
  have e1 : ∀ l : List Int, (∀ z ∈ l, -1 ≤ z ∧ z < 6) → wtAll (l.map .int) = l.length * 1932 ∧ PyData.depthAll (l.map .int) = 0 := by
    intro l
    induction l with
    | nil => intro _; exact ⟨rfl, rfl⟩
    | cons a r ih =>
      intro h
      obtain ⟨h1, h2⟩ := ih fun z hz => h z (List.mem_cons_of_mem _ hz)
      refine ⟨?_, ?_⟩
      · rw [List.map_cons]
        simp only [wtAll]
        rw [wt_int (h a List.mem_cons_self), h1, List.length_cons]
        omega
      · rw [List.map_cons]
        simp only [PyData.depthAll, h2, PyData.depth]
        rfl
  obtain ⟨h1, h2⟩ := e1 is h
  refine small_mk ?_ ?_
  · simp only [wt]
    rw [h1]
    omega
  · simp only [PyData.depth]
    rw [h2]
    omega
theorem ascii_wide {n : Int} {z : Str} (h : isWideD n (.str z) = true) : (∀ c ∈ z.cps.toList, c < 128) ∧ (z.length : Int) = n := by
  have h2 : (wordL z.cps.toList && decide ((z.length : Int) = n)) = true := h
  obtain ⟨h3, h4⟩ := Bool.and_eq_true_iff.mp h2
  refine ⟨fun c hc => ?_, of_decide_eq_true h4⟩
  have h5 := List.all_eq_true.mp (Bool.and_eq_true_iff.mp h3).2 c hc
  have h6 : c ∈ [73, 88, 89, 90] := of_decide_eq_true h5
  simp only [List.mem_cons, List.not_mem_nil, or_false] at h6
  omega
theorem wt_strs : ∀ {l : List Str} {b : Nat}, (∀ z ∈ l, (∀ c ∈ z.cps.toList, c < 128) ∧ z.length ≤ b) → wtAll (l.map .str) ≤ l.length * (10 * b + 10) ∧ PyData.depthAll (l.map .str) = 0
  | [], b, _ => ⟨Nat.zero_le _, rfl⟩
  | a :: r, b, h => by
    obtain ⟨h1, h2⟩ := wt_strs (l := r) (b := b) fun z hz => h z (List.mem_cons_of_mem _ hz)
    obtain ⟨h3, h4⟩ := h a List.mem_cons_self
    refine ⟨?_, ?_⟩
    · rw [List.map_cons]
      simp only [wtAll, wt]
      rw [if_pos (List.all_eq_true.mpr fun c hc => decide_eq_true (h3 c hc)), List.length_cons, Nat.add_mul]
      omega
    · rw [List.map_cons]
      simp only [PyData.depthAll, h2, PyData.depth]
      rfl
theorem small_words {n : Int} {ws : List Str} (h : HomeOk n 7 ws) (n1 : 1 ≤ n) (n3 : n ≤ 3) : small (.tuple (ws.map .str)) = true ∧ small (.tuple [.int n, .tuple (ws.map .str)]) = true ∧ small (.tuple ((ws ++ [tx (List.replicate n.toNat 73)]).map .str)) = true := by
  have hb : ∀ z ∈ ws, (∀ c ∈ z.cps.toList, c < 128) ∧ z.length ≤ 3 := fun z hz => by
    obtain ⟨h1, h2⟩ := ascii_wide (h.2.2 z hz).1
    exact ⟨h1, by omega⟩
  have hb2 : ∀ z ∈ ws ++ [tx (List.replicate n.toNat 73)], (∀ c ∈ z.cps.toList, c < 128) ∧ z.length ≤ 3 := fun z hz => by
    rcases List.mem_append.mp hz with e | e
    · exact hb z e
    · rw [List.mem_singleton.mp e]
      refine ⟨fun c hc => ?_, by rw [tx_len, List.length_replicate]; omega⟩
      have h3 : c ∈ List.replicate n.toNat 73 := by simpa [tx] using hc
      rw [List.eq_of_mem_replicate h3]
      decide
  obtain ⟨w1, d1⟩ := wt_strs hb
  obtain ⟨w2, d2⟩ := wt_strs hb2
  have hl := h.1
  have l2 : (ws ++ [tx (List.replicate n.toNat 73)]).length = ws.length + 1 := by simp
  have wi := wt_int (z := n) (by omega)
  refine ⟨small_mk ?_ ?_, small_mk ?_ ?_, small_mk ?_ ?_⟩
  · simp only [wt]
    omega
  · simp only [PyData.depth]
    rw [d1]
    omega
  · have e : wt (.tuple [.int n, .tuple (ws.map .str)]) = 8 + (wt (.int n) + 2 + ((8 + wtAll (ws.map .str)) + 2 + 0)) := by simp only [wt, wtAll]
    rw [e, wi]
    omega
  · simp only [PyData.depth, PyData.depthAll]
    rw [d1]
    decide
  · simp only [wt]
    rw [l2] at w2
    omega
  · simp only [PyData.depth]
    rw [d2]
    omega
def spKinds (K : PySem.W.Frag) : Sp := fun vs H Q _ => ∃ (p : Addr) (n : Int) (l : Addr) (ws : List Str), vs = [.ref p, .int n, .ref l] ∧ Pool H p ∧ H l = some (.lst (ws.map V.str)) ∧ l ≠ p ∧ 1 ≤ n ∧ n ≤ 3 ∧ HomeOk n 7 ws ∧ ∀ H', Sam p H H' → Q (.bl true) H'
section
variable {P : Program} {w : World} {K : PySem.W.Frag} {mg : Str → Option Value} {base : Heap} {cP cU cT : Addr}
abbrev s__law_kinds : Stmt := topS 46
theorem sc__law_kinds : FnScope ["_law_pool_here", "_law_n", "_law_row_here", "_law_menu", "_law_p", "_law_m", "_law_asked", "_law_k", "_law_lots", "_law_v", "_law_kept"] ["_law_pool_here", "_law_n", "_law_row_here"] (defScope s__law_kinds) := ⟨rfl, rfl, rfl, by decide +kernel, rfl, by decide +kernel, by decide +kernel⟩
theorem ok__law_kinds  (T : Tops K mg) : Dg P w K mg base CX0 7 "_law_kinds" s__law_kinds ["_law_pool_here", "_law_n", "_law_row_here"] (spKinds K) := by
  have G__law_things := ok__law_things (P := P) (w := w) (base := base) T
  have G__law_take := ok__law_take (P := P) (w := w) (base := base) T
  have G__law_kind := ok__law_kind (P := P) (w := w) (base := base) T
  refine dg_mk (k := 7-1) T.d__law_kinds sc__law_kinds (fun vs H Q E h => ?_) (fun _ _ _ _ _ _ us hl => match us, hl with | [_, _, _], _ => rfl) (fun f cdv A outer s H vs Q E gd hr h => ?_)
  · obtain ⟨p, n, l, ws, rfl, _⟩ := h
    rfl
  · obtain ⟨p, n, l, ws, rfl, hP, hl, nlp, n1, n3, hok, q⟩ := h
    refine ⟨_, (pss_cons (ps_set (i := 3) sc__law_kinds.nd rfl (Or.inr rfl) (pe_df0 G__law_things (hr.mono (by decide)) (by rfl) pass0))
        (pss_cons (ps_set (i := 4) sc__law_kinds.nd rfl (Or.inl rfl) (pe_op op_add (pe_int) (pe_df G__law_take (hr.mono (by decide)) (by rfl) pass0 (pa_cons (pv 0) (pa_cons (pe_int) pa_nil)))))
        (pss_cons (ps_set (i := 5) sc__law_kinds.nd rfl (Or.inl rfl) (pe_ix ix_list (pe_lst (pa_cons (pe_int) (pa_cons (pe_int) (pa_cons (pe_int) (pa_cons (pe_int) (pa_cons (pe_int) (pa_cons (pe_op op_mulW (pe_int) (pe_int)) pa_nil))))))) (pe_df G__law_take (hr.mono (by decide)) (by rfl) pass0 (pa_cons (pv 0) (pa_cons (pe_int) pa_nil))) (fun _ _ => rfl)))
        (pss_cons (ps_setLc (i := 6) (own := [("_law_k", 7)]) (g := gName 7) (by rfl) sc__law_kinds.nd rfl rfl (sw_true rfl rfl rfl (by decide +kernel)) (pi_range1 (by rfl) T.b_range (pa_cons (pe_int) pa_nil)) (blkOk_by (own := [("_law_k", 7)]) (N := ["_law_pool_here", "_law_n", "_law_row_here", "_law_menu", "_law_p", "_law_m", "_law_asked", "_law_k", "_law_lots", "_law_v", "_law_kept"]) (sc := defScope s__law_kinds) (by decide +kernel)) (fun _ _ _ _ _ => pg_name (i := 7) sc__law_kinds.nd rfl (Or.inl rfl)) (fun _ _ _ _ _ => pts_nil) (fun _ _ _ _ _ => (pe_ix (show IxR _ (rIxL K) from ix_list) (pv 3) (pe_df G__law_take (hr.mono (by decide)) (by rfl) pass0 (pa_cons (pv 0) (pa_cons (pe_int) pa_nil))) (fun _ _ => rfl))))
        (pss_cons (ps_setLc (i := 8) (own := [("_law_k", 7)]) (g := gName 7) (by rfl) sc__law_kinds.nd rfl rfl (sw_true rfl rfl rfl (by decide +kernel)) (pi_range1 (by rfl) T.b_range (pa_cons (pe_df G__law_take (hr.mono (by decide)) (by rfl) pass0 (pa_cons (pv 0) (pa_cons (pe_int) pa_nil))) pa_nil)) (blkOk_by (own := [("_law_k", 7)]) (N := ["_law_pool_here", "_law_n", "_law_row_here", "_law_menu", "_law_p", "_law_m", "_law_asked", "_law_k", "_law_lots", "_law_v", "_law_kept"]) (sc := defScope s__law_kinds) (by decide +kernel)) (fun _ _ _ _ _ => pg_name (i := 7) sc__law_kinds.nd rfl (Or.inl rfl)) (fun _ _ _ _ _ => pts_nil) (fun _ _ _ _ _ => (pe_op op_sub (pe_df G__law_take (hr.mono (by decide)) (by rfl) pass0 (pa_cons (pv 0) (pa_cons (pe_int) pa_nil))) (pe_callTy call_int1 (by rfl) T.b_int (by decide +kernel) (pa_cons (pe_cmpR op_eq (pv 7) (pe_int) (nomark _)) pa_nil)))))
        (pss_cons (ps_set (i := 6) sc__law_kinds.nd rfl (Or.inl rfl) (pe_op op_cat (pv 6) (pe_lst (pa_cons (pe_callTy call_tuple_of (by rfl) T.b_tuple (by decide +kernel) (pa_cons (pv 2) pa_nil)) (pa_cons (pe_tup (pa_cons (pv 1) (pa_cons (pe_callTy call_tuple_of (by rfl) T.b_tuple (by decide +kernel) (pa_cons (pv 2) pa_nil)) pa_nil))) (pa_cons (pe_callTy call_tuple_of (by rfl) T.b_tuple (by decide +kernel) (pa_cons (pv 8) pa_nil)) (pa_cons (pe_callTy call_tuple_of (by rfl) T.b_tuple (by decide +kernel) (pa_cons (pe_callB cr_sorted (by rfl) T.b_sorted (by decide +kernel) (pa_cons (pv 8) pa_nil)) pa_nil)) (pa_cons (pe_callTy call_tuple_of (by rfl) T.b_tuple (by decide +kernel) (pa_cons (pe_op op_cat (pv 2) (pe_lst (pa_cons (pe_op op_repS (pe_str) (pv 1)) pa_nil))) pa_nil)) pa_nil))))))))
        (pss_cons (ps_for PassesOwn.never rfl (pi_list (pv 6)) (pg_name (i := 9) sc__law_kinds.nd rfl (Or.inl rfl)) (pss_cons (ps_set (i := 10) sc__law_kinds.nd rfl (Or.inl rfl) (pe_callB (call_reprD gd hr.units) (by rfl) T.b_repr (by decide +kernel) (pa_cons (pv 9) pa_nil)))
        (pss_one (ps_if (PW.pt (pw_or (pt_not (pt_val (pe_df G__law_kind (hr.mono (by decide)) (by rfl) pass0 (pa_cons (pv 4) (pa_cons (pv 5) (pa_cons (pv 9) pa_nil)))))) (pw_or (pt_not (pt_val (pe_df G__law_kind (hr.mono (by decide)) (by rfl) pass0 (pa_cons (pv 1) (pa_cons (pe_int) (pa_cons (pv 9) pa_nil)))))) (pw_or1 (pt_cmpR op_ne (pe_callB (call_reprD gd hr.units) (by rfl) T.b_repr (by decide +kernel) (pa_cons (pv 9) pa_nil)) (pv 10) (nomark _)))))) (pss_one (ps_ret (pe_bl))) pss_nil))))
        (pss_one (ps_ret (pe_bl)))))))))), ?_⟩
    refine ⟨rfl, fun vm H1 s1 hm0 => ?_⟩
    have hpn : H p ≠ none := by
      obtain ⟨g, m, e, _⟩ := hP
      rw [e]
      simp
    have hm1 : Dp K (del H1 p) vm (.list menuD) := dp_mono (nw_del hpn) hm0
    have S1 : Sam p H H1 := Sam.of hP s1
    refine ⟨_, rfl, p, 3, rfl, S1.2, by decide, by decide, fun r1 H2 r10 r11 S2 => ⟨_, _, rfl, rfl, ?_⟩⟩
    refine ⟨_, _, rfl, rfl, wide_mul (a := 70) (b := 70) (by decide) (by decide) (by decide) (by decide) (by decide), by show 6 ≤ sizeLine; decide, fun lm hlm => ?_⟩
    have S3 : Sam p H2 (upd H2 lm (.lst [.int 0, .int 1, .int 2, .int 3, .int 5, .int (100000000000000000000 * 100000000000000000000)])) := Sam.of S2.2 (same_upd hlm)
    have nlm : lm ≠ p := pool_ne S2.2 hlm
    refine ⟨_, rfl, p, 6, rfl, S3.2, by decide, by decide, fun r2 H4 r20 r21 S4 => ?_⟩
    obtain ⟨m, hmz⟩ := pick6 r20 r21
    refine ⟨lm, _, r2, .int m, rfl, rfl, .inl (.inl (sam_at S4 nlm upd_same)), at_of (by omega) hmz, ?_⟩
    have S04 : Sam p H H4 := ((S1.trans S2).trans S3).trans S4
    have hm4 : Dp K (del H4 p) vm (.list menuD) := dp_mono ((S2.trans S3).trans S4).1 hm1
    cases hm4 with
    | @lst ma xs _ hq4 ha4 =>
    have hxl : xs.length = 50 := by rw [dpa_len ha4]; rfl
    refine ⟨10, rfl, by decide, by decide, fun D hD => lcP (p := p) walk_r0 (fun y => y ∈ xs) (by decide) hD S04.2 (fun _ _ => trivial) (fun i x H5 H6 hi s5 y R hR => ?_) (fun H5 ys S5 hys hyl hyr => ?_)⟩
    · obtain ⟨rfl, rfl⟩ := y
      refine ⟨rfl, _, rfl, _, rfl, p, 50, rfl, s5.2, by decide, by decide, fun r H7 h0 h1 s6 => ?_⟩
      have hlt : r.toNat < xs.length := by omega
      refine ⟨ma, xs, r, xs[r.toNat], rfl, rfl, Same.seq (del_le _ p) (Same.seq (s5.trans s6).1 hq4), at_of (by omega) (List.getElem?_eq_getElem hlt), ?_⟩
      exact hR _ _ (List.getElem_mem hlt) s6
    have nDp : D ≠ p := pool_ne S04.2 hD
    refine ⟨_, rfl, p, 5, rfl, S5.2, by decide, by decide, fun r3 H6 r30 r31 S6 => ?_⟩
    refine ⟨r3, rfl, by omega, by omega, fun D2 hD2 => lcP (p := p) walk_r0 (fun y => ∃ z : Int, (-1 ≤ z ∧ z < 6) ∧ y = .int z) (by omega) hD2 S6.2 (fun _ _ => trivial) (fun i x H7 H8 hi s7 y R hR => ?_) (fun H7 zs S7 hzs hzl hzr => ?_)⟩
    · obtain ⟨rfl, rfl⟩ := y
      refine ⟨rfl, _, rfl, p, 6, rfl, s7.2, by decide, by decide, fun r H9 h0 h1 s8 => ?_⟩
      refine ⟨_, rfl, rfl, .inr ⟨_, rfl, _, _, rfl, rfl, ?_⟩⟩
      refine hR _ _ ⟨_, ?_, rfl⟩ s8
      split <;> constructor <;> omega
    have nD2p : D2 ≠ p := pool_ne S6.2 hD2
    obtain ⟨is, his, rfl⟩ := ints_of hzr
    have hD7 : H7 D = some (.lst ys) := sam_at (S6.trans S7) nDp hys
    have S07 : Sam p H H7 := ((S04.trans S5).trans S6).trans S7
    have hl7 : H7 l = some (.lst (ws.map V.str)) := sam_at S07 nlp hl
    have hisl : is.length ≤ 5 := by
      rw [List.length_map] at hzl
      omega
    -- the five more
    refine ⟨_, rfl, _, rfl, l, _, rfl, .inl ⟨.inl (.inl hl7), fun t1 ht1 => ?_⟩⟩
    have sa : Same H7 (upd H7 t1 (.tup (ws.map V.str))) := same_upd ht1
    refine ⟨_, rfl, _, rfl, l, _, rfl, .inl ⟨.inl (.inl (sa _ _ hl7)), fun t2 ht2 => ?_⟩⟩
    have sb := sa.trans (same_upd ht2 (o := .tup (ws.map V.str)))
    refine ⟨two_ok, fun t3 ht3 => ?_⟩
    have sc := sb.trans (same_upd ht3 (o := .tup [.int n, .ref t2]))
    refine ⟨_, rfl, D2, _, rfl, .inl ⟨.inl (.inl (sc _ _ hzs)), fun t4 ht4 => ?_⟩⟩
    have sd := sc.trans (same_upd ht4 (o := .tup (is.map V.int)))
    refine ⟨_, rfl, D2, is, rfl, .inl (.inl (sd _ _ hzs)), by omega, fun js t5 hperm hris ht5 => ?_⟩
    have se := sd.trans (same_upd ht5 (o := .lst (js.map V.int)))
    refine ⟨t5, _, rfl, .inl ⟨.inl (.inl upd_same), fun t6 ht6 => ?_⟩⟩
    have sf := se.trans (same_upd ht6 (o := .tup (js.map V.int)))
    refine ⟨_, rfl, _, rfl, 73, n, rfl, rfl, by omega, by omega, by show 1 ≤ sizeLine; decide, fun t7 ht7 => ?_⟩
    have sg := sf.trans (same_upd ht7 (o := .lst [.str (tx (List.replicate n.toNat 73))]))
    have hwl : ws.length ≤ 7 := hok.1
    refine ⟨l, t7, _, _, rfl, rfl, sg _ _ hl7, upd_same, by rw [List.length_map, sizeLine_eq]; simp; omega, fun t8 ht8 => ?_⟩
    have sh := sg.trans (same_upd ht8 (o := .lst (ws.map V.str ++ [.str (tx (List.replicate n.toNat 73))])))
    refine ⟨t8, _, rfl, .inl ⟨.inl (.inl upd_same), fun t9 ht9 => ?_⟩⟩
    have si := sh.trans (same_upd ht9 (o := .tup (ws.map V.str ++ [.str (tx (List.replicate n.toNat 73))])))
    refine ⟨by show 5 ≤ sizeLine; decide, fun t10 ht10 => ?_⟩
    have sj := si.trans (same_upd ht10 (o := .lst [.ref t1, .ref t3, .ref t4, .ref t6, .ref t9]))
    refine ⟨D, t10, ys, _, rfl, rfl, sj _ _ hD7, upd_same, by rw [hyl, sizeLine_eq]; show 10 + 5 ≤ 16777216; decide, fun t11 ht11 => ?_⟩
    have sk := sj.trans (same_upd ht11 (o := .lst (ys ++ [.ref t1, .ref t3, .ref t4, .ref t6, .ref t9])))
    have keyD : ∀ x ∈ ys ++ [V.ref t1, .ref t3, .ref t4, .ref t6, .ref t9], ∃ d, Dp K (upd (upd (upd (upd (upd (upd (upd (upd (upd (upd H7 t1 (.tup (ws.map V.str))) t2 (.tup (ws.map V.str))) t3 (.tup [.int n, .ref t2])) t4 (.tup (is.map V.int))) t5 (.lst (js.map V.int))) t6 (.tup (js.map V.int))) t7 (.lst [.str (tx (List.replicate n.toNat 73))])) t8 (.lst (ws.map V.str ++ [.str (tx (List.replicate n.toNat 73))]))) t9 (.tup (ws.map V.str ++ [.str (tx (List.replicate n.toNat 73))]))) t10 (.lst [.ref t1, .ref t3, .ref t4, .ref t6, .ref t9])) x d ∧ small d = true := by
      have c10 := same_upd ht10 (o := .lst [.ref t1, .ref t3, .ref t4, .ref t6, .ref t9])
      have c9 := (same_upd ht9 (o := .tup (ws.map V.str ++ [.str (tx (List.replicate n.toNat 73))]))).trans c10
      have c8 := (same_upd ht8 (o := .lst (ws.map V.str ++ [.str (tx (List.replicate n.toNat 73))]))).trans c9
      have c7 := (same_upd ht7 (o := .lst [.str (tx (List.replicate n.toNat 73))])).trans c8
      have c6 := (same_upd ht6 (o := .tup (js.map V.int))).trans c7
      have c5 := (same_upd ht5 (o := .lst (js.map V.int))).trans c6
      have c4 := (same_upd ht4 (o := .tup (is.map V.int))).trans c5
      have c3 := (same_upd ht3 (o := .tup [.int n, .ref t2])).trans c4
      have c2 := (same_upd ht2 (o := .tup (ws.map V.str))).trans c3
      have wsm := small_words hok n1 n3
      intro x hx
      rcases List.mem_append.mp hx with hx | hx
      · have hxm := hyr x hx
        obtain ⟨j, hj⟩ := List.mem_iff_getElem?.mp hxm
        obtain ⟨d, hd, hdx⟩ := dpa_getV ha4 hj
        refine ⟨d, dp_mono ((del_le _ p).trans sj) (dp_mono ((S5.trans S6).trans S7).1 hdx), ?_⟩
        exact List.all_eq_true.mp menu_small d (List.mem_of_getElem? hd)
      · simp only [List.mem_cons, List.not_mem_nil, or_false] at hx
        rcases hx with rfl | rfl | rfl | rfl | rfl
        · exact ⟨.tuple (ws.map .str), .tup (.inl (.inl (c2 _ _ upd_same))) (dpa_strs ws), wsm.1⟩
        · exact ⟨.tuple [.int n, .tuple (ws.map .str)], .tup (.inl (.inl (c4 _ _ upd_same))) (.cons (.int n) (.cons (.tup (.inl (.inl (c3 _ _ upd_same))) (dpa_strs ws)) .nil)), wsm.2.1⟩
        · exact ⟨.tuple (is.map .int), .tup (.inl (.inl (c5 _ _ upd_same))) (dpa_ints is), small_ints hisl his⟩
        · exact ⟨.tuple (js.map .int), .tup (.inl (.inl (c7 _ _ upd_same))) (dpa_ints js), small_ints (by rw [hperm.length_eq]; exact hisl) fun z hz => his z (hperm.mem_iff.mp hz)⟩
        · refine ⟨.tuple ((ws ++ [tx (List.replicate n.toNat 73)]).map .str), ?_, wsm.2.2⟩
          have h2 := dpa_strs (K := K) (H := upd (upd (upd (upd (upd (upd (upd (upd (upd (upd H7 t1 (.tup (ws.map V.str))) t2 (.tup (ws.map V.str))) t3 (.tup [.int n, .ref t2])) t4 (.tup (is.map V.int))) t5 (.lst (js.map V.int))) t6 (.tup (js.map V.int))) t7 (.lst [.str (tx (List.replicate n.toNat 73))])) t8 (.lst (ws.map V.str ++ [.str (tx (List.replicate n.toNat 73))]))) t9 (.tup (ws.map V.str ++ [.str (tx (List.replicate n.toNat 73))]))) t10 (.lst [.ref t1, .ref t3, .ref t4, .ref t6, .ref t9])) (ws ++ [tx (List.replicate n.toNat 73)])
          refine .tup (.inl (.inl (c10 _ _ ?_))) h2
          rw [upd_same, List.map_append]
          rfl
    generalize upd (upd (upd (upd (upd (upd (upd (upd (upd (upd H7 t1 (.tup (ws.map V.str))) t2 (.tup (ws.map V.str))) t3 (.tup [.int n, .ref t2])) t4 (.tup (is.map V.int))) t5 (.lst (js.map V.int))) t6 (.tup (js.map V.int))) t7 (.lst [.str (tx (List.replicate n.toNat 73))])) t8 (.lst (ws.map V.str ++ [.str (tx (List.replicate n.toNat 73))]))) t9 (.tup (ws.map V.str ++ [.str (tx (List.replicate n.toNat 73))]))) t10 (.lst [.ref t1, .ref t3, .ref t4, .ref t6, .ref t9]) = Ht at keyD sj ht11 sk ⊢
    have S0t := S07.trans (Sam.of S07.2 sj)
    refine ⟨_, rfl, t11, rfl, ⟨_, .inl (.inl upd_same)⟩, for_it (walk_list (xs := ys ++ [.ref t1, .ref t3, .ref t4, .ref t6, .ref t9])) (fun i σ H' => Same (upd Ht t11 (.lst (ys ++ [.ref t1, .ref t3, .ref t4, .ref t6, .ref t9]))) H' ∧ ∃ y9 y10, σ = [some (.ref p), some (.int n), some (.ref l), some (.ref ma), some (.int (1 + r1)), some (.int m), some (.ref t11), none, some (.ref D2), y9, y10]) ⟨Same.refl _, none, none, rfl⟩ (fun i σ H' _ hp => .inl (.inl (hp.1 _ _ upd_same))) (fun i x σ Ha Hb hi hp hy => ?_) (fun σ Ha hp => ?_)⟩
    · obtain ⟨s2, y9, y10, rfl⟩ := hp
      obtain ⟨rfl, hx⟩ := hy
      obtain ⟨d, hd, hds⟩ := keyD x (List.mem_of_getElem? hx)
      have hdb := dp_mono ((same_upd ht11).trans s2) hd
      refine ⟨_, rfl, x, d, rfl, hdb, hds, ?_⟩
      refine ⟨_, rfl, _, rfl, _, rfl, 1 + r1, m, x, d, rfl, hdb, hds, fun Hc s3 => ⟨_, rfl, ?_⟩⟩
      refine iteF ⟨_, rfl, _, rfl, n, 6, x, d, rfl, dp_mono s3 hdb, hds, fun Hd s4 => ⟨_, rfl, ?_⟩⟩
      refine iteF ⟨_, rfl, x, d, rfl, dp_mono (s3.trans s4) hdb, hds, _, rfl, rfl, _, rfl, ?_⟩
      rw [decide_eq_true rfl]
      exact iteF ⟨(s2.trans s3).trans s4, _, _, rfl⟩
    · obtain ⟨s2, y9, y10, rfl⟩ := hp
      exact q _ (S0t.trans (Sam.of S0t.2 ((same_upd ht11).trans s2)))
end
end V0
namespace V0
open PySem PySem.Spec PyProof.Rows L2
mutual
def plainD : PyData → Bool
  | .none => true
  | .bool _ => true
  | .int _ => true
  | .str _ => true
  | .list _ => false
  | .tuple xs => plainAll xs
  | .dict _ => false
def plainAll : List PyData → Bool
  | [] => true
  | x :: r => plainD x && plainAll r
end
theorem plain_mem {x : PyData} : ∀ {xs : List PyData}, plainD (.tuple xs) = true → x ∈ xs → plainD x = true
  | y :: r, h, hx => by
    have h1 : (plainD y && plainAll r) = true := by simpa [plainD, plainAll] using h
    obtain ⟨h2, h3⟩ := Bool.and_eq_true_iff.mp h1
    rcases List.mem_cons.mp hx with e | e
    · rw [e]
      exact h2
    · exact plain_mem (xs := r) (by simpa [plainD] using h3) e
/-- two of the same data, at most j deep, without lists: True -/
def spSame (K : PySem.W.Frag) (j : Nat) : Sp := fun vs H Q _ => ∃ va vb d, vs = [va, vb] ∧ Dp K H va d ∧ Dp K H vb d ∧ plainD d = true ∧ d.depth ≤ j ∧ small d = true ∧ ∀ H', Same H H' → Q (.bl true) H'
def spSameP (K : PySem.W.Frag) : Nat → Sp
  | 0 => fun _ _ _ _ => False
  | j + 1 => spSame K j
section
variable {P : Program} {w : World} {K : PySem.W.Frag} {mg : Str → Option Value} {base : Heap} {cP cU cT : Addr}
abbrev s__law_same : Stmt := topS 50
theorem sc__law_same : FnScope ["_law_a", "_law_b", "_law_k"] ["_law_a", "_law_b"] (defScope s__law_same) := ⟨rfl, rfl, rfl, by decide +kernel, rfl, by decide +kernel, by decide +kernel⟩
theorem same_none (T : Tops K mg) : Df P w K mg base CX0 0 "_law_same" s__law_same ["_law_a", "_law_b"] (spSameP K 0) := by
  obtain ⟨f, fd, hm, F⟩ := T.d__law_same
  exact ⟨f, fd, ⟨fun _ _ _ _ h => h.elim, fun _ _ _ _ _ _ _ _ _ _ _ _ _ h => h.elim⟩, hm, F.kp, F.bindsN fun _ _ _ _ _ _ us hl => match us, hl with | [_, _], _ => rfl, F⟩
theorem same_step {j k : Nat} (IH : Df P w K mg base CX0 k "_law_same" s__law_same ["_law_a", "_law_b"] (spSameP K j))  (T : Tops K mg) : Df P w K mg base CX0 (k + 1) "_law_same" s__law_same ["_law_a", "_law_b"] (spSame K j) := by
  refine df_mk (k := k) T.d__law_same sc__law_same (fun vs H Q E h => ?_) (fun _ _ _ _ _ _ us hl => match us, hl with | [_, _], _ => rfl) (fun f cdv A outer s H vs Q E hr h => ?_)
  · obtain ⟨va, vb, d, rfl, _⟩ := h
    rfl
  · obtain ⟨va, vb, d, rfl, ha, hb, hp, hj, hs, q⟩ := h
    refine ⟨_, (pss_cons (ps_if (PW.pt (pw_or (pt_val (pe_callB (call_isD .b) (by rfl) T.b_isinstance (by decide +kernel) (pa_cons (pv 0) (pa_cons (pe_bltn (v := .ty "bool") rfl T.b_bool (by decide +kernel) rfl) pa_nil)))) (pw_or1 (pt_val (pe_callB (call_isD .b) (by rfl) T.b_isinstance (by decide +kernel) (pa_cons (pv 1) (pa_cons (pe_bltn (v := .ty "bool") rfl T.b_bool (by decide +kernel) rfl) pa_nil))))))) (pss_one (ps_ret ((pe_and (pe_callB (call_isD .b) (by rfl) T.b_isinstance (by decide +kernel) (pa_cons (pv 0) (pa_cons (pe_bltn (v := .ty "bool") rfl T.b_bool (by decide +kernel) rfl) pa_nil))) (pe_and (pe_callB (call_isD .b) (by rfl) T.b_isinstance (by decide +kernel) (pa_cons (pv 1) (pa_cons (pe_bltn (v := .ty "bool") rfl T.b_bool (by decide +kernel) rfl) pa_nil))) (pe_one (pe_cmpR op_eq (pv 0) (pv 1) (nomark _)))))))) pss_nil)
        (pss_cons (ps_if (PW.pt (pw_or (pt_cmpR op_isN (pv 0) (pe_non) (nomark _)) (pw_or1 (pt_cmpR op_isN (pv 1) (pe_non) (nomark _))))) (pss_one (ps_ret ((pe_and (pe_cmpR op_isN (pv 0) (pe_non) (nomark _)) (pe_one (pe_cmpR op_isN (pv 1) (pe_non) (nomark _))))))) pss_nil)
        (pss_cons (ps_if (pt_val (pe_callB (call_isD .i) (by rfl) T.b_isinstance (by decide +kernel) (pa_cons (pv 0) (pa_cons (pe_bltn (v := .ty "int") rfl T.b_int (by decide +kernel) rfl) pa_nil)))) (pss_one (ps_ret ((pe_and (pe_callB (call_isD .i) (by rfl) T.b_isinstance (by decide +kernel) (pa_cons (pv 1) (pa_cons (pe_bltn (v := .ty "int") rfl T.b_int (by decide +kernel) rfl) pa_nil))) (pe_one (pe_cmpR op_eq (pv 0) (pv 1) (nomark _))))))) pss_nil)
        (pss_cons (ps_if (pt_val (pe_callB (call_isD .s) (by rfl) T.b_isinstance (by decide +kernel) (pa_cons (pv 0) (pa_cons (pe_bltn (v := .ty "str") rfl T.b_str (by decide +kernel) rfl) pa_nil)))) (pss_one (ps_ret ((pe_and (pe_callB (call_isD .s) (by rfl) T.b_isinstance (by decide +kernel) (pa_cons (pv 1) (pa_cons (pe_bltn (v := .ty "str") rfl T.b_str (by decide +kernel) rfl) pa_nil))) (pe_one (pe_cmpR op_eq (pv 0) (pv 1) (nomark _))))))) pss_nil)
        (pss_cons (ps_if (PW.pt (pw_or (pt_not (pt_val (pe_callB (call_isD .t) (by rfl) T.b_isinstance (by decide +kernel) (pa_cons (pv 0) (pa_cons (pe_bltn (v := .ty "tuple") rfl T.b_tuple (by decide +kernel) rfl) pa_nil))))) (pw_or (pt_not (pt_val (pe_callB (call_isD .t) (by rfl) T.b_isinstance (by decide +kernel) (pa_cons (pv 1) (pa_cons (pe_bltn (v := .ty "tuple") rfl T.b_tuple (by decide +kernel) rfl) pa_nil))))) (pw_or1 (pt_cmpR op_ne (pe_callB call_len (by rfl) T.b_len (by decide +kernel) (pa_cons (pv 0) pa_nil)) (pe_callB call_len (by rfl) T.b_len (by decide +kernel) (pa_cons (pv 1) pa_nil)) (nomark _)))))) (pss_one (ps_ret (pe_bl))) pss_nil)
        (pss_cons (ps_for PassesOwn.never rfl (pi_range1 (by rfl) T.b_range (pa_cons (pe_callB call_len (by rfl) T.b_len (by decide +kernel) (pa_cons (pv 0) pa_nil)) pa_nil)) (pg_name (i := 2) sc__law_same.nd rfl (Or.inl rfl)) (pss_one (ps_if (pt_not (pt_val (pe_df IH hr (by rfl) pass0 (pa_cons (pe_ix (show IxR _ (rIxT K) from ix_tup) (pv 0) (pv 2) (fun _ _ => rfl)) (pa_cons (pe_ix (show IxR _ (rIxT K) from ix_tup) (pv 1) (pv 2) (fun _ _ => rfl)) pa_nil))))) (pss_one (ps_ret (pe_bl))) pss_nil)))
        (pss_one (ps_ret (pe_bl))))))))), ?_⟩
    cases d with
    | bool b =>
      cases ha
      cases hb
      exact ⟨_, rfl, _, _, rfl, .bl b, _, rfl, iteT (iteT ⟨_, rfl, _, _, rfl, .bl b, _, rfl, iteT ⟨_, rfl, _, _, rfl, .bl b, _, rfl, iteT ⟨_, rfl, _, rfl, rfl, by rw [decide_eq_true rfl]; exact q H (Same.refl H)⟩⟩⟩)⟩
    | none =>
      cases ha
      cases hb
      refine ⟨_, rfl, _, _, rfl, .non, _, rfl, iteF ⟨_, rfl, _, _, rfl, .non, _, rfl, iteF ?_⟩⟩
      refine ⟨_, rfl, rfl, _, rfl, ?_⟩
      rw [show decide (V.non = V.non) = true from decide_eq_true rfl]
      exact iteT (iteT ⟨_, rfl, rfl, _, rfl, by rw [show decide (V.non = V.non) = true from decide_eq_true rfl]; exact iteT ⟨_, rfl, rfl, by rw [show decide (V.non = V.non) = true from decide_eq_true rfl]; exact q H (Same.refl H)⟩⟩)
    | int i =>
      cases ha
      cases hb
      refine ⟨_, rfl, _, _, rfl, .int i, _, rfl, iteF ⟨_, rfl, _, _, rfl, .int i, _, rfl, iteF ?_⟩⟩
      have nn : decide (V.int i = V.non) = false := decide_eq_false fun h => nomatch h
      refine ⟨_, rfl, rfl, _, rfl, ?_⟩
      rw [nn]
      refine iteF ⟨_, rfl, rfl, _, rfl, ?_⟩
      rw [nn]
      exact iteF ⟨_, rfl, _, _, rfl, .int i, _, rfl, iteT ⟨_, rfl, _, _, rfl, .int i, _, rfl, iteT ⟨_, rfl, _, rfl, rfl, by rw [decide_eq_true rfl]; exact q H (Same.refl H)⟩⟩⟩
    | str z =>
      cases ha
      cases hb
      refine ⟨_, rfl, _, _, rfl, .str z, _, rfl, iteF ⟨_, rfl, _, _, rfl, .str z, _, rfl, iteF ?_⟩⟩
      have nn : decide (V.str z = V.non) = false := decide_eq_false fun h => nomatch h
      refine ⟨_, rfl, rfl, _, rfl, ?_⟩
      rw [nn]
      refine iteF ⟨_, rfl, rfl, _, rfl, ?_⟩
      rw [nn]
      refine iteF ⟨_, rfl, _, _, rfl, .str z, _, rfl, iteF ?_⟩
      exact ⟨_, rfl, _, _, rfl, .str z, _, rfl, iteT ⟨_, rfl, _, _, rfl, .str z, _, rfl, iteT ⟨_, rfl, _, rfl, rfl, by rw [decide_eq_true rfl]; exact q H (Same.refl H)⟩⟩⟩
    | tuple ds =>
      have ha0 := ha
      have hb0 := hb
      cases ha with
      | @tup a xs _ hqa haa =>
      cases hb with
      | @tup b ys _ hqb hbb =>
      have na : decide (V.ref a = V.non) = false := decide_eq_false fun h => nomatch h
      have nb : decide (V.ref b = V.non) = false := decide_eq_false fun h => nomatch h
      have lx := dpa_len haa
      have ly := dpa_len hbb
      refine ⟨_, rfl, _, _, rfl, ha0, _, rfl, iteF ⟨_, rfl, _, _, rfl, hb0, _, rfl, iteF ?_⟩⟩
      refine ⟨_, rfl, rfl, _, rfl, ?_⟩
      rw [na]
      refine iteF ⟨_, rfl, rfl, _, rfl, ?_⟩
      rw [nb]
      refine iteF ⟨_, rfl, _, _, rfl, ha0, _, rfl, iteF ⟨_, rfl, _, _, rfl, ha0, _, rfl, iteF ?_⟩⟩
      refine ⟨_, rfl, _, _, rfl, ha0, _, rfl, iteF ⟨_, rfl, _, _, rfl, hb0, _, rfl, iteF ?_⟩⟩
      refine ⟨_, rfl, _, xs.length, rfl, .inr ⟨xs, hqa, rfl⟩, _, rfl, _, ys.length, rfl, .inr ⟨ys, hqb, rfl⟩, rfl, _, rfl, ?_⟩
      rw [show decide (V.int ((xs.length : Nat) : Int) = V.int ((ys.length : Nat) : Int)) = true from decide_eq_true (by rw [lx, ly])]
      have hl := small_len hs
      refine iteF ⟨_, rfl, _, xs.length, rfl, .inr ⟨xs, hqa, rfl⟩, (xs.length : Int), rfl, by omega, by omega, for_it walk_r0 (fun i σ H' => Same H H' ∧ ∃ y, σ = [some (.ref a), some (.ref b), y]) ⟨Same.refl H, none, rfl⟩ (fun _ _ _ _ _ => trivial) (fun i x σ H1 H2 hi hp' hy => ?_) (fun σ H1 hp' => ?_)⟩
      · obtain ⟨s1, y, rfl⟩ := hp'
        obtain ⟨rfl, rfl⟩ := hy
        have hid : i < ds.length := by omega
        obtain ⟨v0, hv0, hd0⟩ := dpa_get haa (List.getElem?_eq_getElem hid)
        obtain ⟨v1, hv1, hd1⟩ := dpa_get hbb (List.getElem?_eq_getElem hid)
        have hmem := List.getElem_mem hid
        obtain ⟨j', rfl⟩ : ∃ j', j = j' + 1 := by
          cases j with
          | zero => simp only [PyData.depth] at hj; omega
          | succ j' => exact ⟨j', rfl⟩
        have hdj : ds[i].depth ≤ j' := by
          have := depthAll_mem hmem
          simp only [PyData.depth] at hj
          omega
        refine ⟨_, rfl, _, rfl, a, xs, _, v0, rfl, rfl, Same.seqT s1 hqa, at_of rfl hv0, _, rfl, _, rfl, b, ys, _, v1, rfl, rfl, Same.seqT s1 hqb, at_of rfl hv1, v0, v1, ds[i], rfl, dp_mono s1 hd0, dp_mono s1 hd1, plain_mem hp hmem, hdj, small_tup hs hmem, fun H3 s3 => ⟨_, rfl, ?_⟩⟩
        exact iteF ⟨s1.trans s3, _, rfl⟩
      · obtain ⟨s1, y, rfl⟩ := hp'
        exact q _ s1
    | list _ => cases hp
    | dict _ => cases hp
theorem ok__law_same (T : Tops K mg) : ∀ j : Nat, Df P w K mg base CX0 (j + 1) "_law_same" s__law_same ["_law_a", "_law_b"] (spSame K j)
  | 0 => same_step (k := 0) (same_none T) T
  | j + 1 => same_step (k := j + 1) (ok__law_same T j) T
end
end V0
namespace V0
open PySem PySem.Spec PyProof.Rows L2
/-! ### expressions that give data beside a pool -/
/-- from H0 on, te gives the data d, none of it the pool, and makes new things alone -/
def YP (K : PySem.W.Frag) (p : Addr) (H0 : Hp) (σ : L2.St) (te : TE) (d : PyData) : Prop := ∀ (H : Hp) (Q : VK), Same H0 H → Pool H p → (∀ v H', Same H H' → Dp K (del H' p) v d → Q v H') → te σ H Q
def YPs (K : PySem.W.Frag) (p : Addr) (H0 : Hp) (σ : L2.St) (ta : TA) (ds : List PyData) : Prop := ∀ (H : Hp) (Q : List V → Hp → Prop), Same H0 H → Pool H p → (∀ vs H', Same H H' → DpAll K (del H' p) vs ds → Q vs H') → ta σ H Q
section
variable {K : PySem.W.Frag} {p : Addr} {H0 H : Hp} {σ : L2.St} {te ta tb : TE} {tl : TA} {d d1 d2 : PyData} {ds : List PyData} {D : Ends} {i : Nat} {u : TS}
theorem yp_v {v : V} (h : Dp K (del H0 p) v d) : YP K p H0 σ (tC v) d := fun H Q s _ k => k _ _ (Same.refl H) (dp_mono (same_del s) h)
theorem yp_int {z : Int} : YP K p H0 σ (tC (.int z)) (.int z) := yp_v (.int z)
theorem yp_str {z : Str} : YP K p H0 σ (tC (.str z)) (.str z) := yp_v (.str z)
theorem yp_bl {z : Bool} : YP K p H0 σ (tC (.bl z)) (.bool z) := yp_v (.bl z)
theorem yp_non : YP K p H0 σ (tC .non) .none := yp_v .non
theorem yp_var {v : V} (hv : σ[i]? = some (some v)) (h : Dp K (del H0 p) v d) : YP K p H0 σ (tVar i) d := fun H Q s _ k => ⟨v, hv, k _ _ (Same.refl H) (dp_mono (same_del s) h)⟩
theorem yps_nil : YPs K p H0 σ tNil [] := fun H Q _ _ k => k [] H (Same.refl H) .nil
theorem yps_cons (h : YP K p H0 σ te d) (r : YPs K p H0 σ tl ds) : YPs K p H0 σ (tCons te tl) (d :: ds) := fun H Q s b k =>
  h H _ s b fun v H1 s1 hv => r H1 _ (s.trans s1) (Sam.of b s1).2 fun vs H2 s2 hvs => k _ _ (s1.trans s2) (.cons (dp_mono (same_del s2) hv) hvs)
theorem yp_tup (h : YPs K p H0 σ tl ds) (hl : ds.length ≤ 1000 := by first | decide | simp) : YP K p H0 σ (tTup tl) (.tuple ds) := fun H Q s b k =>
  h H _ s b fun vs H1 s1 hvs => ⟨by rw [dpa_len hvs, sizeLine_eq]; omega, fun a ha => k _ _ (s1.trans (same_upd ha)) (.tup (.inl (.inl (by rw [del_ne (pool_ne (Sam.of b s1).2 ha)]; exact upd_same))) (dpa_mono (same_del (same_upd ha)) hvs))⟩
theorem yp_lst (h : YPs K p H0 σ tl ds) (hl : ds.length ≤ 1000 := by first | decide | simp) : YP K p H0 σ (tLst tl) (.list ds) := fun H Q s b k =>
  h H _ s b fun vs H1 s1 hvs => ⟨by rw [dpa_len hvs, sizeLine_eq]; omega, fun a ha => k _ _ (s1.trans (same_upd ha)) (.lst (.inl (.inl (by rw [del_ne (pool_ne (Sam.of b s1).2 ha)]; exact upd_same))) (dpa_mono (same_del (same_upd ha)) hvs))⟩
theorem yp_neg {z : Int} (h : YP K p H0 σ te (.int z)) : YP K p H0 σ (tUn (rU fun i => .int (-i)) te) (.int (-z)) := fun H Q s b k =>
  h H _ s b fun v H1 s1 hv => by
    cases hv
    exact ⟨z, rfl, k _ _ s1 (.int _)⟩
theorem yp_rI {C : Int → Int → Prop} {g : Int → Int → Int} {x y : Int} (h1 : YP K p H0 σ ta (.int x)) (h2 : YP K p H0 σ tb (.int y)) (hc : C x y) : YP K p H0 σ (tOp (rI C fun i j => .int (g i j)) ta tb) (.int (g x y)) := fun H Q s b k =>
  h1 H _ s b fun v H1 s1 hv => h2 H1 _ (s.trans s1) (Sam.of b s1).2 fun w H2 s2 hw => by
    cases hv
    cases hw
    exact ⟨x, y, rfl, rfl, hc, k _ _ (s1.trans s2) (.int _)⟩
theorem yp_rI0 {g : Int → Int → Int} {x y : Int} (h1 : YP K p H0 σ ta (.int x)) (h2 : YP K p H0 σ tb (.int y)) : YP K p H0 σ (tOp (rI0 fun i j => .int (g i j)) ta tb) (.int (g x y)) := fun H Q s b k =>
  h1 H _ s b fun v H1 s1 hv => h2 H1 _ (s.trans s1) (Sam.of b s1).2 fun w H2 s2 hw => by
    cases hv
    cases hw
    exact ⟨x, y, rfl, rfl, k _ _ (s1.trans s2) (.int _)⟩
theorem yp_rep {c : Nat} {n : Int} (h1 : YP K p H0 σ ta (.str (tx [c]))) (h2 : YP K p H0 σ tb (.int n)) (hn : n ≤ 100000) (hm : -100000 ≤ n) : YP K p H0 σ (tOp rRepS ta tb) (.str (tx (List.replicate n.toNat c))) := fun H Q s b k =>
  h1 H _ s b fun v H1 s1 hv => h2 H1 _ (s.trans s1) (Sam.of b s1).2 fun w H2 s2 hw => by
    cases hv
    cases hw
    exact ⟨c, n, rfl, rfl, hn, hm, k _ _ (s1.trans s2) (.str _)⟩
theorem yp_cat {x y : Str} (h1 : YP K p H0 σ ta (.str x)) (h2 : YP K p H0 σ tb (.str y)) (hn : x.length + y.length ≤ 100000) : YP K p H0 σ (tOp (fun x y H Q => ∃ i j, x = .str i ∧ y = .str j ∧ i.length + j.length ≤ sizeLine ∧ Q (.str (i ++ j)) H) ta tb) (.str (x ++ y)) := fun H Q s b k =>
  h1 H _ s b fun v H1 s1 hv => h2 H1 _ (s.trans s1) (Sam.of b s1).2 fun w H2 s2 hw => by
    cases hv
    cases hw
    exact ⟨x, y, rfl, rfl, by rw [sizeLine_eq]; omega, k _ _ (s1.trans s2) (.str _)⟩
/-- tuple(o) of a list o of data -/
theorem yp_tof {o : Addr} {ys : List V} (hv : σ[i]? = some (some (.ref o))) (ho : H0 o = some (.lst ys)) (ha : DpAll K (del H0 p) ys ds) : YP K p H0 σ (tCB (fun xs H Q => ∃ a ys, xs = [V.ref a] ∧ ((SqL K H a ys ∧ ∀ (l : Addr), H l = none → Q (V.ref l) (upd H l (HO.tup ys))) ∨ SqT K H a ys ∧ Q (V.ref a) H)) (tCons (tVar i) tNil)) (.tuple ds) := fun H Q s b k => by
  refine ⟨_, hv, o, ys, rfl, .inl ⟨.inl (.inl (s _ _ ho)), fun l hl => ?_⟩⟩
  exact k _ _ (same_upd hl) (.tup (.inl (.inl (by rw [del_ne (pool_ne b hl)]; exact upd_same))) (dpa_mono (same_del (s.trans (same_upd hl))) ha))
/-- x = e, e data -/
theorem yp_asg (h : YP K p H0 σ te d) (s : Same H0 H) (b : Pool H p) (k : ∀ v H', Same H H' → Dp K (del H' p) v d → u D (σ.set i (some v)) H') : tSeq (tAsg te (gName i)) u D σ H := h H _ s b k
theorem dpa_at {vs : List V} (h : DpAll K H vs ds) {r : Int} (h0 : 0 ≤ r) (h1 : r < ds.length) : ∃ v d, atI vs r = some v ∧ d ∈ ds ∧ Dp K H v d := by
  have hl := dpa_len h
  have hlt : r.toNat < ds.length := by omega
  obtain ⟨v, hv, hd⟩ := dpa_get h (List.getElem?_eq_getElem hlt)
  refine ⟨v, _, at_of (by omega) hv, List.getElem_mem hlt, hd⟩
/-- [.., ..][draw] -/
theorem yp_pick {Q : VK} {c : Int} (h : YP K p H0 σ te (.list ds)) (s : Same H0 H) (b : Pool H p) (hp : σ[i]? = some (some (.ref p))) (hc : (ds.length : Int) = c) (c0 : 0 < c) (c1 : c < 1000000) (k : ∀ v d H', Sam p H H' → d ∈ ds → Dp K (del H' p) v d → Q v H') :
    (tOp (rIxL K) te (tCall spTake [] E0 (tCons (tVar i) (tCons (tC (.int c)) tNil)))) σ H Q :=
  h H _ s b fun v H1 s1 hv => ⟨_, hp, p, c, rfl, (Sam.of b s1).2, c0, c1, fun r H2 r0 r1 s2 => by
    have s12 : Sam p H H2 := (Sam.of b s1).trans s2
    have hv2 := dp_mono s2.1 hv
    cases hv2 with
    | @lst a xs _ hq ha =>
      obtain ⟨w, e, hw, he, hd⟩ := dpa_at ha r0 (by omega)
      exact ⟨a, xs, r, w, rfl, rfl, Same.seq (del_le _ p) hq, hw, k _ _ _ s12 he hd⟩⟩
theorem dpa_take : ∀ {vs : List V} {ds : List PyData} (k : Nat), DpAll K H vs ds → DpAll K H (vs.take k) (ds.take k)
  | _, _, 0, _ => .nil
  | _, _, k + 1, .nil => .nil
  | _, _, k + 1, .cons h a => .cons h (dpa_take k a)
theorem dpa_drop : ∀ {vs : List V} {ds : List PyData} (k : Nat), DpAll K H vs ds → DpAll K H (vs.drop k) (ds.drop k)
  | _, _, 0, h => h
  | _, _, k + 1, .nil => .nil
  | _, _, k + 1, .cons h a => dpa_drop k a
end
theorem wtAll_le {B : Nat} : ∀ {ds : List PyData}, (∀ d ∈ ds, wt d ≤ B) → wtAll ds ≤ ds.length * (B + 2)
  | [], _ => Nat.zero_le _
  | a :: r, h => by
    have h1 := wtAll_le (ds := r) fun d hd => h d (List.mem_cons_of_mem _ hd)
    have h2 := h a List.mem_cons_self
    simp only [wtAll, List.length_cons, Nat.add_mul]
    omega
theorem dep_le {B : Nat} : ∀ {ds : List PyData}, (∀ d ∈ ds, d.depth ≤ B) → PyData.depthAll ds ≤ B
  | [], _ => Nat.zero_le _
  | a :: r, h => by
    have h1 := dep_le (ds := r) fun d hd => h d (List.mem_cons_of_mem _ hd)
    have h2 := h a List.mem_cons_self
    simp only [PyData.depthAll]
    omega
/-- lesser than a weight and a depth -/
def lt2 (B k : Nat) (d : PyData) : Bool := decide (wt d ≤ B) && decide (d.depth ≤ k)
theorem lt2_w {B k : Nat} {d : PyData} (h : lt2 B k d = true) : wt d ≤ B := of_decide_eq_true (Bool.and_eq_true_iff.mp h).1
theorem lt2_d {B k : Nat} {d : PyData} (h : lt2 B k d = true) : d.depth ≤ k := of_decide_eq_true (Bool.and_eq_true_iff.mp h).2
theorem lt2_mk {B k : Nat} {d : PyData} (h1 : wt d ≤ B) (h2 : d.depth ≤ k) : lt2 B k d = true := Bool.and_eq_true_iff.mpr ⟨decide_eq_true h1, decide_eq_true h2⟩
def badD (n : Int) : List PyData := [.str (tx (List.replicate n.toNat 73)), .str (tx (List.replicate (n + 1).toNat 88)), .str "", .none, .int 7, .bool true, .str (tx (List.replicate n.toNat 120)), .tuple [.str "X"], .str (tx (List.replicate (n - 1).toNat 88) ++ "Q"), .list [.str "X"], .str (tx (List.replicate n.toNat 88))]
def firstD (n : Int) : List PyData := [.int n, .int n, .int n, .int n, .int n, .int n, .int (n + 1), .int 0, .int (-n), .bool true, .none, .str "1", .tuple [.int n], .list [.int n]]
def secondD (n : Int) (ds : List PyData) : List PyData := [.tuple ds, .tuple ds, .tuple ds, .tuple ds, .list ds, .none, .str (tx (List.replicate n.toNat 88))]
def thirdD (n : Int) (ds : List PyData) (a b : PyData) : List PyData := [.tuple [a, b], .tuple [a, b], .tuple [a, b], .tuple [a, b], .tuple [.int n, .tuple ds], .tuple [.int n, .tuple ds], .list [a, b], .tuple [a, b, .tuple []], .tuple [a], .none, .str "X"]
theorem n123 {n : Int} (h1 : 1 ≤ n) (h3 : n ≤ 3) : n = 1 ∨ n = 2 ∨ n = 3 := by omega
theorem bad_ok {n : Int} (h1 : 1 ≤ n) (h3 : n ≤ 3) : ∀ d ∈ badD n, lt2 2000 1 d = true := by
  refine List.all_eq_true.mp ?_
  rcases n123 h1 h3 with rfl | rfl | rfl <;> decide +kernel
theorem first_ok {n : Int} (h1 : 1 ≤ n) (h3 : n ≤ 3) : ∀ d ∈ firstD n, lt2 2000 1 d = true := by
  refine List.all_eq_true.mp ?_
  rcases n123 h1 h3 with rfl | rfl | rfl <;> decide +kernel
theorem zed_ok {n : Int} (h1 : 1 ≤ n) (h3 : n ≤ 3) : lt2 2000 1 (.str (tx (List.replicate n.toNat 90))) = true := by
  rcases n123 h1 h3 with rfl | rfl | rfl <;> decide +kernel
theorem ex_ok {n : Int} (h1 : 1 ≤ n) (h3 : n ≤ 3) : lt2 2000 1 (.str (tx (List.replicate n.toNat 88))) = true := by
  rcases n123 h1 h3 with rfl | rfl | rfl <;> decide +kernel
theorem second_ok {n : Int} {ds : List PyData} (h1 : 1 ≤ n) (h3 : n ≤ 3) (hl : ds.length ≤ 10) (hd : ∀ d ∈ ds, lt2 2000 1 d = true) : ∀ d ∈ secondD n ds, lt2 30000 2 d = true := by
  have hw := wtAll_le (B := 2000) fun d h => lt2_w (hd d h)
  have hp := dep_le (B := 1) fun d h => lt2_d (hd d h)
  have ht : lt2 30000 2 (.tuple ds) = true := lt2_mk (by simp only [wt]; omega) (by simp only [PyData.depth]; omega)
  have hs : lt2 30000 2 (.list ds) = true := lt2_mk (by simp only [wt]; omega) (by simp only [PyData.depth]; omega)
  have hx := ex_ok h1 h3
  have hx2 : lt2 30000 2 (.str (tx (List.replicate n.toNat 88))) = true := lt2_mk (Nat.le_trans (lt2_w hx) (by decide)) (Nat.le_trans (lt2_d hx) (by decide))
  intro d h
  simp only [secondD, List.mem_cons, List.not_mem_nil, or_false] at h
  rcases h with rfl | rfl | rfl | rfl | rfl | rfl | rfl
  · exact ht
  · exact ht
  · exact ht
  · exact ht
  · exact hs
  · decide +kernel
  · exact hx2
theorem third_ok {n : Int} {ds : List PyData} {a b : PyData} (h1 : 1 ≤ n) (h3 : n ≤ 3) (hl : ds.length ≤ 10) (hd : ∀ d ∈ ds, lt2 2000 1 d = true) (ha : lt2 2000 1 a = true) (hb : lt2 30000 2 b = true) : ∀ d ∈ thirdD n ds a b, small d = true := by
  have hw := wtAll_le (B := 2000) fun d h => lt2_w (hd d h)
  have hp := dep_le (B := 1) fun d h => lt2_d (hd d h)
  have a1 := lt2_w ha
  have a2 := lt2_d ha
  have b1 := lt2_w hb
  have b2 := lt2_d hb
  have wi := wt_int (z := n) (by omega)
  have t1 : small (.tuple [a, b]) = true := small_mk (by simp only [wt, wtAll]; omega) (by simp only [PyData.depth, PyData.depthAll]; omega)
  have t2 : small (.list [a, b]) = true := small_mk (by simp only [wt, wtAll]; omega) (by simp only [PyData.depth, PyData.depthAll]; omega)
  have t3 : small (.tuple [a, b, .tuple []]) = true := small_mk (by simp only [wt, wtAll]; omega) (by simp only [PyData.depth, PyData.depthAll]; omega)
  have t4 : small (.tuple [a]) = true := small_mk (by simp only [wt, wtAll]; omega) (by simp only [PyData.depth, PyData.depthAll]; omega)
  have t5 : small (.tuple [.int n, .tuple ds]) = true := small_mk (by
    have e : wt (.tuple [.int n, .tuple ds]) = 8 + (wt (.int n) + 2 + ((8 + wtAll ds) + 2 + 0)) := by simp only [wt, wtAll]
    rw [e, wi]
    omega) (by simp only [PyData.depth, PyData.depthAll]; omega)
  intro d h
  simp only [thirdD, List.mem_cons, List.not_mem_nil, or_false] at h
  rcases h with rfl | rfl | rfl | rfl | rfl | rfl | rfl | rfl | rfl | rfl | rfl
  · exact t1
  · exact t1
  · exact t1
  · exact t1
  · exact t5
  · exact t5
  · exact t2
  · exact t3
  · exact t4
  · decide +kernel
  · decide +kernel
theorem words_ok {n : Int} {ws : List Str} (h : HomeOk n 7 ws) (n3 : n ≤ 3) : ∀ d ∈ ws.map PyData.str, lt2 2000 1 d = true := fun d hd => by
  obtain ⟨z, hz, rfl⟩ := List.mem_map.mp hd
  obtain ⟨h1, h2⟩ := ascii_wide (h.2.2 z hz).1
  refine lt2_mk ?_ (by simp only [PyData.depth]; omega)
  simp only [wt]
  rw [if_pos (List.all_eq_true.mpr fun c hc => decide_eq_true (h1 c hc))]
  omega
/-- all but the pool and one list as they were -/
def Sam2 (p o : Addr) (H H' : Hp) : Prop := Same (del (del H p) o) (del (del H' p) o) ∧ Pool H' p
theorem Sam.two {p o : Addr} {H H' : Hp} (s : Sam p H H') : Sam2 p o H H' := ⟨same_del s.1, s.2⟩
theorem Sam2.trans {p o : Addr} {H H1 H2 : Hp} (a : Sam2 p o H H1) (b : Sam2 p o H1 H2) : Sam2 p o H H2 := ⟨a.1.trans b.1, b.2⟩
theorem sam2_upd {p o : Addr} {H : Hp} {x : HO} (b : Pool H p) (n : o ≠ p) : Sam2 p o H (upd H o x) := by
  refine ⟨fun c y e => ?_, ?_⟩
  · by_cases hc : c = o
    · rw [hc, del_same] at e
      cases e
    · rw [del_ne hc] at e ⊢
      by_cases hp : c = p
      · rw [hp, del_same] at e
        cases e
      · rw [del_ne hp] at e ⊢
        rw [upd_ne hc]
        exact e
  · obtain ⟨g, m, e, ok⟩ := b
    exact ⟨g, m, by rw [upd_ne (Ne.symm n)]; exact e, ok⟩
/-- what stood as the list was made stands beside it -/
theorem sam2_new {p o : Addr} {H : Hp} {x : HO} (ho : H o = none) : Same (del H p) (del (del (upd H o x) p) o) := fun c y e => by
  by_cases hp : c = p
  · rw [hp, del_same] at e
    cases e
  · rw [del_ne hp] at e
    have hc : c ≠ o := ne_of_none e ho
    rw [del_ne hc, del_ne hp, upd_ne hc]
    exact e
section
variable {K : PySem.W.Frag} {p o : Addr} {H : Hp} {σ : L2.St} {D : Ends} {i j : Nat} {ys : List V} {v : V}
/-- out.insert(draw, v) -/
theorem ins_step (hp : σ[0]? = some (some (.ref p))) (ho : σ[i]? = some (some (.ref o))) (hv : σ[j]? = some (some v)) (b : Pool H p) (nop : o ≠ p) (hy : H o = some (.lst ys)) (hl : ys.length ≤ 1000) (k : ∀ (r : Int) (H' : Hp), 0 ≤ r → r ≤ ys.length → Sam p H H' → D.nx σ (upd H' o (.lst (ys.take r.toNat ++ [v] ++ ys.drop r.toNat)))) :
    tDrop (tBM K "list" (fun x vs H Q => ∃ (l : Addr) (xs : List V) (i : Int) (y : V), x = .ref l ∧ vs = [.int i, y] ∧ H l = some (.lst xs) ∧ xs.length < sizeLine ∧ 0 ≤ i ∧ i < 2 ^ 63 ∧ Q .non (upd H l (.lst (xs.take i.toNat ++ [y] ++ xs.drop i.toNat)))) (tVar i)
      (tCons (tCall spTake [] E0 (tCons (tVar 0) (tCons (tOp (rI0 fun i j => .int (i + j)) (tCB (fun xs H Q => ∃ x n, xs = [x] ∧ LenV K x H n ∧ Q (.int (n : Nat)) H) (tCons (tVar i) tNil)) (tC (.int 1))) tNil))) (tCons (tVar j) tNil))) D σ H := by
  refine ⟨_, ho, .inl ⟨rfl, _, .inl (.inl hy)⟩, _, hp, _, ho, _, ys.length, rfl, .inl ⟨ys, .inl (.inl hy), rfl⟩, _, _, rfl, rfl, p, _, rfl, b, by omega, by omega, fun r H' r0 r1 s => ?_⟩
  exact ⟨v, hv, o, ys, r, v, rfl, rfl, sam_at s nop hy, by rw [sizeLine_eq]; omega, r0, by omega, k r H' r0 (by omega) s⟩
end
/-- of a house drawn: a thing that is a house, or nearly one -/
def spSpoilt (K : PySem.W.Frag) : Sp := fun vs H Q _ => ∃ (p : Addr) (n : Int) (l : Addr) (ws : List Str), vs = [.ref p, .int n, .ref l] ∧ Pool H p ∧ H l = some (.lst (ws.map V.str)) ∧ l ≠ p ∧ 1 ≤ n ∧ n ≤ 3 ∧ HomeOk n 7 ws ∧ ∀ v d H', Sam p H H' → Dp K (del H' p) v d → small d = true → Q v H'
section
variable {P : Program} {w : World} {K : PySem.W.Frag} {mg : Str → Option Value} {base : Heap} {cP cU cT : Addr}
abbrev s__law_spoilt : Stmt := topS 47
theorem sc__law_spoilt : FnScope ["_law_pool_here", "_law_n", "_law_row_here", "_law_bad", "_law_out", "_law_k", "_law_c", "_law_w", "_law_first", "_law_second"] ["_law_pool_here", "_law_n", "_law_row_here"] (defScope s__law_spoilt) := ⟨rfl, rfl, rfl, by decide +kernel, rfl, by decide +kernel, by decide +kernel⟩
theorem ok__law_spoilt  (T : Tops K mg) : Df P w K mg base CX0 2 "_law_spoilt" s__law_spoilt ["_law_pool_here", "_law_n", "_law_row_here"] (spSpoilt K) := by
  have G__law_take := ok__law_take (P := P) (w := w) (base := base) T
  refine df_mk (k := 2-1) T.d__law_spoilt sc__law_spoilt (fun vs H Q E h => ?_) (fun _ _ _ _ _ _ us hl => match us, hl with | [_, _, _], _ => rfl) (fun f cdv A outer s H vs Q E hr h => ?_)
  · obtain ⟨p, n, l, ws, rfl, _⟩ := h
    rfl
  · obtain ⟨p, n, l, ws, rfl, hP, hl, nlp, n1, n3, hok, q⟩ := h
    refine ⟨_, (pss_cons (ps_set (i := 3) sc__law_spoilt.nd rfl (Or.inl rfl) (pe_lst (pa_cons (pe_op op_repS (pe_str) (pv 1)) (pa_cons (pe_op op_repS (pe_str) (pe_op op_add (pv 1) (pe_int))) (pa_cons (pe_str) (pa_cons (pe_non) (pa_cons (pe_int) (pa_cons (pe_bl) (pa_cons (pe_op op_repS (pe_str) (pv 1)) (pa_cons (pe_tup (pa_cons (pe_str) pa_nil)) (pa_cons (pe_op op_add_str (pe_op op_repS (pe_str) (pe_op op_sub (pv 1) (pe_int))) (pe_str)) (pa_cons (pe_lst (pa_cons (pe_str) pa_nil)) (pa_cons (pe_op op_repS (pe_str) (pv 1)) pa_nil)))))))))))))
        (pss_cons (ps_set (i := 4) sc__law_spoilt.nd rfl (Or.inl rfl) (pe_callTy call_list_of (by rfl) T.b_list (by decide +kernel) (pa_cons (pv 2) pa_nil)))
        (pss_cons (ps_for PassesOwn.never rfl (pi_range1 (by rfl) T.b_range (pa_cons (pe_df G__law_take (hr.mono (by decide)) (by rfl) pass0 (pa_cons (pv 0) (pa_cons (pe_int) pa_nil))) pa_nil)) (pg_name (i := 5) sc__law_spoilt.nd rfl (Or.inl rfl)) (pss_cons (ps_set (i := 6) sc__law_spoilt.nd rfl (Or.inl rfl) (pe_df G__law_take (hr.mono (by decide)) (by rfl) pass0 (pa_cons (pv 0) (pa_cons (pe_int) pa_nil))))
        (pss_cons (ps_set (i := 7) sc__law_spoilt.nd rfl (Or.inl rfl) (pe_op op_repS (pe_str) (pv 1)))
        (pss_cons (ps_if (pt_cmpR op_lt (pv 6) (pe_int) (nomark _)) (pss_one (ps_set (i := 7) sc__law_spoilt.nd rfl (Or.inl rfl) (pe_ix ix_list (pv 3) (pv 6) (fun _ _ => rfl)))) (pss_one (ps_if (pt_cmpR (op_neD hr.units) (pv 4) (pe_lst pa_nil) (nomark _)) (pss_one (ps_set (i := 7) sc__law_spoilt.nd rfl (Or.inl rfl) (pe_ix ix_list (pv 4) (pe_df G__law_take (hr.mono (by decide)) (by rfl) pass0 (pa_cons (pv 0) (pa_cons (pe_callB call_len (by rfl) T.b_len (by decide +kernel) (pa_cons (pv 4) pa_nil)) pa_nil))) (fun _ _ => rfl)))) pss_nil)))
        (pss_one (ps_expr (pe_bm PySem.F.plainAttrs_list PySem.F.slot_list_insert PySem.F.type_list_insert mt_insert (pv 4) (pa_cons (pe_df G__law_take (hr.mono (by decide)) (by rfl) pass0 (pa_cons (pv 0) (pa_cons (pe_op op_add (pe_callB call_len (by rfl) T.b_len (by decide +kernel) (pa_cons (pv 4) pa_nil)) (pe_int)) pa_nil))) (pa_cons (pv 7) pa_nil)))))))))
        (pss_cons (ps_set (i := 8) sc__law_spoilt.nd rfl (Or.inl rfl) (pe_ix ix_list (pe_lst (pa_cons (pv 1) (pa_cons (pv 1) (pa_cons (pv 1) (pa_cons (pv 1) (pa_cons (pv 1) (pa_cons (pv 1) (pa_cons (pe_op op_add (pv 1) (pe_int)) (pa_cons (pe_int) (pa_cons (pe_un un_neg (pv 1)) (pa_cons (pe_bl) (pa_cons (pe_non) (pa_cons (pe_str) (pa_cons (pe_tup (pa_cons (pv 1) pa_nil)) (pa_cons (pe_lst (pa_cons (pv 1) pa_nil)) pa_nil))))))))))))))) (pe_df G__law_take (hr.mono (by decide)) (by rfl) pass0 (pa_cons (pv 0) (pa_cons (pe_int) pa_nil))) (fun _ _ => rfl)))
        (pss_cons (ps_set (i := 9) sc__law_spoilt.nd rfl (Or.inl rfl) (pe_ix ix_list (pe_lst (pa_cons (pe_callTy call_tuple_of (by rfl) T.b_tuple (by decide +kernel) (pa_cons (pv 4) pa_nil)) (pa_cons (pe_callTy call_tuple_of (by rfl) T.b_tuple (by decide +kernel) (pa_cons (pv 4) pa_nil)) (pa_cons (pe_callTy call_tuple_of (by rfl) T.b_tuple (by decide +kernel) (pa_cons (pv 4) pa_nil)) (pa_cons (pe_callTy call_tuple_of (by rfl) T.b_tuple (by decide +kernel) (pa_cons (pv 4) pa_nil)) (pa_cons (pv 4) (pa_cons (pe_non) (pa_cons (pe_op op_repS (pe_str) (pv 1)) pa_nil)))))))) (pe_df G__law_take (hr.mono (by decide)) (by rfl) pass0 (pa_cons (pv 0) (pa_cons (pe_int) pa_nil))) (fun _ _ => rfl)))
        (pss_one (ps_ret (pe_ix ix_list (pe_lst (pa_cons (pe_tup (pa_cons (pv 8) (pa_cons (pv 9) pa_nil))) (pa_cons (pe_tup (pa_cons (pv 8) (pa_cons (pv 9) pa_nil))) (pa_cons (pe_tup (pa_cons (pv 8) (pa_cons (pv 9) pa_nil))) (pa_cons (pe_tup (pa_cons (pv 8) (pa_cons (pv 9) pa_nil))) (pa_cons (pe_tup (pa_cons (pv 1) (pa_cons (pe_callTy call_tuple_of (by rfl) T.b_tuple (by decide +kernel) (pa_cons (pv 4) pa_nil)) pa_nil))) (pa_cons (pe_tup (pa_cons (pv 1) (pa_cons (pe_callTy call_tuple_of (by rfl) T.b_tuple (by decide +kernel) (pa_cons (pv 4) pa_nil)) pa_nil))) (pa_cons (pe_lst (pa_cons (pv 8) (pa_cons (pv 9) pa_nil))) (pa_cons (pe_tup (pa_cons (pv 8) (pa_cons (pv 9) (pa_cons (pe_tup pa_nil) pa_nil)))) (pa_cons (pe_tup (pa_cons (pv 8) pa_nil)) (pa_cons (pe_non) (pa_cons (pe_str) pa_nil)))))))))))) (pe_df G__law_take (hr.mono (by decide)) (by rfl) pass0 (pa_cons (pv 0) (pa_cons (pe_int) pa_nil))) (fun _ _ => rfl))))))))), ?_⟩
    refine yp_asg (p := p) (K := K) (H0 := H) (d := .list (badD n)) (yp_lst (yps_cons (yp_rep (c := 73) yp_str (yp_var rfl (.int n)) (by omega) (by omega)) (yps_cons (yp_rep (c := 88) yp_str (yp_rI0 (yp_var rfl (.int n)) yp_int) (by omega) (by omega)) (yps_cons yp_str (yps_cons yp_non (yps_cons yp_int (yps_cons yp_bl (yps_cons (yp_rep (c := 120) yp_str (yp_var rfl (.int n)) (by omega) (by omega)) (yps_cons (yp_tup (yps_cons yp_str yps_nil)) (yps_cons (yp_cat (yp_rep (c := 88) yp_str (yp_rI0 (yp_var rfl (.int n)) yp_int) (by omega) (by omega)) yp_str ?_) (yps_cons (yp_lst (yps_cons yp_str yps_nil)) (yps_cons (yp_rep (c := 88) yp_str (yp_var rfl (.int n)) (by omega) (by omega)) yps_nil))))))))))) (by show (11 : Nat) ≤ 1000; decide)) (Same.refl H) hP (fun vb H1 s1 hvb => ?_)
    · rw [tx_len, List.length_replicate]
      show (n - 1).toNat + 1 ≤ 100000
      omega
    have P1 := (Sam.of hP s1).2
    refine ⟨_, rfl, l, _, rfl, .inl (.inl (.inl (s1 _ _ hl))), fun o ho => ?_⟩
    have nop : o ≠ p := pool_ne P1 ho
    have S1 : Sam p H H1 := Sam.of hP s1
    have hvb2 : Dp K (del (del (upd H1 o (.lst (ws.map V.str))) p) o) vb (.list (badD n)) := dp_mono (sam2_new ho) hvb
    have SL : Sam p H1 (upd H1 o (.lst (ws.map V.str))) := Sam.of P1 (same_upd ho)
    refine ⟨_, rfl, p, 4, rfl, SL.2, by decide, by decide, fun r0 H2 r00 r01 S2 => ⟨r0, rfl, by omega, by omega, ?_⟩⟩
    refine for_it walk_r0 (fun i σ H' => Sam2 p o (upd H1 o (.lst (ws.map V.str))) H' ∧ ∃ (ys : List V) (ds : List PyData) (y5 y6 y7 : Option V), σ = [some (.ref p), some (.int n), some (.ref l), some vb, some (.ref o), y5, y6, y7, none, none] ∧ H' o = some (.lst ys) ∧ DpAll K (del (del H' p) o) ys ds ∧ ys.length ≤ 7 + i ∧ ∀ d ∈ ds, lt2 2000 1 d = true) ⟨S2.two, ws.map V.str, ws.map .str, none, none, none, rfl, sam_at S2 nop upd_same, dpa_strs ws, by rw [List.length_map]; exact hok.1, words_ok hok n3⟩ (fun _ _ _ _ _ => trivial) (fun i x σ H3 H4 hi hp hy => ?_) (fun σ H3 hp => ?_)
    · obtain ⟨S3, ys, ds, y5, y6, y7, rfl, hys, hds, hyl, hok3⟩ := hp
      obtain ⟨rfl, rfl⟩ := hy
      have hi4 : i < 4 := by omega
      have ins : ∀ (Hx : Hp) (v : V) (d : PyData) (y5 y6 : Option V), Sam p H4 Hx → Dp K (del (del Hx p) o) v d → lt2 2000 1 d = true → ∀ (r : Int) (H' : Hp), 0 ≤ r → r ≤ ys.length → Sam p Hx H' → (Sam2 p o (upd H1 o (.lst (ws.map V.str))) (upd H' o (.lst (ys.take r.toNat ++ [v] ++ ys.drop r.toNat))) ∧ ∃ (zs : List V) (es : List PyData) (z5 z6 z7 : Option V), [some (.ref p), some (.int n), some (.ref l), some vb, some (.ref o), y5, y6, some v, none, none] = [some (V.ref p), some (.int n), some (.ref l), some vb, some (.ref o), z5, z6, z7, none, none] ∧ (upd H' o (.lst (ys.take r.toNat ++ [v] ++ ys.drop r.toNat))) o = some (.lst zs) ∧ DpAll K (del (del (upd H' o (.lst (ys.take r.toNat ++ [v] ++ ys.drop r.toNat))) p) o) zs es ∧ zs.length ≤ 7 + (i + 1) ∧ ∀ d ∈ es, lt2 2000 1 d = true) := fun Hx v d y5 y6 sx hdv hok4 r H' r0 r1 s' => by
        have sU : Sam2 p o H' (upd H' o (.lst (ys.take r.toNat ++ [v] ++ ys.drop r.toNat))) := sam2_upd s'.2 nop
        have sV : Sam2 p o Hx (upd H' o (.lst (ys.take r.toNat ++ [v] ++ ys.drop r.toNat))) := s'.two.trans sU
        have sW : Sam2 p o H4 (upd H' o (.lst (ys.take r.toNat ++ [v] ++ ys.drop r.toNat))) := sx.two.trans sV
        have dW := dpa_mono sW.1 hds
        refine ⟨S3.trans sW, _, ds.take r.toNat ++ [d] ++ ds.drop r.toNat, _, _, _, rfl, upd_same, dpa_app (dpa_app (dpa_take _ dW) (.cons (dp_mono sV.1 hdv) .nil)) (dpa_drop _ dW), ?_, fun e he => ?_⟩
        · rw [List.length_append, List.length_append, List.length_take, List.length_drop, List.length_singleton]
          omega
        · rcases List.mem_append.mp he with e1 | e1
          · rcases List.mem_append.mp e1 with e2 | e2
            · exact hok3 e (List.mem_of_mem_take e2)
            · rw [List.mem_singleton.mp e2]
              exact hok4
          · exact hok3 e (List.mem_of_mem_drop e1)
      refine ⟨_, rfl, p, 15, rfl, S3.2, by decide, by decide, fun c H5 c0 c1 S5 => ?_⟩
      have b5 : Dp K (del (del H5 p) o) vb (.list (badD n)) := dp_mono (S3.trans S5.two).1 hvb2
      have o5 : H5 o = some (.lst ys) := sam_at S5 nop hys
      have d5 : DpAll K (del (del H5 p) o) ys ds := dpa_mono S5.two.1 hds
      have hl5 := dpa_len d5
      refine ⟨_, rfl, 90, n, rfl, rfl, by omega, by omega, ?_⟩
      refine ⟨_, rfl, _, _, rfl, rfl, _, rfl, ?_⟩
      by_cases hc : c < 11
      · rw [decide_eq_true hc]
        refine iteT ⟨_, rfl, _, rfl, ?_⟩
        cases b5 with
        | @lst ba bxs _ hbq hba =>
        obtain ⟨v, d, hv, hdm, hdv⟩ := dpa_at hba c0 (show c < ((badD n).length : Int) from hc)
        have hq5 : SqL K H5 ba bxs := Same.seq (del_le _ p) (Same.seq (del_le _ o) hbq)
        refine ⟨ba, bxs, c, v, rfl, rfl, hq5, hv, ?_⟩
        exact ins_step rfl rfl rfl S5.2 nop o5 (by omega) (ins H5 v d (some (.int (i : Nat))) (some (.int c)) S5 hdv (bad_ok n1 n3 d hdm))
      · rw [decide_eq_false hc]
        refine iteF ?_
        have hds5 : small (.list ds) = true := by
          have h1 := wtAll_le (B := 2000) fun d h => lt2_w (hok3 d h)
          have h2 := dep_le (B := 1) fun d h => lt2_d (hok3 d h)
          exact small_mk (by simp only [wt]; omega) (by simp only [PyData.depth]; omega)
        have he : PyData.eqv (.list ds) (.list []) = decide (ds = []) := by cases ds <;> simp [PyData.eqv, PyData.eqvAll]
        refine ⟨_, rfl, by show 0 ≤ sizeLine; decide, fun a ha => ?_⟩
        have s6 := same_upd ha (o := .lst [])
        have S6 : Sam p H5 (upd H5 a (.lst [])) := Sam.of S5.2 s6
        have o6 := s6 _ _ o5
        have d6 : DpAll K (del (del (upd H5 a (.lst [])) p) o) ys ds := dpa_mono S6.two.1 d5
        refine ⟨.list ds, .list [], .lst (.inl (.inl o6)) (dpa_mono (Same.trans (del_le _ o) (del_le _ p)) d6), .lst (.inl (.inl upd_same)) .nil, small_shaped hds5, rfl, _, rfl, ?_⟩
        rw [he]
        by_cases hn : ds = []
        · rw [decide_eq_true hn]
          refine iteF ?_
          exact ins_step rfl rfl rfl S6.2 nop o6 (by omega) (ins _ _ _ (some (.int (i : Nat))) (some (.int c)) (S5.trans S6) (.str _) (zed_ok n1 n3))
        · rw [decide_eq_false hn]
          have hlp : 0 < ds.length := List.length_pos_iff.mpr hn
          refine iteT ⟨_, rfl, _, rfl, _, rfl, _, ys.length, rfl, .inl ⟨ys, .inl (.inl o6), rfl⟩, p, _, rfl, S6.2, by omega, by omega, fun r H7 r0 r1 S7 => ?_⟩
          have o7 := sam_at S7 nop o6
          have d7 : DpAll K (del (del H7 p) o) ys ds := dpa_mono S7.two.1 d6
          obtain ⟨v, d, hv, hdm, hdv⟩ := dpa_at d7 r0 (by omega)
          refine ⟨o, ys, r, v, rfl, rfl, .inl (.inl o7), hv, ?_⟩
          exact ins_step rfl rfl rfl S7.2 nop o7 (by omega) (ins _ v d (some (.int (i : Nat))) (some (.int c)) ((S5.trans S6).trans S7) hdv (hok3 d hdm))
    · obtain ⟨S3, ys, ds, y5, y6, y7, rfl, hys, hds, hyl, hok3⟩ := hp
      have dl := dpa_len hds
      have hl10 : ds.length ≤ 10 := by omega
      have da : DpAll K (del H3 p) ys ds := dpa_mono (del_le _ o) hds
      refine yp_pick (p := p) (K := K) (H0 := H3) (ds := firstD n) (yp_lst (yps_cons (yp_var rfl (.int n)) (yps_cons (yp_var rfl (.int n)) (yps_cons (yp_var rfl (.int n)) (yps_cons (yp_var rfl (.int n)) (yps_cons (yp_var rfl (.int n)) (yps_cons (yp_var rfl (.int n)) (yps_cons (yp_rI0 (yp_var rfl (.int n)) yp_int) (yps_cons yp_int (yps_cons (yp_neg (yp_var rfl (.int n))) (yps_cons yp_bl (yps_cons yp_non (yps_cons yp_str (yps_cons (yp_tup (yps_cons (yp_var rfl (.int n)) yps_nil)) (yps_cons (yp_lst (yps_cons (yp_var rfl (.int n)) yps_nil)) yps_nil)))))))))))))) (by show (14 : Nat) ≤ 1000; decide)) (Same.refl H3) S3.2 rfl rfl (by decide) (by decide) (fun v8 d8 H4 S4 m8 h8 => ?_)
      have o4 := sam_at S4 nop hys
      have da4 := dpa_mono S4.1 da
      refine yp_pick (p := p) (K := K) (H0 := H4) (ds := secondD n ds) (yp_lst (yps_cons (yp_tof rfl o4 da4) (yps_cons (yp_tof rfl o4 da4) (yps_cons (yp_tof rfl o4 da4) (yps_cons (yp_tof rfl o4 da4) (yps_cons (yp_var rfl (.lst (.inl (.inl (by rw [del_ne nop]; exact o4))) da4)) (yps_cons yp_non (yps_cons (yp_rep (c := 88) yp_str (yp_var rfl (.int n)) (by omega) (by omega)) yps_nil))))))) (by show (7 : Nat) ≤ 1000; decide)) (Same.refl H4) S4.2 rfl rfl (by decide) (by decide) (fun v9 d9 H5 S5 m9 h9 => ?_)
      have o5 := sam_at S5 nop o4
      have da5 := dpa_mono S5.1 da4
      have h85 := dp_mono S5.1 h8
      refine yp_pick (p := p) (K := K) (H0 := H5) (ds := thirdD n ds d8 d9) (yp_lst (yps_cons (yp_tup (yps_cons (yp_var rfl h85) (yps_cons (yp_var rfl h9) yps_nil))) (yps_cons (yp_tup (yps_cons (yp_var rfl h85) (yps_cons (yp_var rfl h9) yps_nil))) (yps_cons (yp_tup (yps_cons (yp_var rfl h85) (yps_cons (yp_var rfl h9) yps_nil))) (yps_cons (yp_tup (yps_cons (yp_var rfl h85) (yps_cons (yp_var rfl h9) yps_nil))) (yps_cons (yp_tup (yps_cons (yp_var rfl (.int n)) (yps_cons (yp_tof rfl o5 da5) yps_nil))) (yps_cons (yp_tup (yps_cons (yp_var rfl (.int n)) (yps_cons (yp_tof rfl o5 da5) yps_nil))) (yps_cons (yp_lst (yps_cons (yp_var rfl h85) (yps_cons (yp_var rfl h9) yps_nil))) (yps_cons (yp_tup (yps_cons (yp_var rfl h85) (yps_cons (yp_var rfl h9) (yps_cons (yp_tup yps_nil) yps_nil)))) (yps_cons (yp_tup (yps_cons (yp_var rfl h85) yps_nil)) (yps_cons yp_non (yps_cons yp_str yps_nil))))))))))) (by show (11 : Nat) ≤ 1000; decide)) (Same.refl H5) S5.2 rfl rfl (by decide) (by decide) (fun v d H6 S6 m hd => ?_)
      refine q v d H6 ?_ hd (third_ok n1 n3 hl10 hok3 (first_ok n1 n3 d8 m8) (second_ok n1 n3 hl10 hok3 d9 m9) d m)
      exact (((S1.trans ⟨((sam2_new ho).trans S3.1).trans (del_le _ o), S3.2⟩).trans S4).trans S5).trans S6
end
end V0
namespace V0
open PySem PySem.Spec PyProof.Rows L2
/-! ### a try with several clauses, each with its own name -/
/-- one clause: its class, the slot of its name, what its suite wishes -/
abbrev Cl := Value × Nat × (Addr → Value → Option Addr → TS)
/-- the ends of a suite that is left: its name is gone -/
def outOf (D : Ends) (i : Nat) : Ends := { nx := fun ρ G => D.nx (ρ.set i none) G, rt := D.rt, bk := fun ρ G => D.bk (ρ.set i none) G, ct := fun ρ G => D.ct (ρ.set i none) G }
def wNm (K : PySem.W.Frag) (W0 : WX) (D : Ends) : List Cl → WX
  | [] => W0
  | (c, i, ts) :: r => fun cls d σ H => (∀ a, PySem.W.exmOne K cls c = some true → H a = none → ts a cls d (outOf D i) (σ.set i (some (.ref a))) H) ∧ ∃ b, PySem.W.exmOne K cls c = some b ∧ (b = false → wNm K W0 D r cls d σ H)
inductive NmOk (X : Cx) : List ExceptHandler → List Cl → Prop
  | none : NmOk X [] []
  | more {x y : Str} {c : Value} {i : Nat} {ts : Addr → Value → Option Addr → TS} {s0 : Stmt} {ss : List Stmt} {p1 p2 : Pos} {hs : List ExceptHandler} {cs : List Cl} (nmd : Names X x c) (slot : X.N[i]? = some y) (loc : X.env.kindOf y = some .local)
      (suite : ∀ (a : Addr) (ob : Obj) (cls : Value) (d : Option Addr) (pn : List (Addr × Obj)), Zc cls d ob → (∃ fs, ob.data = .fields fs) → PSs (X.suite a ((a, ob) :: pn)) (s0 :: ss) (ts a cls d)) (rest : NmOk X hs cs) :
      NmOk X (.ExceptHandler (some (.Name x p1)) (some y) (s0 :: ss) p2 :: hs) ((c, i, ts) :: cs)
/-- the error a is caught and lies at hand in z -/
def Cau (X : Cx) (pins : List (Addr × Obj)) (σ : L2.St) (H : Hp) (a : Addr) (cls : Value) (d : Option Addr) (z : Shared) : Prop :=
  ∃ (B : Heap) (z0 : Shared), L2.Inv X pins σ H z0 ∧ (∀ b o, z0.heap.get? b = some o → b ∉ frs X.stack → B.get? b = some o) ∧ z0.heap.UpToSlots z.heap ∧ HandSPX.FlyingZ B (X.env :: X.outer) a (Zc cls d) z.heap ∧ H a = none ∧ z.os = z0.os ∧ AllBare z.gens
section
variable {X : Cx} {pins : List (Addr × Obj)} {σ : L2.St} {H : Hp} {a : Addr} {cls : Value} {d : Option Addr} {z : Shared}
theorem Cau.inv (C : Cau X pins σ H a cls d z) : L2.Inv X pins σ H z := by
  obtain ⟨B, z0, J, k1, k2, fl, _, k4, k5⟩ := C
  exact J.landed k1 fl.1 k2 k4 k5
/-- the error itself; it is no frame -/
theorem Cau.obj (hf : X.env.frame = some X.env.locals) (C : Cau X pins σ H a cls d z) : ∃ ob fs, z.heap.get? a = some ob ∧ Zc cls d ob ∧ ob.data = .fields fs ∧ a ≠ X.env.locals ∧ a ∉ X.fs := by
  obtain ⟨B, z0, J, k1, k2, fl, k3, k4, k5⟩ := C
  obtain ⟨ob, fs, g1, g2, g3⟩ := fl.there
  have nf : a ∉ frs (X.env :: X.outer) := fun m => by
    obtain ⟨_, ob2, g4, n4⟩ := fl.2.2.1.mem m
    have : ob = ob2 := Option.some.inj (g1.symm.trans g4)
    subst this
    exact n4 _ g3
  refine ⟨ob, fs, g1, g2, g3, fun e => ?_, fun m => ?_⟩
  · refine nf (List.mem_filterMap.mpr ⟨X.env, List.mem_cons_self, ?_⟩)
    rw [e]
    exact hf
  · obtain ⟨ev, m1, m2⟩ := List.mem_filterMap.mp m
    exact nf (List.mem_filterMap.mpr ⟨ev, List.mem_cons_of_mem _ m1, m2⟩)
theorem Cau.in_suite (hf : X.env.frame = some X.env.locals) (C : Cau X pins σ H a cls d z) : ∃ ob, z.heap.get? a = some ob ∧ Zc cls d ob ∧ (∃ fs, ob.data = .fields fs) ∧ L2.Inv (X.suite a ((a, ob) :: (X.pn ++ pins))) [] σ H z := by
  obtain ⟨ob, fs, g1, g2, g3, n1, n2⟩ := C.obj hf
  obtain ⟨_, _, _, _, _, _, k3, _⟩ := id C
  exact ⟨ob, g1, g2, ⟨fs, g3⟩, C.inv.suite g1 g3 k3 n1 n2⟩
/-- no clause takes it -/
theorem Cau.untaken {W0 : WX} {D : Ends} (hs : X.stack = X.env :: X.outer) (hf : X.env.frame = some X.env.locals) (tk : Takes X W0) (C : Cau X pins σ H a cls d z) (w : W0 cls d σ H) : wpAny (model X.prog X.w) X.A (handleBy (.ref a) X.env []) (SP X pins D) X.xe z := by
  obtain ⟨B, z0, J, k1, k2, fl, k3, k4, k5⟩ := C
  obtain ⟨_, _, _, ob, fs, T, _, _, g1, _, g3, g4, _⟩ := id fl
  refine wpAny_handleBy_nil ?_
  unfold PySem.passOn
  refine wpAny_bind (wpAny_field g1 g3 g4 ?_)
  have nn : ¬ ((Value.ref T == Value.none) = true) := by simp
  rw [if_neg nn]
  have last : wpAny (model X.prog X.w) X.A (setFlight (.ref a) X.env.frame) (fun _ z2 => wpAny (model X.prog X.w) X.A (throw (.ref a) : Sem Flow) (SP X pins D) X.xe z2) X.xe z := by
    rw [hf]
    refine HandSPX.setFlight_upZ fl fun g held up => wpAny_throw (tk _ _ ⟨a, B, z0, pins, σ, H, cls, d, rfl, J, k1, k2.trans up, ?_, k3, k4, k5, w⟩)
    rw [hs]
    exact .inr (.inr held)
  first
    | exact wpAny_bind last
    | exact wpAny_bind (wpAny_pure (wpAny_bind last))
/-- the clauses, one after the other -/
theorem Cau.clauses {W0 : WX} {D : Ends} (hs : X.stack = X.env :: X.outer) (hf : X.env.frame = some X.env.locals) (nd : X.N.Nodup) (tk : Takes X W0) (C : Cau X pins σ H a cls d z) :
    ∀ {hl : List ExceptHandler} {cs : List Cl}, NmOk X hl cs → wNm X.K W0 D cs cls d σ H → wpAny (model X.prog X.w) X.A (handleBy (.ref a) X.env hl) (SP X pins D) X.xe z := by
  intro hl cs ok
  induction ok with
  | none => exact fun w => C.untaken hs hf tk w
  | @more x y c i ts s0 ss p1 p2 hs2 cs2 nmd slot loc suite rest ih =>
    intro w
    obtain ⟨yes, b, eb, no⟩ := w
    obtain ⟨ob, g1, g2, g3, S⟩ := C.in_suite hf
    have cl : PySem.W.Looks (model X.prog X.w) z.heap (typeOf (.ref a)) cls := fun A Q E z1 k q => wpAny_typeOf_ref (k _ _ g1) (by rw [g2.1]; exact q)
    have mat := PySem.W.exm_one (M := model X.prog X.w) C.inv.kIn cl eb
    have nameOf : ∀ {Q E : Value → Shared → Prop}, Q c z → wpAny (model X.prog X.w) (X.A.mark (some (.ref a))) (eval (.Name x p1) X.env) Q E z := fun {Q E} q => by
      obtain ⟨n1, n2, n3⟩ := nmd
      rcases n3 with m | ⟨m, v, u⟩
      · exact ld_glob (X := X.suite a ((a, ob) :: (X.pn ++ pins))) S n1 m q n2
      · exact ld_blt (X := X.suite a ((a, ob) :: (X.pn ++ pins))) S n1 m v q u n2
    refine wpAny_handleBy_cons (codeAny_handlers_test (nameOf (mat.here ?_))) (fun e => nomatch e)
    cases b with
    | false => exact ih (no rfl)
    | true =>
      obtain ⟨B, z0, J, k1, k2, fl, k3, k4, k5⟩ := id C
      refine codeAny_handlers_suite_as (HandSPX.lands_againZ fl fun g flg up => ?_)
      have C2 : Cau X pins σ H a cls d { z with heap := g } := ⟨B, z0, J, k1, k2.trans up, flg, k3, k4, k5⟩
      obtain ⟨ob2, _, z2, f2, S2⟩ := C2.in_suite hf
      refine store_ok (v := .ref a) (X := X.suite a ((a, ob2) :: (X.pn ++ pins))) S2 nd slot (.inl loc) rfl (fun z5 S5 => ?_) (.inr loc)
      have go := (suite a ob2 cls d (X.pn ++ pins) z2 f2).run [] z5 _ H _ S5 (yes a eb k3)
      refine wpAny_mono go (fun way z6 out => ?_) fun _ _ bad => bad.elim
      have leave : ∀ {ρ : L2.St} {G : Hp} {Q : Shared → Prop}, L2.Inv (X.suite a ((a, ob2) :: (X.pn ++ pins))) [] ρ G z6 → (∀ z7, L2.Inv X pins (ρ.set i none) G z7 → Q z7) → wpAny (model X.prog X.w) X.A (do bindName X.env y .none; unbindBehindTheSuite X.env y p2) (fun _ z7 => Q z7) X.xe z6 :=
        fun S6 fin => gone_ok (S6.unsuite J.ok) nd slot loc fin
      match way, out with
      | .ret _, ⟨u, _, _, S6, ru, e6⟩ => exact leave S6 fun z7 J7 => ⟨u, _, _, J7, ru, e6⟩
      | .next, ⟨_, _, S6, e6⟩ => exact leave S6 fun z7 J7 => ⟨_, _, J7, e6⟩
      | .brk, ⟨_, _, S6, e6⟩ => exact leave S6 fun z7 J7 => ⟨_, _, J7, e6⟩
      | .cont, ⟨_, _, S6, e6⟩ => exact leave S6 fun z7 J7 => ⟨_, _, J7, e6⟩
end
section
variable {X : Cx} {body : List Stmt} {h0 : ExceptHandler} {hl : List ExceptHandler} {cs : List Cl} {p0 : Pos} {tb : WX → TS} {W0 : WX}
theorem ps_try_nm (hs : X.stack = X.env :: X.outer) (hf : X.env.frame = some X.env.locals) (nd : X.N.Nodup) (tk : Takes X W0) (ok : NmOk X (h0 :: hl) cs)
    (hb : ∀ (W : WX) (pn : List (Addr × Obj)) (xe : Value → Shared → Prop), Takes (X.tr pn xe) W → PassesOwn (model X.prog X.w) X.A X.env xe → PSs (X.tr pn xe) body (tb W)) :
    PS X (.Try body (h0 :: hl) [] [] p0) (fun D σ H => tb (wNm X.K W0 D cs) D σ H) := by
  refine ⟨fun pins z σ H D I h => ?_⟩
  have xok := I.ok
  have frames : X.A.frames = some (X.env :: X.outer) := by rw [xok.frames, hs]
  let catch_ : Value → Shared → Prop := fun e z1 => wpAny (model X.prog X.w) X.A (noteFrame e X.env) (fun _ z2 => wpAny (model X.prog X.w) X.A (setFlight e none) (fun _ z3 => wpAny (model X.prog X.w) X.A (handleBy e X.env (h0 :: hl)) (SP X pins D) X.xe z3) X.xe z2) X.xe z1
  have body_ := (hb (wNm X.K W0 D cs) (X.pn ++ pins) catch_ (fun u z1 x => ?_) PassesOwn.looking).run [] z σ H D (I.toTry _) h
  · refine wpAny_Try_except (wpAny_mono body_ (fun way z1 out => ?_) fun _ _ q => q)
    match way, out with
    | .ret _, ⟨u, _, _, J, ru, e6⟩ => exact ⟨u, _, _, J.ofTry xok, ru, e6⟩
    | .next, ⟨_, _, J, e6⟩ => exact wpAny_execs_nil ⟨_, _, J.ofTry xok, e6⟩
    | .brk, ⟨_, _, J, e6⟩ => exact ⟨_, _, J.ofTry xok, e6⟩
    | .cont, ⟨_, _, J, e6⟩ => exact ⟨_, _, J.ofTry xok, e6⟩
  · obtain ⟨a, B, z0, _, ρ, G, cls, d, rfl, J, k1, k2, sk, k3, k4, k5, w⟩ := x
    have sk2 : Sky B (X.env :: X.outer) a (Zc cls d) X.env.locals z1.heap := hs ▸ sk
    refine Sky.land Zc.steady frames hf sk2 fun g fl up => ?_
    have C : Cau X pins ρ G a cls d { z1 with heap := g } := ⟨B, z0, J.ofTry xok, k1, k2.trans up, fl, k3, k4, k5⟩
    exact C.clauses hs hf nd tk ok w
end
end V0
/-! isinstance of a caught error that has a dict of its own -/
namespace V0
open PySem PySem.Spec PySem.Calls PyProof.Rows PySem.W
section
variable {prog : Program} {w : World} {K : Frag} {x D : Addr} {ox : Obj} {od : Option Obj}
/-- __class__ is the class's own descriptor, whatever the dict holds -/
theorem found_class (C : L2.ExcC K D) : findObj K D od "__class__" = some (.bind (.builtin "getset_descriptor.__get__") (.builtin "object.__class__")) := by
  obtain ⟨cd, e, _⟩ := any_some C.hd
  simp [findObj, e, C.ha, C.hn, C.ht]
section
variable {A : Around} {E : Value → Shared → Prop} {z : Shared}
/-- what BaseException's own reading of __class__ answers -/
theorem base_class {R : Result → Shared → Prop} {tk : Tok} (C : L2.ExcC K D) (kz : K.In z.heap) (I : InstAt z.heap x ox D od) (q : R (.ok (.ret (.ref D))) z) :
    codeAny (model prog w) A (.call (.builtin "BaseException.__getattribute__") { pos := [.ref x, .str "__class__" tk] }) R z := by
  refine codeAny_call_builtin PySem.F.excAttr_ValueError.ga.plain PySem.F.entry_bexc_ga ?_
  have isB : Looks (model prog w) z.heap (isInstance (.ref x) (.type "BaseException")) true := I.type.andThen (looks_subIn kz C.hs)
  have own := PySem.F.args_bexc_ga (.ref x) (.str "__class__" tk)
  refine @check_slot (model prog w) _ _ z "BaseException.__getattribute__"
    "BaseException" "__getattribute__" (.ref x) [.str "__class__" tk] [] _ (by decide +kernel) (by decide +kernel) isB own ?_
  unfold Builtin.«object.__getattribute__»
  refine wpAny_bind (wpAny_of_eq (a := ((Value.ref x : Value), [Value.str "__class__" tk])) ?_ (wpAny_bind (wpAny_pure (wpAny_bind (I.type.at (wpAny_bind ((looks_find kz I (found_class C)).at ?_)))))))
  · first | rfl | (simp only [slotArgs]; rfl)
  · exact wpAny_bind (wpAny_holding (wpAny_call (class_get kz I C.hm (wpAny_pure q))))
/-- e.__class__ -/
theorem err_class {Q : Option Value → Shared → Prop} (C : L2.ExcC K D) (kz : K.In z.heap) (I : InstAt z.heap x ox D od) (q : Q (some (.ref D)) { z with toks := z.toks + 1 }) : wpAny (model prog w) A (getAttr? (.ref x) "__class__") Q E z := by
  obtain ⟨hp, gn, dr, tk, os⟩ := z
  have ty := I.type (M := model prog w)
  have own := looks_findIn (M := model prog w) kz C.hg
  have other := looks_findIn (M := model prog w) kz C.hk
  have b0 : (Value.builtin "BaseException.__getattribute__" == Value.builtin "object.__getattribute__") = false := by
    decide +kernel
  have b1 : (onTheHeap (.ref D) && Value.builtin "BaseException.__getattribute__" == Value.builtin "object.__getattribute__") = false := by
    rw [b0, Bool.and_false]
  have b2 : ¬ ((false && onTheHeap (.builtin "BaseException.__getattribute__")) = true) := by simp
  unfold getAttr? getAttrBy? getAttrBy
  refine wpAny_bind (wpAny_mkText (wpAny_bind (wpAny_attempt (wpAny_holding ?_))))
  refine wpAny_bind (ty.at (wpAny_bind (own.at ?_)))
  change wpAny _ _ (if (onTheHeap (.ref D) && Value.builtin "BaseException.__getattribute__" == Value.builtin "object.__getattribute__") = true then _ else _) _ _ _
  rw [b1, if_neg Bool.false_ne_true]
  unfold getAttrByItsOwn hookBefore
  refine wpAny_bind ?_
  have heapy : onTheHeap (Value.ref D) = true := rfl
  rw [if_pos heapy]
  refine other.at (wpAny_bind (wpAny_attempt (wpAny_holding ?_)))
  unfold callGetattribute
  rw [if_neg b2]
  unfold boundAndCalled
  rw [(PySem.F.excAttr_ValueError.ga).bind (.ref x)]
  refine wpAny_bind (wpAny_pure ?_)
  have kz1 : K.In (⟨hp, gn, dr, tk + 1, os⟩ : Shared).heap := kz
  change wpAny _ _ (call (.builtin "BaseException.__getattribute__") [.ref x, .str "__class__" tk]) _ _ _
  refine wpAny_call (base_class C kz1 I ?_)
  change wpAny _ _ (handedOut (.ref D)) _ _ _
  have out : handedOut (.ref D) = (pure (.ref D) : Sem Value) := handedOut_of (v := .ref D) rfl
  rw [out]
  first
    | exact wpAny_pure q
    | exact wpAny_pure (wpAny_pure q)
    | exact wpAny_pure (wpAny_bind (wpAny_pure (wpAny_pure q)))
end
/-- where a class stands, a class object stands -/
theorem class_there (C : L2.ExcC K D) : ∃ oc cd, K.lookup D = some oc ∧ oc.data = .cls cd := by
  obtain ⟨cd, e, _⟩ := any_some C.hd
  unfold clsIn at e
  split at e
  · rename_i look
    exact ⟨_, _, look, rfl⟩
  · exact nomatch e
theorem kit_err (C : L2.ExcC K D) : KitX K (.ref x) (.ref D) (fun g => InstAt g x ox D od) := by
  obtain ⟨oc, cd, look, dt⟩ := class_there C
  refine ⟨fun _ _ _ I => I.type, fun M g kg _ A Q E z keep q => ?_, fun g tp dd its n sl kg there => ?_, fun kg I q => err_class C kg I q⟩
  · obtain ⟨c0, d0, _, s0⟩ := oc
    subst dt
    unfold isType loadHead
    exact wpAny_bind (wpAny_loadPart (keep _ _ (kg _ _ look)) (wpAny_pure q))
  · refine beq_eq_false_iff_ne.mpr fun same => ?_
    cases same
    have := Option.some.inj ((kg _ _ look).symm.trans there)
    subst this
    exact nomatch dt
end
end V0
namespace V0
open PySem PySem.Spec PyProof.Rows L2
/-- isinstance(e, c) of the error at hand -/
def rIsX (K : PySem.W.Frag) (a : Addr) (cls : Value) (d : Option Addr) : List V → Hp → VK → Prop := fun xs H Q => ∃ (D dd : Addr) (fs : List (Str × V)) (c : V) (cv : Value) (b : Bool), xs = [.ref a, c] ∧ cls = .ref D ∧ ExcC K D ∧ d = some dd ∧ H dd = some (.xd fs) ∧ (∀ u, RelV c u → u = cv) ∧ PySem.W.kitOne K (.ref D) cv = some b ∧ Q (.bl b) H
theorem call_isX {X : Cx} {a : Addr} {cls : Value} {d : Option Addr} {ob : Obj} {pn : List (Addr × Obj)} (hz : Zc cls d ob) (hf : ∃ fs, ob.data = .fields fs) : CallR (X.suite a ((a, ob) :: pn)) (.builtin "isinstance") (rIsX X.K a cls d) := by
  intro pins z σ H xs us Q I r h
  obtain ⟨D, dd, fs, c, cv, b, rfl, ec, C, ed, hdd, hcv, e, q⟩ := h
  obtain ⟨z1, z2⟩ := hz
  match us, r with
  | [_, u], .cons r1 (.cons r2 .nil) =>
    cases r1
    cases hcv u r2
    obtain ⟨there, _⟩ := I.pin (a, ob) (List.mem_append_left _ List.mem_cons_self)
    obtain ⟨mA, ns, _⟩ := (I.hok dd _ hdd : ObjOk X.prog X.w H z.heap dd (.xd fs))
    obtain ⟨od, own, _⟩ := lookIn_ns ns
    have nc : PySem.W.notCls ob = true := by
      obtain ⟨fl, ef⟩ := hf
      unfold PySem.W.notCls
      rw [ef]
    have J : PySem.W.InstAt z.heap a ob D (some od) := ⟨there, z1.trans ec, nc, by rw [z2, ed]; exact own⟩
    exact PySem.W.kia_one (kit_err C) I.kIn J e (fun bad => nomatch bad) fun tk => ⟨.bl b, H, I.kept (t' := tk) fun _ _ same => same, rfl, q⟩
end V0
/-! calls of defs that may raise, inside a try -/
namespace V0
open PySem PySem.Spec PyProof.Rows L2
/-- all by keywords; what is let out is seen with the slots -/
def tCallKS (m : Nat) (sp : Sp) (E : L2.St → XK) (tk : TA) : TE := fun σ H Q => tk σ H fun zs H1 => zs.length = m ∧ sp zs H1 Q (E σ)
section
variable {X : Cx} {CX : CXT} {k : Nat} {st : Stmt} {ps : List Str} {sp : Sp} {E : L2.St → XK} {x : Str} {p pos : Pos} {e : Expr} {es : List Expr} {t : TA} {kws : List Keyword} {tk : TA}
theorem pe_dfS (G : Df X.prog X.w X.K X.mg X.base CX k x st ps sp) (hr : Room k X.A) (hg : Gl X x) (hx : ∀ σ, PassesAt CX X σ (E σ)) (ha : PA X (e :: es) t) (hdb : (x == ("__debug__" : Str)) = false := by decide)
    (he : starEach (e :: es) X.env = (false, eval e X.env) :: starEach es X.env := by rfl) (hpl : (backTo pos (starEach es X.env)).any (·.1) = false := by rfl) : PE X (.Call (.Name x p) (e :: es) [] pos) (tCallS sp E t) := by
  obtain ⟨f, fd, F, hm, hk, hb, _⟩ := G.ex
  exact pe_callS F hr hg hm hk hb hx ha hdb he hpl
theorem pe_dfkS (G : Df X.prog X.w X.K X.mg X.base CX k x st ps sp) (hr : Room k X.A) (hg : Gl X x) (hx : ∀ σ, PassesAt CX X σ (E σ)) (hkw : PK X kws tk)
    (hb : ∀ (kV doc pm : Value) (an : Option Addr) (cdv ct : Value) (ws : List Value), ws.length = ps.length → bindArgs (PySem.W.fnOf x x (defArgs st) (defBody st) (defScope st) .none kV doc pm an cdv ct) ⟨[], ps.zip ws⟩ = pure (ps.zip ws))
    (hall : (backToKw pos (keywordEach kws X.env)).all (·.1.isSome) = true := by rfl) (hks : (backToKw pos (keywordEach kws X.env)).filterMap (·.1) = ps := by rfl) (hdb : (x == ("__debug__" : Str)) = false := by decide)
    (hpl : ((backTo pos (starEach [] X.env)).any (·.1) || (backToKw pos (keywordEach kws X.env)).any (·.1.isNone)) = false := by rfl) : PE X (.Call (.Name x p) [] kws pos) (tCallKS ps.length sp E tk) := by
  obtain ⟨f, fd, F, hm, hk, _, FD⟩ := G.ex
  have binds : ∀ (z : Shared) (ws : List Value), ws.length = ps.length → BindsTo z fd { pos := [], kw := ps.zip ws } (ps.zip ws) := by
    obtain ⟨oc, od, dV, kV, doc, pm, an, cdv, ct, osl, rfl, lk, hcd, hD, hK⟩ := FD.ex
    rcases hD with ⟨_, rfl⟩ | ⟨bad, _⟩
    · exact fun z ws l => .of_eq (hb kV doc pm an cdv ct ws l)
    · exact absurd rfl bad
  refine ⟨fun pins z σ H Q I h => wpAny_Call_Name_kw (ld_glob I hg hm ?_ hdb)⟩
  refine PySem.W.callWith_KW0 (h₀ := X.base) I.ok.mod.kin hk hall (thn (hkw.run pos pins z σ H _ I h) fun ws z2 got => ?_) hpl
  obtain ⟨zs, H2, I2, rz, len, q2⟩ := got
  refine ⟨I2.kIn, ?_⟩
  rw [hks]
  have lw : ws.length = ps.length := rz.length.symm.trans len
  refine wpAny_call (codeAny_mono (F.run X.A X.stack z2 H2 ⟨[], ps.zip ws⟩ ws zs Q (E σ) hr I2.env0 (binds z2 ws lw) rz q2) fun out z3 way => ?_)
  match out, way with
  | .error u, way => exact hx σ pins H2 z2 u z3 I2 way
  | .ok (.ret _), way => exact I2.after way
  | .ok .next, way => exact way.elim
  | .ok .brk, way => exact way.elim
  | .ok .cont, way => exact way.elim
end
/-! ### what the classes of the errors are to each other -/
/-- of a class: its name stands for c, and an error of class C is one of it or not -/
def IsOf (K : PySem.W.Frag) (mg : Str → Option Value) (x : Str) (l : List (Addr × Bool)) : Prop := ∃ c, mg x = some (.ref c) ∧ ∀ q ∈ l, PySem.W.kitOne K (.ref q.1) (.ref c) = some q.2
structure Kin (K : PySem.W.Frag) (mg : Str → Option Value) (cP cU cT : Addr) : Prop where
  eP : ExcC K cP
  eU : ExcC K cU
  eT : ExcC K cT
  born : IsOf K mg "BornError" [(cP, true), (cU, true), (cT, true)]
  paper : IsOf K mg "PaperError" [(cP, true), (cU, false), (cT, false)]
  house : IsOf K mg "HouseError" [(cP, false), (cU, true), (cT, false)]
  text : IsOf K mg "TextError" [(cP, false), (cU, false), (cT, true)]
  value : PySem.W.kitOne K (.ref cP) (.type "ValueError") = some true
  mPP : PySem.W.exmOne K (.ref cP) (.ref cP) = some true
  mTT : PySem.W.exmOne K (.ref cT) (.ref cT) = some true
  mUT : PySem.W.exmOne K (.ref cU) (.ref cT) = some false
  mUU : PySem.W.exmOne K (.ref cU) (.ref cU) = some true
end V0
namespace V0
open PySem PySem.Spec PyProof.Rows L2
/-- what the checker does with data -/
def checkedD (d : PyData) : PyData := match houseFault d with
  | none => .tuple [.str "done", .int (manyD d)]
  | some (x, k) => .tuple [.str x, .int k]
def spChecked (K : PySem.W.Frag) : Sp := fun vs H Q _ => ∃ v d, vs = [v] ∧ Dp K H v d ∧ small d = true ∧ ∀ r H', Same H H' → Dp K H' r (checkedD d) → Q r H'
section
variable {P : Program} {w : World} {K : PySem.W.Frag} {mg : Str → Option Value} {base : Heap} {cP cU cT : Addr}
abbrev s__law_checked : Stmt := topS 48
theorem sc__law_checked : FnScope ["_law_v", "e"] ["_law_v"] (defScope s__law_checked) := ⟨rfl, rfl, rfl, by decide +kernel, rfl, by decide +kernel, by decide +kernel⟩
theorem ok__law_checked (Er : Errs K mg cP cU cT) (Ki : Kin K mg cP cU cT) (T : Tops K mg) : Df P w K mg base CX0 6 "_law_checked" s__law_checked ["_law_v"] (spChecked K) := by
  obtain ⟨cB, gBo, kB⟩ := Ki.born
  obtain ⟨cA, gPa, kA⟩ := Ki.paper
  obtain ⟨cH, gHo, kH⟩ := Ki.house
  obtain ⟨cX, gTe, kX⟩ := Ki.text
  have G_lets_house := ok_lets_house (P := P) (w := w) (base := base) Er T
  refine df_mk (k := 6-1) T.d__law_checked sc__law_checked (fun vs H Q E h => ?_) (fun _ _ _ _ _ _ us hl => match us, hl with | [_], _ => rfl) (fun f cdv A outer s H vs Q E hr h => ?_)
  · obtain ⟨v, d, rfl, _⟩ := h
    rfl
  · obtain ⟨v, d, rfl, hd, hs, q⟩ := h
    refine ⟨_, (pss_one (ps_try_as (i := 1) (c := .ref cP) (Wout := fun _ _ _ _ => False) rfl rfl sc__law_checked.nd rfl rfl ⟨rfl, by decide, .inl Er.ip.gC⟩ takes_none5 (fun W pn xe tk _ => (pss_cons (ps_if (pt_val (pe_callB (show CallR _ _ (rIsD K .l) from call_isD .l) (by rfl) T.b_isinstance (by decide +kernel) (pa_cons (pv 0) (pa_cons (pe_bltn (v := .ty "list") rfl T.b_list (by decide +kernel) rfl) pa_nil)))) (pss_one (ps_ret (pe_tup (pa_cons pe_str (pa_cons (pe_dfkS G_lets_house (hr.mono (by decide)) (by rfl) (fun σ => passAt tk σ) (pk_cons (pv 0) pk_nil) (fun _ _ _ _ _ _ ws hl => match ws, hl with | [_], _ => rfl)) pa_nil))))) pss_nil)
          (pss_one (ps_ret (pe_tup (pa_cons pe_str (pa_cons (pe_dfS G_lets_house (hr.mono (by decide)) (by rfl) (fun σ => passAt tk σ) (pa_cons (pv 0) pa_nil)) pa_nil))))))) (fun a oe cls d pn hz hf => (pss_cons (ps_if (PW.pt (pw_or (pt_not (pt_val (pe_callB (show CallR _ _ (rIsX K a cls d) from call_isX hz hf) (by rfl) T.b_isinstance (by decide +kernel) (pa_cons (pv 1) (pa_cons (pe_glob (v := .ref cA) rfl gPa rfl) pa_nil))))) (pw_or (pt_not (pt_val (pe_callB (show CallR _ _ (rIsX K a cls d) from call_isX hz hf) (by rfl) T.b_isinstance (by decide +kernel) (pa_cons (pv 1) (pa_cons (pe_glob (v := .ref cB) rfl gBo rfl) pa_nil))))) (pw_or1 (pt_not (pt_val (pe_callB (show CallR _ _ (rIsX K a cls d) from call_isX hz hf) (by rfl) T.b_isinstance (by decide +kernel) (pa_cons (pv 1) (pa_cons (pe_bltn (v := .ty "ValueError") rfl T.b_ValueError (by decide +kernel) rfl) pa_nil))))))))) (pss_one (ps_ret (pe_tup (pa_cons pe_str (pa_cons (pe_un un_neg (pe_int)) pa_nil))))) pss_nil)
          (pss_cons (ps_if (PW.pt (pw_or (pt_val (pe_callB (show CallR _ _ (rIsX K a cls d) from call_isX hz hf) (by rfl) T.b_isinstance (by decide +kernel) (pa_cons (pv 1) (pa_cons (pe_glob (v := .ref cH) rfl gHo rfl) pa_nil)))) (pw_or1 (pt_val (pe_callB (show CallR _ _ (rIsX K a cls d) from call_isX hz hf) (by rfl) T.b_isinstance (by decide +kernel) (pa_cons (pv 1) (pa_cons (pe_glob (v := .ref cX) rfl gTe rfl) pa_nil))))))) (pss_one (ps_ret (pe_tup (pa_cons pe_str (pa_cons (pe_un un_neg (pe_int)) pa_nil))))) pss_nil)
          (pss_one (ps_ret (pe_tup (pa_cons (pe_xf Er.ip.xf Er.ip.n1 hz hf (pv 1)) (pa_cons (pe_xf Er.ip.xf Er.ip.n2 hz hf (pv 1)) pa_nil)))))))))), ?_⟩
    have err : ∀ (x : Str) (k : Int), houseFault d = fault x k → ∀ (dd : Addr) (H' : Hp), Same H H' → H' dd = some (.xd [("at", .int k), ("word", .str x)]) → ∀ t, H' t = none → Q (.ref t) (upd H' t (.tup [.str x, .int k])) := fun x k e dd H' s' hdd t ht => by
      refine q _ _ (s'.trans (same_upd ht)) ?_
      unfold checkedD
      rw [e]
      exact .tup (.inl (.inl upd_same)) (.cons (.str x) (.cons (.int k) .nil))
    have fine : houseFault d = none → ∀ H', Same H H' → ∀ t, H' t = none → Q (.ref t) (upd H' t (.tup [.str "done", .int (manyD d)])) := fun e H' s' t ht => by
      refine q _ _ (s'.trans (same_upd ht)) ?_
      unfold checkedD
      rw [e]
      exact .tup (.inl (.inl upd_same)) (.cons (.str _) (.cons (.int _) .nil))
    refine ⟨_, rfl, _, _, rfl, hd, _, rfl, ?_⟩
    cases isD .l d with
    | true =>
      refine iteT ⟨_, rfl, rfl, v, d, rfl, hd, hs, fun e H' s' => ⟨two_ok, fine e H' s'⟩, fun x k e dd H' s' hdd => ⟨true, Ki.mPP, fun _ a ha => ?_, fun h => nomatch h⟩⟩
      have hq := err x k e dd H' s' hdd
      exact ⟨_, rfl, cP, dd, _, .ref cA, .ref cA, true, rfl, rfl, Ki.eP, rfl, hdd, fun u r => r, kA (cP, true) (by simp), true, rfl, iteF ⟨_, rfl, cP, dd, _, .ref cB, .ref cB, true, rfl, rfl, Ki.eP, rfl, hdd, fun u r => r, kB (cP, true) (by simp), true, rfl, iteF ⟨_, rfl, cP, dd, _, .ty "ValueError", .type "ValueError", true, rfl, rfl, Ki.eP, rfl, hdd, fun u r => r, Ki.value, true, rfl, iteF ⟨_, rfl, cP, dd, _, .ref cH, .ref cH, false, rfl, rfl, Ki.eP, rfl, hdd, fun u r => r, kH (cP, false) (by simp), false, rfl, iteF ⟨_, rfl, cP, dd, _, .ref cX, .ref cX, false, rfl, rfl, Ki.eP, rfl, hdd, fun u r => r, kX (cP, false) (by simp), false, rfl, iteF ⟨_, rfl, rfl, rfl, dd, _, _, rfl, hdd, rfl, _, rfl, rfl, rfl, dd, _, _, rfl, hdd, rfl, two_ok, fun t ht => hq t ht⟩⟩⟩⟩⟩⟩
    | false =>
      refine iteF ⟨_, rfl, v, d, rfl, hd, hs, fun e H' s' => ⟨two_ok, fine e H' s'⟩, fun x k e dd H' s' hdd => ⟨true, Ki.mPP, fun _ a ha => ?_, fun h => nomatch h⟩⟩
      have hq := err x k e dd H' s' hdd
      exact ⟨_, rfl, cP, dd, _, .ref cA, .ref cA, true, rfl, rfl, Ki.eP, rfl, hdd, fun u r => r, kA (cP, true) (by simp), true, rfl, iteF ⟨_, rfl, cP, dd, _, .ref cB, .ref cB, true, rfl, rfl, Ki.eP, rfl, hdd, fun u r => r, kB (cP, true) (by simp), true, rfl, iteF ⟨_, rfl, cP, dd, _, .ty "ValueError", .type "ValueError", true, rfl, rfl, Ki.eP, rfl, hdd, fun u r => r, Ki.value, true, rfl, iteF ⟨_, rfl, cP, dd, _, .ref cH, .ref cH, false, rfl, rfl, Ki.eP, rfl, hdd, fun u r => r, kH (cP, false) (by simp), false, rfl, iteF ⟨_, rfl, cP, dd, _, .ref cX, .ref cX, false, rfl, rfl, Ki.eP, rfl, hdd, fun u r => r, kX (cP, false) (by simp), false, rfl, iteF ⟨_, rfl, rfl, rfl, dd, _, _, rfl, hdd, rfl, _, rfl, rfl, rfl, dd, _, _, rfl, hdd, rfl, two_ok, fun t ht => hq t ht⟩⟩⟩⟩⟩⟩
end
end V0
namespace V0
open PySem PySem.Spec PyProof.Rows L2
abbrev menu2 : PyData := menuD.getD 2 .none
abbrev menu3 : PyData := menuD.getD 3 .none
/-- the words that a fault is told with -/
def faultWords : List Str := ["shape", "places", "words", "word", "blank", "again"]
def faultOk (k : Int) (x : Str) : Bool := decide (x ∈ faultWords) && (decide (-1 ≤ k) && decide (k ≤ 1000000))
theorem words_fault_ok {p : Int} {x : Str} {j : Int} : ∀ {ws : List PyData} {seen : List Str} {k : Nat}, wordsFault p seen k ws = some (x, j) → x ∈ faultWords ∧ (k : Int) ≤ j ∧ j < k + ws.length
  | [], seen, k, h => by cases h
  | .str z :: r, seen, k, h => by
    simp only [wordsFault] at h
    have hl : ((PyData.str z :: r).length : Int) = r.length + 1 := by simp
    split at h
    · split at h
      · cases h
        exact ⟨by decide, by omega, by omega⟩
      · split at h
        · cases h
          exact ⟨by decide, by omega, by omega⟩
        · obtain ⟨h1, h2, h3⟩ := words_fault_ok h
          exact ⟨h1, by omega, by omega⟩
    · cases h
      exact ⟨by decide, by omega, by omega⟩
  | .none :: r, seen, k, h => by
    cases h
    exact ⟨by decide, by omega, by simp; omega⟩
  | .bool _ :: r, seen, k, h => by
    cases h
    exact ⟨by decide, by omega, by simp; omega⟩
  | .int _ :: r, seen, k, h => by
    cases h
    exact ⟨by decide, by omega, by simp; omega⟩
  | .list _ :: r, seen, k, h => by
    cases h
    exact ⟨by decide, by omega, by simp; omega⟩
  | .tuple _ :: r, seen, k, h => by
    cases h
    exact ⟨by decide, by omega, by simp; omega⟩
  | .dict _ :: r, seen, k, h => by
    cases h
    exact ⟨by decide, by omega, by simp; omega⟩
theorem house_fault_ok {d : PyData} {x : Str} {k : Int} (hs : small d = true) (h : houseFault d = some (x, k)) : x ∈ faultWords ∧ -1 ≤ k ∧ k ≤ 1000000 := by
  unfold houseFault at h
  split at h
  · split at h
    · split at h
      · cases h
        exact ⟨by decide, by omega, by omega⟩
      · split at h
        · rename_i ws
          obtain ⟨h1, h2, h3⟩ := words_fault_ok h
          have := small_len (small_tup hs (x := .tuple ws) (by simp))
          exact ⟨h1, by omega, by omega⟩
        · cases h
          exact ⟨by decide, by omega, by omega⟩
    · cases h
      exact ⟨by decide, by omega, by omega⟩
  · cases h
    exact ⟨by decide, by omega, by omega⟩
theorem wt_intL {z : Int} (h : z.natAbs < 2000000) : wt (.int z) = 1930 := by
  simp only [wt]
  have e : z.natAbs.log2 < 1920 := by
    by_cases hz : z.natAbs = 0
    · rw [hz]
      decide
    · exact (Nat.log2_lt hz).mpr (Nat.lt_of_lt_of_le h (Nat.le_trans (by decide : 2000000 ≤ 2 ^ 21) (Nat.pow_le_pow_right (by decide) (by decide))))
  rw [if_pos e]
theorem fault_wt : ∀ x ∈ ("done" : Str) :: faultWords, wt (.str x) ≤ 100 := by decide +kernel
theorem pair_facts {x : Str} {k : Int} (hx : x ∈ ("done" : Str) :: faultWords) (h : k.natAbs < 2000000) : plainD (.tuple [.str x, .int k]) = true ∧ (PyData.tuple [.str x, .int k]).depth ≤ 1 ∧ small (.tuple [.str x, .int k]) = true := by
  have d1 : (PyData.tuple [.str x, .int k]).depth = 1 := by simp [PyData.depth, PyData.depthAll]
  refine ⟨by simp [plainD, plainAll], by omega, small_mk ?_ (by omega)⟩
  have e : wt (.tuple [.str x, .int k]) = 8 + (wt (.str x) + 2 + (wt (.int k) + 2 + 0)) := by simp only [wt, wtAll]
  have := fault_wt x hx
  rw [e, wt_intL h]
  omega
theorem checked_facts {d : PyData} (hs : small d = true) : plainD (checkedD d) = true ∧ (checkedD d).depth ≤ 1 ∧ small (checkedD d) = true := by
  unfold checkedD
  cases h : houseFault d with
  | none =>
    obtain ⟨p, ws, rfl⟩ := house_shape h
    have := small_len (small_tup hs (x := .tuple ws) (by simp))
    exact pair_facts (by decide) (by show ((ws.length : Nat) : Int).natAbs < 2000000; omega)
  | some y =>
    obtain ⟨x, k⟩ := y
    obtain ⟨h1, h2, h3⟩ := house_fault_ok hs h
    exact pair_facts (List.mem_cons_of_mem _ h1) (by omega)
section
variable {K : PySem.W.Frag} {p : Addr} {H0 : Hp} {σ : L2.St} {i : Nat} {d : PyData} {ds : List PyData}
theorem yp_ix {m : V} {z : Int} (hv : σ[i]? = some (some m)) (hm : Dp K (del H0 p) m (.list ds)) (h0 : 0 ≤ z) (hd : ds[z.toNat]? = some d) : YP K p H0 σ (tOp (rIxL K) (tVar i) (tC (.int z))) d := fun H Q s b k => by
  cases dp_mono (same_del s) hm with
  | @lst a xs _ hq ha =>
    obtain ⟨v, e, hdv⟩ := dpa_get ha hd
    exact ⟨_, hv, a, xs, z, v, rfl, rfl, Same.seq (del_le _ p) hq, at_of (by omega) e, k _ _ (Same.refl H) hdv⟩
end
section
variable {P : Program} {w : World} {K : PySem.W.Frag} {mg : Str → Option Value} {base : Heap} {cP cU cT : Addr}
abbrev s__law_checker : Stmt := topS 49
theorem sc__law_checker : FnScope ["_law_pool_here", "_law_n", "_law_row_here", "_law_menu", "_law_k", "_law_v", "_law_kept", "_law_due"] ["_law_pool_here", "_law_n", "_law_row_here"] (defScope s__law_checker) := ⟨rfl, rfl, rfl, by decide +kernel, rfl, by decide +kernel, by decide +kernel⟩
theorem ok__law_checker (Er : Errs K mg cP cU cT) (Ki : Kin K mg cP cU cT) (T : Tops K mg) : Dg P w K mg base CX0 7 "_law_checker" s__law_checker ["_law_pool_here", "_law_n", "_law_row_here"] (spKinds K) := by
  have G__law_things := ok__law_things (P := P) (w := w) (base := base) T
  have G__law_spoilt := ok__law_spoilt (P := P) (w := w) (base := base) T
  have G__law_fault := ok__law_fault (P := P) (w := w) (base := base) T
  have G__law_checked := ok__law_checked (P := P) (w := w) (base := base) Er Ki T
  have G__law_same := ok__law_same (P := P) (w := w) (base := base) T 1
  refine dg_mk (k := 7-1) T.d__law_checker sc__law_checker (fun vs H Q E h => ?_) (fun _ _ _ _ _ _ us hl => match us, hl with | [_, _, _], _ => rfl) (fun f cdv A outer s H vs Q E gd hr h => ?_)
  · obtain ⟨p, n, l, ws, rfl, _⟩ := h
    rfl
  · obtain ⟨p, n, l, ws, rfl, hP, hl, nlp, n1, n3, hok, q⟩ := h
    refine ⟨_, (pss_cons (ps_set (i := 3) sc__law_checker.nd rfl (Or.inl rfl) (pe_df0 G__law_things (hr.mono (by decide)) (by rfl) pass0))
        (pss_cons (ps_for PassesOwn.never rfl (pi_range1 (by rfl) T.b_range (pa_cons (pe_int) pa_nil)) (pg_name (i := 4) sc__law_checker.nd rfl (Or.inl rfl)) (pss_cons (ps_set (i := 5) sc__law_checker.nd rfl (Or.inl rfl) (pe_ix (show IxR _ (rIxL K) from ix_list) (pe_lst (pa_cons (pe_tup (pa_cons (pv 1) (pa_cons (pe_callTy call_tuple_of (by rfl) T.b_tuple (by decide +kernel) (pa_cons (pv 2) pa_nil)) pa_nil))) (pa_cons (pe_ix (show IxR _ (rIxL K) from ix_list) (pv 3) (pe_int) (fun _ _ => rfl)) (pa_cons (pe_ix (show IxR _ (rIxL K) from ix_list) (pv 3) (pe_int) (fun _ _ => rfl)) (pa_cons (pe_non) pa_nil))))) (pe_callB (call_min2 rfl) (by rfl) T.b_min (by decide +kernel) (pa_cons (pv 4) (pa_cons (pe_int) pa_nil))) (fun _ _ => rfl)))
        (pss_cons (ps_if (pt_cmpR op_gt (pv 4) (pe_int) (nomark _)) (pss_one (ps_set (i := 5) sc__law_checker.nd rfl (Or.inl rfl) (pe_df G__law_spoilt (hr.mono (by decide)) (by rfl) pass0 (pa_cons (pv 0) (pa_cons (pv 1) (pa_cons (pv 2) pa_nil)))))) pss_nil)
        (pss_cons (ps_set (i := 6) sc__law_checker.nd rfl (Or.inl rfl) (pe_callB (call_reprD gd hr.units) (by rfl) T.b_repr (by decide +kernel) (pa_cons (pv 5) pa_nil)))
        (pss_cons (ps_set (i := 7) sc__law_checker.nd rfl (Or.inl rfl) (pe_df G__law_fault (hr.mono (by decide)) (by rfl) pass0 (pa_cons (pv 5) pa_nil)))
        (pss_cons (ps_if (pt_cmpR op_isN (pv 7) (pe_non) (nomark _)) (pss_one (ps_set (i := 7) sc__law_checker.nd rfl (Or.inl rfl) (pe_tup (pa_cons (pe_str) (pa_cons (pe_callB call_len (by rfl) T.b_len (by decide +kernel) (pa_cons (pe_ix (show IxR _ (rIxT K) from ix_tup) (pv 5) (pe_int) (fun _ _ => rfl)) pa_nil)) pa_nil))))) pss_nil)
        (pss_one (ps_if (PW.pt (pw_or (pt_not (pt_val (pe_df G__law_same (hr.mono (by decide)) (by rfl) pass0 (pa_cons (pv 7) (pa_cons (pe_df G__law_checked (hr.mono (by decide)) (by rfl) pass0 (pa_cons (pv 5) pa_nil)) pa_nil))))) (pw_or1 (pt_cmpR op_ne (pe_callB (call_reprD gd hr.units) (by rfl) T.b_repr (by decide +kernel) (pa_cons (pv 5) pa_nil)) (pv 6) (nomark _))))) (pss_one (ps_ret (pe_bl))) pss_nil))))))))
        (pss_one (ps_ret (pe_bl))))), ?_⟩
    have hpn : H p ≠ none := by
      obtain ⟨g, m, e, _⟩ := hP
      rw [e]
      simp
    refine ⟨rfl, fun vm H1 s1 hm0 => ?_⟩
    have hm1 : Dp K (del H1 p) vm (.list menuD) := dp_mono (nw_del hpn) hm0
    have S1 : Sam p H H1 := Sam.of hP s1
    refine ⟨14, rfl, by decide, by decide, for_it walk_r0 (fun i σ H' => Sam p H1 H' ∧ ∃ y4 y5 y6 y7, σ = [some (.ref p), some (.int n), some (.ref l), some vm, y4, y5, y6, y7]) ⟨⟨Same.refl _, S1.2⟩, none, none, none, none, rfl⟩ (fun _ _ _ _ _ => trivial) (fun i x σ H2 H3 hi hp hy => ?_) (fun σ H2 hp => ?_)⟩
    · obtain ⟨S2, y4, y5, y6, y7, rfl⟩ := hp
      obtain ⟨rfl, rfl⟩ := hy
      have hl3 : H3 l = some (.lst (ws.map V.str)) := sam_at (S1.trans S2) nlp hl
      have hm3 : Dp K (del H3 p) vm (.list menuD) := dp_mono S2.1 hm1
      have hsmall : ∀ d ∈ [PyData.tuple [.int n, .tuple (ws.map .str)], menu2, menu3, .none], small d = true := fun d hd => by
        simp only [List.mem_cons, List.not_mem_nil, or_false] at hd
        rcases hd with rfl | rfl | rfl | rfl
        · exact (small_words hok n1 n3).2.1
        · exact List.all_eq_true.mp menu_small _ (List.mem_of_getElem? (i := 2) rfl)
        · exact List.all_eq_true.mp menu_small _ (List.mem_of_getElem? (i := 3) rfl)
        · decide +kernel
      show tOp (rIxL K) _ _ [some (.ref p), some (.int n), some (.ref l), some vm, some (.int (i : Nat)), y5, y6, y7] H3 _
      refine (yp_lst (p := p) (K := K) (H0 := H3) (σ := [some (.ref p), some (.int n), some (.ref l), some vm, some (.int (i : Nat)), y5, y6, y7]) (ds := [PyData.tuple [.int n, .tuple (ws.map .str)], menu2, menu3, .none]) (yps_cons (yp_tup (yps_cons (yp_var (i := 1) rfl (.int n)) (yps_cons (yp_tof (i := 2) rfl hl3 (dpa_strs ws)) yps_nil))) (yps_cons (yp_ix (i := 3) (z := 2) rfl hm3 (by decide) rfl) (yps_cons (yp_ix (i := 3) (z := 3) rfl hm3 (by decide) rfl) (yps_cons yp_non yps_nil)))) (by show (4 : Nat) ≤ 1000; decide)) H3 _ (Same.refl H3) S2.2 (fun v0 H4 s4 hv0 => ?_)
      refine ⟨_, rfl, _, _, rfl, ?_⟩
      have S4 : Sam p H1 H4 := S2.trans (Sam.of S2.2 s4)
      cases hv0 with
      | @lst a0 xs0 _ hq0 ha0 =>
      obtain ⟨v, d, hv, hdm, hdv⟩ := dpa_at ha0 (r := if (3 : Int) < (i : Nat) then 3 else (i : Nat)) (by split <;> omega) (by show _ < (4 : Int); split <;> omega)
      have hds := hsmall d hdm
      have hd4 := dp_mono (del_le _ p) hdv
      refine ⟨a0, xs0, _, v, rfl, rfl, Same.seq (del_le _ p) hq0, hv, ?_⟩
      refine ⟨_, rfl, _, _, rfl, rfl, _, rfl, ?_⟩
      by_cases hk : (2 : Int) < (i : Nat)
      · rw [decide_eq_true hk]
        have hl4 : H4 l = some (.lst (ws.map V.str)) := sam_at (S1.trans S4) nlp hl
        clear hv hdm hdv hds hd4 d
        refine iteT ⟨_, rfl, _, rfl, _, rfl, p, n, l, ws, rfl, S4.2, hl4, nlp, n1, n3, hok, fun v d H5 s5 hd5p hds => ?_⟩
        have hd5 := dp_mono (del_le _ p) hd5p
        have S5 := S4.trans s5
        have cf := checked_facts hds
        refine ⟨_, rfl, v, d, rfl, hd5, hds, ?_⟩
        refine ⟨_, rfl, v, d, rfl, hd5, hds, fun r Hf sf hr => ?_⟩
        refine ⟨_, rfl, rfl, _, rfl, ?_⟩
        have hdf := dp_mono sf hd5
        have Sf := (S5).trans (Sam.of (S5).2 sf)
        rw [fault_non hr]
        cases hf : houseFault d with
        | none =>
          have hck : checkedD d = .tuple [.str "done", .int (manyD d)] := by unfold checkedD; rw [hf]
          have hdf0 := hdf
          obtain ⟨pp, wsx, rfl⟩ := house_shape hf
          cases hdf with
          | @tup a xs _ hq ha =>
          obtain ⟨v1, hv1, hd1⟩ := dpa_get (i := 1) ha rfl
          cases hd1 with
          | @tup b ys _ hr1 hb =>
          refine iteT ⟨_, rfl, a, xs, 1, _, rfl, rfl, hq, at_of (j := 1) rfl hv1, _, ys.length, rfl, .inr ⟨ys, hr1, rfl⟩, two_ok, fun t ht => ?_⟩
          have st := same_upd ht (o := .tup [.str "done", .int (ys.length : Nat)])
          have hdue : Dp K (upd Hf t (.tup [.str "done", .int (ys.length : Nat)])) (.ref t) (checkedD (.tuple [.int pp, .tuple wsx])) := by
            rw [hck, show manyD (.tuple [.int pp, .tuple wsx]) = ys.length from (dpa_len hb).symm]
            exact .tup (.inl (.inl upd_same)) (.cons (.str _) (.cons (.int _) .nil))
          have hdt := dp_mono st hdf0
          have St := Sf.trans (Sam.of Sf.2 st)
          generalize PyData.tuple [.int pp, .tuple wsx] = d at *
          refine ⟨_, rfl, _, rfl, _, d, rfl, hdt, hds, fun rc Hc s3 hrc => ⟨_, _, checkedD d, rfl, dp_mono s3 hdue, hrc, cf.1, cf.2.1, cf.2.2, fun Hd s4 => ⟨_, rfl, ?_⟩⟩⟩
          refine iteF ⟨_, rfl, _, d, rfl, dp_mono (s3.trans s4) hdt, hds, _, rfl, rfl, _, rfl, ?_⟩
          rw [decide_eq_true rfl]
          exact iteF ⟨(St).trans (Sam.of (St).2 (s3.trans s4)), _, _, _, _, rfl⟩
        | some y =>
          obtain ⟨x, k⟩ := y
          have hck : checkedD d = .tuple [.str x, .int k] := by unfold checkedD; rw [hf]
          rw [hf] at hr
          have hdue : Dp K Hf r (checkedD d) := by
            rw [hck]
            exact hr
          refine iteF ?_
          refine ⟨_, rfl, _, rfl, _, d, rfl, hdf, hds, fun rc Hc s3 hrc => ⟨_, _, checkedD d, rfl, dp_mono s3 hdue, hrc, cf.1, cf.2.1, cf.2.2, fun Hd s4 => ⟨_, rfl, ?_⟩⟩⟩
          refine iteF ⟨_, rfl, _, d, rfl, dp_mono (s3.trans s4) hdf, hds, _, rfl, rfl, _, rfl, ?_⟩
          rw [decide_eq_true rfl]
          exact iteF ⟨(Sf).trans (Sam.of (Sf).2 (s3.trans s4)), _, _, _, _, rfl⟩
      · rw [decide_eq_false hk]
        refine iteF ?_
        have cf := checked_facts hds
        refine ⟨_, rfl, v, d, rfl, hd4, hds, ?_⟩
        refine ⟨_, rfl, v, d, rfl, hd4, hds, fun r Hf sf hr => ?_⟩
        refine ⟨_, rfl, rfl, _, rfl, ?_⟩
        have hdf := dp_mono sf hd4
        have Sf := (S4).trans (Sam.of (S4).2 sf)
        rw [fault_non hr]
        cases hf : houseFault d with
        | none =>
          have hck : checkedD d = .tuple [.str "done", .int (manyD d)] := by unfold checkedD; rw [hf]
          have hdf0 := hdf
          obtain ⟨pp, wsx, rfl⟩ := house_shape hf
          cases hdf with
          | @tup a xs _ hq ha =>
          obtain ⟨v1, hv1, hd1⟩ := dpa_get (i := 1) ha rfl
          cases hd1 with
          | @tup b ys _ hr1 hb =>
          refine iteT ⟨_, rfl, a, xs, 1, _, rfl, rfl, hq, at_of (j := 1) rfl hv1, _, ys.length, rfl, .inr ⟨ys, hr1, rfl⟩, two_ok, fun t ht => ?_⟩
          have st := same_upd ht (o := .tup [.str "done", .int (ys.length : Nat)])
          have hdue : Dp K (upd Hf t (.tup [.str "done", .int (ys.length : Nat)])) (.ref t) (checkedD (.tuple [.int pp, .tuple wsx])) := by
            rw [hck, show manyD (.tuple [.int pp, .tuple wsx]) = ys.length from (dpa_len hb).symm]
            exact .tup (.inl (.inl upd_same)) (.cons (.str _) (.cons (.int _) .nil))
          have hdt := dp_mono st hdf0
          have St := Sf.trans (Sam.of Sf.2 st)
          generalize PyData.tuple [.int pp, .tuple wsx] = d at *
          refine ⟨_, rfl, _, rfl, _, d, rfl, hdt, hds, fun rc Hc s3 hrc => ⟨_, _, checkedD d, rfl, dp_mono s3 hdue, hrc, cf.1, cf.2.1, cf.2.2, fun Hd s4 => ⟨_, rfl, ?_⟩⟩⟩
          refine iteF ⟨_, rfl, _, d, rfl, dp_mono (s3.trans s4) hdt, hds, _, rfl, rfl, _, rfl, ?_⟩
          rw [decide_eq_true rfl]
          exact iteF ⟨(St).trans (Sam.of (St).2 (s3.trans s4)), _, _, _, _, rfl⟩
        | some y =>
          obtain ⟨x, k⟩ := y
          have hck : checkedD d = .tuple [.str x, .int k] := by unfold checkedD; rw [hf]
          rw [hf] at hr
          have hdue : Dp K Hf r (checkedD d) := by
            rw [hck]
            exact hr
          refine iteF ?_
          refine ⟨_, rfl, _, rfl, _, d, rfl, hdf, hds, fun rc Hc s3 hrc => ⟨_, _, checkedD d, rfl, dp_mono s3 hdue, hrc, cf.1, cf.2.1, cf.2.2, fun Hd s4 => ⟨_, rfl, ?_⟩⟩⟩
          refine iteF ⟨_, rfl, _, d, rfl, dp_mono (s3.trans s4) hdf, hds, _, rfl, rfl, _, rfl, ?_⟩
          rw [decide_eq_true rfl]
          exact iteF ⟨(Sf).trans (Sam.of (Sf).2 (s3.trans s4)), _, _, _, _, rfl⟩
    · obtain ⟨S2, y4, y5, y6, y7, rfl⟩ := hp
      exact q _ (S1.trans S2)
end
end V0
namespace V0
open PySem PySem.Spec PyProof.Rows L2
/-! ### texts: figures, fields -/
def cl (z : Str) : List Nat := z.cps.toList
theorem cl_len (z : Str) : (cl z).length = z.length := by
  show z.cps.toList.length = z.cps.size
  simp
theorem cl_tx (l : List Nat) : cl (tx l) = l := by simp [cl, tx]
theorem cl_inj {a b : Str} (h : cl a = cl b) : a = b := by rw [tx_of a, tx_of b]; exact congrArg tx h
def asc (z : Str) : Prop := ∀ c ∈ cl z, c < 128
def isFig (c : Nat) : Bool := decide (48 ≤ c) && decide (c ≤ 57)
/-- a number in figures alone, no 0 ahead -/
def figB (z : Str) : Bool := (decide (0 < z.length) && (cl z).all isFig) && (decide (z = ("0" : Str)) || !decide ((cl z)[0]? = some 48))
def numV (z : Str) : Int := (NumText.digitsVal (cl z) : Nat)
def figV (z : Str) : Int := if figB z = true then numV z else -1
theorem asc_isascii {z : Str} (h : asc z) : Txt.isascii z = true := by
  show z.cps.all _ = true
  rw [Array.all_eq_true']
  intro c hc
  exact decide_eq_true (h c (by simpa [cl] using hc))
theorem fig_inR : ∀ c, c < 128 → inR 48 57 ⟨#[c]⟩ = isFig c := by decide +kernel
theorem asc_isdigit {z : Str} (h : asc z) : Txt.isdigit z = (decide (0 < z.length) && (cl z).all isFig) := by
  show (decide (z.length > 0) && z.cps.all Unicode.isDigit) = _
  congr 1
  rw [Bool.eq_iff_iff, Array.all_eq_true', List.all_eq_true]
  constructor
  · intro k c hc
    rw [← fig_inR c (h c hc), ← cls_isdigit c (h c hc)]
    exact k c (by simpa [cl] using hc)
  · intro k c hc
    have hc' : c ∈ cl z := by simpa [cl] using hc
    rw [cls_isdigit c (h c hc'), fig_inR c (h c hc')]
    exact k c hc'
theorem fig_digits {z : Str} (h : figB z = true) : NumText.AllDigits z.cps.toList ∧ z.cps.toList ≠ [] := by
  have h1 := (Bool.and_eq_true_iff.mp (Bool.and_eq_true_iff.mp h).1)
  refine ⟨fun c hc => ?_, fun e => ?_⟩
  · have := List.all_eq_true.mp h1.2 c hc
    have h2 := Bool.and_eq_true_iff.mp this
    exact ⟨of_decide_eq_true h2.1, of_decide_eq_true h2.2⟩
  · have h3 := of_decide_eq_true h1.1
    rw [← cl_len] at h3
    unfold cl at h3
    rw [e] at h3
    exact absurd h3 (by decide)
theorem fig_int {z : Str} (h : figB z = true) (hl : z.length ≤ 640) : intText? z = some (numV z) := by
  obtain ⟨h1, h2⟩ := fig_digits h
  exact intText_digits h1 h2 (by omega)
theorem numV_nat (z : Str) : 0 ≤ numV z := Int.natCast_nonneg _
theorem cut_asc {z : Str} (h : asc z) (a b : Option Int) : asc (cutS z a b) := fun c hc => h c (by
  have h1 : c ∈ List.take (HT.sIx z.length z.length b - HT.sIx z.length 0 a) (List.drop (HT.sIx z.length 0 a) z.cps.toList) := by simpa [cl, cutS] using hc
  exact List.mem_of_mem_drop (List.mem_of_mem_take h1))
theorem cut_len (z : Str) (a b : Option Int) : (cutS z a b).length ≤ z.length := by
  rw [← cl_len, ← cl_len]
  have e : cl (cutS z a b) = List.take (HT.sIx z.length z.length b - HT.sIx z.length 0 a) (List.drop (HT.sIx z.length 0 a) z.cps.toList) := by simp [cl, cutS]
  rw [e, List.length_take, List.length_drop]
  show _ ≤ z.cps.toList.length
  omega
/-- the first sign, and the rest -/
def fst1 (z : Str) : Str := cutS z none (some 1)
def rst1 (z : Str) : Str := cutS z (some 1) none
theorem cl_fst (z : Str) : cl (fst1 z) = (cl z).take 1 := by
  have h : (cl z).length = z.length := cl_len z
  simp only [fst1, cutS, cl, HT.sIx]
  rw [if_neg (by decide)]
  simp only [List.drop_zero, Nat.sub_zero]
  show List.take (min (1 : Int).toNat z.length) z.cps.toList = _
  rw [show (1 : Int).toNat = 1 from rfl]
  by_cases h0 : 1 ≤ z.length
  · rw [Nat.min_eq_left h0]
  · have h1 : z.cps.toList = [] := List.length_eq_zero_iff.mp (by unfold cl at h; omega)
    rw [h1]
    simp
theorem cl_rst (z : Str) : cl (rst1 z) = (cl z).drop 1 := by
  have h : (cl z).length = z.length := cl_len z
  simp only [rst1, cutS, cl, HT.sIx]
  rw [if_neg (by decide)]
  show List.take (z.length - min (1 : Int).toNat z.length) (List.drop (min (1 : Int).toNat z.length) z.cps.toList) = _
  rw [show (1 : Int).toNat = 1 from rfl]
  by_cases h0 : 1 ≤ z.length
  · rw [Nat.min_eq_left h0, List.take_of_length_le]
    rw [List.length_drop]
    unfold cl at h
    omega
  · have h1 : z.cps.toList = [] := List.length_eq_zero_iff.mp (by unfold cl at h; omega)
    rw [h1]
    simp
def xyzB (z : Str) : Bool := decide (fst1 z ∈ ([("X" : Str), "Y", "Z"] : List Str))
theorem xyz_head {z : Str} (h : xyzB z = true) : ∃ c, z.cps[0]? = some c ∧ fst1 z = tx [c] ∧ c ∈ [88, 89, 90] := by
  have h1 := of_decide_eq_true h
  cases hz : cl z with
  | nil =>
    have e : fst1 z = tx [] := cl_inj (by rw [cl_fst, hz, cl_tx]; rfl)
    rw [e] at h1
    exact absurd h1 (by decide)
  | cons c r =>
    have e : fst1 z = tx [c] := cl_inj (by rw [cl_fst, hz, cl_tx]; rfl)
    refine ⟨c, ?_, e, ?_⟩
    · rw [← Array.getElem?_toList]
      show (cl z)[0]? = _
      rw [hz]
      rfl
    · rw [e] at h1
      simp only [List.mem_cons, List.not_mem_nil, or_false] at h1 ⊢
      rcases h1 with h1 | h1 | h1
      · exact .inl (List.head_eq_of_cons_eq (tx_inj h1))
      · exact .inr (.inl (List.head_eq_of_cons_eq (tx_inj h1)))
      · exact .inr (.inr (List.head_eq_of_cons_eq (tx_inj h1)))
/-- a field of a short line may stand -/
def fieldB (n : Int) (low : Int) (z : Str) : Bool := (xyzB z && figB (rst1 z)) && (decide (low ≤ numV (rst1 z)) && decide (numV (rst1 z) < n))
end V0
namespace V0
open PySem PySem.Spec PyProof.Rows L2
def spBlankOf : Sp := fun vs H Q _ => ∃ n : Int, vs = [.int n] ∧ 0 ≤ n ∧ n ≤ 1000 ∧ ∀ H', Same H H' → Q (.str (tx (List.replicate n.toNat 73))) H'
def spFigs : Sp := fun vs H Q _ => ∃ z : Str, vs = [.str z] ∧ asc z ∧ z.length ≤ 640 ∧ ∀ H', Same H H' → Q (.bl (figB z)) H'
def spFigV : Sp := fun vs H Q _ => ∃ z : Str, vs = [.str z] ∧ asc z ∧ z.length ≤ 640 ∧ ∀ H', Same H H' → Q (.int (figV z)) H'
section
variable {P : Program} {w : World} {K : PySem.W.Frag} {mg : Str → Option Value} {base : Heap} {cP cU cT : Addr}
abbrev s_blank_of : Stmt := topS 26
theorem sc_blank_of : FnScope ["places"] ["places"] (defScope s_blank_of) := ⟨rfl, rfl, rfl, by decide +kernel, rfl, by decide +kernel, by decide +kernel⟩
theorem ok_blank_of  (T : Tops K mg) : Df P w K mg base CX0 1 "blank_of" s_blank_of ["places"] spBlankOf := by
  refine df_mk (k := 1-1) T.d_blank_of sc_blank_of (fun vs H Q E h => ?_) (fun _ _ _ _ _ _ us hl => match us, hl with | [_], _ => rfl) (fun f cdv A outer s H vs Q E hr h => ?_)
  · obtain ⟨n, rfl, _⟩ := h
    rfl
  · obtain ⟨n, rfl, h0, h1, q⟩ := h
    refine ⟨_, (pss_one (ps_ret (pe_op op_repS (pe_str) (pv 0)))), ?_⟩
    exact ⟨_, rfl, 73, n, rfl, rfl, by omega, by omega, q H (Same.refl H)⟩
abbrev s_is_figures : Stmt := topS 28
theorem sc_is_figures : FnScope ["text"] ["text"] (defScope s_is_figures) := ⟨rfl, rfl, rfl, by decide +kernel, rfl, by decide +kernel, by decide +kernel⟩
theorem ok_is_figures  (T : Tops K mg) : Df P w K mg base CX0 1 "is_figures" s_is_figures ["text"] spFigs := by
  refine df_mk (k := 1-1) T.d_is_figures sc_is_figures (fun vs H Q E h => ?_) (fun _ _ _ _ _ _ us hl => match us, hl with | [_], _ => rfl) (fun f cdv A outer s H vs Q E hr h => ?_)
  · obtain ⟨z, rfl, _⟩ := h
    rfl
  · obtain ⟨z, rfl, hz, hl, q⟩ := h
    refine ⟨_, (pss_cons (ps_if (PW.pt (pw_or (pt_not (pt_val (pe_bm0 PySem.F.plainAttrs_str PySem.F.slot_str_isascii PySem.F.type_str_isascii mt_isascii (pv 0)))) (pw_or1 (pt_not (pt_val (pe_bm0 PySem.F.plainAttrs_str PySem.F.slot_str_isdigit PySem.F.type_str_isdigit mt_isdigit (pv 0))))))) (pss_one (ps_ret (pe_bl))) pss_nil)
        (pss_one (ps_ret ((pe_or (pe_cmpR op_eq (pv 0) (pe_str) (nomark _)) (pe_one (pe_cmpR op_ne (pe_item_str (pv 0) (pe_int) (fun _ _ => rfl)) (pe_str) (nomark _)))))))), ?_⟩
    have e1 := asc_isascii hz
    have e2 := asc_isdigit hz
    refine ⟨_, rfl, rfl, z, rfl, rfl, trivial, _, rfl, ?_⟩
    rw [e1]
    refine iteF ⟨_, rfl, rfl, z, rfl, rfl, trivial, _, rfl, ?_⟩
    rw [e2]
    cases hd : (decide (0 < z.length) && (cl z).all isFig) with
    | false =>
      have hf : figB z = false := by unfold figB; rw [hd]; rfl
      rw [hf] at q
      exact iteT (q H (Same.refl H))
    | true =>
      have h0 : 0 < z.length := of_decide_eq_true (Bool.and_eq_true_iff.mp hd).1
      refine iteF ⟨_, rfl, rfl, _, rfl, ?_⟩
      by_cases h1 : z = ("0" : Str)
      · have hf : figB z = true := by unfold figB; rw [hd, decide_eq_true h1]; rfl
        rw [hf] at q
        rw [show decide (V.str z = V.str ("0" : Str)) = true from decide_eq_true (by rw [h1])]
        exact iteT (q H (Same.refl H))
      · rw [show decide (V.str z = V.str ("0" : Str)) = false from decide_eq_false fun e => h1 (V.str.inj e)]
        obtain ⟨c, hc⟩ : ∃ c, z.cps[0]? = some c := ⟨z.cps[0]'h0, Array.getElem?_eq_getElem h0⟩
        refine iteF ⟨_, rfl, z, 0, c, rfl, rfl, by decide, by decide, by omega, hc, rfl, ?_⟩
        have hcl : (cl z)[0]? = some c := by unfold cl; rw [Array.getElem?_toList]; exact hc
        have hf : figB z = !decide (c = 48) := by
          unfold figB
          rw [hd, decide_eq_false h1, hcl, Bool.true_and, Bool.false_or]
          exact congrArg not (decide_eq_decide.mpr ⟨fun e => Option.some.inj e, fun e => congrArg some e⟩)
        rw [hf] at q
        have e3 : decide (V.str (tx [c]) = V.str ("0" : Str)) = decide (c = 48) := decide_eq_decide.mpr ⟨fun e => List.head_eq_of_cons_eq (tx_inj (V.str.inj e : tx [c] = tx [48])), fun e => by rw [e]; rfl⟩
        have q2 := q H (Same.refl H)
        rw [← e3] at q2
        exact q2
abbrev s__law_figures : Stmt := topS 51
theorem sc__law_figures : FnScope ["_law_s"] ["_law_s"] (defScope s__law_figures) := ⟨rfl, rfl, rfl, by decide +kernel, rfl, by decide +kernel, by decide +kernel⟩
theorem ok__law_figures  (T : Tops K mg) : Df P w K mg base CX0 1 "_law_figures" s__law_figures ["_law_s"] spFigV := by
  refine df_mk (k := 1-1) T.d__law_figures sc__law_figures (fun vs H Q E h => ?_) (fun _ _ _ _ _ _ us hl => match us, hl with | [_], _ => rfl) (fun f cdv A outer s H vs Q E hr h => ?_)
  · obtain ⟨z, rfl, _⟩ := h
    rfl
  · obtain ⟨z, rfl, hz, hl, q⟩ := h
    refine ⟨_, (pss_cons (ps_if (PW.pt (pw_or (pt_not (pt_val (pe_bm0 PySem.F.plainAttrs_str PySem.F.slot_str_isdigit PySem.F.type_str_isdigit mt_isdigit (pv 0)))) (pw_or1 (PW.pt (pw_and (pt_cmpR op_gt (pe_callB call_len (by rfl) T.b_len (by decide +kernel) (pa_cons (pv 0) pa_nil)) (pe_int) (nomark _)) (pw_and1 (pt_cmpR op_eq (pe_item_str (pv 0) (pe_int) (fun _ _ => rfl)) (pe_str) (nomark _)))))))) (pss_one (ps_ret (pe_un un_neg (pe_int)))) pss_nil)
        (pss_one (ps_ret (pe_callTy call_int_str (by rfl) T.b_int (by decide +kernel) (pa_cons (pv 0) pa_nil))))), ?_⟩
    have e2 := asc_isdigit hz
    refine ⟨_, rfl, rfl, z, rfl, rfl, trivial, _, rfl, ?_⟩
    rw [e2]
    cases hd : (decide (0 < z.length) && (cl z).all isFig) with
    | false =>
      have hf : figB z = false := by unfold figB; rw [hd]; rfl
      have hv : figV z = -1 := by unfold figV; rw [hf]; rfl
      rw [hv] at q
      exact iteT (iteT ⟨1, rfl, q H (Same.refl H)⟩)
    | true =>
      have h0 : 0 < z.length := of_decide_eq_true (Bool.and_eq_true_iff.mp hd).1
      obtain ⟨c, hc⟩ : ∃ c, z.cps[0]? = some c := ⟨z.cps[0]'h0, Array.getElem?_eq_getElem h0⟩
      have hcl : (cl z)[0]? = some c := by unfold cl; rw [Array.getElem?_toList]; exact hc
      have e0 : decide ((cl z)[0]? = some 48) = decide (c = 48) := by
        rw [hcl]
        exact decide_eq_decide.mpr ⟨fun e => Option.some.inj e, fun e => congrArg some e⟩
      have whole : figB z = true → Q (.int (numV z)) H := fun hf => by
        have hv : figV z = numV z := by unfold figV; rw [hf]; rfl
        rw [← hv]
        exact q H (Same.refl H)
      refine iteF ⟨_, rfl, _, z.length, rfl, ⟨by rw [sizeLine_eq]; omega, rfl⟩, _, _, rfl, rfl, _, rfl, ?_⟩
      by_cases h1 : (1 : Int) < (z.length : Nat)
      · rw [decide_eq_true h1]
        have hn : ¬ z = ("0" : Str) := fun e => by
          rw [e] at h1
          exact absurd h1 (by decide)
        refine iteT ⟨_, rfl, z, 0, c, rfl, rfl, by decide, by decide, by omega, hc, rfl, _, rfl, ?_⟩
        have e3 : decide (V.str (tx [c]) = V.str ("0" : Str)) = decide (c = 48) := decide_eq_decide.mpr ⟨fun e => List.head_eq_of_cons_eq (tx_inj (V.str.inj e : tx [c] = tx [48])), fun e => by rw [e]; rfl⟩
        by_cases h48 : c = 48
        · have hf : figB z = false := by unfold figB; rw [hd, decide_eq_false hn, e0, decide_eq_true h48]; rfl
          have hv : figV z = -1 := by unfold figV; rw [hf]; rfl
          rw [hv] at q
          rw [show decide (V.str { cps := #[c] } = V.str ("0" : Str)) = true from e3.trans (decide_eq_true h48)]
          exact iteT ⟨1, rfl, q H (Same.refl H)⟩
        · have hf : figB z = true := by unfold figB; rw [hd, decide_eq_false hn, e0, decide_eq_false h48]; rfl
          rw [show decide (V.str { cps := #[c] } = V.str ("0" : Str)) = false from e3.trans (decide_eq_false h48)]
          exact iteF ⟨_, rfl, z, numV z, rfl, fig_int hf hl, hl, whole hf⟩
      · rw [decide_eq_false h1]
        have hf : figB z = true := by
          unfold figB
          rw [hd, e0]
          by_cases h48 : c = 48
          · have hz1 : z = ("0" : Str) := by
              refine cl_inj ?_
              have hlen : (cl z).length = 1 := by rw [cl_len]; omega
              match hcz : cl z, hlen with
              | [a], _ =>
                rw [hcz] at hcl
                have : a = c := Option.some.inj hcl
                rw [this, h48]
                rfl
            rw [decide_eq_true hz1]
            rfl
          · rw [decide_eq_false h48]
            simp
        exact iteF (iteF ⟨_, rfl, z, numV z, rfl, fig_int hf hl, hl, whole hf⟩)
end
end V0
namespace V0
open PySem PySem.Spec PyProof.Rows L2
def spField : Sp := fun vs H Q _ => ∃ (n : Int) (z : Str) (low : Int), vs = [.int n, .str z, .int low] ∧ asc z ∧ z.length ≤ 640 ∧ ∀ H', Same H H' → Q (.bl (fieldB n low z)) H'
section
variable {P : Program} {w : World} {K : PySem.W.Frag} {mg : Str → Option Value} {base : Heap} {cP cU cT : Addr}
abbrev s_is_short_field : Stmt := topS 29
theorem sc_is_short_field : FnScope ["places", "field", "lowest"] ["places", "field", "lowest"] (defScope s_is_short_field) := ⟨rfl, rfl, rfl, by decide +kernel, rfl, by decide +kernel, by decide +kernel⟩
theorem ok_is_short_field  (T : Tops K mg) : Df P w K mg base CX0 2 "is_short_field" s_is_short_field ["places", "field", "lowest"] spField := by
  have G_is_figures := ok_is_figures (P := P) (w := w) (base := base) T
  refine df_mk (k := 2-1) T.d_is_short_field sc_is_short_field (fun vs H Q E h => ?_) (fun _ _ _ _ _ _ us hl => match us, hl with | [_, _, _], _ => rfl) (fun f cdv A outer s H vs Q E hr h => ?_)
  · obtain ⟨n, z, low, rfl, _⟩ := h
    rfl
  · obtain ⟨n, z, low, rfl, hz, hl, q⟩ := h
    refine ⟨_, (pss_cons (ps_if (PW.pt (pw_or (pt_cmpR op_notIn_seq (pe_slice sl_str (pv 1) po_none (po_some (pe_int))) (pe_tup (pa_cons (pe_str) (pa_cons (pe_str) (pa_cons (pe_str) pa_nil)))) (by rfl)) (pw_or1 (pt_not (pt_val (pe_df G_is_figures (hr.mono (by decide)) (by rfl) pass0 (pa_cons (pe_slice sl_str (pv 1) (po_some (pe_int)) po_none) pa_nil))))))) (pss_one (ps_ret (pe_bl))) pss_nil)
        (pss_one (ps_ret (pe_chain op_le op_lt (pv 2) (pe_callTy call_int_str (by rfl) T.b_int (by decide +kernel) (pa_cons (pe_slice sl_str (pv 1) (po_some (pe_int)) po_none) pa_nil)) (pv 0))))), ?_⟩
    have hsl : z.length ≤ sizeLine := by rw [sizeLine_eq]; omega
    have hr1 := cut_asc hz (some 1) none
    have hr2 := Nat.le_trans (cut_len z (some 1) none) hl
    refine ⟨_, rfl, 1, rfl, z, rfl, hsl, by show 3 ≤ sizeLine; decide, fun a ha => ?_⟩
    have sa := same_upd ha (o := .tup [.str "X", .str "Y", .str "Z"])
    refine ⟨a, _, rfl, .inr (.inl (.inl upd_same)), rfl, flat_strs ["X", "Y", "Z"], _, rfl, ?_⟩
    rw [show (if true = true then !inV (.str (cutS z none (some 1))) [V.str "X", .str "Y", .str "Z"] else inV (.str (cutS z none (some 1))) [V.str "X", .str "Y", .str "Z"]) = !xyzB z from congrArg not (inV_str _ ["X", "Y", "Z"])]
    cases hx : xyzB z with
    | false =>
      have hf : fieldB n low z = false := by unfold fieldB; rw [hx]; rfl
      rw [hf] at q
      exact iteT (iteT (q _ sa))
    | true =>
      refine iteF ⟨_, rfl, 1, rfl, z, rfl, hsl, _, rfl, hr1, hr2, fun H' s' => ⟨_, rfl, ?_⟩⟩
      show (if (!figB (rst1 z)) = true then _ else _)
      cases hg : figB (rst1 z) with
      | false =>
        have hf : fieldB n low z = false := by unfold fieldB; rw [hx, hg]; rfl
        rw [hf] at q
        exact iteT (q _ (sa.trans s'))
      | true =>
        refine iteF ⟨_, rfl, _, rfl, 1, rfl, z, rfl, hsl, _, numV (rst1 z), rfl, fig_int hg hr2, hr2, _, _, rfl, rfl, _, rfl, ?_⟩
        by_cases h1 : low ≤ numV (rst1 z)
        · rw [decide_eq_true h1]
          have hf : fieldB n low z = decide (numV (rst1 z) < n) := by unfold fieldB; rw [hx, hg, decide_eq_true h1]; rfl
          rw [hf] at q
          exact iteT ⟨_, rfl, _, _, rfl, rfl, q _ (sa.trans s')⟩
        · rw [decide_eq_false h1]
          have hf : fieldB n low z = false := by unfold fieldB; rw [hx, hg, decide_eq_false h1]; rfl
          rw [hf] at q
          exact iteF (q _ (sa.trans s'))
end
end V0
/-! list(text) -/
namespace V0
open PySem PySem.Spec PyProof.Rows L2
theorem call_listS {X : Cx} (calm : X.calm = true) : CallR X (.type "list") (fun xs H Q => ∃ z : Str, xs = [.str z] ∧ z.length ≤ 1000000 ∧ ∀ p, H p = none → Q (.ref p) (upd H p (.lst ((cl z).map fun c => .str (tx [c]))))) := by
  intro pins st σ H xs us Q I r h
  obtain ⟨z, rfl, hz, q⟩ := h
  obtain ⟨u, rfl, ru⟩ := vals1 r
  obtain ⟨t, rfl⟩ : ∃ t, u = Value.str z t := ru
  have hs : z.cps.size ≤ sizeLine := by
    rw [sizeLine_eq]
    exact Nat.le_trans hz (by decide)
  have ln : ((cl z).map fun c => V.str (tx [c])).length = z.cps.size := by
    rw [List.length_map]
    exact cl_len z
  refine call_list_str (I.ok.hd calm) z t (fun g tk acc cc keep there items => ?_) hs
  refine ⟨.ref st.heap.objs.size, _, I.laid (t' := tk) keep (Nat.le_refl _) (show ObjOk X.prog X.w _ g _ (.lst ((cl z).map fun c => V.str (tx [c]))) from ⟨by rw [ln]; exact hs, acc.toList, cc, ?_, ?_⟩), rfl, q _ (I.hok.fresh (Nat.le_refl _))⟩
  · refine vals_of_at ?_ fun j x y e1 e2 => ?_
    · rw [ln, Array.length_toList]
      exact items.1.symm
    · have it := items.2 j y (by rw [← Array.getElem?_toList]; exact e2)
      obtain ⟨c, hc, t2, ey⟩ : ∃ c, z.cps[j]? = some c ∧ ∃ t2, y = Value.str ⟨#[c]⟩ t2 := by
        first
          | (obtain ⟨c, hc, t2, ey⟩ := it; exact ⟨c, hc, t2, ey⟩)
          | (obtain ⟨c, t2, ey, hc⟩ := it; exact ⟨c, hc, t2, ey⟩)
          | (obtain ⟨c, t2, hc, ey⟩ := it; exact ⟨c, hc, t2, ey⟩)
          | (obtain ⟨c, ey, hc⟩ := it; obtain ⟨t2, ey⟩ := ey; exact ⟨c, hc, t2, ey⟩)
      have e3 : (cl z)[j]? = some c := by
        unfold cl
        rw [Array.getElem?_toList]
        exact hc
      rw [List.getElem?_map, e3] at e1
      cases e1
      exact ⟨t2, ey⟩
  · rw [Array.toArray_toList]
    exact there
end V0
namespace V0
open PySem PySem.Spec PyProof.Rows L2
theorem cl_app (a b : Str) : cl (a ++ b) = cl a ++ cl b := by
  show (a.cps ++ b.cps).toList = _
  simp [cl]
theorem join_facts : ∀ fs : List Str, (∀ f ∈ fs, (∀ c ∈ cl f, c ∈ cl (Str.join " " fs)) ∧ (cl f).length ≤ (cl (Str.join " " fs)).length) ∧ fs.length ≤ (cl (Str.join " " fs)).length + 1
  | [] => ⟨(fun f hf => absurd hf List.not_mem_nil), Nat.zero_le _⟩
  | [a] => by
    refine ⟨fun f hf => ?_, by simp⟩
    rw [List.mem_singleton.mp hf]
    exact ⟨fun c hc => hc, Nat.le_refl _⟩
  | a :: b :: r => by
    obtain ⟨h1, h2⟩ := join_facts (b :: r)
    have e : Str.join " " (a :: b :: r) = a ++ " " ++ Str.join " " (b :: r) := rfl
    have e2 : cl (Str.join " " (a :: b :: r)) = cl a ++ [32] ++ cl (Str.join " " (b :: r)) := by
      rw [e, cl_app, cl_app]
      rfl
    have e3 : (cl a ++ [32] ++ cl (Str.join " " (b :: r))).length = (cl a).length + 1 + (cl (Str.join " " (b :: r))).length := by
      simp
      omega
    refine ⟨fun f hf => ?_, ?_⟩
    · rw [e2, e3]
      rcases List.mem_cons.mp hf with k | k
      · rw [k]
        exact ⟨fun c hc => List.mem_append_left _ (List.mem_append_left _ hc), by omega⟩
      · obtain ⟨k1, k2⟩ := h1 f k
        exact ⟨fun c hc => List.mem_append_right _ (k1 c hc), by omega⟩
    · rw [e2, e3]
      simp only [List.length_cons] at h2 ⊢
      omega
/-- fields as a split gives them -/
def fldOk (fs : List Str) : Prop := fs ≠ [] ∧ fs.length ≤ 601 ∧ ∀ f ∈ fs, asc f ∧ f.length ≤ 600
theorem split_ok {z : Str} (hz : asc z) (hl : z.length ≤ 600) : fldOk (Txt.split z " ") := by
  have e := StrLaws.join_split z " "
  obtain ⟨h1, h2⟩ := join_facts (Txt.split z " ")
  rw [e] at h1 h2
  rw [cl_len] at h2
  refine ⟨fun n => ?_, by omega, fun f hf => ?_⟩
  · rw [n] at e
    have e2 : z = "" := e.symm
    rw [e2] at n
    exact absurd n (by decide +kernel)
  · obtain ⟨k1, k2⟩ := h1 f hf
    rw [cl_len, cl_len] at k2
    exact ⟨fun c hc => hz c (k1 c hc), by omega⟩
/-! ### a short line, read -/
def shortGo (n : Int) : List Str → Int → Nat → List Str → Nat ⊕ List Str
  | [], _, _, L => .inr L
  | f :: r, low, k, L => if fieldB n low f = true then shortGo n r (numV (rst1 f) + 1) (k + 1) (L.set (numV (rst1 f)).toNat (fst1 f)) else .inl k
def readShort (n : Int) (fs : List Str) : Nat ⊕ Str :=
  if fs = [("-" : Str)] then .inr (tx (List.replicate n.toNat 73)) else if fs[0]? = some ("-" : Str) then .inl 1 else
    match shortGo n fs 0 0 (List.replicate n.toNat ("I" : Str)) with
    | .inl k => .inl k
    | .inr L => .inr (Txt.join "" L)
theorem go_inl {n : Int} : ∀ {fs : List Str} {low : Int} {k j : Nat} {L : List Str}, shortGo n fs low k L = .inl j → j < k + fs.length
  | [], low, k, j, L, h => by cases h
  | f :: r, low, k, j, L, h => by
    unfold shortGo at h
    split at h
    · have := go_inl h
      simp only [List.length_cons]
      omega
    · cases h
      simp only [List.length_cons]
      omega
theorem field_true {n low : Int} {f : Str} (h : fieldB n low f = true) : xyzB f = true ∧ figB (rst1 f) = true ∧ low ≤ numV (rst1 f) ∧ numV (rst1 f) < n := by
  obtain ⟨h1, h2⟩ := Bool.and_eq_true_iff.mp h
  obtain ⟨h3, h4⟩ := Bool.and_eq_true_iff.mp h1
  obtain ⟨h5, h6⟩ := Bool.and_eq_true_iff.mp h2
  exact ⟨h3, h4, of_decide_eq_true h5, of_decide_eq_true h6⟩
/-- letters, one sign each -/
def one1 (L : List Str) : Prop := ∀ l ∈ L, l.length = 1 ∧ asc l
theorem one_set {L : List Str} {j : Nat} {f : Str} (h : one1 L) (hx : xyzB f = true) : one1 (L.set j (fst1 f)) := fun l hl => by
  rcases List.mem_or_eq_of_mem_set hl with k | k
  · exact h l k
  · obtain ⟨c, _, e, hc⟩ := xyz_head hx
    rw [k, e]
    refine ⟨tx_len [c], fun a ha => ?_⟩
    rw [cl_tx] at ha
    rw [List.mem_singleton.mp ha]
    simp only [List.mem_cons, List.not_mem_nil, or_false] at hc
    omega
theorem one_sum {L : List Str} (h : one1 L) : (L.map (·.length)).sum = L.length := by
  induction L with
  | nil => rfl
  | cons a r ih =>
    rw [List.map_cons, List.sum_cons, ih fun l hl => h l (List.mem_cons_of_mem _ hl), (h a List.mem_cons_self).1, List.length_cons]
    omega
theorem one_rep (m : Nat) : one1 (List.replicate m ("I" : Str)) := fun l hl => by
  rw [List.eq_of_mem_replicate hl]
  exact ⟨rfl, fun c hc => by
    have h2 : c ∈ [73] := hc
    rw [List.mem_singleton.mp h2]
    decide⟩
theorem shaped_of {d : PyData} (h : wt d < 100000000) (h2 : d.depth ≤ 20) : SeqAt.shaped d = true := by
  unfold SeqAt.shaped
  rw [can_of d h, decide_eq_true (by omega)]
  rfl
theorem strs_shaped {fs : List Str} (h1 : fs.length ≤ 601) (h : ∀ f ∈ fs, asc f ∧ f.length ≤ 600) : SeqAt.shaped (.list (fs.map .str)) = true := by
  obtain ⟨h2, h3⟩ := wt_strs (l := fs) (b := 600) fun z hz => ⟨(h z hz).1, (h z hz).2⟩
  refine shaped_of ?_ ?_
  · simp only [wt]
    have : fs.length * (10 * 600 + 10) ≤ 601 * (10 * 600 + 10) := Nat.mul_le_mul_right _ h1
    omega
  · simp only [PyData.depth]
    omega
theorem eqv_strs : ∀ (a b : List Str), PyData.eqvAll (a.map .str) (b.map .str) = decide (a = b)
  | [], [] => by simp [PyData.eqvAll]
  | [], _ :: _ => by simp [PyData.eqvAll]
  | _ :: _, [] => by simp [PyData.eqvAll]
  | x :: r, y :: t => by
    have ih := eqv_strs r t
    simp only [List.map_cons, PyData.eqvAll, PyData.eqv, ih]
    rw [Bool.eq_iff_iff]
    simp
theorem eqv_lists (a b : List Str) : PyData.eqv (.list (a.map .str)) (.list (b.map .str)) = decide (a = b) := by
  rw [← eqv_strs]
  simp [PyData.eqv]
end V0
namespace V0
open PySem PySem.Spec PyProof.Rows L2
theorem go_cons {n low : Int} {f : Str} {r : List Str} {k : Nat} {L : List Str} : shortGo n (f :: r) low k L = if fieldB n low f = true then shortGo n r (numV (rst1 f) + 1) (k + 1) (L.set (numV (rst1 f)).toNat (fst1 f)) else .inl k := rfl
def spReadShort (K : PySem.W.Frag) (cU cT : Addr) : Sp := fun vs H Q E => ∃ (n : Int) (v : V) (d : PyData), vs = [.int n, v] ∧ Dp K H v d ∧ small d = true ∧ 1 ≤ n ∧ n ≤ 1000 ∧ (∀ z, d = .str z → asc z ∧ z.length ≤ 600) ∧
  (∀ z w, d = .str z → readShort n (Txt.split z " ") = .inr w → ∀ H', Same H H' → Q (.str w) H') ∧
  (∀ z (k : Nat), d = .str z → readShort n (Txt.split z " ") = .inl k → ∀ dd H', Same H H' → H' dd = some (.xd [("field", .int (k : Nat)), ("line", .int 0)]) → E (.ref cT) (some dd) H') ∧
  (isD .s d = false → ∀ dd H', Same H H' → H' dd = some (.xd [("at", .int (-1)), ("word", .str "text")]) → E (.ref cU) (some dd) H')
section
variable {P : Program} {w : World} {K : PySem.W.Frag} {mg : Str → Option Value} {base : Heap} {cP cU cT : Addr}
abbrev s_read_short : Stmt := topS 30
theorem sc_read_short : FnScope ["places", "text", "fields", "letters", "lowest", "at", "field", "place"] ["places", "text"] (defScope s_read_short) := ⟨rfl, rfl, rfl, by decide +kernel, rfl, by decide +kernel, by decide +kernel⟩
theorem ok_read_short (Er : Errs K mg cP cU cT) (T : Tops K mg) : Df P w K mg base (L2.CX P w) 4 "read_short" s_read_short ["places", "text"] (spReadShort K cU cT) := by
  have G_need := ok_need (P := P) (w := w) (base := base) Er T
  have G_blank_of := ok_blank_of (P := P) (w := w) (base := base) T
  have G_is_short_field := ok_is_short_field (P := P) (w := w) (base := base) T
  refine df_mkX (k := 4-1) T.d_read_short sc_read_short (fun vs H Q E h => ?_) (fun _ _ _ _ _ _ us hl => match us, hl with | [_, _], _ => rfl) (fun f cdv A outer s H vs Q E hr h => ?_)
  · obtain ⟨n, v, d, rfl, _⟩ := h
    rfl
  · obtain ⟨n, v, d, rfl, hd, hs, n1, n2, hz, qR, qT, qU⟩ := h
    refine ⟨_, (pss_cons (ps_expr (pe_df G_need (hr.mono (by decide)) (by rfl) (passes_call (E := E) (W := fun cls d _ H => E cls d H) (takes_of rfl rfl rfl rfl) (fun _ _ _ _ h => h)) (pa_cons (pe_callB (call_isD .s) (by rfl) T.b_isinstance (by decide +kernel) (pa_cons (pv 1) (pa_cons (pe_bltn (v := .ty "str") rfl T.b_str (by decide +kernel) rfl) pa_nil))) (pa_cons (pe_str) pa_nil))))
        (pss_cons (ps_set (i := 2) sc_read_short.nd rfl (Or.inl rfl) (pe_bm PySem.F.plainAttrs_str PySem.F.slot_str_split PySem.F.type_str_split mt_split (pv 1) (pa_cons (pe_str) pa_nil)))
        (pss_cons (ps_if (pt_cmpR (op_eqD hr.units) (pv 2) (pe_lst (pa_cons (pe_str) pa_nil)) (nomark _)) (pss_one (ps_ret (pe_df G_blank_of (hr.mono (by decide)) (by rfl) pass0 (pa_cons (pv 0) pa_nil)))) pss_nil)
        (pss_cons (ps_if (pt_cmpR op_eq (pe_ix ix_list (pv 2) (pe_int) (fun _ _ => rfl)) (pe_str) (nomark _)) (pss_one (ps_raise_InvalidText Er.it rfl (W := fun cls d _ H => E cls d H) (takes_of rfl rfl rfl rfl) (hr.mono (by decide)) (pa_cons (pe_int) (pa_cons (pe_int) pa_nil)))) pss_nil)
        (pss_cons (ps_set (i := 3) sc_read_short.nd rfl (Or.inl rfl) (pe_callTy (call_listS rfl) (by rfl) T.b_list (by decide +kernel) (pa_cons (pe_df G_blank_of (hr.mono (by decide)) (by rfl) pass0 (pa_cons (pv 0) pa_nil)) pa_nil)))
        (pss_cons (ps_set (i := 4) sc_read_short.nd rfl (Or.inl rfl) (pe_int))
        (pss_cons (ps_for (passes_of rfl) rfl (pi_enum (by rfl) T.b_enumerate (pa_cons (pv 2) pa_nil)) (pg_tup (by rfl) (pgs_cons (pg_name (i := 5) sc_read_short.nd rfl (Or.inl rfl)) (pgs_cons (pg_name (i := 6) sc_read_short.nd rfl (Or.inl rfl)) pgs_nil))) (pss_cons (ps_if (pt_not (pt_val (pe_df G_is_short_field (hr.mono (by decide)) (by rfl) pass0 (pa_cons (pv 0) (pa_cons (pv 6) (pa_cons (pv 4) pa_nil)))))) (pss_one (ps_raise_InvalidText Er.it rfl (W := fun cls d _ H => E cls d H) (takes_of rfl rfl rfl rfl) (hr.mono (by decide)) (pa_cons (pe_int) (pa_cons (pv 5) pa_nil)))) pss_nil)
        (pss_cons (ps_set (i := 7) sc_read_short.nd rfl (Or.inl rfl) (pe_callTy call_int_str (by rfl) T.b_int (by decide +kernel) (pa_cons (pe_slice sl_str (pv 6) (po_some (pe_int)) po_none) pa_nil)))
        (pss_cons (ps_asg (pe_item_str (pv 6) (pe_int) (fun _ _ => rfl)) (pg_sub (pv 3) (pv 7) set_list))
        (pss_one (ps_set (i := 4) sc_read_short.nd rfl (Or.inl rfl) (pe_op op_add (pv 7) (pe_int))))))))
        (pss_one (ps_ret (pe_bm PySem.F.plainAttrs_str PySem.F.slot_str_join PySem.F.type_str_join mt_join (pe_str) (pa_cons (pv 3) pa_nil))))))))))), ?_⟩
    refine ⟨_, rfl, _, _, rfl, hd, isD .s d, _, rfl, fun hb => ?_, fun hb dd H' s' he => qU hb dd H' s' he⟩
    obtain ⟨z, rfl⟩ : ∃ z, d = .str z := by
      cases d with
      | str z => exact ⟨z, rfl⟩
      | _ => cases hb
    cases hd
    obtain ⟨hza, hzl⟩ := hz z rfl
    have qR' := fun w => qR z w rfl
    have qT' := fun k => qT z k rfl
    have hfs := split_ok hza hzl
    refine ⟨_, rfl, rfl, z, " ", rfl, rfl, by decide, by rw [sizeLine_eq]; omega, fun p hp => ?_⟩
    generalize Txt.split z " " = fs at hfs qR' qT' ⊢
    have sp := same_upd hp (o := .lst (fs.map V.str))
    generalize hHB : upd H p (.lst (fs.map V.str)) = HB at sp ⊢
    have hpB : HB p = some (.lst (fs.map V.str)) := by rw [← hHB]; exact upd_same
    refine ⟨_, rfl, by show 1 ≤ sizeLine; decide, fun a ha => ?_⟩
    have sa := same_upd ha (o := .lst [.str "-"])
    refine ⟨.list (fs.map .str), .list (((["-"] : List Str)).map .str), .lst (.inl (.inl (sa _ _ hpB))) (dpa_strs fs), .lst (.inl (.inl upd_same)) (dpa_strs ["-"]), strs_shaped hfs.2.1 hfs.2.2, by decide +kernel, _, rfl, ?_⟩
    rw [eqv_lists]
    by_cases h1 : fs = [("-" : Str)]
    · rw [decide_eq_true h1]
      refine iteT ⟨_, rfl, n, rfl, by omega, n2, fun H' s' => qR' _ ?_ _ ((sp.trans sa).trans s')⟩
      unfold readShort
      rw [if_pos h1]
    rw [decide_eq_false h1]
    obtain ⟨f0, hf0⟩ : ∃ f0, fs[0]? = some f0 := by
      cases hfc : fs with
      | nil => exact absurd hfc hfs.1
      | cons f0 r0 => exact ⟨f0, rfl⟩
    have e0 : (fs.map V.str)[0]? = some (.str f0) := by rw [List.getElem?_map, hf0]; rfl
    refine iteF ⟨_, rfl, p, _, 0, _, rfl, rfl, .inl (.inl (sa _ _ hpB)), at_of (j := 0) rfl e0, rfl, _, rfl, ?_⟩
    by_cases h2 : f0 = ("-" : Str)
    · rw [show decide (V.str f0 = V.str ("-" : Str)) = true from decide_eq_true (by rw [h2])]
      have hr1 : readShort n fs = .inl 1 := by
        unfold readShort
        rw [if_neg h1, hf0, h2, if_pos rfl]
      exact iteT (mk2_end Er.it.oex Er.it.n1 Er.it.n2 fun dd H2 s2 _ he => qT' 1 hr1 dd H2 ((sp.trans sa).trans s2) he)
    rw [show decide (V.str f0 = V.str ("-" : Str)) = false from decide_eq_false fun e => h2 (V.str.inj e)]
    have hgo : readShort n fs = match shortGo n fs 0 0 (List.replicate n.toNat ("I" : Str)) with
        | .inl k => .inl k
        | .inr L => .inr (Txt.join "" L) := by
      have h3 : ¬ fs[0]? = some ("-" : Str) := fun e => h2 (Option.some.inj (hf0.symm.trans e))
      unfold readShort
      rw [if_neg h1, if_neg h3]
      all_goals (cases shortGo n fs 0 0 (List.replicate n.toNat ("I" : Str)) <;> rfl)
    refine iteF ⟨_, rfl, n, rfl, by omega, n2, fun H3 s3 => ⟨_, rfl, by rw [tx_len, List.length_replicate]; omega, fun l hl => ?_⟩⟩
    have eL : ((cl (tx (List.replicate n.toNat 73))).map fun c => V.str (tx [c])) = (List.replicate n.toNat ("I" : Str)).map V.str := by
      rw [cl_tx, List.map_replicate, List.map_replicate]
      rfl
    rw [eL]
    have s03 := sa.trans s3
    have npl : p ≠ l := ne_of_none (s03 _ _ hpB) hl
    refine ⟨_, rfl, p, fs.map V.str, rfl, .inl (.inl (same_upd hl _ _ (s03 _ _ hpB))), for_it walk_enum (fun i σ H' => ∃ (L : List Str) (low : Int) (y5 y6 y7 : Option V), σ = [some (.int n), some (.str z), some (.ref p), some (.ref l), some (.int low), y5, y6, y7] ∧ Same HB H' ∧ H' l = some (.lst (L.map V.str)) ∧ one1 L ∧ L.length = n.toNat ∧ 0 ≤ low ∧ shortGo n fs 0 0 (List.replicate n.toNat ("I" : Str)) = shortGo n (fs.drop i) low i L) ⟨_, 0, none, none, none, rfl, s03.trans (same_upd hl), upd_same, one_rep _, List.length_replicate, Int.le_refl _, rfl⟩ (fun i σ H' _ hp' => by obtain ⟨_, _, _, _, _, _, s', _⟩ := hp'; exact .inl (.inl (s' _ _ hpB))) (fun i x σ H4 H5 hi hp' hy => ?_) (fun σ H4 hp' => ?_)⟩
    · obtain ⟨L, low, y5, y6, y7, rfl, s4, hL, h1L, hLn, hlow, hgo2⟩ := hp'
      obtain ⟨t, v1, y, rfl, ht, rfl, e1, e2⟩ := hy
      cases e1
      replace e2 : (fs.map V.str)[i]? = some y := e2
      rw [List.getElem?_map] at e2
      obtain ⟨f, hf, rfl⟩ : ∃ f, fs[i]? = some f ∧ y = V.str f := by
        cases hfi : fs[i]? with
        | none => rw [hfi] at e2; cases e2
        | some f => rw [hfi] at e2; exact ⟨f, rfl, (Option.some.inj e2).symm⟩
      obtain ⟨hfa, hfl⟩ := hfs.2.2 f (List.mem_of_getElem? hf)
      have hdr : fs.drop i = f :: fs.drop (i + 1) := by
        obtain ⟨hlt, e⟩ := List.getElem?_eq_some_iff.mp hf
        rw [List.drop_eq_getElem_cons hlt, e]
      rw [hdr, go_cons] at hgo2
      have st := same_upd ht (o := .tup [.int (i : Nat), .str f])
      refine ⟨t, [.int (i : Nat), .str f], rfl, .inl (.inl upd_same), rfl, .int (i : Nat), [.str f], rfl, .str f, [], rfl, rfl, ?_⟩
      refine ⟨_, rfl, _, rfl, _, rfl, n, f, low, rfl, hfa, by omega, fun H6 s6 => ⟨_, rfl, ?_⟩⟩
      have sl6 : H6 l = some (.lst (L.map V.str)) := s6 _ _ (st _ _ hL)
      cases hB : fieldB n low f with
      | false =>
        rw [hB] at hgo2
        have hr1 : readShort n fs = .inl i := by rw [hgo, hgo2]; rfl
        exact iteT ⟨_, rfl, mk2_end Er.it.oex Er.it.n1 Er.it.n2 fun dd H2 s2 _ he => qT' i hr1 dd H2 (sp.trans (((s4.trans st).trans s6).trans s2)) he⟩
      | true =>
        rw [hB] at hgo2
        obtain ⟨hx, hg, hlo, hhi⟩ := field_true hB
        obtain ⟨c, hc, ec, hcm⟩ := xyz_head hx
        have hrl : (rst1 f).length ≤ 640 := Nat.le_trans (cut_len f (some 1) none) (by omega)
        have hf0 : 0 < f.length := by
          obtain ⟨hlt, _⟩ := Array.getElem?_eq_some_iff.mp hc
          exact hlt
        refine iteF ⟨_, rfl, 1, rfl, f, rfl, by rw [sizeLine_eq]; omega, _, numV (rst1 f), rfl, fig_int hg hrl, hrl, ?_⟩
        refine ⟨_, rfl, f, 0, c, rfl, rfl, by decide, by decide, by omega, hc, ?_⟩
        refine ⟨_, rfl, _, rfl, l, L.map V.str, numV (rst1 f), (numV (rst1 f)).toNat, rfl, rfl, sl6, ?_, ?_⟩
        · unfold ixN
          rw [if_pos (by omega), if_pos (by rw [List.length_map, hLn]; omega)]
        · refine ⟨_, rfl, _, _, rfl, rfl, ?_⟩
          refine ⟨L.set (numV (rst1 f)).toNat (fst1 f), numV (rst1 f) + 1, _, _, _, rfl, fun b o e => ?_, ?_, one_set h1L hx, by rw [List.length_set]; exact hLn, by omega, ?_⟩
          · rw [upd_ne (ne_of_none (s03 _ _ e) hl)]
            exact s6 _ _ (st _ _ (s4 _ _ e))
          · rw [upd_same, List.map_set, ec]
            rfl
          · rw [hgo2]
            rfl
    · obtain ⟨L, low, y5, y6, y7, rfl, s4, hL, h1L, hLn, hlow, hgo2⟩ := hp'
      rw [List.length_map, List.drop_length] at hgo2
      refine ⟨rfl, _, rfl, "", l, L, rfl, rfl, .inl (.inl (.inl hL)), ?_, qR' _ ?_ _ (sp.trans s4)⟩
      · rw [one_sum h1L, show ("" : Str).length = 0 from rfl]
        omega
      · rw [hgo, hgo2]
        rfl
end
end V0
namespace V0
open PySem PySem.Spec PyProof.Rows L2
/-- what a short line's reading is told as -/
def readSD (n : Int) (fs : List Str) : PyData := match readShort n fs with
  | .inl k => .tuple [.str "field", .int 0, .int (k : Nat)]
  | .inr w => .tuple [.str "word", .str w]
def spLReadShort (K : PySem.W.Frag) : Sp := fun vs H Q _ => ∃ (n : Int) (z : Str), vs = [.int n, .str z] ∧ asc z ∧ z.length ≤ 600 ∧ 1 ≤ n ∧ n ≤ 1000 ∧ ∀ r H', Same H H' → Dp K H' r (readSD n (Txt.split z " ")) → Q r H'
section
variable {P : Program} {w : World} {K : PySem.W.Frag} {mg : Str → Option Value} {base : Heap} {cP cU cT : Addr}
abbrev s__law_read_short : Stmt := topS 53
theorem sc__law_read_short : FnScope ["_law_n", "_law_t", "_law_row_here", "_law_out", "_law_last", "_law_k", "_law_p"] ["_law_n", "_law_t"] (defScope s__law_read_short) := ⟨rfl, rfl, rfl, by decide +kernel, rfl, by decide +kernel, by decide +kernel⟩
theorem ok__law_read_short  (T : Tops K mg) : Df P w K mg base CX0 2 "_law_read_short" s__law_read_short ["_law_n", "_law_t"] (spLReadShort K) := by
  have G__law_figures := ok__law_figures (P := P) (w := w) (base := base) T
  refine df_mk (k := 2-1) T.d__law_read_short sc__law_read_short (fun vs H Q E h => ?_) (fun _ _ _ _ _ _ us hl => match us, hl with | [_, _], _ => rfl) (fun f cdv A outer s H vs Q E hr h => ?_)
  · obtain ⟨n, z, rfl, _⟩ := h
    rfl
  · obtain ⟨n, z, rfl, hza, hzl, n1, n2, q⟩ := h
    refine ⟨_, (pss_cons (ps_set (i := 2) sc__law_read_short.nd rfl (Or.inl rfl) (pe_bm PySem.F.plainAttrs_str PySem.F.slot_str_split PySem.F.type_str_split mt_split (pv 1) (pa_cons (pe_str) pa_nil)))
        (pss_cons (ps_if (pt_cmpR (op_eqD hr.units) (pv 2) (pe_lst (pa_cons (pe_str) pa_nil)) (nomark _)) (pss_one (ps_ret (pe_tup (pa_cons (pe_str) (pa_cons (pe_op op_repS (pe_str) (pv 0)) pa_nil))))) pss_nil)
        (pss_cons (ps_if (pt_cmpR op_eq (pe_ix ix_list (pv 2) (pe_int) (fun _ _ => rfl)) (pe_str) (nomark _)) (pss_one (ps_ret (pe_tup (pa_cons (pe_str) (pa_cons (pe_int) (pa_cons (pe_int) pa_nil)))))) pss_nil)
        (pss_cons (ps_set (i := 3) sc__law_read_short.nd rfl (Or.inl rfl) (pe_op op_rep (pe_lst (pa_cons (pe_str) pa_nil)) (pv 0)))
        (pss_cons (ps_set (i := 4) sc__law_read_short.nd rfl (Or.inl rfl) (pe_un un_neg (pe_int)))
        (pss_cons (ps_for PassesOwn.never rfl (pi_range1 (by rfl) T.b_range (pa_cons (pe_callB call_len (by rfl) T.b_len (by decide +kernel) (pa_cons (pv 2) pa_nil)) pa_nil)) (pg_name (i := 5) sc__law_read_short.nd rfl (Or.inl rfl)) (pss_cons (ps_set (i := 6) sc__law_read_short.nd rfl (Or.inl rfl) (pe_df G__law_figures (hr.mono (by decide)) (by rfl) pass0 (pa_cons (pe_slice sl_str (pe_ix (show IxR _ (rIxL K) from ix_list) (pv 2) (pv 5) (fun _ _ => rfl)) (po_some (pe_int)) po_none) pa_nil)))
        (pss_cons (ps_if (PW.pt (pw_or (pt_cmpR op_notIn_seq (pe_slice sl_str (pe_ix (show IxR _ (rIxL K) from ix_list) (pv 2) (pv 5) (fun _ _ => rfl)) po_none (po_some (pe_int))) (pe_lst (pa_cons (pe_str) (pa_cons (pe_str) (pa_cons (pe_str) pa_nil)))) (by rfl)) (pw_or (pt_cmpR op_le (pv 6) (pv 4) (nomark _)) (pw_or1 (pt_cmpR op_ge (pv 6) (pv 0) (nomark _)))))) (pss_one (ps_ret (pe_tup (pa_cons (pe_str) (pa_cons (pe_int) (pa_cons (pv 5) pa_nil)))))) pss_nil)
        (pss_cons (ps_asg (pe_slice sl_str (pe_ix (show IxR _ (rIxL K) from ix_list) (pv 2) (pv 5) (fun _ _ => rfl)) po_none (po_some (pe_int))) (pg_sub (pv 3) (pv 6) set_list))
        (pss_one (ps_set (i := 4) sc__law_read_short.nd rfl (Or.inl rfl) (pv 6)))))))
        (pss_one (ps_ret (pe_tup (pa_cons (pe_str) (pa_cons (pe_bm PySem.F.plainAttrs_str PySem.F.slot_str_join PySem.F.type_str_join mt_join (pe_str) (pa_cons (pv 3) pa_nil)) pa_nil))))))))))), ?_⟩
    have hfs := split_ok hza hzl
    refine ⟨_, rfl, rfl, z, " ", rfl, rfl, by decide, by rw [sizeLine_eq]; omega, fun p hp => ?_⟩
    generalize Txt.split z " " = fs at hfs q ⊢
    have sp := same_upd hp (o := .lst (fs.map V.str))
    generalize hHB : upd H p (.lst (fs.map V.str)) = HB at sp ⊢
    have hpB : HB p = some (.lst (fs.map V.str)) := by rw [← hHB]; exact upd_same
    have retW : ∀ w, readShort n fs = .inr w → ∀ H', Same HB H' → ∀ t, H' t = none → Q (.ref t) (upd H' t (.tup [.str "word", .str w])) := fun w e H' s' t ht => by
      refine q _ _ (sp.trans (s'.trans (same_upd ht))) ?_
      unfold readSD
      rw [e]
      exact .tup (.inl (.inl upd_same)) (.cons (.str _) (.cons (.str _) .nil))
    have retF : ∀ k : Nat, readShort n fs = .inl k → ∀ H', Same HB H' → ∀ t, H' t = none → Q (.ref t) (upd H' t (.tup [.str "field", .int 0, .int (k : Nat)])) := fun k e H' s' t ht => by
      refine q _ _ (sp.trans (s'.trans (same_upd ht))) ?_
      unfold readSD
      rw [e]
      exact .tup (.inl (.inl upd_same)) (.cons (.str _) (.cons (.int _) (.cons (.int _) .nil)))
    refine ⟨_, rfl, by show 1 ≤ sizeLine; decide, fun a ha => ?_⟩
    have sa := same_upd ha (o := .lst [.str "-"])
    refine ⟨.list (fs.map .str), .list (((["-"] : List Str)).map .str), .lst (.inl (.inl (sa _ _ hpB))) (dpa_strs fs), .lst (.inl (.inl upd_same)) (dpa_strs ["-"]), strs_shaped hfs.2.1 hfs.2.2, by decide +kernel, _, rfl, ?_⟩
    rw [eqv_lists]
    by_cases h1 : fs = [("-" : Str)]
    · rw [decide_eq_true h1]
      refine iteT ⟨_, rfl, 73, n, rfl, rfl, by omega, by omega, two_ok, fun t ht => retW _ ?_ _ sa t ht⟩
      unfold readShort
      rw [if_pos h1]
    rw [decide_eq_false h1]
    obtain ⟨f0, hf0⟩ : ∃ f0, fs[0]? = some f0 := by
      cases hfc : fs with
      | nil => exact absurd hfc hfs.1
      | cons f0 r0 => exact ⟨f0, rfl⟩
    have e0 : (fs.map V.str)[0]? = some (.str f0) := by rw [List.getElem?_map, hf0]; rfl
    refine iteF ⟨_, rfl, p, _, 0, _, rfl, rfl, .inl (.inl (sa _ _ hpB)), at_of (j := 0) rfl e0, rfl, _, rfl, ?_⟩
    by_cases h2 : f0 = ("-" : Str)
    · rw [show decide (V.str f0 = V.str ("-" : Str)) = true from decide_eq_true (by rw [h2])]
      have hr1 : readShort n fs = .inl 1 := by
        unfold readShort
        rw [if_neg h1, hf0, h2, if_pos rfl]
      exact iteT ⟨by show 3 ≤ sizeLine; decide, fun t ht => retF 1 hr1 _ sa t ht⟩
    rw [show decide (V.str f0 = V.str ("-" : Str)) = false from decide_eq_false fun e => h2 (V.str.inj e)]
    have hgo : readShort n fs = match shortGo n fs 0 0 (List.replicate n.toNat ("I" : Str)) with
        | .inl k => .inl k
        | .inr L => .inr (Txt.join "" L) := by
      have h3 : ¬ fs[0]? = some ("-" : Str) := fun e => h2 (Option.some.inj (hf0.symm.trans e))
      unfold readShort
      rw [if_neg h1, if_neg h3]
      all_goals (cases shortGo n fs 0 0 (List.replicate n.toNat ("I" : Str)) <;> rfl)
    refine iteF ⟨by show 1 ≤ sizeLine; decide, fun b hb => ⟨_, rfl, b, n, [.str "I"], rfl, rfl, upd_same, by omega, by omega, by rw [sizeLine_eq]; simp; omega, fun l hl => ?_⟩⟩
    have eL : (List.replicate n.toNat [V.str ("I" : Str)]).flatten = (List.replicate n.toNat ("I" : Str)).map V.str := by
      rw [List.map_replicate]
      generalize n.toNat = m
      induction m with
      | zero => rfl
      | succ m ih => rw [List.replicate_succ, List.flatten_cons, ih, List.replicate_succ]; rfl
    rw [eL]
    have s03 := sa.trans (same_upd hb (o := .lst [.str "I"]))
    have npl : p ≠ l := ne_of_none (s03 _ _ hpB) hl
    refine ⟨1, rfl, ?_⟩
    refine ⟨_, rfl, _, fs.length, rfl, .inl ⟨fs.map V.str, .inl (.inl (same_upd hl _ _ (s03 _ _ hpB))), by rw [List.length_map]⟩, (fs.length : Int), rfl, by have := hfs.2.1; omega, by have := hfs.2.1; omega, for_it walk_r0 (fun i σ H' => ∃ (L : List Str) (low : Int) (y5 y6 : Option V), σ = [some (.int n), some (.str z), some (.ref p), some (.ref l), some (.int (low - 1)), y5, y6] ∧ Same HB H' ∧ H' l = some (.lst (L.map V.str)) ∧ one1 L ∧ L.length = n.toNat ∧ 0 ≤ low ∧ shortGo n fs 0 0 (List.replicate n.toNat ("I" : Str)) = shortGo n (fs.drop i) low i L) ⟨_, 0, none, none, rfl, s03.trans (same_upd hl), upd_same, one_rep _, List.length_replicate, Int.le_refl _, rfl⟩ (fun _ _ _ _ _ => trivial) (fun i x σ H4 H5 hi hp' hy => ?_) (fun σ H4 hp' => ?_)⟩
    · obtain ⟨L, low, y5, y6, rfl, s4, hL, h1L, hLn, hlow, hgo2⟩ := hp'
      obtain ⟨rfl, rfl⟩ := hy
      obtain ⟨f, hf⟩ : ∃ f, fs[i]? = some f := by
        have hlt : i < fs.length := by omega
        exact ⟨_, List.getElem?_eq_getElem hlt⟩
      have ef : (fs.map V.str)[i]? = some (.str f) := by rw [List.getElem?_map, hf]; rfl
      obtain ⟨hfa, hfl⟩ := hfs.2.2 f (List.mem_of_getElem? hf)
      have hsl : f.length ≤ sizeLine := by rw [sizeLine_eq]; omega
      have hdr : fs.drop i = f :: fs.drop (i + 1) := by
        obtain ⟨hlt, e⟩ := List.getElem?_eq_some_iff.mp hf
        rw [List.drop_eq_getElem_cons hlt, e]
      rw [hdr, go_cons] at hgo2
      have hrl : (rst1 f).length ≤ 640 := Nat.le_trans (cut_len f (some 1) none) (by omega)
      refine ⟨_, rfl, _, rfl, p, _, (i : Nat), .str f, rfl, rfl, .inl (.inl (s4 _ _ hpB)), at_of (j := i) rfl ef, 1, rfl, f, rfl, hsl, rst1 f, rfl, cut_asc hfa _ _, hrl, fun H6 s6 => ?_⟩
      have s46 := s4.trans s6
      refine ⟨_, rfl, _, rfl, p, _, (i : Nat), .str f, rfl, rfl, .inl (.inl (s46 _ _ hpB)), at_of (j := i) rfl ef, 1, rfl, f, rfl, hsl, by show 3 ≤ sizeLine; decide, fun c hc => ?_⟩
      have sc := same_upd hc (o := .lst [.str "X", .str "Y", .str "Z"])
      refine ⟨c, _, rfl, .inl (.inl (.inl upd_same)), rfl, flat_strs ["X", "Y", "Z"], _, rfl, ?_⟩
      rw [show (if true = true then !inV (.str (cutS f none (some 1))) [V.str "X", .str "Y", .str "Z"] else inV (.str (cutS f none (some 1))) [V.str "X", .str "Y", .str "Z"]) = !xyzB f from congrArg not (inV_str _ ["X", "Y", "Z"])]
      have s4c := s46.trans sc
      have bad : fieldB n low f = false → ∀ t, upd H6 c (.lst [.str "X", .str "Y", .str "Z"]) t = none → Q (.ref t) (upd (upd H6 c (.lst [.str "X", .str "Y", .str "Z"])) t (.tup [.str "field", .int 0, .int (i : Nat)])) := fun hB t ht => by
        rw [hB] at hgo2
        exact retF i (by rw [hgo, hgo2]; rfl) _ s4c t ht
      have ln3 : (3 : Nat) ≤ sizeLine := by decide
      cases hx : xyzB f with
      | false => exact iteT (iteT ⟨_, rfl, ln3, bad (by unfold fieldB; rw [hx]; rfl)⟩)
      | true =>
        refine iteF ⟨_, rfl, _, rfl, _, _, rfl, rfl, _, rfl, ?_⟩
        by_cases hle : figV (rst1 f) ≤ low - 1
        · rw [decide_eq_true hle]
          refine iteT (iteT ⟨_, rfl, ln3, bad ?_⟩)
          unfold fieldB
          rw [hx]
          cases hg : figB (rst1 f) with
          | false => rfl
          | true =>
            have e1 : figV (rst1 f) = numV (rst1 f) := by unfold figV; rw [hg]; rfl
            rw [e1] at hle
            rw [decide_eq_false (show ¬ low ≤ numV (rst1 f) by omega)]
            rfl
        · rw [decide_eq_false hle]
          have hg : figB (rst1 f) = true := by
            cases hg : figB (rst1 f) with
            | true => rfl
            | false =>
              have e1 : figV (rst1 f) = -1 := by unfold figV; rw [hg]; rfl
              omega
          have e1 : figV (rst1 f) = numV (rst1 f) := by unfold figV; rw [hg]; rfl
          rw [e1] at hle
          refine iteF ⟨_, rfl, _, rfl, _, _, rfl, rfl, _, rfl, ?_⟩
          rw [e1]
          by_cases hge : n ≤ numV (rst1 f)
          · rw [decide_eq_true hge]
            refine iteT ⟨_, rfl, ln3, bad ?_⟩
            unfold fieldB
            rw [hx, hg, decide_eq_false (show ¬ numV (rst1 f) < n by omega)]
            simp
          · rw [decide_eq_false hge]
            have hB : fieldB n low f = true := by
              unfold fieldB
              rw [hx, hg, decide_eq_true (show low ≤ numV (rst1 f) by omega), decide_eq_true (show numV (rst1 f) < n by omega)]
              rfl
            rw [hB] at hgo2
            obtain ⟨cc, hcc, ec, hcm⟩ := xyz_head hx
            have n0 := numV_nat (rst1 f)
            refine iteF ⟨_, rfl, _, rfl, p, _, (i : Nat), .str f, rfl, rfl, .inl (.inl (s4c _ _ hpB)), at_of (j := i) rfl ef, 1, rfl, f, rfl, hsl, ?_⟩
            refine ⟨_, rfl, _, rfl, l, L.map V.str, numV (rst1 f), (numV (rst1 f)).toNat, rfl, rfl, sc _ _ (s6 _ _ hL), ?_, ?_⟩
            · unfold ixN
              rw [if_pos (by omega), if_pos (by rw [List.length_map, hLn]; omega)]
            · refine ⟨_, rfl, ?_⟩
              refine ⟨L.set (numV (rst1 f)).toNat (fst1 f), numV (rst1 f) + 1, _, _, by rw [show numV (rst1 f) + 1 - 1 = numV (rst1 f) by omega]; rfl, fun b o e => ?_, ?_, one_set h1L hx, by rw [List.length_set]; exact hLn, by omega, ?_⟩
              · rw [upd_ne (ne_of_none (s03 _ _ e) hl)]
                exact s4c _ _ e
              · rw [upd_same, List.map_set]
                rfl
              · rw [hgo2]
                rfl
    · obtain ⟨L, low, y5, y6, rfl, s4, hL, h1L, hLn, hlow, hgo2⟩ := hp'
      rw [show ((fs.length : Nat) : Int).toNat = fs.length from rfl, List.drop_length] at hgo2
      refine ⟨rfl, _, rfl, "", l, L, rfl, rfl, .inl (.inl (.inl hL)), ?_, two_ok, fun t ht => retW _ ?_ _ s4 t ht⟩
      · rw [one_sum h1L, show ("" : Str).length = 0 from rfl]
        omega
      · rw [hgo, hgo2]
        rfl
end
end V0
namespace V0
open PySem PySem.Spec PyProof.Rows L2
/-! ### the head of a house's line -/
def lst1 (z : Str) : Str := cutS z none (some (-1))
theorem cl_lst (z : Str) : cl (lst1 z) = (cl z).take (z.length - 1) := by
  simp only [lst1, cutS, cl, HT.sIx]
  rw [if_pos (by decide)]
  simp only [List.drop_zero, Nat.sub_zero]
  show List.take (-1 + (z.length : Int)).toNat z.cps.toList = _
  have e : (-1 + (z.length : Int)).toNat = z.length - 1 := by omega
  rw [e]
theorem ends_semi {z : Str} (h : Txt.endswith z ";" = true) : z = lst1 z ++ ";" := by
  obtain ⟨h1, h2⟩ := Bool.and_eq_true_iff.mp (show (decide (0 + (";" : Str).length ≤ z.length) && Builtin.Str.subAt z ";" (z.length - (";" : Str).length)) = true from h)
  have l1 : (";" : Str).length = 1 := rfl
  have h3 := of_decide_eq_true h1
  rw [l1] at h2 h3
  have h4 : z.cps.extract (z.length - 1) (z.length - 1 + 1) = (";" : Str).cps := eq_of_beq h2
  have h5 : (cl z).drop (z.length - 1) = [59] := by
    have h6 := congrArg Array.toList h4
    rw [Array.toList_extract] at h6
    have h7 : List.take (z.length - 1 + 1 - (z.length - 1)) (List.drop (z.length - 1) z.cps.toList) = [59] := by
      have h8 : (";" : Str).cps.toList = [59] := rfl
      rw [h8] at h6
      simpa [List.extract_eq_take_drop] using h6
    rw [List.take_of_length_le] at h7
    · exact h7
    · rw [List.length_drop]
      show z.cps.toList.length - _ ≤ _
      have := cl_len z
      unfold cl at this
      omega
  refine cl_inj ?_
  rw [cl_app, cl_lst]
  have h8 := List.take_append_drop (z.length - 1) (cl z)
  rw [h5] at h8
  exact h8.symm
def headB (h : Str) : Bool := Txt.endswith h ";" && (figB (lst1 h) && !decide (h = ("0;" : Str)))
def homeN (h : Str) : Int := numV (lst1 h)
def headV (h : Str) : Int := if Txt.endswith h ";" = true then figV (lst1 h) else -1
theorem head_true {h : Str} (k : headB h = true) : headV h = homeN h ∧ 1 ≤ homeN h := by
  obtain ⟨k1, k2⟩ := Bool.and_eq_true_iff.mp k
  obtain ⟨k3, k4⟩ := Bool.and_eq_true_iff.mp k2
  refine ⟨by unfold headV figV; rw [k1, k3]; rfl, ?_⟩
  obtain ⟨d1, d2⟩ := fig_digits k3
  unfold homeN numV
  cases hc : cl (lst1 h) with
  | nil => exact absurd hc d2
  | cons c r =>
    have hd := d1 c (by show c ∈ cl (lst1 h); rw [hc]; exact List.mem_cons_self)
    by_cases h48 : c = 48
    · exfalso
      have k5 := (Bool.and_eq_true_iff.mp k3).2
      have k6 : lst1 h = ("0" : Str) := by
        rcases Bool.or_eq_true_iff.mp k5 with e | e
        · exact of_decide_eq_true e
        · rw [hc, h48] at e
          have e2 : (48 :: r)[0]? = some 48 := rfl
          rw [decide_eq_true e2] at e
          exact absurd e (by decide)
      have k7 := ends_semi k1
      rw [k6] at k7
      have k8 : h = ("0;" : Str) := k7
      rw [decide_eq_true k8] at k4
      exact absurd k4 (by decide)
    · have := NumText.digitsVal_pos (c := c) (cs := r) (by omega)
      omega
theorem head_false {h : Str} (k : headB h = false) : headV h < 1 := by
  unfold headV
  cases k1 : Txt.endswith h ";" with
  | false =>
    rw [if_neg Bool.false_ne_true]
    decide
  | true =>
    rw [if_pos rfl]
    unfold figV
    cases k3 : figB (lst1 h) with
    | false =>
      rw [if_neg Bool.false_ne_true]
      decide
    | true =>
      rw [if_pos rfl]
      have k8 : h = ("0;" : Str) := by
        unfold headB at k
        rw [k1, k3] at k
        have : decide (h = ("0;" : Str)) = true := by simpa using k
        exact of_decide_eq_true this
      rw [k8]
      decide +kernel
/-- the first word that can't stand -/
def homeGo (p : Int) : List Str → List Str → Nat → Option Nat
  | [], _, _ => none
  | f :: r, seen, k => if (isWideD p (.str f) && (!blankS f && !decide (f ∈ seen))) = true then homeGo p r (seen ++ [f]) (k + 1) else some k
theorem hgo_cons {p : Int} {f : Str} {r seen : List Str} {k : Nat} : homeGo p (f :: r) seen k = if (isWideD p (.str f) && (!blankS f && !decide (f ∈ seen))) = true then homeGo p r (seen ++ [f]) (k + 1) else some k := rfl
def readHome : List Str → Nat ⊕ (Int × List Str)
  | [] => .inl 0
  | h :: r => if headB h = true then match homeGo (homeN h) r [] 1 with
    | some k => .inl k
    | none => .inr (homeN h, r)
    else .inl 0
theorem home_cons {h : Str} {r : List Str} : readHome (h :: r) = if headB h = true then match homeGo (homeN h) r [] 1 with
    | some k => .inl k
    | none => .inr (homeN h, r)
    else .inl 0 := rfl
theorem home_false {h : Str} {r : List Str} (k : headB h = false) : readHome (h :: r) = .inl 0 := by
  rw [home_cons, k]
  rfl
theorem home_none {h : Str} {r : List Str} (k : headB h = true) (g : homeGo (homeN h) r [] 1 = none) : readHome (h :: r) = .inr (homeN h, r) := by
  rw [home_cons, if_pos k, g]
theorem home_some {h : Str} {r : List Str} {j : Nat} (k : headB h = true) (g : homeGo (homeN h) r [] 1 = some j) : readHome (h :: r) = .inl j := by
  rw [home_cons, if_pos k, g]
theorem cutV_1 (xs : List V) : cutV xs (some 1) none = xs.drop 1 := by
  unfold cutV
  simp only [HT.sIx]
  rw [if_neg (by decide)]
  rw [show (1 : Int).toNat = 1 from rfl]
  by_cases h : 1 ≤ xs.length
  · rw [Nat.min_eq_left h, List.take_of_length_le]
    rw [List.length_drop]
    omega
  · have : xs = [] := List.length_eq_zero_iff.mp (by omega)
    rw [this]
    rfl
end V0
namespace V0
open PySem PySem.Spec PyProof.Rows L2
def spReadHouse (K : PySem.W.Frag) (cU cT : Addr) : Sp := fun vs H Q E => ∃ (v : V) (d : PyData), vs = [v] ∧ Dp K H v d ∧ small d = true ∧ (∀ z, d = .str z → asc z ∧ z.length ≤ 300) ∧
  (∀ z n ws, d = .str z → readHome (Txt.split z " ") = .inr (n, ws) → ∀ r H', Same H H' → Dp K H' r (.tuple [.int n, .tuple (ws.map .str)]) → Q r H') ∧
  (∀ z (k : Nat), d = .str z → readHome (Txt.split z " ") = .inl k → ∀ dd H', Same H H' → H' dd = some (.xd [("field", .int (k : Nat)), ("line", .int 0)]) → E (.ref cT) (some dd) H') ∧
  (isD .s d = false → ∀ dd H', Same H H' → H' dd = some (.xd [("at", .int (-1)), ("word", .str "text")]) → E (.ref cU) (some dd) H')
section
variable {P : Program} {w : World} {K : PySem.W.Frag} {mg : Str → Option Value} {base : Heap} {cP cU cT : Addr}
abbrev s_read_house : Stmt := topS 31
theorem sc_read_house : FnScope ["text", "fields", "head", "places", "seen", "at", "field"] ["text"] (defScope s_read_house) := ⟨rfl, rfl, rfl, by decide +kernel, rfl, by decide +kernel, by decide +kernel⟩
theorem ok_read_house (Er : Errs K mg cP cU cT) (T : Tops K mg) : Df P w K mg base (L2.CX P w) 4 "read_house" s_read_house ["text"] (spReadHouse K cU cT) := by
  have G_need := ok_need (P := P) (w := w) (base := base) Er T
  have G_is_figures := ok_is_figures (P := P) (w := w) (base := base) T
  have G_is_wide_word := ok_is_wide_word (P := P) (w := w) (base := base) T
  have G_is_blank := ok_is_blank (P := P) (w := w) (base := base) T
  refine df_mkX (k := 4-1) T.d_read_house sc_read_house (fun vs H Q E h => ?_) (fun _ _ _ _ _ _ us hl => match us, hl with | [_], _ => rfl) (fun f cdv A outer s H vs Q E hr h => ?_)
  · obtain ⟨v, d, rfl, _⟩ := h
    rfl
  · obtain ⟨v, d, rfl, hd, hs, hz, qR, qT, qU⟩ := h
    refine ⟨_, (pss_cons (ps_expr (pe_df G_need (hr.mono (by decide)) (by rfl) (passes_call (E := E) (W := fun cls d _ H => E cls d H) (takes_of rfl rfl rfl rfl) (fun _ _ _ _ h => h)) (pa_cons (pe_callB (call_isD .s) (by rfl) T.b_isinstance (by decide +kernel) (pa_cons (pv 0) (pa_cons (pe_bltn (v := .ty "str") rfl T.b_str (by decide +kernel) rfl) pa_nil))) (pa_cons (pe_str) pa_nil))))
        (pss_cons (ps_set (i := 1) sc_read_house.nd rfl (Or.inl rfl) (pe_bm PySem.F.plainAttrs_str PySem.F.slot_str_split PySem.F.type_str_split mt_split (pv 0) (pa_cons (pe_str) pa_nil)))
        (pss_cons (ps_set (i := 2) sc_read_house.nd rfl (Or.inl rfl) (pe_ix ix_list (pv 1) (pe_int) (fun _ _ => rfl)))
        (pss_cons (ps_if (PW.pt (pw_or (pt_not (pt_val (pe_bm PySem.F.plainAttrs_str PySem.F.slot_str_endswith PySem.F.type_str_endswith mt_endswith (pv 2) (pa_cons (pe_str) pa_nil)))) (pw_or (pt_not (pt_val (pe_df G_is_figures (hr.mono (by decide)) (by rfl) pass0 (pa_cons (pe_slice sl_str (pv 2) po_none (po_some (pe_un un_neg (pe_int)))) pa_nil)))) (pw_or1 (pt_cmpR op_eq (pv 2) (pe_str) (nomark _)))))) (pss_one (ps_raise_InvalidText Er.it rfl (W := fun cls d _ H => E cls d H) (takes_of rfl rfl rfl rfl) (hr.mono (by decide)) (pa_cons (pe_int) (pa_cons (pe_int) pa_nil)))) pss_nil)
        (pss_cons (ps_set (i := 3) sc_read_house.nd rfl (Or.inl rfl) (pe_callTy call_int_str (by rfl) T.b_int (by decide +kernel) (pa_cons (pe_slice sl_str (pv 2) po_none (po_some (pe_un un_neg (pe_int)))) pa_nil)))
        (pss_cons (ps_set (i := 4) sc_read_house.nd rfl (Or.inl rfl) (pe_dnewK))
        (pss_cons (ps_for (passes_of rfl) rfl (pi_enum (by rfl) T.b_enumerate (pa_cons (pe_slice sl_list (pv 1) (po_some (pe_int)) po_none) pa_nil)) (pg_tup (by rfl) (pgs_cons (pg_name (i := 5) sc_read_house.nd rfl (Or.inl rfl)) (pgs_cons (pg_name (i := 6) sc_read_house.nd rfl (Or.inl rfl)) pgs_nil))) (pss_cons (ps_if (PW.pt (pw_or (pt_not (pt_val (pe_df G_is_wide_word (hr.mono (by decide)) (by rfl) pass0 (pa_cons (pv 3) (pa_cons (pv 6) pa_nil))))) (pw_or (pt_val (pe_df G_is_blank (hr.mono (by decide)) (by rfl) pass0 (pa_cons (pv 6) pa_nil))) (pw_or1 (pt_cmp (pc_din (hu_of hr) (pv 6) (pv 4))))))) (pss_one (ps_raise_InvalidText Er.it rfl (W := fun cls d _ H => E cls d H) (takes_of rfl rfl rfl rfl) (hr.mono (by decide)) (pa_cons (pe_int) (pa_cons (pe_op op_add (pv 5) (pe_int)) pa_nil)))) pss_nil)
        (pss_one (ps_dput (hu_of hr) (pv 4) (pv 6) (pe_bl) rfl))))
        (pss_one (ps_ret (pe_tup (pa_cons (pv 3) (pa_cons (pe_callTy call_tuple_of (by rfl) T.b_tuple (by decide +kernel) (pa_cons (pe_slice sl_list (pv 1) (po_some (pe_int)) po_none) pa_nil)) pa_nil)))))))))))), ?_⟩
    refine ⟨_, rfl, _, _, rfl, hd, isD .s d, _, rfl, fun hb => ?_, fun hb dd H' s' he => qU hb dd H' s' he⟩
    obtain ⟨z, rfl⟩ : ∃ z, d = .str z := by
      cases d with
      | str z => exact ⟨z, rfl⟩
      | _ => cases hb
    cases hd
    obtain ⟨hza, hzl⟩ := hz z rfl
    have qR' := fun n ws => qR z n ws rfl
    have qT' := fun k => qT z k rfl
    have hfs := split_ok hza (by omega)
    refine ⟨_, rfl, rfl, z, " ", rfl, rfl, by decide, by rw [sizeLine_eq]; omega, fun p hp => ?_⟩
    generalize Txt.split z " " = fs at hfs qR' qT' ⊢
    have sp := same_upd hp (o := .lst (fs.map V.str))
    generalize hHB : upd H p (.lst (fs.map V.str)) = HB at sp ⊢
    have hpB : HB p = some (.lst (fs.map V.str)) := by rw [← hHB]; exact upd_same
    obtain ⟨hd, r, rfl⟩ : ∃ hd r, fs = hd :: r := by
      cases fs with
      | nil => exact absurd rfl hfs.1
      | cons a b => exact ⟨a, b, rfl⟩
    obtain ⟨hda, hdl⟩ := hfs.2.2 hd List.mem_cons_self
    have hsl : hd.length ≤ sizeLine := by rw [sizeLine_eq]; omega
    have hll : (lst1 hd).length ≤ 640 := Nat.le_trans (cut_len hd none (some (-1))) (by omega)
    have hr600 : r.length ≤ 600 := by have := hfs.2.1; simp at this; omega
    refine ⟨_, rfl, p, _, 0, _, rfl, rfl, .inl (.inl hpB), at_of (j := 0) rfl rfl, ?_⟩
    refine ⟨_, rfl, rfl, hd, ";", rfl, rfl, _, rfl, ?_⟩
    cases k1 : Txt.endswith hd ";" with
    | false =>
      have hB : headB hd = false := by unfold headB; rw [k1]; rfl
      exact iteT (iteT (mk2_end Er.it.oex Er.it.n1 Er.it.n2 fun dd H2 s2 _ he => qT' (0) (home_false hB) dd H2 (sp.trans ((Same.refl HB).trans s2)) he))
    | true =>
    refine iteF ⟨_, rfl, 1, rfl, -1, rfl, hd, rfl, hsl, lst1 hd, rfl, cut_asc hda _ _, hll, fun H3 s3 => ⟨_, rfl, ?_⟩⟩
    cases k3 : figB (lst1 hd) with
    | false =>
      have hB : headB hd = false := by unfold headB; rw [k1, k3]; rfl
      exact iteT (iteT (mk2_end Er.it.oex Er.it.n1 Er.it.n2 fun dd H2 s2 _ he => qT' (0) (home_false hB) dd H2 (sp.trans ((s3).trans s2)) he))
    | true =>
    refine iteF ⟨_, rfl, rfl, _, rfl, ?_⟩
    by_cases k4 : hd = ("0;" : Str)
    · have hB : headB hd = false := by unfold headB; rw [k1, k3, decide_eq_true k4]; rfl
      rw [show decide (V.str hd = V.str ("0;" : Str)) = true from decide_eq_true (by rw [k4])]
      exact iteT (mk2_end Er.it.oex Er.it.n1 Er.it.n2 fun dd H2 s2 _ he => qT' (0) (home_false hB) dd H2 (sp.trans ((s3).trans s2)) he)
    rw [show decide (V.str hd = V.str ("0;" : Str)) = false from decide_eq_false fun e => k4 (V.str.inj e)]
    have hB : headB hd = true := by unfold headB; rw [k1, k3, decide_eq_false k4]; rfl
    refine iteF ⟨_, rfl, 1, rfl, -1, rfl, hd, rfl, hsl, _, homeN hd, rfl, fig_int k3 hll, hll, ?_⟩
    refine fun sd hsd => ?_
    have s4 := s3.trans (same_upd hsd (o := .dK []))
    refine ⟨_, rfl, 1, rfl, p, _, rfl, .inl (.inl (s4 _ _ hpB)), fun e he => ?_⟩
    rw [cutV_1]
    have nde : sd ≠ e := ne_of_none upd_same he
    have s5 := s4.trans (same_upd he (o := .lst (r.map V.str)))
    have sdB : HB sd = none := by
      cases hx : HB sd with
      | none => rfl
      | some o => rw [s3 _ _ hx] at hsd; cases hsd
    refine ⟨e, r.map V.str, rfl, .inl (.inl upd_same), for_it walk_enum (fun i σ H' => ∃ (seen : List Str) (y5 y6 : Option V), σ = [some (.str z), some (.ref p), some (.str hd), some (.int (homeN hd)), some (.ref sd), y5, y6] ∧ Same HB H' ∧ H' e = some (.lst (r.map V.str)) ∧ H' sd = some (.dK (seenK seen)) ∧ seen.length ≤ i ∧ homeGo (homeN hd) r [] 1 = homeGo (homeN hd) (r.drop i) seen (i + 1)) ⟨[], none, none, rfl, s5, upd_same, by rw [upd_ne nde]; exact upd_same, Nat.le_refl _, rfl⟩ (fun i σ H' _ hp' => by obtain ⟨_, _, _, _, _, s', _⟩ := hp'; exact .inl (.inl s')) (fun i x σ H4 H5 hi hp' hy => ?_) (fun σ H4 hp' => ?_)⟩
    · obtain ⟨seen, y5, y6, rfl, s6, he6, hseen, hsl6, hgo⟩ := hp'
      obtain ⟨t, v1, y, rfl, ht, rfl, e1, e2⟩ := hy
      cases e1
      replace e2 : (r.map V.str)[i]? = some y := e2
      rw [List.getElem?_map] at e2
      obtain ⟨f, hf, rfl⟩ : ∃ f, r[i]? = some f ∧ y = V.str f := by
        cases hfi : r[i]? with
        | none => rw [hfi] at e2; cases e2
        | some f => rw [hfi] at e2; exact ⟨f, rfl, (Option.some.inj e2).symm⟩
      obtain ⟨hfa, hfl⟩ := hfs.2.2 f (List.mem_cons_of_mem _ (List.mem_of_getElem? hf))
      have hsf : small (.str f) = true := by
        refine small_mk ?_ (by simp only [PyData.depth]; omega)
        simp only [wt]
        have hfa' : ∀ c ∈ f.cps.toList, c < 128 := hfa
        rw [if_pos (List.all_eq_true.mpr fun c hc => decide_eq_true (hfa' c hc))]
        omega
      rw [List.length_map] at hi
      have hdr : r.drop i = f :: r.drop (i + 1) := by
        obtain ⟨hlt, e⟩ := List.getElem?_eq_some_iff.mp hf
        rw [List.drop_eq_getElem_cons hlt, e]
      rw [hdr, hgo_cons] at hgo
      have st := same_upd ht (o := .tup [.int (i : Nat), .str f])
      have bad : ∀ b, (isWideD (homeN hd) (.str f) && (!blankS f && !decide (f ∈ seen))) = b → b = false → readHome (hd :: r) = .inl (i + 1) := fun b e1 e2 => by
        rw [e1, e2] at hgo
        exact home_some hB hgo
      refine ⟨t, [.int (i : Nat), .str f], rfl, .inl (.inl upd_same), rfl, .int (i : Nat), [.str f], rfl, .str f, [], rfl, rfl, ?_⟩
      refine ⟨_, rfl, _, rfl, homeN hd, _, .str f, rfl, .str f, hsf, fun H6 s7 => ⟨_, rfl, ?_⟩⟩
      have sA := (s6.trans st).trans s7
      cases kw : isWideD (homeN hd) (.str f) with
      | false =>
        exact iteT (iteT ⟨_, rfl, _, _, rfl, rfl, mk2_end Er.it.oex Er.it.n1 Er.it.n2 fun dd H2 s2 _ he => qT' (i + 1) (bad _ (by rw [kw]; rfl) rfl) dd H2 (sp.trans ((sA).trans s2)) he⟩)
      | true =>
      refine iteF ⟨_, rfl, f, rfl, by omega, fun H7 s8 => ⟨_, rfl, ?_⟩⟩
      have sB := sA.trans s8
      cases kb : blankS f with
      | true =>
        exact iteT (iteT ⟨_, rfl, _, _, rfl, rfl, mk2_end Er.it.oex Er.it.n1 Er.it.n2 fun dd H2 s2 _ he => qT' (i + 1) (bad _ (by rw [kw, kb]; rfl) rfl) dd H2 (sp.trans ((sB).trans s2)) he⟩)
      | false =>
      have hseen7 := s8 _ _ (s7 _ _ (st _ _ hseen))
      refine iteF ⟨_, rfl, _, rfl, sd, _, rfl, DGet.k (k := Sum.inr f) hseen7, _, rfl, ?_⟩
      by_cases hm : f ∈ seen
      · rw [seen_some hm]
        exact iteT ⟨_, rfl, _, _, rfl, rfl, mk2_end Er.it.oex Er.it.n1 Er.it.n2 fun dd H2 s2 _ he => qT' (i + 1) (bad _ (by rw [kw, kb, decide_eq_true hm]; rfl) rfl) dd H2 (sp.trans ((sB).trans s2)) he⟩
      · rw [seen_none hm]
        refine iteF ⟨_, rfl, _, rfl, sd, _, rfl, DPut.k (k := Sum.inr f) hseen7 (by rw [List.length_map, sizeLine_eq]; omega), ?_⟩
        refine ⟨seen ++ [f], _, _, rfl, fun b' o e9 => ?_, ?_, ?_, by rw [List.length_append, List.length_singleton]; omega, ?_⟩
        · rw [upd_ne (ne_of_none e9 sdB)]
          exact sB _ _ e9
        · rw [upd_ne (Ne.symm nde)]
          exact s8 _ _ (s7 _ _ (st _ _ he6))
        · rw [upd_same, seen_put hm]
        · rw [hgo, kw, kb, decide_eq_false hm]
          rfl
    · obtain ⟨seen, y5, y6, rfl, s6, he6, hseen, hsl6, hgo⟩ := hp'
      rw [List.length_map, List.drop_length] at hgo
      refine ⟨_, rfl, _, rfl, 1, rfl, p, _, rfl, .inl (.inl (s6 _ _ hpB)), fun e2 he2 => ⟨e2, _, rfl, .inl ⟨.inl (.inl upd_same), fun t2 ht2 => ⟨two_ok, fun t3 ht3 => ?_⟩⟩⟩⟩
      refine qR' (homeN hd) r (home_none hB hgo) _ _ (sp.trans (((s6.trans (same_upd he2)).trans (same_upd ht2)).trans (same_upd ht3))) ?_
      exact .tup (.inl (.inl upd_same)) (.cons (.int _) (.cons (.tup (.inl (.inl (same_upd ht3 _ _ upd_same))) (by rw [cutV_1]; exact dpa_strs r)) .nil))
end
end V0
namespace V0
open PySem PySem.Spec PyProof.Rows L2
/-- what a house line's reading is told as -/
def readHD (fs : List Str) : PyData := match readHome fs with
  | .inl k => .tuple [.str "field", .int 0, .int (k : Nat)]
  | .inr (n, ws) => .tuple [.str "house", .tuple [.int n, .tuple (ws.map .str)]]
def spLReadHome (K : PySem.W.Frag) : Sp := fun vs H Q _ => ∃ z : Str, vs = [.str z] ∧ asc z ∧ z.length ≤ 300 ∧ ∀ r H', Same H H' → Dp K H' r (readHD (Txt.split z " ")) → Q r H'
section
variable {P : Program} {w : World} {K : PySem.W.Frag} {mg : Str → Option Value} {base : Heap} {cP cU cT : Addr}
abbrev s__law_read_home : Stmt := topS 54
theorem sc__law_read_home : FnScope ["_law_t", "_law_row_here", "_law_n", "_law_seen", "_law_k"] ["_law_t"] (defScope s__law_read_home) := ⟨rfl, rfl, rfl, by decide +kernel, rfl, by decide +kernel, by decide +kernel⟩
theorem ok__law_read_home  (T : Tops K mg) : Df P w K mg base CX0 2 "_law_read_home" s__law_read_home ["_law_t"] (spLReadHome K) := by
  have G__law_figures := ok__law_figures (P := P) (w := w) (base := base) T
  have G__law_letters := ok__law_letters (P := P) (w := w) (base := base) T
  refine df_mk (k := 2-1) T.d__law_read_home sc__law_read_home (fun vs H Q E h => ?_) (fun _ _ _ _ _ _ us hl => match us, hl with | [_], _ => rfl) (fun f cdv A outer s H vs Q E hr h => ?_)
  · obtain ⟨z, rfl, _⟩ := h
    rfl
  · obtain ⟨z, rfl, hza, hzl, q⟩ := h
    refine ⟨_, (pss_cons (ps_set (i := 1) sc__law_read_home.nd rfl (Or.inl rfl) (pe_bm PySem.F.plainAttrs_str PySem.F.slot_str_split PySem.F.type_str_split mt_split (pv 0) (pa_cons (pe_str) pa_nil)))
        (pss_cons (ps_set (i := 2) sc__law_read_home.nd rfl (Or.inl rfl) (pe_un un_neg (pe_int)))
        (pss_cons (ps_if (pt_val (pe_bm PySem.F.plainAttrs_str PySem.F.slot_str_endswith PySem.F.type_str_endswith mt_endswith (pe_ix (show IxR _ (rIxL K) from ix_list) (pv 1) (pe_int) (fun _ _ => rfl)) (pa_cons (pe_str) pa_nil))) (pss_one (ps_set (i := 2) sc__law_read_home.nd rfl (Or.inl rfl) (pe_df G__law_figures (hr.mono (by decide)) (by rfl) pass0 (pa_cons (pe_slice sl_str (pe_ix (show IxR _ (rIxL K) from ix_list) (pv 1) (pe_int) (fun _ _ => rfl)) po_none (po_some (pe_un un_neg (pe_int)))) pa_nil)))) pss_nil)
        (pss_cons (ps_if (pt_cmpR op_lt (pv 2) (pe_int) (nomark _)) (pss_one (ps_ret (pe_tup (pa_cons (pe_str) (pa_cons (pe_int) (pa_cons (pe_int) pa_nil)))))) pss_nil)
        (pss_cons (ps_set (i := 3) sc__law_read_home.nd rfl (Or.inl rfl) (pe_lst pa_nil))
        (pss_cons (ps_for PassesOwn.never rfl (pi_range2 (by rfl) T.b_range (pa_cons (pe_int) (pa_cons (pe_callB call_len (by rfl) T.b_len (by decide +kernel) (pa_cons (pv 1) pa_nil)) pa_nil))) (pg_name (i := 4) sc__law_read_home.nd rfl (Or.inl rfl)) (pss_cons (ps_if (PW.pt (pw_or (pt_not (pt_val (pe_df G__law_letters (hr.mono (by decide)) (by rfl) pass0 (pa_cons (pe_ix (show IxR _ (rIxL K) from ix_list) (pv 1) (pv 4) (fun _ _ => rfl)) pa_nil)))) (pw_or (pt_cmpR op_ne (pe_callB call_len (by rfl) T.b_len (by decide +kernel) (pa_cons (pe_ix (show IxR _ (rIxL K) from ix_list) (pv 1) (pv 4) (fun _ _ => rfl)) pa_nil)) (pv 2) (nomark _)) (pw_or (pt_cmpR op_eq (pe_bm PySem.F.plainAttrs_str PySem.F.slot_str_count PySem.F.type_str_count mt_count (pe_ix (show IxR _ (rIxL K) from ix_list) (pv 1) (pv 4) (fun _ _ => rfl)) (pa_cons (pe_str) pa_nil)) (pv 2) (nomark _)) (pw_or1 (pt_cmpR op_in_seq (pe_ix (show IxR _ (rIxL K) from ix_list) (pv 1) (pv 4) (fun _ _ => rfl)) (pv 3) (by rfl))))))) (pss_one (ps_ret (pe_tup (pa_cons (pe_str) (pa_cons (pe_int) (pa_cons (pv 4) pa_nil)))))) pss_nil)
        (pss_one (ps_expr (pe_bm PySem.F.plainAttrs_list PySem.F.slot_list_append PySem.F.type_list_append mt_append (pv 3) (pa_cons (pe_ix (show IxR _ (rIxL K) from ix_list) (pv 1) (pv 4) (fun _ _ => rfl)) pa_nil))))))
        (pss_one (ps_ret (pe_tup (pa_cons (pe_str) (pa_cons (pe_tup (pa_cons (pv 2) (pa_cons (pe_callTy call_tuple_of (by rfl) T.b_tuple (by decide +kernel) (pa_cons (pv 3) pa_nil)) pa_nil))) pa_nil))))))))))), ?_⟩
    have hfs := split_ok hza (by omega)
    refine ⟨_, rfl, rfl, z, " ", rfl, rfl, by decide, by rw [sizeLine_eq]; omega, fun p hp => ?_⟩
    generalize Txt.split z " " = fs at hfs q ⊢
    have sp := same_upd hp (o := .lst (fs.map V.str))
    generalize hHB : upd H p (.lst (fs.map V.str)) = HB at sp ⊢
    have hpB : HB p = some (.lst (fs.map V.str)) := by rw [← hHB]; exact upd_same
    have retF : ∀ k : Nat, readHome fs = .inl k → ∀ H', Same HB H' → ∀ t, H' t = none → Q (.ref t) (upd H' t (.tup [.str "field", .int 0, .int (k : Nat)])) := fun k e H' s' t ht => by
      refine q _ _ (sp.trans (s'.trans (same_upd ht))) ?_
      unfold readHD
      rw [e]
      exact .tup (.inl (.inl upd_same)) (.cons (.str _) (.cons (.int _) (.cons (.int _) .nil)))
    obtain ⟨hd, r, rfl⟩ : ∃ hd r, fs = hd :: r := by
      cases fs with
      | nil => exact absurd rfl hfs.1
      | cons a b => exact ⟨a, b, rfl⟩
    obtain ⟨hda, hdl⟩ := hfs.2.2 hd List.mem_cons_self
    have hsl : hd.length ≤ sizeLine := by rw [sizeLine_eq]; omega
    have hll : (lst1 hd).length ≤ 640 := Nat.le_trans (cut_len hd none (some (-1))) (by omega)
    have hr600 : r.length ≤ 600 := by have := hfs.2.1; simp at this; omega
    have ln3 : (3 : Nat) ≤ sizeLine := by decide
    refine ⟨1, rfl, ?_⟩
    refine ⟨_, rfl, p, _, 0, _, rfl, rfl, .inl (.inl hpB), at_of (j := 0) rfl rfl, rfl, hd, ";", rfl, rfl, _, rfl, ?_⟩
    cases k1 : Txt.endswith hd ";" with
    | false =>
      refine iteF ?_
      refine ⟨_, rfl, _, _, rfl, rfl, _, rfl, ?_⟩
      have eV : headV hd = -1 := by unfold headV; rw [k1]; rfl
      cases hB : headB hd with
      | false =>
        have h1 := head_false hB
        rw [eV] at h1
        rw [decide_eq_true h1]
        exact iteT ⟨ln3, fun t ht => retF 0 (home_false hB) _ (Same.refl HB) t ht⟩
      | true =>
      obtain ⟨e2, e3⟩ := head_true hB
      rw [eV] at e2
      exfalso
      omega
    | true =>
      refine iteT ⟨_, rfl, p, _, 0, _, rfl, rfl, .inl (.inl hpB), at_of (j := 0) rfl rfl, 1, rfl, -1, rfl, hd, rfl, hsl, lst1 hd, rfl, cut_asc hda _ _, hll, fun H3 s3 => ?_⟩
      refine ⟨_, rfl, _, _, rfl, rfl, _, rfl, ?_⟩
      have eV : headV hd = figV (lst1 hd) := by unfold headV; rw [k1]; rfl
      cases hB : headB hd with
      | false =>
        have h1 := head_false hB
        rw [eV] at h1
        rw [decide_eq_true h1]
        exact iteT ⟨ln3, fun t ht => retF 0 (home_false hB) _ s3 t ht⟩
      | true =>
      obtain ⟨e2, e3⟩ := head_true hB
      rw [eV] at e2
      rw [decide_eq_false (show ¬ figV (lst1 hd) < 1 by omega), e2]
      refine iteF ⟨Nat.zero_le _, fun sd hsd => ?_⟩
      have s4 := s3.trans (same_upd hsd (o := .lst []))
      have sdB : HB sd = none := by
        cases hx : HB sd with
        | none => rfl
        | some o => rw [s3 _ _ hx] at hsd; cases hsd
      refine ⟨_, rfl, _, r.length + 1, rfl, .inl ⟨(hd :: r).map V.str, .inl (.inl (s4 _ _ hpB)), by simp⟩, 1, ((r.length + 1 : Nat) : Int), rfl, ⟨by decide, by decide, by omega, by omega⟩, ?_⟩
      rw [show (((r.length + 1 : Nat) : Int) - 1).toNat = r.length by omega]
      refine for_it (walk_range (lo := 1)) (fun i σ H' => ∃ (seen : List Str) (y4 : Option V), σ = [some (.str z), some (.ref p), some (.int (homeN hd)), some (.ref sd), y4] ∧ Same HB H' ∧ H' sd = some (.lst (seen.map V.str)) ∧ seen = r.take i ∧ homeGo (homeN hd) r [] 1 = homeGo (homeN hd) (r.drop i) seen (i + 1)) ⟨[], none, rfl, s4, upd_same, rfl, rfl⟩ (fun _ _ _ _ _ => trivial) (fun i x σ H4 H5 hi hp' hy => ?_) (fun σ H4 hp' => ?_)
      · obtain ⟨seen, y4, rfl, s6, hseen, hst, hgo⟩ := hp'
        obtain ⟨rfl, rfl⟩ := hy
        obtain ⟨f, hf⟩ : ∃ f, r[i]? = some f := ⟨_, List.getElem?_eq_getElem hi⟩
        have ef : ((hd :: r).map V.str)[i + 1]? = some (.str f) := by rw [List.getElem?_map, List.getElem?_cons_succ, hf]; rfl
        obtain ⟨hfa, hfl⟩ := hfs.2.2 f (List.mem_cons_of_mem _ (List.mem_of_getElem? hf))
        have hfsl : f.length ≤ sizeLine := by rw [sizeLine_eq]; omega
        have hsf : small (.str f) = true := by
          refine small_mk ?_ (by simp only [PyData.depth]; omega)
          simp only [wt]
          have hfa' : ∀ c ∈ f.cps.toList, c < 128 := hfa
          rw [if_pos (List.all_eq_true.mpr fun c hc => decide_eq_true (hfa' c hc))]
          omega
        have hdr : r.drop i = f :: r.drop (i + 1) := by
          obtain ⟨hlt, e⟩ := List.getElem?_eq_some_iff.mp hf
          rw [List.drop_eq_getElem_cons hlt, e]
        rw [hdr, hgo_cons] at hgo
        have bad : ∀ b, (isWideD (homeN hd) (.str f) && (!blankS f && !decide (f ∈ seen))) = b → b = false → ∀ H', Same HB H' → ∀ t, H' t = none → Q (.ref t) (upd H' t (.tup [.str "field", .int 0, .int (1 + (i : Nat))])) := fun b e1 e2 H' s' t ht => by
          rw [e1, e2] at hgo
          have := retF (i + 1) (home_some hB hgo) H' s' t ht
          rw [show (((i + 1 : Nat)) : Int) = 1 + (i : Nat) by omega] at this
          exact this
        refine ⟨_, rfl, _, rfl, p, _, (1 + (i : Nat) : Int), .str f, rfl, rfl, .inl (.inl (s6 _ _ hpB)), at_of (j := i + 1) (by omega) ef, _, .str f, rfl, .str f, hsf, fun H6 s7 => ⟨_, rfl, ?_⟩⟩
        have sA := s6.trans s7
        show (if (!wordL f.cps.toList) = true then _ else _)
        cases kl : wordL f.cps.toList with
        | false => exact iteT (iteT ⟨_, rfl, ln3, bad _ (by show (wordL f.cps.toList && _ && _) = false; rw [kl]; rfl) rfl _ sA⟩)
        | true =>
        refine iteF ⟨_, rfl, _, rfl, p, _, (1 + (i : Nat) : Int), .str f, rfl, rfl, .inl (.inl (sA _ _ hpB)), at_of (j := i + 1) (by omega) ef, _, f.length, rfl, ⟨hfsl, rfl⟩, _, rfl, rfl, _, rfl, ?_⟩
        by_cases kn : ((f.length : Nat) : Int) ≠ homeN hd
        · rw [show decide (V.int ((f.length : Nat) : Int) = V.int (homeN hd)) = false from decide_eq_false fun e => kn (V.int.inj e)]
          exact iteT (iteT ⟨_, rfl, ln3, bad _ (by show (wordL f.cps.toList && decide (((f.length : Nat) : Int) = homeN hd) && _) = false; rw [kl, decide_eq_false kn]; rfl) rfl _ sA⟩)
        replace kn := Decidable.of_not_not kn
        rw [show decide (V.int ((f.length : Nat) : Int) = V.int (homeN hd)) = true from decide_eq_true (by rw [kn])]
        have kw : isWideD (homeN hd) (.str f) = true := by show (wordL f.cps.toList && decide (((f.length : Nat) : Int) = homeN hd)) = true; rw [kl, decide_eq_true kn]; rfl
        refine iteF ⟨_, rfl, _, rfl, p, _, (1 + (i : Nat) : Int), .str f, rfl, rfl, .inl (.inl (sA _ _ hpB)), at_of (j := i + 1) (by omega) ef, rfl, f, "I", rfl, rfl, _, rfl, rfl, _, rfl, ?_⟩
        rw [show decide (V.int (Txt.count f ("I" : Str)) = V.int (homeN hd)) = blankS f from by rw [← kn]; exact count_full f]
        cases kb : blankS f with
        | true => exact iteT (iteT ⟨_, rfl, ln3, bad _ (by rw [kw, kb]; rfl) rfl _ sA⟩)
        | false =>
        have hseen6 := s7 _ _ hseen
        refine iteF ⟨_, rfl, _, rfl, p, _, (1 + (i : Nat) : Int), .str f, rfl, rfl, .inl (.inl (sA _ _ hpB)), at_of (j := i + 1) (by omega) ef, _, rfl, sd, seen.map V.str, rfl, .inl (.inl (.inl hseen6)), rfl, flat_strs seen, _, rfl, ?_⟩
        rw [show (if false = true then !inV (.str f) (seen.map V.str) else inV (.str f) (seen.map V.str)) = decide (f ∈ seen) from inV_str _ seen]
        by_cases hm : f ∈ seen
        · rw [decide_eq_true hm]
          exact iteT ⟨_, rfl, ln3, bad _ (by rw [kw, kb, decide_eq_true hm]; rfl) rfl _ sA⟩
        · rw [decide_eq_false hm]
          have sl9 : seen.length ≤ 600 := by rw [hst, List.length_take]; omega
          refine iteF ⟨_, rfl, .inl ⟨rfl, _, .inl (.inl hseen6)⟩, _, rfl, _, rfl, p, _, (1 + (i : Nat) : Int), .str f, rfl, rfl, .inl (.inl (sA _ _ hpB)), at_of (j := i + 1) (by omega) ef, sd, _, _, rfl, rfl, hseen6, by rw [List.length_map, sizeLine_eq]; omega, ?_⟩
          refine ⟨seen ++ [f], _, rfl, fun b' o e9 => ?_, by rw [upd_same, List.map_append]; rfl, ?_, ?_⟩
          · rw [upd_ne (ne_of_none e9 sdB)]
            exact sA _ _ e9
          · rw [hst, List.take_add_one, hf]
            rfl
          · rw [hgo, kw, kb, decide_eq_false hm]
            rfl
      · obtain ⟨seen, y4, rfl, s6, hseen, hst, hgo⟩ := hp'
        rw [List.drop_length] at hgo
        rw [List.take_length] at hst
        refine ⟨_, rfl, _, rfl, sd, _, rfl, .inl ⟨.inl (.inl hseen), fun t1 ht1 => ⟨two_ok, fun t2 ht2 => ⟨two_ok, fun t3 ht3 => ?_⟩⟩⟩⟩
        refine q _ _ (sp.trans (((s6.trans (same_upd ht1)).trans (same_upd ht2)).trans (same_upd ht3))) ?_
        unfold readHD
        rw [home_none hB hgo]
        exact .tup (.inl (.inl upd_same)) (.cons (.str _) (.cons (.tup (.inl (.inl (same_upd ht3 _ _ upd_same))) (.cons (.int _) (.cons (.tup (.inl (.inl (same_upd ht3 _ _ (same_upd ht2 _ _ upd_same)))) (by rw [hst]; exact dpa_strs r)) .nil))) .nil))
end
end V0
namespace V0
open PySem PySem.Spec PyProof.Rows L2
/-- what the readers do with data -/
def toldD (wh n : Int) : PyData → PyData
  | .str z => if wh = 0 then readSD n (Txt.split z " ") else readHD (Txt.split z " ")
  | _ => .tuple [.str "no", .str "text", .int (-1)]
theorem told_no {wh n : Int} {d : PyData} (h : isD .s d = false) : toldD wh n d = .tuple [.str "no", .str "text", .int (-1)] := by
  cases d with
  | str z => cases h
  | _ => rfl
def spRead (K : PySem.W.Frag) : Sp := fun vs H Q _ => ∃ (wh n : Int) (v : V) (d : PyData), vs = [.int wh, .int n, v] ∧ (wh = 0 ∨ wh = 1) ∧ Dp K H v d ∧ small d = true ∧ 1 ≤ n ∧ n ≤ 1000 ∧ (∀ z, d = .str z → asc z ∧ z.length ≤ 300) ∧ ∀ r H', Same H H' → Dp K H' r (toldD wh n d) → Q r H'
section
variable {P : Program} {w : World} {K : PySem.W.Frag} {mg : Str → Option Value} {base : Heap} {cP cU cT : Addr}
abbrev s__law_read : Stmt := topS 55
theorem sc__law_read : FnScope ["_law_which", "_law_n", "_law_t", "e"] ["_law_which", "_law_n", "_law_t"] (defScope s__law_read) := ⟨rfl, rfl, rfl, by decide +kernel, rfl, by decide +kernel, by decide +kernel⟩
theorem ok__law_read (Er : Errs K mg cP cU cT) (Ki : Kin K mg cP cU cT) (T : Tops K mg) : Df P w K mg base CX0 6 "_law_read" s__law_read ["_law_which", "_law_n", "_law_t"] (spRead K) := by
  obtain ⟨cB, gBo, kB⟩ := Ki.born
  obtain ⟨cH, gHo, kH⟩ := Ki.house
  obtain ⟨cX, gTe, kX⟩ := Ki.text
  have G_read_short := ok_read_short (P := P) (w := w) (base := base) Er T
  have G_read_house := ok_read_house (P := P) (w := w) (base := base) Er T
  refine df_mk (k := 6-1) T.d__law_read sc__law_read (fun vs H Q E h => ?_) (fun _ _ _ _ _ _ us hl => match us, hl with | [_, _, _], _ => rfl) (fun f cdv A outer s H vs Q E hr h => ?_)
  · obtain ⟨wh, n, v, d, rfl, _⟩ := h
    rfl
  · obtain ⟨wh, n, v, d, rfl, hw, hd, hs, n1, n2, hz, q⟩ := h
    refine ⟨_, (pss_one (ps_try_nm (cs := [(.ref cT, 3, _), (.ref cU, 3, _)]) (W0 := fun _ _ _ _ => False) rfl rfl sc__law_read.nd takes_none5
          (.more ⟨rfl, by decide, .inl Er.it.gC⟩ rfl rfl (fun a oe cls d pn hz hf => (pss_cons (ps_if (PW.pt (pw_or (pt_not (pt_val (pe_callB (show CallR _ _ (rIsX K a cls d) from call_isX hz hf) (by rfl) T.b_isinstance (by decide +kernel) (pa_cons (pv 3) (pa_cons (pe_glob (v := .ref cX) rfl gTe rfl) pa_nil))))) (pw_or (pt_not (pt_val (pe_callB (show CallR _ _ (rIsX K a cls d) from call_isX hz hf) (by rfl) T.b_isinstance (by decide +kernel) (pa_cons (pv 3) (pa_cons (pe_glob (v := .ref cB) rfl gBo rfl) pa_nil))))) (pw_or1 (pt_val (pe_callB (show CallR _ _ (rIsX K a cls d) from call_isX hz hf) (by rfl) T.b_isinstance (by decide +kernel) (pa_cons (pv 3) (pa_cons (pe_glob (v := .ref cH) rfl gHo rfl) pa_nil)))))))) (pss_one (ps_ret (pe_tup (pa_cons pe_str (pa_cons (pe_un un_neg (pe_int)) pa_nil))))) pss_nil)
          (pss_one (ps_ret (pe_tup (pa_cons pe_str (pa_cons (pe_xf Er.it.xf Er.it.n1 hz hf (pv 3)) (pa_cons (pe_xf Er.it.xf Er.it.n2 hz hf (pv 3)) pa_nil)))))))) (.more ⟨rfl, by decide, .inl Er.nu.gC⟩ rfl rfl (fun a oe cls d pn hz hf => (pss_cons (ps_if (PW.pt (pw_or (pt_not (pt_val (pe_callB (show CallR _ _ (rIsX K a cls d) from call_isX hz hf) (by rfl) T.b_isinstance (by decide +kernel) (pa_cons (pv 3) (pa_cons (pe_glob (v := .ref cH) rfl gHo rfl) pa_nil))))) (pw_or (pt_not (pt_val (pe_callB (show CallR _ _ (rIsX K a cls d) from call_isX hz hf) (by rfl) T.b_isinstance (by decide +kernel) (pa_cons (pv 3) (pa_cons (pe_glob (v := .ref cB) rfl gBo rfl) pa_nil))))) (pw_or1 (pt_val (pe_callB (show CallR _ _ (rIsX K a cls d) from call_isX hz hf) (by rfl) T.b_isinstance (by decide +kernel) (pa_cons (pv 3) (pa_cons (pe_glob (v := .ref cX) rfl gTe rfl) pa_nil)))))))) (pss_one (ps_ret (pe_tup (pa_cons pe_str (pa_cons (pe_un un_neg (pe_int)) pa_nil))))) pss_nil)
          (pss_one (ps_ret (pe_tup (pa_cons pe_str (pa_cons (pe_xf Er.nu.xf Er.nu.n1 hz hf (pv 3)) (pa_cons (pe_xf Er.nu.xf Er.nu.n2 hz hf (pv 3)) pa_nil)))))))) .none))
          (fun W pn xe tk _ => (pss_cons (ps_if (PW.pt (pw_and (pt_cmpR op_eq (pv 0) (pe_int) (nomark _)) (pw_and1 (pt_cmpR op_eq (pe_op op_and (pv 1) (pe_int)) (pe_int) (nomark _))))) (pss_one (ps_ret (pe_tup (pa_cons pe_str (pa_cons (pe_dfS G_read_short (hr.mono (by decide)) (by rfl) (fun σ => passAt tk σ) (pa_cons (pv 1) (pa_cons (pv 2) pa_nil))) pa_nil))))) pss_nil)
          (pss_cons (ps_if (pt_cmpR op_eq (pv 0) (pe_int) (nomark _)) (pss_one (ps_ret (pe_tup (pa_cons pe_str (pa_cons (pe_dfkS G_read_short (hr.mono (by decide)) (by rfl) (fun σ => passAt tk σ) (pk_cons (pv 1) (pk_cons (pv 2) pk_nil)) (fun _ _ _ _ _ _ ws hl => match ws, hl with | [_, _], _ => rfl)) pa_nil))))) pss_nil)
          (pss_one (ps_ret (pe_tup (pa_cons pe_str (pa_cons (pe_dfkS G_read_house (hr.mono (by decide)) (by rfl) (fun σ => passAt tk σ) (pk_cons (pv 2) pk_nil) (fun _ _ _ _ _ _ ws hl => match ws, hl with | [_], _ => rfl)) pa_nil)))))))))), ?_⟩
    have ln3 : (3 : Nat) ≤ sizeLine := by decide
    have no : isD .s d = false → ∀ (dd : Addr) (H' : Hp), Same H H' → H' dd = some (.xd [("at", .int (-1)), ("word", .str "text")]) → ∀ t, H' t = none → Q (.ref t) (upd H' t (.tup [.str "no", .str "text", .int (-1)])) := fun e dd H' s' _ t ht => by
      refine q _ _ (s'.trans (same_upd ht)) ?_
      rw [told_no e]
      exact .tup (.inl (.inl upd_same)) (.cons (.str _) (.cons (.str _) (.cons (.int _) .nil)))
    rcases hw with rfl | rfl
    · have word : ∀ (z w : Str), d = .str z → readShort n (Txt.split z " ") = .inr w → ∀ H', Same H H' → ∀ t, H' t = none → Q (.ref t) (upd H' t (.tup [.str "word", .str w])) := fun z w ez er H' s' t ht => by
        refine q _ _ (s'.trans (same_upd ht)) ?_
        rw [ez]
        show Dp K _ _ (readSD n (Txt.split z " "))
        unfold readSD
        rw [er]
        exact .tup (.inl (.inl upd_same)) (.cons (.str _) (.cons (.str _) .nil))
      have fieldS : ∀ (z : Str) (k : Nat), d = .str z → readShort n (Txt.split z " ") = .inl k → ∀ (dd : Addr) H', Same H H' → H' dd = some (.xd [("field", .int (k : Nat)), ("line", .int 0)]) → ∀ t, H' t = none → Q (.ref t) (upd H' t (.tup [.str "field", .int 0, .int (k : Nat)])) := fun z k ez er dd H' s' _ t ht => by
        refine q _ _ (s'.trans (same_upd ht)) ?_
        rw [ez]
        show Dp K _ _ (readSD n (Txt.split z " "))
        unfold readSD
        rw [er]
        exact .tup (.inl (.inl upd_same)) (.cons (.str _) (.cons (.int _) (.cons (.int _) .nil)))
      refine ⟨_, rfl, rfl, _, rfl, iteT ⟨_, rfl, n, 1, rfl, rfl, rfl, _, rfl, ?_⟩⟩
      cases decide (V.int (Builtin.bitAnd n 1) = V.int 0) with
      | true =>
        refine iteT ⟨_, rfl, _, rfl, n, v, d, rfl, hd, hs, n1, n2, fun z ez => ⟨(hz z ez).1, Nat.le_trans (hz z ez).2 (by decide)⟩, (fun z w ez er H' s' => ?_), (fun z k ez er dd H' s' hdd => ⟨fun a _ ha => ?_, true, Ki.mTT, fun h => nomatch h⟩), (fun hn dd H' s' hdd => ⟨fun a e _ => absurd (Ki.mUT.symm.trans e) (by decide), false, Ki.mUT, fun _ => ⟨fun a _ ha => ?_, true, Ki.mUU, fun h => nomatch h⟩⟩)⟩
        · exact ⟨two_ok, fun t ht => word z w ez er H' s' t ht⟩
        · have hq := fieldS z k ez er dd H' s' hdd
          exact ⟨_, rfl, cT, dd, _, .ref cX, .ref cX, true, rfl, rfl, Ki.eT, rfl, hdd, fun u r => r, kX (cT, true) (by simp), true, rfl, iteF ⟨_, rfl, cT, dd, _, .ref cB, .ref cB, true, rfl, rfl, Ki.eT, rfl, hdd, fun u r => r, kB (cT, true) (by simp), true, rfl, iteF ⟨_, rfl, cT, dd, _, .ref cH, .ref cH, false, rfl, rfl, Ki.eT, rfl, hdd, fun u r => r, kH (cT, false) (by simp), false, rfl, iteF ⟨_, rfl, rfl, rfl, dd, _, _, rfl, hdd, rfl, _, rfl, rfl, rfl, dd, _, _, rfl, hdd, rfl, ln3, fun t ht => hq t ht⟩⟩⟩⟩
        · have hq := no hn dd H' s' hdd
          exact ⟨_, rfl, cU, dd, _, .ref cH, .ref cH, true, rfl, rfl, Ki.eU, rfl, hdd, fun u r => r, kH (cU, true) (by simp), true, rfl, iteF ⟨_, rfl, cU, dd, _, .ref cB, .ref cB, true, rfl, rfl, Ki.eU, rfl, hdd, fun u r => r, kB (cU, true) (by simp), true, rfl, iteF ⟨_, rfl, cU, dd, _, .ref cX, .ref cX, false, rfl, rfl, Ki.eU, rfl, hdd, fun u r => r, kX (cU, false) (by simp), false, rfl, iteF ⟨_, rfl, rfl, rfl, dd, _, _, rfl, hdd, rfl, _, rfl, rfl, rfl, dd, _, _, rfl, hdd, rfl, ln3, fun t ht => hq t ht⟩⟩⟩⟩
      | false =>
        refine iteF ⟨_, rfl, rfl, _, rfl, iteT ⟨_, rfl, _, rfl, rfl, n, v, d, rfl, hd, hs, n1, n2, fun z ez => ⟨(hz z ez).1, Nat.le_trans (hz z ez).2 (by decide)⟩, (fun z w ez er H' s' => ?_), (fun z k ez er dd H' s' hdd => ⟨fun a _ ha => ?_, true, Ki.mTT, fun h => nomatch h⟩), (fun hn dd H' s' hdd => ⟨fun a e _ => absurd (Ki.mUT.symm.trans e) (by decide), false, Ki.mUT, fun _ => ⟨fun a _ ha => ?_, true, Ki.mUU, fun h => nomatch h⟩⟩)⟩⟩
        · exact ⟨two_ok, fun t ht => word z w ez er H' s' t ht⟩
        · have hq := fieldS z k ez er dd H' s' hdd
          exact ⟨_, rfl, cT, dd, _, .ref cX, .ref cX, true, rfl, rfl, Ki.eT, rfl, hdd, fun u r => r, kX (cT, true) (by simp), true, rfl, iteF ⟨_, rfl, cT, dd, _, .ref cB, .ref cB, true, rfl, rfl, Ki.eT, rfl, hdd, fun u r => r, kB (cT, true) (by simp), true, rfl, iteF ⟨_, rfl, cT, dd, _, .ref cH, .ref cH, false, rfl, rfl, Ki.eT, rfl, hdd, fun u r => r, kH (cT, false) (by simp), false, rfl, iteF ⟨_, rfl, rfl, rfl, dd, _, _, rfl, hdd, rfl, _, rfl, rfl, rfl, dd, _, _, rfl, hdd, rfl, ln3, fun t ht => hq t ht⟩⟩⟩⟩
        · have hq := no hn dd H' s' hdd
          exact ⟨_, rfl, cU, dd, _, .ref cH, .ref cH, true, rfl, rfl, Ki.eU, rfl, hdd, fun u r => r, kH (cU, true) (by simp), true, rfl, iteF ⟨_, rfl, cU, dd, _, .ref cB, .ref cB, true, rfl, rfl, Ki.eU, rfl, hdd, fun u r => r, kB (cU, true) (by simp), true, rfl, iteF ⟨_, rfl, cU, dd, _, .ref cX, .ref cX, false, rfl, rfl, Ki.eU, rfl, hdd, fun u r => r, kX (cU, false) (by simp), false, rfl, iteF ⟨_, rfl, rfl, rfl, dd, _, _, rfl, hdd, rfl, _, rfl, rfl, rfl, dd, _, _, rfl, hdd, rfl, ln3, fun t ht => hq t ht⟩⟩⟩⟩
    · have house : ∀ (z : Str) (m : Int) (ws : List Str), d = .str z → readHome (Txt.split z " ") = .inr (m, ws) → ∀ r H', Same H H' → Dp K H' r (.tuple [.int m, .tuple (ws.map .str)]) → ∀ t, H' t = none → Q (.ref t) (upd H' t (.tup [.str "house", r])) := fun z m ws ez er r H' s' hr' t ht => by
        refine q _ _ (s'.trans (same_upd ht)) ?_
        rw [ez]
        show Dp K _ _ (readHD (Txt.split z " "))
        unfold readHD
        rw [er]
        exact .tup (.inl (.inl upd_same)) (.cons (.str _) (.cons (dp_mono (same_upd ht) hr') .nil))
      have fieldS : ∀ (z : Str) (k : Nat), d = .str z → readHome (Txt.split z " ") = .inl k → ∀ (dd : Addr) H', Same H H' → H' dd = some (.xd [("field", .int (k : Nat)), ("line", .int 0)]) → ∀ t, H' t = none → Q (.ref t) (upd H' t (.tup [.str "field", .int 0, .int (k : Nat)])) := fun z k ez er dd H' s' _ t ht => by
        refine q _ _ (s'.trans (same_upd ht)) ?_
        rw [ez]
        show Dp K _ _ (readHD (Txt.split z " "))
        unfold readHD
        rw [er]
        exact .tup (.inl (.inl upd_same)) (.cons (.str _) (.cons (.int _) (.cons (.int _) .nil)))
      refine ⟨_, rfl, rfl, _, rfl, iteF ⟨_, rfl, rfl, _, rfl, iteF ⟨_, rfl, rfl, v, d, rfl, hd, hs, hz, (fun z m ws ez er r H' s' hr' => ?_), (fun z k ez er dd H' s' hdd => ⟨fun a _ ha => ?_, true, Ki.mTT, fun h => nomatch h⟩), (fun hn dd H' s' hdd => ⟨fun a e _ => absurd (Ki.mUT.symm.trans e) (by decide), false, Ki.mUT, fun _ => ⟨fun a _ ha => ?_, true, Ki.mUU, fun h => nomatch h⟩⟩)⟩⟩⟩
      · exact ⟨two_ok, fun t ht => house z m ws ez er r H' s' hr' t ht⟩
      · have hq := fieldS z k ez er dd H' s' hdd
        exact ⟨_, rfl, cT, dd, _, .ref cX, .ref cX, true, rfl, rfl, Ki.eT, rfl, hdd, fun u r => r, kX (cT, true) (by simp), true, rfl, iteF ⟨_, rfl, cT, dd, _, .ref cB, .ref cB, true, rfl, rfl, Ki.eT, rfl, hdd, fun u r => r, kB (cT, true) (by simp), true, rfl, iteF ⟨_, rfl, cT, dd, _, .ref cH, .ref cH, false, rfl, rfl, Ki.eT, rfl, hdd, fun u r => r, kH (cT, false) (by simp), false, rfl, iteF ⟨_, rfl, rfl, rfl, dd, _, _, rfl, hdd, rfl, _, rfl, rfl, rfl, dd, _, _, rfl, hdd, rfl, ln3, fun t ht => hq t ht⟩⟩⟩⟩
      · have hq := no hn dd H' s' hdd
        exact ⟨_, rfl, cU, dd, _, .ref cH, .ref cH, true, rfl, rfl, Ki.eU, rfl, hdd, fun u r => r, kH (cU, true) (by simp), true, rfl, iteF ⟨_, rfl, cU, dd, _, .ref cB, .ref cB, true, rfl, rfl, Ki.eU, rfl, hdd, fun u r => r, kB (cU, true) (by simp), true, rfl, iteF ⟨_, rfl, cU, dd, _, .ref cX, .ref cX, false, rfl, rfl, Ki.eU, rfl, hdd, fun u r => r, kX (cU, false) (by simp), false, rfl, iteF ⟨_, rfl, rfl, rfl, dd, _, _, rfl, hdd, rfl, _, rfl, rfl, rfl, dd, _, _, rfl, hdd, rfl, ln3, fun t ht => hq t ht⟩⟩⟩⟩
end
end V0
namespace V0
open PySem PySem.Spec PyProof.Rows L2
/-! ### the short line of a word -/
def nameS (c k : Nat) : Str := tx [c] ++ Str.ofString (toString ((k : Nat) : Int))
def shortF : List Nat → Nat → List Str
  | [], _ => []
  | c :: r, k => if c = 73 then shortF r (k + 1) else nameS c k :: shortF r (k + 1)
theorem shortF_cons {c : Nat} {r : List Nat} {k : Nat} : shortF (c :: r) k = if c = 73 then shortF r (k + 1) else nameS c k :: shortF r (k + 1) := rfl
def shortT (z : Str) : Str := if shortF (cl z) 0 = [] then "-" else Txt.join " " (shortF (cl z) 0)
theorem figs_of : ∀ k < 61, (Str.ofString (toString ((k : Nat) : Int))).length ≤ 2 ∧ (cl (Str.ofString (toString ((k : Nat) : Int)))).all isFig = true := by decide +kernel
theorem small_log {i : Nat} (h : i < 61) : ((i : Nat) : Int).natAbs.log2 < 1920 := by
  have : ∀ k < 61, ((k : Nat) : Int).natAbs.log2 < 1920 := by decide +kernel
  exact this i h
theorem name_cl (c k : Nat) : cl (nameS c k) = c :: cl (Str.ofString (toString ((k : Nat) : Int))) := by
  unfold nameS
  rw [cl_app, cl_tx]
  rfl
theorem name_len (c : Nat) {k : Nat} (h : k < 61) : (nameS c k).length ≤ 3 := by
  rw [← cl_len, name_cl, List.length_cons, cl_len]
  have := (figs_of k h).1
  omega
theorem name_asc {c k : Nat} (hc : c < 128) (h : k < 61) : asc (nameS c k) := fun a ha => by
  rw [name_cl] at ha
  rcases List.mem_cons.mp ha with e | e
  · omega
  · have h2 := List.all_eq_true.mp (figs_of k h).2 a e
    have h3 := of_decide_eq_true (Bool.and_eq_true_iff.mp h2).2
    omega
theorem short_facts : ∀ (l : List Nat) (k : Nat), k + l.length ≤ 60 → (∀ c ∈ l, c < 128) → ∀ f ∈ shortF l k, asc f ∧ f.length ≤ 3
  | [], _, _, _, f, hf => by cases hf
  | c :: r, k, hl, hc, f, hf => by
    rw [List.length_cons] at hl
    rw [shortF_cons] at hf
    have ih := short_facts r (k + 1) (by omega) fun x hx => hc x (List.mem_cons_of_mem _ hx)
    split at hf
    · exact ih f hf
    · rcases List.mem_cons.mp hf with e | e
      · rw [e]
        exact ⟨name_asc (hc c List.mem_cons_self) (by omega), name_len c (by omega)⟩
      · exact ih f e
theorem sum_le3 : ∀ {l : List Str}, (∀ f ∈ l, f.length ≤ 3) → (l.map (·.length)).sum ≤ 3 * l.length
  | [], _ => Nat.zero_le _
  | a :: r, h => by
    have h1 := sum_le3 (l := r) fun f hf => h f (List.mem_cons_of_mem _ hf)
    have h2 := h a List.mem_cons_self
    rw [List.map_cons, List.sum_cons, List.length_cons]
    omega
def spShortL : Sp := fun vs H Q _ => ∃ z : Str, vs = [.str z] ∧ asc z ∧ z.length ≤ 60 ∧ ∀ H', Same H H' → Q (.str (shortT z)) H'
section
variable {P : Program} {w : World} {K : PySem.W.Frag} {mg : Str → Option Value} {base : Heap} {cP cU cT : Addr}
abbrev s_short_line : Stmt := topS 33
theorem sc_short_line : FnScope ["word", "fields", "k", "letter"] ["word"] (defScope s_short_line) := ⟨rfl, rfl, rfl, by decide +kernel, rfl, by decide +kernel, by decide +kernel⟩
theorem ok_short_line  (T : Tops K mg) : Df P w K mg base CX0 1 "short_line" s_short_line ["word"] spShortL := by
  refine df_mk (k := 1-1) T.d_short_line sc_short_line (fun vs H Q E h => ?_) (fun _ _ _ _ _ _ us hl => match us, hl with | [_], _ => rfl) (fun f cdv A outer s H vs Q E hr h => ?_)
  · obtain ⟨z, rfl, _⟩ := h
    rfl
  · obtain ⟨z, rfl, hza, hzl, q⟩ := h
    refine ⟨_, (pss_cons (ps_setLc (i := 1) (own := [("k", 2), ("letter", 3)]) (g := (gTup K 2 (gCons (gName 2) (gCons (gName 3) gNil)))) (by rfl) sc_short_line.nd rfl rfl (sw_true rfl rfl rfl (by decide +kernel)) (pi_enumS (by rfl) T.b_enumerate (pa_cons (pv 0) pa_nil)) (blkOk_by (own := [("k", 2), ("letter", 3)]) (N := ["word", "fields", "k", "letter"]) (sc := defScope s_short_line) (by decide +kernel)) (fun _ _ _ _ _ => by exact (pg_tup (by rfl) (pgs_cons (pg_name (i := 2) sc_short_line.nd rfl (Or.inl rfl)) (pgs_cons (pg_name (i := 3) sc_short_line.nd rfl (Or.inl rfl)) pgs_nil)))) (fun _ _ _ _ _ => (pts_one (pt_cmpR op_ne (pv 3) (pe_str) (nomark _)))) (fun _ _ _ _ _ => (pe_joined (.cons (pe_fmt (pv 3)) (.cons (pe_fmt (pv 2)) .nil)))))
        (pss_cons (ps_if (pt_cmpR (op_eqD hr.units) (pv 1) (pe_lst pa_nil) (nomark _)) (pss_one (ps_ret (pe_str))) pss_nil)
        (pss_one (ps_ret (pe_bm PySem.F.plainAttrs_str PySem.F.slot_str_join PySem.F.type_str_join mt_join (pe_str) (pa_cons (pv 1) pa_nil)))))), ?_⟩
    have hcl := cl_len z
    refine ⟨_, rfl, z, rfl, fun D hD => lc_it (te := fun σ H Q => tJs [tFmt (tVar 3), tFmt (tVar 2)] Str.empty σ H fun out H1 => Q (.str out) H1) walk_enumS (fun i H' => Same H H' ∧ ∃ acc : List Str, H' D = some (.lst (acc.map V.str)) ∧ acc.length ≤ i ∧ acc ++ shortF ((cl z).drop i) i = shortF (cl z) 0) ⟨same_upd hD, [], upd_same, Nat.le_refl _, rfl⟩ (fun _ _ _ _ => trivial) (fun i x H2 H3 hi hp hy => ?_) (fun H2 hp => ?_)⟩
    · obtain ⟨s2, acc, hacc, hal, hsh⟩ := hp
      obtain ⟨t, c, rfl, ht, rfl, hc⟩ := hy
      have hi60 : i < 61 := by
        have : i < z.length := hi
        omega
      have hcc : (cl z)[i]? = some c := by unfold cl; rw [Array.getElem?_toList]; exact hc
      have hdr : (cl z).drop i = c :: (cl z).drop (i + 1) := by
        obtain ⟨hlt, e⟩ := List.getElem?_eq_some_iff.mp hcc
        rw [List.drop_eq_getElem_cons hlt, e]
      rw [hdr, shortF_cons] at hsh
      have st := same_upd ht (o := .tup [.int (i : Nat), .str (tx [c])])
      have hacc3 := st _ _ hacc
      refine ⟨t, [.int (i : Nat), .str (tx [c])], rfl, .inl (.inl upd_same), rfl, .int (i : Nat), [.str (tx [c])], rfl, .str (tx [c]), [], rfl, rfl, rfl, ?_⟩
      refine ⟨_, rfl, rfl, _, rfl, ?_⟩
      have e3 : decide (V.str (tx [c]) = V.str ("I" : Str)) = decide (c = 73) := decide_eq_decide.mpr ⟨fun e => List.head_eq_of_cons_eq (tx_inj (V.str.inj e : tx [c] = tx [73])), fun e => by rw [e]; rfl⟩
      rw [e3]
      by_cases h73 : c = 73
      · rw [decide_eq_true h73]
        rw [if_pos h73] at hsh
        exact iteF ⟨s2.trans st, acc, hacc3, by omega, hsh⟩
      · rw [decide_eq_false h73]
        rw [if_neg h73] at hsh
        have l1 : (tx [c]).length = 1 := tx_len [c]
        have hN := name_len c hi60
        have eN : Str.empty ++ tx [c] ++ Str.ofString (toString ((i : Nat) : Int)) = nameS c i := by
          unfold nameS
          rw [show Str.empty = tx [] from rfl, tx_app]
          rfl
        refine iteT ⟨_, rfl, .inl ⟨tx [c], rfl, by rw [l1]; decide, tx [c], rfl, by rw [show Str.empty = tx [] from rfl, tx_app, tx_len]; show 1 ≤ sizeLine; decide, _, rfl, .inr ⟨((i : Nat) : Int), rfl, small_log hi60, _, rfl, ?_, ?_⟩⟩⟩
        · show (Str.empty ++ tx [c] ++ Str.ofString (toString ((i : Nat) : Int))).length ≤ sizeLine
          rw [eN, sizeLine_eq]
          omega
        · refine ⟨acc.map V.str, hacc3, by rw [List.length_map, sizeLine_eq]; omega, fun b o e => ?_, acc ++ [nameS c i], ?_, by rw [List.length_append, List.length_singleton]; omega, by rw [List.append_assoc]; exact hsh⟩
          · rw [upd_ne (ne_of_none e hD)]
            exact st _ _ (s2 _ _ e)
          · rw [upd_same, List.map_append, ← eN]
            rfl
    · obtain ⟨s2, acc, hacc, hal, hsh⟩ := hp
      have hz0 : (cl z).drop z.cps.size = [] := by
        rw [List.drop_eq_nil_iff]
        show _ ≤ z.length
        omega
      rw [hz0] at hsh
      replace hsh : acc = shortF (cl z) 0 := by rw [← hsh]; simp [shortF]
      have hsz : z.cps.size = z.length := rfl
      refine ⟨_, rfl, Nat.zero_le _, fun a ha => ?_⟩
      have sa := same_upd ha (o := .lst [])
      have hF := short_facts (cl z) 0 (by omega) fun c hc => hza c hc
      rw [← hsh] at hF
      refine ⟨.list (acc.map .str), .list (([] : List Str).map .str), .lst (.inl (.inl (sa _ _ hacc))) (dpa_strs acc), .lst (.inl (.inl upd_same)) .nil, strs_shaped (by omega) (fun f hf => ⟨(hF f hf).1, by have := (hF f hf).2; omega⟩), by decide +kernel, _, rfl, ?_⟩
      rw [eqv_lists]
      have qq := fun H' s' => q H' s'
      unfold shortT at qq
      rw [← hsh] at qq
      by_cases h0 : acc = []
      · rw [decide_eq_true h0]
        rw [if_pos h0] at qq
        exact iteT (qq _ (s2.trans sa))
      · rw [decide_eq_false h0]
        rw [if_neg h0] at qq
        refine iteF ⟨rfl, _, rfl, " ", D, acc, rfl, rfl, .inl (.inl (.inl (sa _ _ hacc))), ?_, qq _ (s2.trans sa)⟩
        have := sum_le3 (l := acc) fun f hf => (hF f hf).2
        have l1 : (" " : Str).length = 1 := rfl
        rw [l1]
        omega
end
end V0
namespace V0
open PySem PySem.Spec PyProof.Rows L2
/-- the line of a house -/
def homeT (n : Int) (ws : List Str) : Str := Txt.join " " ((Str.ofString (toString n) ++ ";") :: ws)
theorem strs_inv {K : PySem.W.Frag} {H : Hp} : ∀ {ws : List Str} {ys : List V}, DpAll K H ys (ws.map .str) → ys = ws.map V.str
  | [], _, .nil => rfl
  | w :: r, _, .cons h a => by
    cases h
    rw [strs_inv (ws := r) a]
    rfl
theorem num_len {n : Int} (h1 : 1 ≤ n) (h3 : n ≤ 3) : (Str.ofString (toString n)).length ≤ 2 := by
  rcases n123 h1 h3 with rfl | rfl | rfl <;> decide +kernel
theorem num_log {n : Int} (h1 : 1 ≤ n) (h3 : n ≤ 3) : n.natAbs.log2 < 1920 := by
  rcases n123 h1 h3 with rfl | rfl | rfl <;> decide +kernel
def spHouseL (K : PySem.W.Frag) : Sp := fun vs H Q _ => ∃ (v : V) (n : Int) (ws : List Str), vs = [v] ∧ Dp K H v (.tuple [.int n, .tuple (ws.map .str)]) ∧ 1 ≤ n ∧ n ≤ 3 ∧ HomeOk n 7 ws ∧ ∀ H', Same H H' → Q (.str (homeT n ws)) H'
section
variable {P : Program} {w : World} {K : PySem.W.Frag} {mg : Str → Option Value} {base : Heap} {cP cU cT : Addr}
abbrev s__law_short : Stmt := topS 52
theorem sc__law_short : FnScope ["_law_w", "_law_row_here", "_law_k"] ["_law_w"] (defScope s__law_short) := ⟨rfl, rfl, rfl, by decide +kernel, rfl, by decide +kernel, by decide +kernel⟩
theorem ok__law_short  (T : Tops K mg) : Df P w K mg base CX0 1 "_law_short" s__law_short ["_law_w"] spShortL := by
  refine df_mk (k := 1-1) T.d__law_short sc__law_short (fun vs H Q E h => ?_) (fun _ _ _ _ _ _ us hl => match us, hl with | [_], _ => rfl) (fun f cdv A outer s H vs Q E hr h => ?_)
  · obtain ⟨z, rfl, _⟩ := h
    rfl
  · obtain ⟨z, rfl, hza, hzl, q⟩ := h
    refine ⟨_, (pss_cons (ps_setLc (i := 1) (own := [("_law_k", 2)]) (g := (gName 2)) (by rfl) sc__law_short.nd rfl rfl (sw_true rfl rfl rfl (by decide +kernel)) (pi_range1 (by rfl) T.b_range (pa_cons (pe_callB call_len (by rfl) T.b_len (by decide +kernel) (pa_cons (pv 0) pa_nil)) pa_nil)) (blkOk_by (own := [("_law_k", 2)]) (N := ["_law_w", "_law_row_here", "_law_k"]) (sc := defScope s__law_short) (by decide +kernel)) (fun _ _ _ _ _ => pg_name (i := 2) sc__law_short.nd rfl (Or.inl rfl)) (fun _ _ _ _ _ => (pts_one (pt_cmpR op_ne (pe_item_str (pv 0) (pv 2) (fun _ _ => rfl)) (pe_str) (nomark _)))) (fun _ _ _ _ _ => (pe_op op_add_str (pe_item_str (pv 0) (pv 2) (fun _ _ => rfl)) (pe_callTy call_str_int (by rfl) T.b_str (by decide +kernel) (pa_cons (pv 2) pa_nil)))))
        (pss_cons (ps_if (pt_cmpR (op_eqD hr.units) (pv 1) (pe_lst pa_nil) (nomark _)) (pss_one (ps_ret (pe_str))) pss_nil)
        (pss_one (ps_ret (pe_bm PySem.F.plainAttrs_str PySem.F.slot_str_join PySem.F.type_str_join mt_join (pe_str) (pa_cons (pv 1) pa_nil)))))), ?_⟩
    have hcl := cl_len z
    refine ⟨_, rfl, _, z.length, rfl, ⟨by rw [sizeLine_eq]; omega, rfl⟩, ((z.length : Nat) : Int), rfl, by omega, by omega, fun D hD => lc_it walk_r0 (fun i H' => Same H H' ∧ ∃ acc : List Str, H' D = some (.lst (acc.map V.str)) ∧ acc.length ≤ i ∧ acc ++ shortF ((cl z).drop i) i = shortF (cl z) 0) ⟨same_upd hD, [], upd_same, Nat.le_refl _, rfl⟩ (fun _ _ _ _ => trivial) (fun i x H2 H3 hi hp hy => ?_) (fun H2 hp => ?_)⟩
    · obtain ⟨s2, acc, hacc, hal, hsh⟩ := hp
      obtain ⟨rfl, rfl⟩ := hy
      have hil : i < z.length := hi
      have hi60 : i < 61 := by omega
      obtain ⟨c, hc⟩ : ∃ c, z.cps[i]? = some c := ⟨z.cps[i]'hil, Array.getElem?_eq_getElem hil⟩
      have hcc : (cl z)[i]? = some c := by unfold cl; rw [Array.getElem?_toList]; exact hc
      have hdr : (cl z).drop i = c :: (cl z).drop (i + 1) := by
        obtain ⟨hlt, e⟩ := List.getElem?_eq_some_iff.mp hcc
        rw [List.drop_eq_getElem_cons hlt, e]
      rw [hdr, shortF_cons] at hsh
      refine ⟨rfl, _, rfl, _, rfl, z, ((i : Nat) : Int), c, rfl, rfl, by omega, by omega, by omega, hc, rfl, _, rfl, ?_⟩
      have e3 : decide (V.str (tx [c]) = V.str ("I" : Str)) = decide (c = 73) := decide_eq_decide.mpr ⟨fun e => List.head_eq_of_cons_eq (tx_inj (V.str.inj e : tx [c] = tx [73])), fun e => by rw [e]; rfl⟩
      rw [show decide (V.str { cps := #[c] } = V.str ("I" : Str)) = decide (c = 73) from e3]
      by_cases h73 : c = 73
      · rw [decide_eq_true h73]
        rw [if_pos h73] at hsh
        exact iteF ⟨s2, acc, hacc, by omega, hsh⟩
      · rw [decide_eq_false h73]
        rw [if_neg h73] at hsh
        have hN := name_len c hi60
        refine iteT ⟨_, rfl, _, rfl, z, ((i : Nat) : Int), c, rfl, rfl, by omega, by omega, by omega, hc, _, rfl, ((i : Nat) : Int), rfl, small_log hi60, tx [c], Str.ofString (toString ((i : Nat) : Int)), rfl, rfl, ?_, ?_⟩
        · have h2 := (figs_of i hi60).1
          have h1 : (tx [c]).length = 1 := tx_len [c]
          rw [h1, sizeLine_eq]
          omega
        · refine ⟨acc.map V.str, hacc, by rw [List.length_map, sizeLine_eq]; omega, fun b o e => ?_, acc ++ [nameS c i], ?_, by rw [List.length_append, List.length_singleton]; omega, by rw [List.append_assoc]; exact hsh⟩
          · rw [upd_ne (ne_of_none e hD)]
            exact s2 _ _ e
          · rw [upd_same, List.map_append]
            rfl
    · obtain ⟨s2, acc, hacc, hal, hsh⟩ := hp
      have hz0 : (cl z).drop ((z.length : Nat) : Int).toNat = [] := by
        rw [List.drop_eq_nil_iff]
        omega
      rw [hz0] at hsh
      replace hsh : acc = shortF (cl z) 0 := by rw [← hsh]; simp [shortF]
      refine ⟨_, rfl, Nat.zero_le _, fun a ha => ?_⟩
      have sa := same_upd ha (o := .lst [])
      have hF := short_facts (cl z) 0 (by omega) fun c hc => hza c hc
      rw [← hsh] at hF
      refine ⟨.list (acc.map .str), .list (([] : List Str).map .str), .lst (.inl (.inl (sa _ _ hacc))) (dpa_strs acc), .lst (.inl (.inl upd_same)) .nil, strs_shaped (by omega) (fun f hf => ⟨(hF f hf).1, by have := (hF f hf).2; omega⟩), by decide +kernel, _, rfl, ?_⟩
      rw [eqv_lists]
      have qq := fun H' s' => q H' s'
      unfold shortT at qq
      rw [← hsh] at qq
      by_cases h0 : acc = []
      · rw [decide_eq_true h0]
        rw [if_pos h0] at qq
        exact iteT (qq _ (s2.trans sa))
      · rw [decide_eq_false h0]
        rw [if_neg h0] at qq
        refine iteF ⟨rfl, _, rfl, " ", D, acc, rfl, rfl, .inl (.inl (.inl (sa _ _ hacc))), ?_, qq _ (s2.trans sa)⟩
        have := sum_le3 (l := acc) fun f hf => (hF f hf).2
        have l1 : (" " : Str).length = 1 := rfl
        rw [l1]
        omega
abbrev s_house_line : Stmt := topS 34
theorem sc_house_line : FnScope ["house"] ["house"] (defScope s_house_line) := ⟨rfl, rfl, rfl, by decide +kernel, rfl, by decide +kernel, by decide +kernel⟩
theorem ok_house_line  (T : Tops K mg) : Df P w K mg base CX0 1 "house_line" s_house_line ["house"] (spHouseL K) := by
  refine df_mk (k := 1-1) T.d_house_line sc_house_line (fun vs H Q E h => ?_) (fun _ _ _ _ _ _ us hl => match us, hl with | [_], _ => rfl) (fun f cdv A outer s H vs Q E hr h => ?_)
  · obtain ⟨v, n, ws, rfl, _⟩ := h
    rfl
  · obtain ⟨v, n, ws, rfl, hd, n1, n3, hok, q⟩ := h
    refine ⟨_, (pss_one (ps_ret (pe_bm PySem.F.plainAttrs_str PySem.F.slot_str_join PySem.F.type_str_join mt_join (pe_str) (pa_cons (pe_op op_cat (pe_lst (pa_cons (pe_joined (.cons (pe_fmt (pe_ix (show IxR _ (rIxT K) from ix_tup) (pv 0) (pe_int) (fun _ _ => rfl))) (.cons pe_str .nil))) pa_nil)) (pe_callTy call_list_of (by rfl) T.b_list (by decide +kernel) (pa_cons (pe_ix (show IxR _ (rIxT K) from ix_tup) (pv 0) (pe_int) (fun _ _ => rfl)) pa_nil))) pa_nil)))), ?_⟩
    cases hd with
    | @tup a xs _ hq ha =>
    obtain ⟨v0, v1, rfl⟩ : ∃ v0 v1, xs = [v0, v1] := by
      match xs, dpa_len ha with
      | [v0, v1], _ => exact ⟨v0, v1, rfl⟩
    obtain ⟨_, e0, h0⟩ := dpa_get (i := 0) ha rfl
    obtain ⟨_, e1, h1⟩ := dpa_get (i := 1) ha rfl
    cases e0
    cases e1
    cases h0
    cases h1 with
    | @tup b ys _ hqb hab =>
    have eys := strs_inv hab
    subst eys
    have hw3 : ∀ w ∈ ws, w.length ≤ 3 := fun w hw => by
      obtain ⟨_, h2⟩ := ascii_wide (hok.2.2 w hw).1
      omega
    have hsum := sum_le3 hw3
    have hw7 := hok.1
    have ln := num_len n1 n3
    have e9 : Str.empty ++ Str.ofString (toString n) = Str.ofString (toString n) := by
      rw [show Str.empty = tx [] from rfl, tx_of (Str.ofString (toString n)), tx_app]
      rfl
    have l9 : (Str.ofString (toString n) ++ (";" : Str)).length ≤ 3 := by
      rw [← cl_len, cl_app, List.length_append, cl_len]
      have : (cl (";" : Str)).length = 1 := rfl
      omega
    refine ⟨rfl, _, rfl, a, _, 0, _, rfl, rfl, hq, at_of (j := 0) rfl rfl, .inr ⟨n, rfl, num_log n1 n3, _, rfl, ?_, ";", rfl, ?_, ?_⟩⟩
    · show (Str.empty ++ Str.ofString (toString n)).length ≤ sizeLine
      rw [e9, sizeLine_eq]
      omega
    · show (Str.empty ++ Str.ofString (toString n) ++ (";" : Str)).length ≤ sizeLine
      rw [e9, sizeLine_eq]
      omega
    refine ⟨by show 1 ≤ sizeLine; decide, fun p1 hp1 => ?_⟩
    have s1 := same_upd hp1 (o := .lst [.str (Str.empty ++ Str.ofString (toString n) ++ (";" : Str))])
    refine ⟨_, rfl, a, _, 1, _, rfl, rfl, Same.seqT s1 hq, at_of (j := 1) rfl rfl, b, _, rfl, .inr (Same.seqT s1 hqb), fun l hl => ?_⟩
    have s2 := same_upd hl (o := .lst (ws.map V.str))
    refine ⟨p1, l, _, _, rfl, rfl, s2 _ _ upd_same, upd_same, by rw [List.length_map, sizeLine_eq]; simp; omega, fun t ht => ?_⟩
    have s3 := same_upd ht (o := .lst ([.str (Str.empty ++ Str.ofString (toString n) ++ (";" : Str))] ++ ws.map V.str))
    refine ⟨" ", t, (Str.ofString (toString n) ++ (";" : Str)) :: ws, rfl, rfl, .inl (.inl (.inl ?_)), ?_, q _ ((s1.trans s2).trans s3)⟩
    · rw [upd_same, e9]
      rfl
    · have l1 : (" " : Str).length = 1 := rfl
      rw [List.map_cons, List.sum_cons, List.length_cons, l1]
      omega
end
end V0
namespace V0
open PySem PySem.Spec PyProof.Rows L2
/-! ### rows of fields, as they are spoilt -/
def wsum (l : List Str) : Nat := (l.map fun f => f.length + 1).sum
theorem wsum_nil : wsum [] = 0 := rfl
theorem wsum_cons (a : Str) (l : List Str) : wsum (a :: l) = a.length + 1 + wsum l := by simp [wsum]
theorem wsum_app (a b : List Str) : wsum (a ++ b) = wsum a + wsum b := by simp [wsum]
theorem wsum_len : ∀ l : List Str, l.length ≤ wsum l ∧ (l.map (·.length)).sum + l.length = wsum l
  | [] => ⟨Nat.le_refl _, rfl⟩
  | a :: r => by
    obtain ⟨h1, h2⟩ := wsum_len r
    rw [wsum_cons, List.length_cons, List.map_cons, List.sum_cons]
    exact ⟨by omega, by omega⟩
theorem wsum_split (l : List Str) (k : Nat) : wsum (l.take k) + wsum (l.drop k) = wsum l := by
  rw [← wsum_app, List.take_append_drop]
theorem wsum_set : ∀ (l : List Str) (k : Nat) (f : Str), wsum (l.set k f) ≤ wsum l + (f.length + 1)
  | [], _, _ => Nat.zero_le _
  | a :: r, 0, f => by
    rw [List.set_cons_zero, wsum_cons, wsum_cons]
    omega
  | a :: r, k + 1, f => by
    have := wsum_set r k f
    rw [List.set_cons_succ, wsum_cons, wsum_cons]
    omega
theorem wsum_erase : ∀ (l : List Str) (k : Nat), wsum (l.eraseIdx k) ≤ wsum l
  | [], _ => Nat.zero_le _
  | a :: r, 0 => by
    rw [List.eraseIdx_cons_zero, wsum_cons]
    omega
  | a :: r, k + 1 => by
    have := wsum_erase r k
    rw [List.eraseIdx_cons_succ, wsum_cons, wsum_cons]
    omega
theorem join_wsum : ∀ (l : List Str), l ≠ [] → (cl (Str.join " " l)).length + 1 = wsum l
  | [], h => absurd rfl h
  | [a], _ => by
    show (cl a).length + 1 = _
    rw [cl_len, wsum_cons, wsum_nil]
  | a :: b :: r, _ => by
    have ih := join_wsum (b :: r) (by simp)
    have e2 : cl (Str.join " " (a :: b :: r)) = cl a ++ [32] ++ cl (Str.join " " (b :: r)) := by
      rw [show Str.join " " (a :: b :: r) = a ++ " " ++ Str.join " " (b :: r) from rfl, cl_app, cl_app]
      rfl
    rw [e2, wsum_cons, ← ih, List.length_append, List.length_append, cl_len, List.length_singleton]
    omega
theorem join_asc : ∀ (l : List Str), (∀ f ∈ l, asc f) → asc (Str.join " " l)
  | [], _ => fun c hc => absurd hc List.not_mem_nil
  | [a], h => h a List.mem_cons_self
  | a :: b :: r, h => fun c hc => by
    have e2 : cl (Str.join " " (a :: b :: r)) = cl a ++ [32] ++ cl (Str.join " " (b :: r)) := by
      rw [show Str.join " " (a :: b :: r) = a ++ " " ++ Str.join " " (b :: r) from rfl, cl_app, cl_app]
      rfl
    rw [e2] at hc
    rcases List.mem_append.mp hc with k | k
    · rcases List.mem_append.mp k with k | k
      · exact h a List.mem_cons_self c k
      · rw [List.mem_singleton.mp k]
        decide
    · exact join_asc (b :: r) (fun f hf => h f (List.mem_cons_of_mem _ hf)) c k
/-- after i steps -/
structure RowOk (i : Nat) (fs : List Str) : Prop where
  ne : fs ≠ []
  mem : ∀ f ∈ fs, asc f ∧ f.length ≤ 12
  wt : wsum fs ≤ 241 + 13 * i
theorem RowOk.pos {i : Nat} {fs : List Str} (h : RowOk i fs) : 0 < fs.length := List.length_pos_iff.mpr h.ne
theorem RowOk.len {i : Nat} {fs : List Str} (h : RowOk i fs) : fs.length ≤ 241 + 13 * i := Nat.le_trans (wsum_len fs).1 h.wt
theorem RowOk.sum {i : Nat} {fs : List Str} (h : RowOk i fs) : (fs.map (·.length)).sum + fs.length ≤ 241 + 13 * i := Nat.le_trans (Nat.le_of_eq (wsum_len fs).2) h.wt
theorem RowOk.join {i : Nat} {fs : List Str} (h : RowOk i fs) (hi : i ≤ 2) : asc (Txt.join " " fs) ∧ (Txt.join " " fs).length ≤ 300 := by
  rw [show Txt.join " " fs = Str.join " " fs from StrLaws.glued_eq_join _ _]
  refine ⟨join_asc fs fun f hf => (h.mem f hf).1, ?_⟩
  have := join_wsum fs h.ne
  have := h.wt
  rw [← cl_len]
  omega
theorem RowOk.set {i : Nat} {fs : List Str} {f : Str} (h : RowOk i fs) (hf : asc f ∧ f.length ≤ 12) (k : Nat) : RowOk (i + 1) (fs.set k f) := by
  refine ⟨fun e => h.ne (List.length_eq_zero_iff.mp (by have := congrArg List.length e; rw [List.length_set] at this; exact this)), fun g hg => ?_, ?_⟩
  · rcases List.mem_or_eq_of_mem_set hg with e | e
    · exact h.mem g e
    · rw [e]
      exact hf
  · have := wsum_set fs k f
    have := h.wt
    omega
theorem RowOk.ins {i : Nat} {fs : List Str} {f : Str} (h : RowOk i fs) (hf : asc f ∧ f.length ≤ 12) (k : Nat) : RowOk (i + 1) (fs.take k ++ [f] ++ fs.drop k) := by
  refine ⟨by simp, fun g hg => ?_, ?_⟩
  · rcases List.mem_append.mp hg with e | e
    · rcases List.mem_append.mp e with e | e
      · exact h.mem g (List.mem_of_mem_take e)
      · rw [List.mem_singleton.mp e]
        exact hf
    · exact h.mem g (List.mem_of_mem_drop e)
  · have := wsum_split fs k
    have := h.wt
    rw [wsum_app, wsum_app, wsum_cons, wsum_nil]
    omega
theorem RowOk.app {i : Nat} {fs : List Str} {f : Str} (h : RowOk i fs) (hf : asc f ∧ f.length ≤ 12) : RowOk (i + 1) (fs ++ [f]) := by
  refine ⟨by simp, fun g hg => ?_, ?_⟩
  · rcases List.mem_append.mp hg with e | e
    · exact h.mem g e
    · rw [List.mem_singleton.mp e]
      exact hf
  · have := h.wt
    rw [wsum_app, wsum_cons, wsum_nil]
    omega
theorem RowOk.mov {i : Nat} {fs : List Str} {f : Str} (h : RowOk i fs) (hf : asc f ∧ f.length ≤ 12) (k : Nat) : RowOk (i + 1) (fs.eraseIdx k ++ [f]) := by
  refine ⟨by simp, fun g hg => ?_, ?_⟩
  · rcases List.mem_append.mp hg with e | e
    · exact h.mem g (List.mem_of_mem_eraseIdx e)
    · rw [List.mem_singleton.mp e]
      exact hf
  · have := wsum_erase fs k
    have := h.wt
    rw [wsum_app, wsum_cons, wsum_nil]
    omega
theorem RowOk.less {i : Nat} {fs : List Str} (h : RowOk i fs) (k : Nat) (hk : k < fs.length) (h1 : 1 < fs.length) : RowOk (i + 1) (fs.eraseIdx k) := by
  refine ⟨fun e => ?_, fun g hg => h.mem g (List.mem_of_mem_eraseIdx hg), ?_⟩
  · have := congrArg List.length e
    rw [List.length_eraseIdx_of_lt hk, List.length_nil] at this
    omega
  · have := wsum_erase fs k
    have := h.wt
    omega
theorem RowOk.next {i : Nat} {fs : List Str} (h : RowOk i fs) : RowOk (i + 1) fs := ⟨h.ne, h.mem, by have := h.wt; omega⟩
theorem map_erase (l : List Str) (k : Nat) : (l.map V.str).eraseIdx k = (l.eraseIdx k).map V.str := by
  induction l generalizing k with
  | nil => rfl
  | cons a r ih =>
    cases k with
    | zero => rfl
    | succ k => rw [List.map_cons, List.eraseIdx_cons_succ, List.eraseIdx_cons_succ, List.map_cons, ih]
theorem row_split {z : Str} (hz : asc z) (hl : z.length ≤ 240) (hf : ∀ f ∈ Txt.split z " ", f.length ≤ 12) : RowOk 0 (Txt.split z " ") := by
  have h := split_ok hz (by omega)
  refine ⟨h.1, fun f k => ⟨(h.2.2 f k).1, hf f k⟩, ?_⟩
  rw [← join_wsum _ h.1, StrLaws.join_split, cl_len]
  omega
theorem sam2_at {p o b : Addr} {H H' : Hp} {x : HO} (s : Sam2 p o H H') (n1 : b ≠ p) (n2 : b ≠ o) (e : H b = some x) : H' b = some x := by
  have h := s.1 b x (by rw [del_ne n2, del_ne n1]; exact e)
  rw [del_ne n2, del_ne n1] at h
  exact h
def spTurned (K : PySem.W.Frag) : Sp := fun vs H Q _ => ∃ (p m : Addr) (z : Str) (ms : List Str), vs = [.ref p, .ref m, .str z] ∧ Pool H p ∧ H m = some (.lst (ms.map V.str)) ∧ m ≠ p ∧ 0 < ms.length ∧ ms.length ≤ 100 ∧ (∀ f ∈ ms, asc f ∧ f.length ≤ 12) ∧ asc z ∧ z.length ≤ 240 ∧ (∀ f ∈ Txt.split z " ", f.length ≤ 12) ∧
  ∀ y H', Sam p H H' → asc y → y.length ≤ 300 → Q (.str y) H'
section
variable {P : Program} {w : World} {K : PySem.W.Frag} {mg : Str → Option Value} {base : Heap} {cP cU cT : Addr}
abbrev s__law_turned : Stmt := topS 56
theorem sc__law_turned : FnScope ["_law_pool_here", "_law_menu", "_law_t", "_law_row_here", "_law_k", "_law_at", "_law_how"] ["_law_pool_here", "_law_menu", "_law_t"] (defScope s__law_turned) := ⟨rfl, rfl, rfl, by decide +kernel, rfl, by decide +kernel, by decide +kernel⟩
theorem ok__law_turned  (T : Tops K mg) : Df P w K mg base CX0 2 "_law_turned" s__law_turned ["_law_pool_here", "_law_menu", "_law_t"] (spTurned K) := by
  have G__law_take := ok__law_take (P := P) (w := w) (base := base) T
  refine df_mk (k := 2-1) T.d__law_turned sc__law_turned (fun vs H Q E h => ?_) (fun _ _ _ _ _ _ us hl => match us, hl with | [_, _, _], _ => rfl) (fun f cdv A outer s H vs Q E hr h => ?_)
  · obtain ⟨p, m, z, ms, rfl, _⟩ := h
    rfl
  · obtain ⟨p, m, z, ms, rfl, hP, hm, nmp, ms0, ms1, hms, hza, hzl, hzf, q⟩ := h
    refine ⟨_, (pss_cons (ps_set (i := 3) sc__law_turned.nd rfl (Or.inl rfl) (pe_bm PySem.F.plainAttrs_str PySem.F.slot_str_split PySem.F.type_str_split mt_split (pv 2) (pa_cons (pe_str) pa_nil)))
        (pss_cons (ps_for PassesOwn.never rfl (pi_range1 (by rfl) T.b_range (pa_cons (pe_op op_add (pe_int) (pe_df G__law_take (hr.mono (by decide)) (by rfl) pass0 (pa_cons (pv 0) (pa_cons (pe_int) pa_nil)))) pa_nil)) (pg_name (i := 4) sc__law_turned.nd rfl (Or.inl rfl)) (pss_cons (ps_set (i := 5) sc__law_turned.nd rfl (Or.inl rfl) (pe_df G__law_take (hr.mono (by decide)) (by rfl) pass0 (pa_cons (pv 0) (pa_cons (pe_callB call_len (by rfl) T.b_len (by decide +kernel) (pa_cons (pv 3) pa_nil)) pa_nil))))
        (pss_cons (ps_set (i := 6) sc__law_turned.nd rfl (Or.inl rfl) (pe_df G__law_take (hr.mono (by decide)) (by rfl) pass0 (pa_cons (pv 0) (pa_cons (pe_int) pa_nil))))
        (pss_one (ps_if (pt_cmpR op_lt (pv 6) (pe_int) (nomark _)) (pss_one (ps_asg (pe_ix (show IxR _ (rIxL K) from ix_list) (pv 1) (pe_df G__law_take (hr.mono (by decide)) (by rfl) pass0 (pa_cons (pv 0) (pa_cons (pe_callB call_len (by rfl) T.b_len (by decide +kernel) (pa_cons (pv 1) pa_nil)) pa_nil))) (fun _ _ => rfl)) (pg_sub (pv 3) (pv 5) set_list))) (pss_one (ps_if (pt_cmpR op_eq (pv 6) (pe_int) (nomark _)) (pss_one (ps_expr (pe_bm PySem.F.plainAttrs_list PySem.F.slot_list_insert PySem.F.type_list_insert mt_insert (pv 3) (pa_cons (pv 5) (pa_cons (pe_ix (show IxR _ (rIxL K) from ix_list) (pv 1) (pe_df G__law_take (hr.mono (by decide)) (by rfl) pass0 (pa_cons (pv 0) (pa_cons (pe_callB call_len (by rfl) T.b_len (by decide +kernel) (pa_cons (pv 1) pa_nil)) pa_nil))) (fun _ _ => rfl)) pa_nil))))) (pss_one (ps_if (pt_cmpR op_eq (pv 6) (pe_int) (nomark _)) (pss_one (ps_expr (pe_bm PySem.F.plainAttrs_list PySem.F.slot_list_append PySem.F.type_list_append mt_append (pv 3) (pa_cons (pe_ix (show IxR _ (rIxL K) from ix_list) (pv 3) (pv 5) (fun _ _ => rfl)) pa_nil)))) (pss_one (ps_if (pt_cmpR op_eq (pv 6) (pe_int) (nomark _)) (pss_one (ps_expr (pe_bm PySem.F.plainAttrs_list PySem.F.slot_list_append PySem.F.type_list_append mt_append (pv 3) (pa_cons (pe_bm PySem.F.plainAttrs_list PySem.F.slot_list_pop PySem.F.type_list_pop mt_popAt (pv 3) (pa_cons (pv 5) pa_nil)) pa_nil)))) (pss_one (ps_if (pt_cmpR op_gt (pe_callB call_len (by rfl) T.b_len (by decide +kernel) (pa_cons (pv 3) pa_nil)) (pe_int) (nomark _)) (pss_one (ps_expr (pe_bm PySem.F.plainAttrs_list PySem.F.slot_list_pop PySem.F.type_list_pop mt_popAt (pv 3) (pa_cons (pv 5) pa_nil)))) pss_nil)))))))))))))
        (pss_one (ps_ret (pe_bm PySem.F.plainAttrs_str PySem.F.slot_str_join PySem.F.type_str_join mt_join (pe_str) (pa_cons (pv 3) pa_nil)))))), ?_⟩
    refine ⟨_, rfl, rfl, z, " ", rfl, rfl, by decide, by rw [sizeLine_eq]; omega, fun o ho => ?_⟩
    have hrow0 := row_split hza hzl hzf
    generalize Txt.split z " " = fs0 at hrow0 ⊢
    have nop : o ≠ p := pool_ne hP ho
    have nmo : m ≠ o := ne_of_none hm ho
    have SB : Sam p H (upd H o (.lst (fs0.map V.str))) := Sam.of hP (same_upd ho)
    have hmB : (upd H o (.lst (fs0.map V.str))) m = some (.lst (ms.map V.str)) := by rw [upd_ne nmo]; exact hm
    refine ⟨_, rfl, p, 2, rfl, SB.2, by decide, by decide, fun r0 H2 r00 r01 S2 => ⟨_, _, rfl, rfl, 1 + r0, rfl, by omega, by omega, ?_⟩⟩
    refine for_it walk_r0 (fun i σ H' => Sam2 p o (upd H o (.lst (fs0.map V.str))) H' ∧ ∃ (fs : List Str) (y4 y5 y6 : Option V), σ = [some (.ref p), some (.ref m), some (.str z), some (.ref o), y4, y5, y6] ∧ H' o = some (.lst (fs.map V.str)) ∧ RowOk i fs) ⟨S2.two, fs0, none, none, none, rfl, sam_at S2 nop upd_same, hrow0⟩ (fun _ _ _ _ _ => trivial) (fun i x σ H3 H4 hi hp hy => ?_) (fun σ H3 hp => ?_)
    · obtain ⟨S3, fs, y4, y5, y6, rfl, o3, hrow⟩ := hp
      obtain ⟨rfl, rfl⟩ := hy
      have hi2 : i < 2 := by omega
      have hl1 := hrow.len
      have hl2 := hrow.pos
      refine ⟨_, rfl, _, rfl, _, fs.length, rfl, .inl ⟨fs.map V.str, .inl (.inl o3), by rw [List.length_map]⟩, p, _, rfl, S3.2, by omega, by omega, fun ra H5 a0 a1 S5 => ?_⟩
      refine ⟨_, rfl, p, 8, rfl, S5.2, by decide, by decide, fun rh H6 h0 h1 S6' => ?_⟩
      have S6 := (S3.trans S5.two).trans S6'.two
      have o6 := sam_at S6' nop (sam_at S5 nop o3)
      obtain ⟨g, hg⟩ : ∃ g, fs[ra.toNat]? = some g := ⟨_, List.getElem?_eq_getElem (by omega)⟩
      have eg : (fs.map V.str)[ra.toNat]? = some (.str g) := by rw [List.getElem?_map, hg]; rfl
      have hgm := hrow.mem g (List.mem_of_getElem? hg)
      refine ⟨_, rfl, _, _, rfl, rfl, _, rfl, ?_⟩
      have fin : ∀ (Hx : Hp) (row : List Str) (y4 y5 y6 : Option V), Sam2 p o H6 Hx → RowOk (i + 1) row → (Sam2 p o (upd H o (.lst (fs0.map V.str))) (upd Hx o (.lst (row.map V.str))) ∧ ∃ (fs : List Str) (z4 z5 z6 : Option V), [some (V.ref p), some (.ref m), some (.str z), some (.ref o), y4, y5, y6] = [some (V.ref p), some (.ref m), some (.str z), some (.ref o), z4, z5, z6] ∧ (upd Hx o (.lst (row.map V.str))) o = some (.lst (fs.map V.str)) ∧ RowOk (i + 1) fs) := fun Hx row y4 y5 y6 sx hr => ⟨(S6.trans sx).trans (sam2_upd sx.2 nop), row, _, _, _, rfl, upd_same, hr⟩
      have hsz : (fs.map V.str).length < sizeLine := by rw [List.length_map, sizeLine_eq]; omega
      have same6 : Sam2 p o H6 H6 := ⟨Same.refl _, S6.2⟩
      have sqi : seqIndex? ra (fs.map V.str).length = some ra.toNat := by
        have e1 : ¬ ra < 0 := by omega
        have e2 : (decide (0 ≤ ra) && decide (ra < (((fs.map V.str).length : Nat) : Int))) = true := by rw [List.length_map, decide_eq_true a0, decide_eq_true a1]; rfl
        show (if (decide (0 ≤ if ra < 0 then ra + (((fs.map V.str).length : Nat) : Int) else ra) && decide ((if ra < 0 then ra + (((fs.map V.str).length : Nat) : Int) else ra) < (((fs.map V.str).length : Nat) : Int))) = true then some (if ra < 0 then ra + (((fs.map V.str).length : Nat) : Int) else ra).toNat else none) = _
        rw [if_neg e1, if_pos e2]
      by_cases c4 : rh < 4
      · rw [decide_eq_true c4]
        refine iteT ⟨_, rfl, _, rfl, _, rfl, _, ms.length, rfl, .inl ⟨ms.map V.str, .inl (.inl (sam2_at S6 nmp nmo hmB)), by rw [List.length_map]⟩, p, _, rfl, S6.2, by omega, by omega, fun rm H7 m0 m1 sm => ?_⟩
        obtain ⟨f, hf⟩ : ∃ f, ms[rm.toNat]? = some f := ⟨_, List.getElem?_eq_getElem (by omega)⟩
        have efm : (ms.map V.str)[rm.toNat]? = some (.str f) := by rw [List.getElem?_map, hf]; rfl
        have hfm := hms f (List.mem_of_getElem? hf)
        have o7 := sam_at sm nop o6
        refine ⟨m, ms.map V.str, rm, .str f, rfl, rfl, .inl (.inl (sam2_at (S6.trans sm.two) nmp nmo hmB)), at_of (by omega) efm, ?_⟩
        refine ⟨_, rfl, _, rfl, o, fs.map V.str, ra, ra.toNat, rfl, rfl, o7, ?_, ?_⟩
        · unfold ixN
          rw [if_pos a0, if_pos (by rw [List.length_map]; omega)]
        · rw [← List.map_set]
          exact fin H7 _ _ _ _ sm.two (hrow.set hfm _)
      rw [decide_eq_false c4]
      refine iteF ⟨_, rfl, rfl, _, rfl, ?_⟩
      by_cases k4 : rh = 4
      · rw [show decide (V.int rh = V.int 4) = true from decide_eq_true (by rw [k4])]
        refine iteT ⟨_, rfl, .inl ⟨rfl, _, .inl (.inl o6)⟩, _, rfl, _, rfl, _, rfl, _, rfl, _, ms.length, rfl, .inl ⟨ms.map V.str, .inl (.inl (sam2_at S6 nmp nmo hmB)), by rw [List.length_map]⟩, p, _, rfl, S6.2, by omega, by omega, fun rm H7 m0 m1 sm => ?_⟩
        obtain ⟨f, hf⟩ : ∃ f, ms[rm.toNat]? = some f := ⟨_, List.getElem?_eq_getElem (by omega)⟩
        have efm : (ms.map V.str)[rm.toNat]? = some (.str f) := by rw [List.getElem?_map, hf]; rfl
        have hfm := hms f (List.mem_of_getElem? hf)
        have o7 := sam_at sm nop o6
        refine ⟨m, ms.map V.str, rm, .str f, rfl, rfl, .inl (.inl (sam2_at (S6.trans sm.two) nmp nmo hmB)), at_of (by omega) efm, ?_⟩
        refine ⟨o, fs.map V.str, ra, .str f, rfl, rfl, o7, hsz, a0, by omega, ?_⟩
        rw [show (fs.map V.str).take ra.toNat ++ [V.str f] ++ (fs.map V.str).drop ra.toNat = (fs.take ra.toNat ++ [f] ++ fs.drop ra.toNat).map V.str by simp [List.map_take, List.map_drop]]
        exact fin H7 _ _ _ _ sm.two (hrow.ins hfm _)
      rw [show decide (V.int rh = V.int 4) = false from decide_eq_false fun e => k4 (V.int.inj e)]
      refine iteF ⟨_, rfl, rfl, _, rfl, ?_⟩
      by_cases k5 : rh = 5
      · rw [show decide (V.int rh = V.int 5) = true from decide_eq_true (by rw [k5])]
        refine iteT ⟨_, rfl, .inl ⟨rfl, _, .inl (.inl o6)⟩, _, rfl, _, rfl, o, _, ra, .str g, rfl, rfl, .inl (.inl o6), at_of (by omega) eg, o, _, _, rfl, rfl, o6, hsz, ?_⟩
        rw [show fs.map V.str ++ [V.str g] = (fs ++ [g]).map V.str by simp]
        exact fin H6 _ _ _ _ same6 (hrow.app hgm)
      rw [show decide (V.int rh = V.int 5) = false from decide_eq_false fun e => k5 (V.int.inj e)]
      refine iteF ⟨_, rfl, rfl, _, rfl, ?_⟩
      by_cases k6 : rh = 6
      · rw [show decide (V.int rh = V.int 6) = true from decide_eq_true (by rw [k6])]
        refine iteT ⟨_, rfl, .inl ⟨rfl, _, .inl (.inl o6)⟩, _, rfl, .inl ⟨rfl, _, .inl (.inl o6)⟩, _, rfl, o, _, ra, ra.toNat, .str g, rfl, rfl, o6, by omega, by omega, sqi, eg, o, _, _, rfl, rfl, upd_same, ?_, ?_⟩
        · rw [map_erase, List.length_map, sizeLine_eq]
          have := List.length_eraseIdx_le fs ra.toNat
          omega
        · rw [map_erase, show (fs.eraseIdx ra.toNat).map V.str ++ [V.str g] = (fs.eraseIdx ra.toNat ++ [g]).map V.str by simp]
          exact fin _ _ _ _ _ (sam2_upd S6.2 nop) (hrow.mov hgm _)
      rw [show decide (V.int rh = V.int 6) = false from decide_eq_false fun e => k6 (V.int.inj e)]
      refine iteF ⟨_, rfl, _, fs.length, rfl, .inl ⟨fs.map V.str, .inl (.inl o6), by rw [List.length_map]⟩, _, _, rfl, rfl, _, rfl, ?_⟩
      by_cases k1 : (1 : Int) < (fs.length : Nat)
      · rw [decide_eq_true k1]
        refine iteT ⟨_, rfl, .inl ⟨rfl, _, .inl (.inl o6)⟩, _, rfl, o, _, ra, ra.toNat, .str g, rfl, rfl, o6, by omega, by omega, sqi, eg, ?_⟩
        rw [map_erase]
        exact fin H6 _ _ _ _ same6 (hrow.less _ (by omega) (by omega))
      · rw [decide_eq_false k1]
        exact iteF ⟨S6, fs, _, _, _, rfl, o6, hrow.next⟩
    · obtain ⟨S3, fs, y4, y5, y6, rfl, o3, hrow⟩ := hp
      obtain ⟨j1, j2⟩ := hrow.join (by omega)
      have hl1 := hrow.len
      have hs := hrow.sum
      refine ⟨rfl, _, rfl, " ", o, fs, rfl, rfl, .inl (.inl (.inl o3)), ?_, q _ _ ⟨((sam2_new ho).trans S3.1).trans (del_le _ o), S3.2⟩ j1 j2⟩
      have l1 : (" " : Str).length = 1 := rfl
      rw [l1]
      omega
end
end V0
namespace V0
open PySem PySem.Spec PyProof.Rows L2
/-! ### a short line, read back -/
theorem figs_back : ∀ k < 61, figB (Str.ofString (toString ((k : Nat) : Int))) = true ∧ numV (Str.ofString (toString ((k : Nat) : Int))) = ((k : Nat) : Int) := by decide +kernel
theorem name_fst (c k : Nat) : fst1 (nameS c k) = tx [c] := cl_inj (by rw [cl_fst, name_cl, cl_tx]; rfl)
theorem name_rst (c k : Nat) : rst1 (nameS c k) = Str.ofString (toString ((k : Nat) : Int)) := cl_inj (by rw [cl_rst, name_cl]; rfl)
theorem name_field {n low : Int} {c k : Nat} (hc : c ∈ [88, 89, 90]) (hk : k < 61) (h1 : low ≤ (k : Nat)) (h2 : ((k : Nat) : Int) < n) : fieldB n low (nameS c k) = true := by
  obtain ⟨e1, e2⟩ := figs_back k hk
  unfold fieldB xyzB
  rw [name_fst, name_rst, e1, e2, decide_eq_true h1, decide_eq_true h2, Bool.and_true, Bool.and_true, Bool.and_true]
  simp only [List.mem_cons, List.not_mem_nil, or_false] at hc
  rcases hc with rfl | rfl | rfl <;> decide
theorem name_num {c k : Nat} (hk : k < 61) : numV (rst1 (nameS c k)) = ((k : Nat) : Int) := by
  rw [name_rst]
  exact (figs_back k hk).2
theorem set_mid {α : Type} (x y : α) (b : List α) : ∀ a : List α, (a ++ x :: b).set a.length y = a ++ y :: b
  | [] => rfl
  | z :: r => by
    rw [List.cons_append, List.length_cons, List.set_cons_succ, set_mid x y b r]
    rfl
/-- the fields of what is left, read on what was read -/
theorem go_back {n : Int} : ∀ (l pre : List Nat) (low : Int) (j : Nat), (∀ c ∈ l, c ∈ [73, 88, 90, 89]) → pre.length + l.length ≤ 60 → (((pre.length + l.length : Nat)) : Int) = n → low ≤ (pre.length : Nat) →
    shortGo n (shortF l pre.length) low j ((pre ++ List.replicate l.length 73).map fun c => tx [c]) = .inr ((pre ++ l).map fun c => tx [c])
  | [], pre, low, j, _, _, _, _ => rfl
  | c :: r, pre, low, j, hc, hl, hn, hlow => by
    rw [List.length_cons] at hl hn
    have hcm := hc c List.mem_cons_self
    have hr : ∀ x ∈ r, x ∈ [73, 88, 90, 89] := fun x hx => hc x (List.mem_cons_of_mem _ hx)
    have e1 : (pre ++ [c]).length = pre.length + 1 := by simp
    rw [shortF_cons]
    by_cases h : c = 73
    · subst h
      rw [if_pos rfl]
      have ih := go_back (n := n) r (pre ++ [73]) low j hr (by rw [e1]; omega) (by rw [e1]; omega) (by rw [e1]; omega)
      rw [e1, List.append_assoc, List.append_assoc] at ih
      rw [List.length_cons, List.replicate_succ]
      exact ih
    · rw [if_neg h]
      have hx : c ∈ [88, 89, 90] := by
        simp only [List.mem_cons, List.not_mem_nil, or_false] at hcm ⊢
        omega
      rw [go_cons, if_pos (name_field hx (by omega) hlow (by omega)), name_num (by omega), name_fst]
      have ih := go_back (n := n) r (pre ++ [c]) ((pre.length : Nat) + 1) (j + 1) hr (by rw [e1]; omega) (by rw [e1]; omega) (by rw [e1]; omega)
      rw [e1, List.append_assoc, List.append_assoc] at ih
      have e2 : ((pre ++ List.replicate (r.length + 1) 73).map fun c => tx [c]).set ((pre.length : Nat) : Int).toNat (tx [c]) = (pre ++ ([c] ++ List.replicate r.length 73)).map fun c => tx [c] := by
        rw [List.replicate_succ, List.map_append, List.map_cons, show ((pre.length : Nat) : Int).toNat = (pre.map fun c => tx [c]).length by simp, set_mid]
        simp
      rw [List.length_cons, e2]
      exact ih
theorem name_noblank {c k : Nat} (hc : c ≠ 32) (hk : k < 61) : ¬ 32 ∈ cl (nameS c k) := fun h => by
  rw [name_cl] at h
  rcases List.mem_cons.mp h with e | e
  · exact hc e.symm
  · have h2 := List.all_eq_true.mp (figs_of k hk).2 32 e
    exact absurd h2 (by decide)
theorem short_noblank : ∀ (l : List Nat) (k : Nat), k + l.length ≤ 60 → (∀ c ∈ l, c ∈ [73, 88, 90, 89]) → ∀ f ∈ shortF l k, ¬ 32 ∈ cl f ∧ (cl f).length ≥ 2 ∧ f.length ≤ 3
  | [], _, _, _, f, hf => by cases hf
  | c :: r, k, hl, hc, f, hf => by
    rw [List.length_cons] at hl
    rw [shortF_cons] at hf
    have ih := short_noblank r (k + 1) (by omega) fun x hx => hc x (List.mem_cons_of_mem _ hx)
    have hcm := hc c List.mem_cons_self
    split at hf
    · exact ih f hf
    · rcases List.mem_cons.mp hf with e | e
      · rw [e]
        refine ⟨name_noblank (fun e2 => ?_) (by omega), ?_, name_len c (by omega)⟩
        · rw [e2] at hcm
          exact absurd hcm (by decide)
        · rw [name_cl, List.length_cons]
          have h3 := (fig_digits (figs_back k (by omega)).1).2
          have : (cl (Str.ofString (toString ((k : Nat) : Int)))).length ≠ 0 := fun e3 => h3 (List.length_eq_zero_iff.mp e3)
          omega
      · exact ih f e
theorem split_back {fs : List Str} (h0 : fs ≠ []) (h : ∀ f ∈ fs, ¬ 32 ∈ cl f) : Txt.split (Txt.join " " fs) " " = fs :=
  TL.split_join (s := 32) (S := []) rfl (by decide +kernel) h0 fun f hf => h f hf
/-- the line of a word is read back as the word -/
theorem read_back {n : Int} {cs : List Nat} (hc : ∀ c ∈ cs, c ∈ [73, 88, 90, 89]) (hl : ((cs.length : Nat) : Int) = n) (h1 : 1 ≤ n) (h60 : n ≤ 60) : readShort n (Txt.split (shortT (tx cs)) " ") = .inr (tx cs) := by
  have hnb := short_noblank cs 0 (by omega) hc
  have hgo := go_back (n := n) cs [] 0 0 hc (by simp; omega) (by simp; omega) (by simp)
  have eI : ((([] : List Nat) ++ List.replicate cs.length 73).map fun c => tx [c]) = List.replicate n.toNat ("I" : Str) := by
    rw [List.nil_append, List.map_replicate, show cs.length = n.toNat by omega]
    rfl
  rw [eI] at hgo
  unfold shortT
  rw [cl_tx]
  by_cases h0 : shortF cs 0 = []
  · rw [if_pos h0]
    rw [show shortF cs ([] : List Nat).length = [] from h0] at hgo
    have e1 := Sum.inr.inj (show (Sum.inr (List.replicate n.toNat ("I" : Str)) : Nat ⊕ List Str) = _ from hgo)
    have e2 : Txt.split ("-" : Str) " " = [("-" : Str)] := by decide +kernel
    rw [e2]
    unfold readShort
    rw [if_pos rfl]
    congr 1
    rw [List.nil_append, ← eI] at e1
    rw [← join_signs cs, ← e1, ← join_signs (List.replicate n.toNat 73), eI, List.map_replicate]
    rfl
  · rw [if_neg h0, split_back h0 fun f hf => (hnb f hf).1]
    have h2 : ∀ f ∈ shortF cs 0, f ≠ ("-" : Str) := fun f hf e => by
      have := (hnb f hf).2.1
      rw [e] at this
      exact absurd this (by decide)
    unfold readShort
    rw [if_neg (fun e => h2 "-" (by rw [e]; exact List.mem_cons_self) rfl), if_neg (fun e => h2 "-" (List.mem_of_getElem? e) rfl)]
    rw [show shortGo n (shortF cs 0) 0 0 (List.replicate n.toNat ("I" : Str)) = .inr ((([] : List Nat) ++ cs).map fun c => tx [c]) from hgo]
    show Sum.inr (Txt.join "" (([] ++ cs).map fun c => tx [c])) = _
    rw [List.nil_append, join_signs]
end V0
namespace V0
open PySem PySem.Spec PyProof.Rows L2
/-! ### what is told is small -/
theorem one_signs : ∀ {L : List Str}, one1 L → ∃ cs : List Nat, L = cs.map (fun c => tx [c]) ∧ ∀ c ∈ cs, c < 128
  | [], _ => ⟨[], rfl, fun c hc => absurd hc List.not_mem_nil⟩
  | a :: r, h => by
    obtain ⟨cs, e, hc⟩ := one_signs (L := r) fun l hl => h l (List.mem_cons_of_mem _ hl)
    obtain ⟨h1, h2⟩ := h a List.mem_cons_self
    obtain ⟨c, e2⟩ : ∃ c, cl a = [c] := by
      have h3 : (cl a).length = 1 := by rw [cl_len]; exact h1
      match hx : cl a, h3 with
      | [c], _ => exact ⟨c, rfl⟩
    refine ⟨c :: cs, ?_, fun x hx => ?_⟩
    · rw [e, List.map_cons, show a = tx [c] from cl_inj (by rw [e2, cl_tx])]
    · rcases List.mem_cons.mp hx with k | k
      · rw [k]
        exact h2 c (by rw [e2]; exact List.mem_cons_self)
      · exact hc x k
theorem join_one {L : List Str} (h : one1 L) : asc (Txt.join "" L) ∧ (Txt.join "" L).length = L.length := by
  obtain ⟨cs, rfl, hc⟩ := one_signs h
  rw [join_signs]
  exact ⟨fun c k => hc c (by rw [cl_tx] at k; exact k), by rw [tx_len, List.length_map]⟩
theorem go_inr {n : Int} : ∀ {fs : List Str} {low : Int} {k : Nat} {L R : List Str}, one1 L → shortGo n fs low k L = .inr R → one1 R ∧ R.length = L.length
  | [], low, k, L, R, h, e => by
    cases e
    exact ⟨h, rfl⟩
  | f :: r, low, k, L, R, h, e => by
    rw [go_cons] at e
    by_cases hB : fieldB n low f = true
    · rw [if_pos hB] at e
      obtain ⟨h1, h2⟩ := go_inr (one_set h (field_true hB).1) e
      exact ⟨h1, by rw [h2, List.length_set]⟩
    · rw [if_neg hB] at e
      cases e
theorem read_word {n : Int} {fs : List Str} {w : Str} (h60 : n ≤ 60) (e : readShort n fs = .inr w) : asc w ∧ w.length ≤ 60 := by
  unfold readShort at e
  split at e
  · cases e
    refine ⟨fun c hc => ?_, by rw [tx_len, List.length_replicate]; omega⟩
    rw [cl_tx] at hc
    rw [List.eq_of_mem_replicate hc]
    decide
  · split at e
    · cases e
    · split at e
      · cases e
      · rename_i R hR
        cases e
        obtain ⟨h1, h2⟩ := go_inr (one_rep _) hR
        obtain ⟨h3, h4⟩ := join_one h1
        rw [List.length_replicate] at h2
        exact ⟨h3, by omega⟩
theorem read_field {n : Int} {fs : List Str} {k : Nat} (hl : fs.length ≤ 601) (e : readShort n fs = .inl k) : k ≤ 700 := by
  unfold readShort at e
  split at e
  · cases e
  · split at e
    · cases e
      decide
    · split at e
      · rename_i j hj
        cases e
        have := go_inl hj
        omega
      · cases e
theorem wt_asc {z : Str} (h : asc z) : wt (.str z) = 10 * z.length + 8 := by
  simp only [wt]
  have h' : ∀ c ∈ z.cps.toList, c < 128 := h
  rw [if_pos (List.all_eq_true.mpr fun c hc => decide_eq_true (h' c hc))]
theorem told_two {x w : Str} (hx : wt (.str x) ≤ 100) (h1 : asc w) (h2 : w.length ≤ 300) : plainD (.tuple [.str x, .str w]) = true ∧ (PyData.tuple [.str x, .str w]).depth ≤ 1 ∧ small (.tuple [.str x, .str w]) = true := by
  have d1 : (PyData.tuple [.str x, .str w]).depth = 1 := by simp [PyData.depth, PyData.depthAll]
  have e2 : wt (.tuple [.str x, .str w]) = 8 + (wt (.str x) + 2 + (wt (.str w) + 2 + 0)) := by simp only [wt, wtAll]
  refine ⟨by simp [plainD, plainAll], by omega, small_mk ?_ (by omega)⟩
  rw [e2, wt_asc h1]
  omega
theorem told_three {x : Str} {k : Nat} (hx : wt (.str x) ≤ 100) (h : k ≤ 700) : plainD (.tuple [.str x, .int 0, .int (k : Nat)]) = true ∧ (PyData.tuple [.str x, .int 0, .int (k : Nat)]).depth ≤ 1 ∧ small (.tuple [.str x, .int 0, .int (k : Nat)]) = true := by
  have d1 : (PyData.tuple [.str x, .int 0, .int (k : Nat)]).depth = 1 := by simp [PyData.depth, PyData.depthAll]
  have e2 : wt (.tuple [.str x, .int 0, .int (k : Nat)]) = 8 + (wt (.str x) + 2 + (wt (.int 0) + 2 + (wt (.int (k : Nat)) + 2 + 0))) := by simp only [wt, wtAll]
  refine ⟨by simp [plainD, plainAll], by omega, small_mk ?_ (by omega)⟩
  rw [e2, wt_intL (z := 0) (by omega), wt_intL (z := (k : Nat)) (by omega)]
  omega
theorem word_wt : wt (.str ("word" : Str)) ≤ 100 := by decide +kernel
theorem field_wt : wt (.str ("field" : Str)) ≤ 100 := by decide +kernel
theorem told_short {n : Int} {fs : List Str} (hl : fs.length ≤ 601) (h60 : n ≤ 60) : plainD (readSD n fs) = true ∧ (readSD n fs).depth ≤ 1 ∧ small (readSD n fs) = true := by
  unfold readSD
  cases e : readShort n fs with
  | inl k => exact told_three field_wt (read_field hl e)
  | inr w =>
    obtain ⟨h1, h2⟩ := read_word h60 e
    exact told_two word_wt h1 (by omega)
/-- the line of a word: short, ASCII, its fields short -/
theorem line_facts {cs : List Nat} (hc : ∀ c ∈ cs, c ∈ [73, 88, 90, 89]) (hl : cs.length ≤ 60) : asc (shortT (tx cs)) ∧ (shortT (tx cs)).length ≤ 240 ∧ ∀ f ∈ Txt.split (shortT (tx cs)) " ", f.length ≤ 12 := by
  have hnb := short_noblank cs 0 (by omega) hc
  have hF := short_facts cs 0 (by omega) fun c h => by
    have := hc c h
    simp only [List.mem_cons, List.not_mem_nil, or_false] at this
    omega
  unfold shortT
  rw [cl_tx]
  by_cases h0 : shortF cs 0 = []
  · rw [if_pos h0]
    refine ⟨fun c hc => ?_, by decide, ?_⟩
    · have h2 : c ∈ [45] := hc
      rw [List.mem_singleton.mp h2]
      decide
    · rw [show Txt.split ("-" : Str) " " = [("-" : Str)] by decide +kernel]
      intro f hf
      rw [List.mem_singleton.mp hf]
      decide
  · rw [if_neg h0, split_back h0 fun f hf => (hnb f hf).1, show Txt.join " " (shortF cs 0) = Str.join " " (shortF cs 0) from StrLaws.glued_eq_join _ _]
    refine ⟨join_asc _ fun f hf => (hF f hf).1, ?_, fun f hf => by have := (hF f hf).2; omega⟩
    have e1 := join_wsum _ h0
    have e2 := sum_le3 (l := shortF cs 0) fun f hf => (hF f hf).2
    have e3 := (wsum_len (shortF cs 0)).2
    have e4 : ∀ (l : List Nat) (k : Nat), (shortF l k).length ≤ l.length := by
      intro l
      induction l with
      | nil => exact fun _ => Nat.le_refl _
      | cons c r ih =>
        intro k
        have := ih (k + 1)
        rw [shortF_cons]
        split
        · rw [List.length_cons]
          omega
        · rw [List.length_cons, List.length_cons]
          omega
    have e5 := e4 cs 0
    rw [← cl_len]
    omega
end V0
namespace V0
open PySem PySem.Spec PyProof.Rows L2
theorem pickN {r0 r1 : Int} (a : 0 ≤ r0) (b : r0 < 56) (c : 0 ≤ r1) (d : r1 < 7) : ∃ n : Nat, ([V.int 1, .int 2, .int 3, .int 11, .int 12, .int 60, .int (4 + r0)] : List V)[r1.toNat]? = some (.int (n : Nat)) ∧ 1 ≤ n ∧ n ≤ 60 := by
  have e : r1 = 0 ∨ r1 = 1 ∨ r1 = 2 ∨ r1 = 3 ∨ r1 = 4 ∨ r1 = 5 ∨ r1 = 6 := by omega
  rcases e with rfl | rfl | rfl | rfl | rfl | rfl | rfl
  · exact ⟨1, rfl, by decide, by decide⟩
  · exact ⟨2, rfl, by decide, by decide⟩
  · exact ⟨3, rfl, by decide, by decide⟩
  · exact ⟨11, rfl, by decide, by decide⟩
  · exact ⟨12, rfl, by decide, by decide⟩
  · exact ⟨60, rfl, by decide, by decide⟩
  · refine ⟨(4 + r0).toNat, ?_, by omega, by omega⟩
    rw [show (((4 + r0).toNat : Nat) : Int) = 4 + r0 by omega]
    rfl
theorem signs_at {z : Str} {S : List Nat} (h : ∀ c ∈ cl z, c ∈ S) (j : Nat) (hj : j < z.length) : ∃ c, z.cps[j]? = some c ∧ c ∈ S := by
  have hj' : j < z.cps.size := hj
  refine ⟨z.cps[j], Array.getElem?_eq_getElem hj', h _ ?_⟩
  unfold cl
  rw [← Array.getElem_toList]
  exact List.getElem_mem _
theorem pickM {r : Int} (a : 0 ≤ r) (b : r < 3) : ∃ tm : Str, ([V.str "IXYZ", .str "IIXYIIZI", .str "IIIIIIIIIIIXYZII"] : List V)[r.toNat]? = some (.str tm) ∧ (4 : Int) * 2 ^ r.toNat = (tm.length : Nat) ∧ (0 < tm.length ∧ tm.length ≤ 16) ∧ ∀ j < tm.length, ∃ c, tm.cps[j]? = some c ∧ c ∈ [73, 88, 90, 89] := by
  have e : r = 0 ∨ r = 1 ∨ r = 2 := by omega
  rcases e with rfl | rfl | rfl
  · exact ⟨"IXYZ", rfl, by decide +kernel, by decide +kernel, signs_at (by decide +kernel)⟩
  · exact ⟨"IIXYIIZI", rfl, by decide +kernel, by decide +kernel, signs_at (by decide +kernel)⟩
  · exact ⟨"IIIIIIIIIIIXYZII", rfl, by decide +kernel, by decide +kernel, signs_at (by decide +kernel)⟩
theorem told_two' {w : Str} (h1 : asc w) (h2 : w.length ≤ 240) : plainD (.tuple [.str w, .str w]) = true ∧ (PyData.tuple [.str w, .str w]).depth ≤ 1 ∧ small (.tuple [.str w, .str w]) = true := by
  have d1 : (PyData.tuple [.str w, .str w]).depth = 1 := by simp [PyData.depth, PyData.depthAll]
  have e2 : wt (.tuple [.str w, .str w]) = 8 + (wt (.str w) + 2 + (wt (.str w) + 2 + 0)) := by simp only [wt, wtAll]
  refine ⟨by simp [plainD, plainAll], by omega, small_mk ?_ (by omega)⟩
  rw [e2, wt_asc h1]
  omega
def shortB (z : Str) : Bool := (cl z).all (fun c => decide (c < 128)) && decide (z.length ≤ 12)
theorem shortB_ok {z : Str} (h : shortB z = true) : asc z ∧ z.length ≤ 12 := by
  obtain ⟨h1, h2⟩ := Bool.and_eq_true_iff.mp h
  exact ⟨fun c hc => of_decide_eq_true (List.all_eq_true.mp h1 c hc), of_decide_eq_true h2⟩
def menuA : List Str := ["", "-", "X", "I0", "X00", "x0", "X-1", "X+0"]
def menuB : List Str := ["Z01", "X0X", "0", "XX0", "X1.", "Y0", "Z1"]
def menuC : List Str := ["X0 ", "Q1", "1X"]
def menuS (a b c : Str) : List Str := menuA ++ (("Y" : Str) ++ a) :: (menuB ++ (("Y" : Str) ++ b) :: (menuC ++ [("Z" : Str) ++ c]))
theorem menu_const : (menuA.all shortB && menuB.all shortB && menuC.all shortB) = true := by decide +kernel
theorem menu_num : ∀ k < 61, shortB (("Y" : Str) ++ Str.ofString (toString ((k : Nat) : Int))) = true ∧ shortB (("Z" : Str) ++ Str.ofString (toString ((k : Nat) : Int))) = true := by decide +kernel
theorem menu_ok {a b c : Nat} (ha : a < 61) (hb : b < 61) (hc : c < 61) : ∀ f ∈ menuS (Str.ofString (toString ((a : Nat) : Int))) (Str.ofString (toString ((b : Nat) : Int))) (Str.ofString (toString ((c : Nat) : Int))), asc f ∧ f.length ≤ 12 := fun f hf => by
  obtain ⟨h12, h3⟩ := Bool.and_eq_true_iff.mp menu_const
  obtain ⟨h1, h2⟩ := Bool.and_eq_true_iff.mp h12
  refine shortB_ok ?_
  unfold menuS at hf
  rcases List.mem_append.mp hf with e | e
  · exact List.all_eq_true.mp h1 f e
  rcases List.mem_cons.mp e with e | e
  · rw [e]
    exact (menu_num a ha).1
  rcases List.mem_append.mp e with e | e
  · exact List.all_eq_true.mp h2 f e
  rcases List.mem_cons.mp e with e | e
  · rw [e]
    exact (menu_num b hb).1
  rcases List.mem_append.mp e with e | e
  · exact List.all_eq_true.mp h3 f e
  · rw [List.mem_singleton.mp e]
    exact (menu_num c hc).2
def spShortLines : Sp := fun vs H Q _ => ∃ p : Addr, vs = [.ref p] ∧ Pool H p ∧ ∀ H', Sam p H H' → Q (.bl true) H'
section
variable {P : Program} {w : World} {K : PySem.W.Frag} {mg : Str → Option Value} {base : Heap} {cP cU cT : Addr}
abbrev s__law_short_lines : Stmt := topS 57
theorem sc__law_short_lines : FnScope ["_law_pool_here", "_law_n", "_law_many_i", "_law_row_here", "_law_k", "_law_w", "_law_due", "_law_menu", "_law_t"] ["_law_pool_here"] (defScope s__law_short_lines) := ⟨rfl, rfl, rfl, by decide +kernel, rfl, by decide +kernel, by decide +kernel⟩
theorem ok__law_short_lines (Er : Errs K mg cP cU cT) (Ki : Kin K mg cP cU cT) (T : Tops K mg) : Df P w K mg base CX0 7 "_law_short_lines" s__law_short_lines ["_law_pool_here"] spShortLines := by
  have G__law_take := ok__law_take (P := P) (w := w) (base := base) T
  have G__law_short := ok__law_short (P := P) (w := w) (base := base) T
  have G_short_line := ok_short_line (P := P) (w := w) (base := base) T
  have G__law_turned := ok__law_turned (P := P) (w := w) (base := base) T
  have G__law_read_short := ok__law_read_short (P := P) (w := w) (base := base) T
  have G__law_read := ok__law_read (P := P) (w := w) (base := base) Er Ki T
  have G__law_same := ok__law_same (P := P) (w := w) (base := base) T 1
  refine df_mk (k := 7-1) T.d__law_short_lines sc__law_short_lines (fun vs H Q E h => ?_) (fun _ _ _ _ _ _ us hl => match us, hl with | [_], _ => rfl) (fun f cdv A outer s H vs Q E hr h => ?_)
  · obtain ⟨p, rfl, _⟩ := h
    rfl
  · obtain ⟨p, rfl, hP, q⟩ := h
    refine ⟨_, (pss_cons (ps_set (i := 1) sc__law_short_lines.nd rfl (Or.inl rfl) (pe_ix ix_list (pe_lst (pa_cons (pe_int) (pa_cons (pe_int) (pa_cons (pe_int) (pa_cons (pe_int) (pa_cons (pe_int) (pa_cons (pe_int) (pa_cons (pe_op op_add (pe_int) (pe_df G__law_take (hr.mono (by decide)) (by rfl) pass0 (pa_cons (pv 0) (pa_cons (pe_int) pa_nil)))) pa_nil)))))))) (pe_df G__law_take (hr.mono (by decide)) (by rfl) pass0 (pa_cons (pv 0) (pa_cons (pe_int) pa_nil))) (fun _ _ => rfl)))
        (pss_cons (ps_set (i := 2) sc__law_short_lines.nd rfl (Or.inl rfl) (pe_df G__law_take (hr.mono (by decide)) (by rfl) pass0 (pa_cons (pv 0) (pa_cons (pe_int) pa_nil))))
        (pss_cons (ps_set (i := 3) sc__law_short_lines.nd rfl (Or.inl rfl) (pe_lst pa_nil))
        (pss_cons (ps_for PassesOwn.never rfl (pi_range1 (by rfl) T.b_range (pa_cons (pv 1) pa_nil)) (pg_name (i := 4) sc__law_short_lines.nd rfl (Or.inl rfl)) (pss_one (ps_expr (pe_bm PySem.F.plainAttrs_list PySem.F.slot_list_append PySem.F.type_list_append mt_append (pv 3) (pa_cons (pe_item_str (pe_ix ix_list (pe_lst (pa_cons (pe_str) (pa_cons (pe_str) (pa_cons (pe_str) pa_nil)))) (pv 2) (fun _ _ => rfl)) (pe_df G__law_take (hr.mono (by decide)) (by rfl) pass0 (pa_cons (pv 0) (pa_cons (pe_op op_shl (pe_int) (pv 2)) pa_nil))) (fun _ _ => rfl)) pa_nil)))))
        (pss_cons (ps_set (i := 5) sc__law_short_lines.nd rfl (Or.inl rfl) (pe_bm PySem.F.plainAttrs_str PySem.F.slot_str_join PySem.F.type_str_join mt_join (pe_str) (pa_cons (pv 3) pa_nil)))
        (pss_cons (ps_set (i := 6) sc__law_short_lines.nd rfl (Or.inl rfl) (pe_df G__law_short (hr.mono (by decide)) (by rfl) pass0 (pa_cons (pv 5) pa_nil)))
        (pss_cons (ps_if (pt_not (pt_val (pe_df G__law_same (hr.mono (by decide)) (by rfl) pass0 (pa_cons (pe_tup (pa_cons (pv 6) (pa_cons (pv 6) pa_nil))) (pa_cons (pe_tup (pa_cons (pe_df G_short_line (hr.mono (by decide)) (by rfl) pass0 (pa_cons (pv 5) pa_nil)) (pa_cons (pe_dfk G_short_line (hr.mono (by decide)) (by rfl) pass0 (pk_cons (pv 5) pk_nil) (fun _ _ _ _ _ _ ws hl => match ws, hl with | [_], _ => rfl)) pa_nil))) pa_nil))))) (pss_one (ps_ret (pe_bl))) pss_nil)
        (pss_cons (ps_if (pt_not (pt_val (pe_df G__law_same (hr.mono (by decide)) (by rfl) pass0 (pa_cons (pe_tup (pa_cons (pe_str) (pa_cons (pv 5) pa_nil))) (pa_cons (pe_df G__law_read (hr.mono (by decide)) (by rfl) pass0 (pa_cons (pe_int) (pa_cons (pv 1) (pa_cons (pv 6) pa_nil)))) pa_nil))))) (pss_one (ps_ret (pe_bl))) pss_nil)
        (pss_cons (ps_set (i := 7) sc__law_short_lines.nd rfl (Or.inl rfl) (pe_lst (pa_cons (pe_str) (pa_cons (pe_str) (pa_cons (pe_str) (pa_cons (pe_str) (pa_cons (pe_str) (pa_cons (pe_str) (pa_cons (pe_str) (pa_cons (pe_str) (pa_cons (pe_op op_add_str (pe_str) (pe_callTy call_str_int (by rfl) T.b_str (by decide +kernel) (pa_cons (pv 1) pa_nil))) (pa_cons (pe_str) (pa_cons (pe_str) (pa_cons (pe_str) (pa_cons (pe_str) (pa_cons (pe_str) (pa_cons (pe_str) (pa_cons (pe_str) (pa_cons (pe_op op_add_str (pe_str) (pe_callTy call_str_int (by rfl) T.b_str (by decide +kernel) (pa_cons (pe_op op_sub (pv 1) (pe_int)) pa_nil))) (pa_cons (pe_str) (pa_cons (pe_str) (pa_cons (pe_str) (pa_cons (pe_op op_add_str (pe_str) (pe_callTy call_str_int (by rfl) T.b_str (by decide +kernel) (pa_cons (pe_op op_fdivN (pv 1) (pe_int)) pa_nil))) pa_nil)))))))))))))))))))))))
        (pss_cons (ps_for PassesOwn.never rfl (pi_range1 (by rfl) T.b_range (pa_cons (pe_int) pa_nil)) (pg_name (i := 4) sc__law_short_lines.nd rfl (Or.inl rfl)) (pss_cons (ps_set (i := 8) sc__law_short_lines.nd rfl (Or.inl rfl) (pe_df G__law_turned (hr.mono (by decide)) (by rfl) pass0 (pa_cons (pv 0) (pa_cons (pv 7) (pa_cons (pv 6) pa_nil)))))
        (pss_one (ps_if (pt_not (pt_val (pe_df G__law_same (hr.mono (by decide)) (by rfl) pass0 (pa_cons (pe_df G__law_read_short (hr.mono (by decide)) (by rfl) pass0 (pa_cons (pv 1) (pa_cons (pv 8) pa_nil))) (pa_cons (pe_df G__law_read (hr.mono (by decide)) (by rfl) pass0 (pa_cons (pe_int) (pa_cons (pv 1) (pa_cons (pv 8) pa_nil)))) pa_nil))))) (pss_one (ps_ret (pe_bl))) pss_nil))))
        (pss_one (ps_ret ((pe_and (pe_df G__law_same (hr.mono (by decide)) (by rfl) pass0 (pa_cons (pe_tup (pa_cons (pe_str) (pa_cons (pe_op op_repS (pe_str) (pv 1)) pa_nil))) (pa_cons (pe_df G__law_read (hr.mono (by decide)) (by rfl) pass0 (pa_cons (pe_int) (pa_cons (pv 1) (pa_cons (pe_str) pa_nil)))) pa_nil))) (pe_one (pe_df G__law_same (hr.mono (by decide)) (by rfl) pass0 (pa_cons (pe_tup (pa_cons (pe_str) (pa_cons (pe_int) (pa_cons (pe_int) pa_nil)))) (pa_cons (pe_df G__law_read (hr.mono (by decide)) (by rfl) pass0 (pa_cons (pe_int) (pa_cons (pv 1) (pa_cons (pe_str) pa_nil)))) pa_nil)))))))))))))))))), ?_⟩
    refine ⟨_, rfl, p, 56, rfl, hP, by decide, by decide, fun r0 H1 r00 r01 S1 => ⟨_, _, rfl, rfl, by show 7 ≤ sizeLine; decide, fun a ha => ?_⟩⟩
    have nap : a ≠ p := pool_ne S1.2 ha
    have SA : Sam p H1 (upd H1 a (.lst [.int 1, .int 2, .int 3, .int 11, .int 12, .int 60, .int (4 + r0)])) := Sam.of S1.2 (same_upd ha)
    refine ⟨_, rfl, p, 7, rfl, SA.2, by decide, by decide, fun r1 H3 r10 r11 S3 => ?_⟩
    obtain ⟨n, hn, n1, n60⟩ := pickN r00 r01 r10 r11
    refine ⟨a, _, r1, .int (n : Nat), rfl, rfl, .inl (.inl (sam_at S3 nap upd_same)), at_of (by omega) hn, ?_⟩
    have S03 := (S1.trans SA).trans S3
    refine ⟨_, rfl, p, 3, rfl, S03.2, by decide, by decide, fun r2 H4 r20 r21 S4 => ?_⟩
    obtain ⟨tm, hm, ht1, ht2, htc⟩ := pickM r20 r21
    have S04 := S03.trans S4
    refine ⟨Nat.zero_le _, fun o ho => ?_⟩
    have nop : o ≠ p := pool_ne S04.2 ho
    have S05 : Sam p H4 (upd H4 o (.lst [])) := Sam.of S04.2 (same_upd ho)
    refine ⟨_, rfl, ((n : Nat) : Int), rfl, by omega, by omega, for_it walk_r0 (fun i σ H' => Sam2 p o (upd H4 o (.lst [])) H' ∧ ∃ (cs : List Nat) (y4 : Option V), σ = [some (.ref p), some (.int (n : Nat)), some (.int r2), some (.ref o), y4, none, none, none, none] ∧ H' o = some (.lst (cs.map fun c => .str (tx [c]))) ∧ cs.length = i ∧ ∀ c ∈ cs, c ∈ [73, 88, 90, 89]) ⟨⟨Same.refl _, S05.2⟩, [], none, rfl, upd_same, rfl, fun c hc => absurd hc List.not_mem_nil⟩ (fun _ _ _ _ _ => trivial) (fun i x σ H5 H6 hi hp hy => ?_) (fun σ H5 hp => ?_)⟩
    · obtain ⟨S5, cs, y4, rfl, o5, hcl, hcs⟩ := hp
      obtain ⟨rfl, rfl⟩ := hy
      refine ⟨_, rfl, .inl ⟨rfl, _, .inl (.inl o5)⟩, by show 3 ≤ sizeLine; decide, fun b hb => ?_⟩
      have sb := same_upd hb (o := .lst [.str "IXYZ", .str "IIXYIIZI", .str "IIIIIIIIIIIXYZII"])
      have Sb : Sam p H6 (upd H6 b (.lst [.str "IXYZ", .str "IIXYIIZI", .str "IIIIIIIIIIIXYZII"])) := Sam.of S5.2 sb
      refine ⟨_, rfl, b, _, r2, .str tm, rfl, rfl, .inl (.inl upd_same), at_of (by omega) hm, _, rfl, _, rfl, 4, r2, rfl, rfl, ?_, p, _, rfl, Sb.2, by omega, by omega, fun rc H8 c0 c1 S8 => ?_⟩
      · exact ⟨r20, by omega, by decide⟩
      have hlt : rc.toNat < tm.length := by omega
      obtain ⟨c, hc, hcm⟩ := htc rc.toNat hlt
      have o8 := sam_at S8 nop (sb _ _ o5)
      refine ⟨tm, rc, c, rfl, rfl, c0, by omega, by omega, hc, o, _, .str (tx [c]), rfl, rfl, o8, by rw [List.length_map, sizeLine_eq]; omega, ?_⟩
      refine ⟨(S5.trans (Sb.trans S8).two).trans (sam2_upd S8.2 nop), cs ++ [c], _, rfl, by rw [upd_same, List.map_append]; rfl, by simp [hcl], fun x hx => ?_⟩
      rcases List.mem_append.mp hx with e | e
      · exact hcs x e
      · rw [List.mem_singleton.mp e]
        exact hcm
    · obtain ⟨S5, cs, y4, rfl, o5, hcl, hcs⟩ := hp
      have S05' : Sam p H H5 := S04.trans ⟨((sam2_new ho).trans S5.1).trans (del_le _ o), S5.2⟩
      replace hcl : cs.length = n := hcl
      refine ⟨rfl, _, rfl, "", o, cs.map fun c => tx [c], rfl, rfl, .inl (.inl (.inl (by rw [List.map_map]; exact o5))), ?_, ?_⟩
      · rw [sum_signs, List.length_map, show ("" : Str).length = 0 from rfl]
        omega
      rw [join_signs]
      have hl60 : cs.length ≤ 60 := by omega
      have hca : asc (tx cs) := fun c hc => by
        rw [cl_tx] at hc
        have := hcs c hc
        simp only [List.mem_cons, List.not_mem_nil, or_false] at this
        omega
      have hwl : (tx cs).length ≤ 60 := by rw [tx_len]; exact hl60
      obtain ⟨da, dl, df⟩ := line_facts hcs hl60
      have rb := read_back (n := (n : Nat)) hcs (by omega) (by omega) (by omega)
      have hn : cs.length = n := hcl
      generalize hD : shortT (tx cs) = dd at da dl df rb
      refine ⟨_, rfl, tx cs, rfl, hca, hwl, fun H6 s6 => ?_⟩
      rw [hD]
      have S06 := S05'.trans (Sam.of S05'.2 s6)
      have sdd : small (.str dd) = true := small_mk (by rw [wt_asc da]; omega) (by simp only [PyData.depth]; omega)
      have twoD := told_two' da dl
      refine ⟨_, rfl, _, rfl, two_ok, fun t1 ht1 => ⟨_, rfl, tx cs, rfl, hca, hwl, fun H8 s8 => ⟨_, rfl, rfl, rfl, tx cs, rfl, hca, hwl, fun H9 s9 => ?_⟩⟩⟩
      rw [hD]
      refine ⟨two_ok, fun t2 ht2 => ⟨.ref t1, .ref t2, .tuple [.str dd, .str dd], rfl, .tup (.inl (.inl (same_upd ht2 _ _ (s9 _ _ (s8 _ _ upd_same))))) (.cons (.str _) (.cons (.str _) .nil)), .tup (.inl (.inl upd_same)) (.cons (.str _) (.cons (.str _) .nil)), twoD.1, twoD.2.1, twoD.2.2, fun H10 s10 => ⟨_, rfl, iteF ?_⟩⟩⟩
      have s610 := (((same_upd ht1 (o := .tup [.str dd, .str dd])).trans (s8.trans s9)).trans (same_upd ht2 (o := .tup [.str dd, .str dd]))).trans s10
      have S010 := S06.trans (Sam.of S06.2 s610)
      refine ⟨_, rfl, two_ok, fun t3 ht3 => ⟨_, rfl, _, rfl, 0, (n : Nat), _, .str dd, rfl, .inl rfl, .str dd, sdd, by omega, by omega, fun z ez => by cases ez; exact ⟨da, by omega⟩, fun r H11 s11 hr => ?_⟩⟩
      have hr' : Dp K H11 r (.tuple [.str "word", .str (tx cs)]) := by
        have e : toldD 0 (n : Nat) (.str dd) = .tuple [.str "word", .str (tx cs)] := by
          show readSD (n : Nat) (Txt.split dd " ") = _
          unfold readSD
          rw [rb]
        rw [← e]
        exact hr
      have tW := told_two word_wt hca (by omega)
      refine ⟨.ref t3, r, _, rfl, .tup (.inl (.inl (s11 _ _ upd_same))) (.cons (.str _) (.cons (.str _) .nil)), hr', tW.1, tW.2.1, tW.2.2, fun H12 s12 => ⟨_, rfl, iteF ?_⟩⟩
      have S012 := S010.trans (Sam.of S010.2 (((same_upd ht3 (o := .tup [.str "word", .str (tx cs)])).trans s11).trans s12))
      have k1 : ((n : Nat) : Int) - 1 = ((n - 1 : Nat) : Int) := by omega
      have k2 : Int.fdiv ((n : Nat) : Int) 2 = ((n / 2 : Nat) : Int) := by
        rw [Int.fdiv_eq_ediv_of_nonneg _ (by decide)]
        rfl
      have lg0 := small_log (i := n) (by omega)
      have lg1 : (((n : Nat) : Int) - 1).natAbs.log2 < 1920 := by rw [k1]; exact small_log (by omega)
      have lg2 : (Int.fdiv ((n : Nat) : Int) 2).natAbs.log2 < 1920 := by rw [k2]; exact small_log (by omega)
      have z0 : ("Y" : Str).length + (Str.ofString (toString ((n : Nat) : Int))).length ≤ sizeLine := by have := (figs_of n (by omega)).1; have e : ("Y" : Str).length = 1 := rfl; rw [e, sizeLine_eq]; omega
      have z1 : ("Y" : Str).length + (Str.ofString (toString (((n : Nat) : Int) - 1))).length ≤ sizeLine := by rw [k1]; have := (figs_of (n - 1) (by omega)).1; have e : ("Y" : Str).length = 1 := rfl; rw [e, sizeLine_eq]; omega
      have z2 : ("Z" : Str).length + (Str.ofString (toString (Int.fdiv ((n : Nat) : Int) 2))).length ≤ sizeLine := by rw [k2]; have := (figs_of (n / 2) (by omega)).1; have e : ("Z" : Str).length = 1 := rfl; rw [e, sizeLine_eq]; omega
      have hms : ∀ f ∈ menuS (Str.ofString (toString ((n : Nat) : Int))) (Str.ofString (toString (((n : Nat) : Int) - 1))) (Str.ofString (toString (Int.fdiv ((n : Nat) : Int) 2))), asc f ∧ f.length ≤ 12 := by
        rw [k1, k2]
        exact menu_ok (by omega) (by omega) (by omega)
      refine ⟨_, rfl, _, rfl, lg0, "Y", _, rfl, rfl, z0, _, rfl, _, _, rfl, rfl, _, rfl, lg1, "Y", _, rfl, rfl, z1, _, rfl, _, _, rfl, rfl, ⟨by decide, by decide⟩, _, rfl, lg2, "Z", _, rfl, rfl, z2, by show 21 ≤ sizeLine; decide, fun m hm => ?_⟩
      have nmp : m ≠ p := pool_ne S012.2 hm
      have sM := same_upd hm (o := .lst ((menuS (Str.ofString (toString ((n : Nat) : Int))) (Str.ofString (toString (((n : Nat) : Int) - 1))) (Str.ofString (toString (Int.fdiv ((n : Nat) : Int) 2)))).map V.str))
      have SM := Sam.of S012.2 sM
      have hmM : (upd H12 m (.lst ((menuS (Str.ofString (toString ((n : Nat) : Int))) (Str.ofString (toString (((n : Nat) : Int) - 1))) (Str.ofString (toString (Int.fdiv ((n : Nat) : Int) 2)))).map V.str))) m = _ := upd_same
      have hml : (menuS (Str.ofString (toString ((n : Nat) : Int))) (Str.ofString (toString (((n : Nat) : Int) - 1))) (Str.ofString (toString (Int.fdiv ((n : Nat) : Int) 2)))).length = 21 := rfl
      have ln3 : (3 : Nat) ≤ sizeLine := by decide
      refine ⟨9, rfl, by decide, by decide, for_it walk_r0 (fun i σ H' => Sam p (upd H12 m (.lst ((menuS (Str.ofString (toString ((n : Nat) : Int))) (Str.ofString (toString (((n : Nat) : Int) - 1))) (Str.ofString (toString (Int.fdiv ((n : Nat) : Int) 2)))).map V.str))) H' ∧ ∃ y4 y8, σ = [some (.ref p), some (.int (n : Nat)), some (.int r2), some (.ref o), y4, some (.str (tx cs)), some (.str dd), some (.ref m), y8]) ⟨⟨Same.refl _, SM.2⟩, _, _, rfl⟩ (fun _ _ _ _ _ => trivial) (fun i x σ H13 H13' hi hp hy => ?_) (fun σ H13 hp => ?_)⟩
      · obtain ⟨S13, y4, y8, rfl⟩ := hp
        obtain ⟨rfl, rfl⟩ := hy
        refine ⟨_, rfl, _, rfl, _, rfl, p, m, dd, (menuS (Str.ofString (toString ((n : Nat) : Int))) (Str.ofString (toString (((n : Nat) : Int) - 1))) (Str.ofString (toString (Int.fdiv ((n : Nat) : Int) 2)))), rfl, S13.2, sam_at S13 nmp hmM, nmp, by rw [hml]; decide, by rw [hml]; decide, hms, da, dl, df, fun y H14 S14 ya yl => ?_⟩
        have fk := split_ok ya (by omega)
        have tds := told_short (n := (n : Nat)) fk.2.1 (by omega)
        have sy : small (.str y) = true := small_mk (by rw [wt_asc ya]; omega) (by simp only [PyData.depth]; omega)
        exact ⟨_, rfl, _, rfl, (n : Nat), y, rfl, ya, by omega, by omega, by omega, fun ra Ha sa ha => ⟨_, rfl, _, rfl, 0, (n : Nat), _, .str y, rfl, .inl rfl, .str y, sy, by omega, by omega, (fun z ez => by cases ez; exact ⟨ya, yl⟩), fun rb Hb sb hb => ⟨ra, rb, readSD (n : Nat) (Txt.split y " "), rfl, dp_mono sb ha, hb, tds.1, tds.2.1, tds.2.2, fun Hc sc => ⟨_, rfl, iteF ⟨S13.trans (S14.trans (Sam.of S14.2 ((sa.trans sb).trans sc))), _, _, rfl⟩⟩⟩⟩⟩
      · obtain ⟨S13, y4, y8, rfl⟩ := hp
        have S013 := (S012.trans SM).trans S13
        have hI : asc (tx (List.replicate ((n : Nat) : Int).toNat 73)) := fun c hc => by
          rw [cl_tx] at hc
          rw [List.eq_of_mem_replicate hc]
          decide
        have tI := told_two word_wt hI (by rw [tx_len, List.length_replicate]; omega)
        have e1 : toldD 0 (n : Nat) (.str ("-" : Str)) = .tuple [.str "word", .str (tx (List.replicate ((n : Nat) : Int).toNat 73))] := by
          show readSD (n : Nat) (Txt.split ("-" : Str) " ") = _
          rw [show Txt.split ("-" : Str) " " = [("-" : Str)] by decide +kernel]
          unfold readSD readShort
          rw [if_pos rfl]
        have e2 : toldD 0 (n : Nat) (.str ("" : Str)) = .tuple [.str "field", .int 0, .int ((0 : Nat) : Int)] := by
          show readSD (n : Nat) (Txt.split ("" : Str) " ") = _
          rw [show Txt.split ("" : Str) " " = [("" : Str)] by decide +kernel]
          have e3 : readShort (n : Nat) [("" : Str)] = .inl 0 := by
            have hx : xyzB ("" : Str) = false := by decide +kernel
            unfold readShort
            rw [if_neg (by decide +kernel), if_neg (by decide +kernel), go_cons]
            have hB : fieldB (n : Nat) 0 ("" : Str) = false := by unfold fieldB; rw [hx]; rfl
            rw [hB]
            rfl
          unfold readSD
          rw [e3]
        have tF := told_three (k := 0) field_wt (by decide)
        refine ⟨_, rfl, 73, (n : Nat), rfl, rfl, by omega, by omega, two_ok, fun t4 ht4 => ⟨_, rfl, 0, (n : Nat), _, .str ("-" : Str), rfl, .inl rfl, .str _, by decide +kernel, by omega, by omega, (fun z ez => by cases ez; exact ⟨fun c hc => by have h2 : c ∈ [45] := hc; rw [List.mem_singleton.mp h2]; decide, by decide⟩), fun r Hr sr hr => ?_⟩⟩
        rw [e1] at hr
        refine ⟨.ref t4, r, _, rfl, .tup (.inl (.inl (sr _ _ upd_same))) (.cons (.str _) (.cons (.str _) .nil)), hr, tI.1, tI.2.1, tI.2.2, fun He se => ⟨_, rfl, iteT ?_⟩⟩
        refine ⟨ln3, fun t5 ht5 => ⟨_, rfl, 0, (n : Nat), _, .str ("" : Str), rfl, .inl rfl, .str _, by decide +kernel, by omega, by omega, (fun z ez => by cases ez; exact ⟨fun c hc => absurd hc List.not_mem_nil, by decide⟩), fun r5 Hr5 sr5 hr5 => ?_⟩⟩
        rw [e2] at hr5
        refine ⟨.ref t5, r5, _, rfl, .tup (.inl (.inl (sr5 _ _ upd_same))) (.cons (.str _) (.cons (.int _) (.cons (.int _) .nil))), hr5, tF.1, tF.2.1, tF.2.2, fun Hz sz => ?_⟩
        exact q _ (S013.trans (Sam.of S013.2 (((((same_upd ht4).trans sr).trans se).trans (same_upd ht5)).trans (sr5.trans sz))))
end
end V0
set_option exponentiation.threshold 3000
namespace V0
open PySem PySem.Spec PyProof.Rows L2
/-! ### a house's line, read back; what is told of it -/
theorem digits_lt : ∀ (m : Nat) (cs : List Nat), cs.length = m → NumText.AllDigits cs → NumText.digitsVal cs < 10 ^ m
  | 0, cs, h, _ => by
    rw [List.length_eq_zero_iff.mp h]
    decide
  | m + 1, cs, h, hd => by
    rcases List.eq_nil_or_concat cs with e | ⟨r, c, e⟩
    · rw [e] at h
      cases h
    · rw [e, List.concat_eq_append] at h hd ⊢
      have hr : r.length = m := by simpa using h
      have hc := hd c (List.mem_append_right _ List.mem_cons_self)
      have ih := digits_lt m r hr fun x hx => hd x (List.mem_append_left _ hx)
      rw [NumText.digitsVal_snoc, Nat.pow_succ]
      omega
theorem num_small {z : Str} (h : figB z = true) (hl : z.length ≤ 300) : wt (.int (numV z)) = 1930 := by
  obtain ⟨h1, _⟩ := fig_digits h
  have h2 := digits_lt _ (cl z) rfl h1
  rw [cl_len] at h2
  have h3 : NumText.digitsVal (cl z) < 2 ^ 1000 := Nat.lt_of_lt_of_le h2 (Nat.le_trans (Nat.pow_le_pow_right (by decide) hl) (by decide +kernel))
  simp only [wt]
  have e : (numV z).natAbs = NumText.digitsVal (cl z) := rfl
  rw [e]
  have e2 : (NumText.digitsVal (cl z)).log2 < 1920 := by
    by_cases hz : NumText.digitsVal (cl z) = 0
    · rw [hz]
      decide
    · exact Nat.lt_of_lt_of_le ((Nat.log2_lt hz).mpr h3) (by decide)
  rw [if_pos e2]
theorem home_go {n : Int} : ∀ (ws seen : List Str) (k : Nat), (∀ w ∈ ws, isWideD n (.str w) = true ∧ blankS w = false) → ws.Nodup → (∀ w ∈ ws, ¬ w ∈ seen) → homeGo n ws seen k = none
  | [], _, _, _, _, _ => rfl
  | w :: r, seen, k, h, nd, hs => by
    obtain ⟨h1, h2⟩ := h w List.mem_cons_self
    obtain ⟨n1, n2⟩ := List.nodup_cons.mp nd
    rw [hgo_cons, h1, h2, decide_eq_false (hs w List.mem_cons_self)]
    refine home_go r (seen ++ [w]) (k + 1) (fun x hx => h x (List.mem_cons_of_mem _ hx)) n2 fun x hx hm => ?_
    rcases List.mem_append.mp hm with e | e
    · exact hs x (List.mem_cons_of_mem _ hx) e
    · rw [List.mem_singleton.mp e] at hx
      exact n1 hx
theorem head_back {n : Int} (h1 : 1 ≤ n) (h3 : n ≤ 3) : headB (Str.ofString (toString n) ++ (";" : Str)) = true ∧ homeN (Str.ofString (toString n) ++ (";" : Str)) = n ∧ shortB (Str.ofString (toString n) ++ (";" : Str)) = true ∧ ((cl (Str.ofString (toString n) ++ (";" : Str))).all fun c => !decide (c = 32)) = true := by
  rcases n123 h1 h3 with rfl | rfl | rfl <;> decide +kernel
theorem wide_noblank {n : Int} {w : Str} (h : isWideD n (.str w) = true) : ¬ 32 ∈ cl w := fun hm => by
  have h2 : (wordL w.cps.toList && decide ((w.length : Int) = n)) = true := h
  have h3 := (Bool.and_eq_true_iff.mp h2).1
  have h4 := List.all_eq_true.mp (Bool.and_eq_true_iff.mp h3).2 32 hm
  exact absurd h4 (by decide)
theorem home_fields {n : Int} {ws : List Str} (n1 : 1 ≤ n) (n3 : n ≤ 3) (hok : HomeOk n 7 ws) : ∀ f ∈ (Str.ofString (toString n) ++ (";" : Str)) :: ws, ¬ 32 ∈ cl f ∧ asc f ∧ f.length ≤ 12 := fun f hf => by
  rcases List.mem_cons.mp hf with e | e
  · rw [e]
    obtain ⟨_, _, h3, h4⟩ := head_back n1 n3
    obtain ⟨h5, h6⟩ := shortB_ok h3
    exact ⟨fun hm => absurd (List.all_eq_true.mp h4 32 hm) (by decide), h5, h6⟩
  · obtain ⟨h1, h2⟩ := ascii_wide (hok.2.2 f e).1
    exact ⟨wide_noblank (hok.2.2 f e).1, h1, by omega⟩
theorem home_split {n : Int} {ws : List Str} (n1 : 1 ≤ n) (n3 : n ≤ 3) (hok : HomeOk n 7 ws) : Txt.split (homeT n ws) " " = (Str.ofString (toString n) ++ (";" : Str)) :: ws :=
  split_back (by simp) fun f hf => (home_fields n1 n3 hok f hf).1
theorem home_line {n : Int} {ws : List Str} (n1 : 1 ≤ n) (n3 : n ≤ 3) (hok : HomeOk n 7 ws) : asc (homeT n ws) ∧ (homeT n ws).length ≤ 240 ∧ ∀ f ∈ Txt.split (homeT n ws) " ", f.length ≤ 12 := by
  have hF := home_fields n1 n3 hok
  rw [home_split n1 n3 hok]
  unfold homeT
  rw [show Txt.join " " ((Str.ofString (toString n) ++ (";" : Str)) :: ws) = Str.join " " ((Str.ofString (toString n) ++ (";" : Str)) :: ws) from StrLaws.glued_eq_join _ _]
  refine ⟨join_asc _ fun f hf => (hF f hf).2.1, ?_, fun f hf => (hF f hf).2.2⟩
  have e1 := join_wsum ((Str.ofString (toString n) ++ (";" : Str)) :: ws) (by simp)
  have e2 : ∀ l : List Str, (∀ f ∈ l, f.length ≤ 12) → wsum l ≤ 13 * l.length := by
    intro l
    induction l with
    | nil => exact fun _ => Nat.zero_le _
    | cons a r ih =>
      intro h
      have := ih fun f hf => h f (List.mem_cons_of_mem _ hf)
      have := h a List.mem_cons_self
      rw [wsum_cons, List.length_cons]
      omega
  have e3 := e2 _ fun f hf => (hF f hf).2.2
  have e4 := hok.1
  rw [List.length_cons] at e3
  rw [← cl_len]
  omega
theorem home_back {n : Int} {ws : List Str} (n1 : 1 ≤ n) (n3 : n ≤ 3) (hok : HomeOk n 7 ws) : readHome (Txt.split (homeT n ws) " ") = .inr (n, ws) := by
  obtain ⟨h1, h2, _, _⟩ := head_back n1 n3
  rw [home_split n1 n3 hok]
  have g := home_go (n := n) ws [] 1 hok.2.2 hok.2.1 fun _ _ => List.not_mem_nil
  rw [home_none h1 (by rw [h2]; exact g), h2]
end V0
namespace V0
open PySem PySem.Spec PyProof.Rows L2
theorem wtAll_strs : ∀ {l : List Str}, (∀ f ∈ l, asc f) → wtAll (l.map .str) = 10 * wsum l ∧ PyData.depthAll (l.map .str) = 0 ∧ plainAll (l.map .str) = true
  | [], _ => ⟨rfl, rfl, rfl⟩
  | a :: r, h => by
    obtain ⟨h1, h2, h3⟩ := wtAll_strs (l := r) fun f hf => h f (List.mem_cons_of_mem _ hf)
    refine ⟨?_, ?_, ?_⟩
    · rw [List.map_cons, wsum_cons]
      show wt (.str a) + 2 + wtAll (r.map .str) = _
      rw [h1, wt_asc (h a List.mem_cons_self)]
      omega
    · rw [List.map_cons]
      simp only [PyData.depthAll, h2, PyData.depth]
      rfl
    · rw [List.map_cons]
      simp [plainAll, plainD, h3]
theorem hgo_some {p : Int} : ∀ {r seen : List Str} {k j : Nat}, homeGo p r seen k = some j → j < k + r.length
  | [], _, _, _, e => by cases e
  | f :: r, seen, k, j, e => by
    rw [hgo_cons] at e
    rw [List.length_cons]
    split at e
    · have := hgo_some e
      omega
    · cases e
      omega
theorem read_home_facts {fs : List Str} (hf : fldOk fs) : (∀ k, readHome fs = .inl k → k ≤ 700) ∧ ∀ n ws, readHome fs = .inr (n, ws) → ∃ h, fs = h :: ws ∧ figB (lst1 h) = true ∧ n = numV (lst1 h) := by
  cases fs with
  | nil => exact absurd rfl hf.1
  | cons h r =>
    have hl := hf.2.1
    rw [List.length_cons] at hl
    cases hB : headB h with
    | false =>
      rw [home_false hB]
      refine ⟨fun k e => ?_, fun n ws e => by cases e⟩
      cases e
      decide
    | true =>
      cases g : homeGo (homeN h) r [] 1 with
      | none =>
        rw [home_none hB g]
        refine ⟨fun k e => (by cases e), fun n ws e => ?_⟩
        cases e
        exact ⟨h, rfl, (Bool.and_eq_true_iff.mp (Bool.and_eq_true_iff.mp hB).2).1, rfl⟩
      | some j =>
        rw [home_some hB g]
        have := hgo_some g
        refine ⟨fun k e => ?_, fun n ws e => by cases e⟩
        cases e
        omega
theorem house_wt : wt (.str ("house" : Str)) ≤ 100 := by decide +kernel
theorem told_pair {n : Int} {ws : List Str} (hn : wt (.int n) = 1930) (ha : ∀ f ∈ ws, asc f) (hw : wsum ws ≤ 400) : plainD (.tuple [.str "house", .tuple [.int n, .tuple (ws.map .str)]]) = true ∧ (PyData.tuple [.str "house", .tuple [.int n, .tuple (ws.map .str)]]).depth ≤ 3 ∧ small (.tuple [.str "house", .tuple [.int n, .tuple (ws.map .str)]]) = true := by
  obtain ⟨h1, h2, h3⟩ := wtAll_strs ha
  have d1 : (PyData.tuple [.str "house", .tuple [.int n, .tuple (ws.map .str)]]).depth = 3 := by simp [PyData.depth, PyData.depthAll, h2]
  refine ⟨by simp [plainD, plainAll, h3], by omega, small_mk ?_ (by omega)⟩
  have e2 : wt (.tuple [.str "house", .tuple [.int n, .tuple (ws.map .str)]]) = 8 + (wt (.str "house") + 2 + ((8 + (wt (.int n) + 2 + ((8 + wtAll (ws.map .str)) + 2 + 0))) + 2 + 0)) := by simp only [wt, wtAll]
  have := house_wt
  rw [e2, h1, hn]
  omega
theorem told_home {z : Str} (ha : asc z) (hl : z.length ≤ 300) : plainD (readHD (Txt.split z " ")) = true ∧ (readHD (Txt.split z " ")).depth ≤ 3 ∧ small (readHD (Txt.split z " ")) = true := by
  have hf := split_ok ha (by omega)
  have hj := join_wsum _ hf.1
  rw [StrLaws.join_split, cl_len] at hj
  generalize Txt.split z " " = fs at hf hj
  obtain ⟨k1, k2⟩ := read_home_facts hf
  unfold readHD
  cases e : readHome fs with
  | inl k =>
    obtain ⟨t1, t2, t3⟩ := told_three (k := k) field_wt (k1 k e)
    exact ⟨t1, by show (PyData.tuple [.str "field", .int 0, .int (k : Nat)]).depth ≤ 3; omega, t3⟩
  | inr y =>
    obtain ⟨n, ws⟩ := y
    obtain ⟨h, e2, e3, e4⟩ := k2 n ws e
    have hh := hf.2.2 h (by rw [e2]; exact List.mem_cons_self)
    rw [e2, wsum_cons] at hj
    have hlh : (lst1 h).length ≤ 300 := Nat.le_trans (cut_len h none (some (-1))) (by omega)
    exact told_pair (by rw [e4]; exact num_small e3 hlh) (fun f k => (hf.2.2 f (by rw [e2]; exact List.mem_cons_of_mem _ k)).1) (by omega)
end V0
namespace V0
open PySem PySem.Spec PyProof.Rows L2
abbrev S9 (n : Int) : Str := Str.ofString (toString n)
def menuH (n : Int) : List Str := ["", ";", "0;", ("0" : Str) ++ S9 n ++ (";" : Str), "-1;", S9 n, S9 n ++ (";;" : Str), S9 n ++ ("," : Str), "+1;", S9 (n + 1) ++ (";" : Str), tx (List.replicate n.toNat 73), tx (List.replicate n.toNat 88), tx (List.replicate (n + 1).toNat 88), tx (List.replicate n.toNat 90), tx (List.replicate n.toNat 120), tx (List.replicate (n - 1).toNat 88), tx (List.replicate (n - 1).toNat 88) ++ ("0" : Str), "-", S9 n ++ (";" : Str)]
theorem menuH_ok {n : Int} (h1 : 1 ≤ n) (h3 : n ≤ 3) : ∀ f ∈ menuH n, asc f ∧ f.length ≤ 12 := fun f hf => by
  have h : (menuH n).all shortB = true := by rcases n123 h1 h3 with rfl | rfl | rfl <;> decide +kernel
  exact shortB_ok (List.all_eq_true.mp h f hf)
theorem home_sizes {n : Int} (h1 : 1 ≤ n) (h3 : n ≤ 3) : ("0" : Str).length + (S9 n).length ≤ 100 ∧ (("0" : Str) ++ S9 n).length + (";" : Str).length ≤ 100 ∧ (S9 n).length + (";;" : Str).length ≤ 100 ∧ (S9 n).length + ("," : Str).length ≤ 100 ∧ (S9 (n + 1)).length + (";" : Str).length ≤ 100 ∧ (tx (List.replicate (n - 1).toNat 88)).length + ("0" : Str).length ≤ 100 ∧ (S9 n).length + (";" : Str).length ≤ 100 := by
  rcases n123 h1 h3 with rfl | rfl | rfl <;> decide +kernel
def badL (z : Str) : List PyData := [.none, .int 5, .bool true, .tuple [.str z], .list [.str z], .tuple []]
theorem bad_no {z : Str} (ha : asc z) (hl : z.length ≤ 240) : ∀ d ∈ badL z, isD .s d = false ∧ small d = true := fun d hd => by
  have hw := wt_asc ha
  simp only [badL, List.mem_cons, List.not_mem_nil, or_false] at hd
  rcases hd with rfl | rfl | rfl | rfl | rfl | rfl
  · exact ⟨rfl, by decide +kernel⟩
  · exact ⟨rfl, by decide +kernel⟩
  · exact ⟨rfl, by decide +kernel⟩
  · refine ⟨rfl, small_mk ?_ (by simp [PyData.depth, PyData.depthAll])⟩
    have e : wt (.tuple [.str z]) = 8 + (wt (.str z) + 2 + 0) := by simp only [wt, wtAll]
    rw [e, hw]
    omega
  · refine ⟨rfl, small_mk ?_ (by simp [PyData.depth, PyData.depthAll])⟩
    have e : wt (.list [.str z]) = 8 + (wt (.str z) + 2 + 0) := by simp only [wt, wtAll]
    rw [e, hw]
    omega
  · exact ⟨rfl, by decide +kernel⟩
theorem no_facts : plainD (.tuple [.str "no", .str "text", .int (-1)]) = true ∧ (PyData.tuple [.str "no", .str "text", .int (-1)]).depth ≤ 3 ∧ small (.tuple [.str "no", .str "text", .int (-1)]) = true := by decide +kernel
section
variable {P : Program} {w : World} {K : PySem.W.Frag} {mg : Str → Option Value} {base : Heap} {cP cU cT : Addr}
abbrev s__law_home_lines : Stmt := topS 58
theorem sc__law_home_lines : FnScope ["_law_pool_here", "_law_n", "_law_row_here", "_law_v", "_law_due", "_law_menu", "_law_k", "_law_t", "_law_bad", "_law_which"] ["_law_pool_here", "_law_n", "_law_row_here"] (defScope s__law_home_lines) := ⟨rfl, rfl, rfl, by decide +kernel, rfl, by decide +kernel, by decide +kernel⟩
theorem ok__law_home_lines (Er : Errs K mg cP cU cT) (Ki : Kin K mg cP cU cT) (T : Tops K mg) : Df P w K mg base CX0 7 "_law_home_lines" s__law_home_lines ["_law_pool_here", "_law_n", "_law_row_here"] (spKinds K) := by
  have G__law_take := ok__law_take (P := P) (w := w) (base := base) T
  have G_house_line := ok_house_line (P := P) (w := w) (base := base) T
  have G__law_turned := ok__law_turned (P := P) (w := w) (base := base) T
  have G__law_read_home := ok__law_read_home (P := P) (w := w) (base := base) T
  have G__law_read := ok__law_read (P := P) (w := w) (base := base) Er Ki T
  have G__law_same := ok__law_same (P := P) (w := w) (base := base) T 3
  refine df_mk (k := 7-1) T.d__law_home_lines sc__law_home_lines (fun vs H Q E h => ?_) (fun _ _ _ _ _ _ us hl => match us, hl with | [_, _, _], _ => rfl) (fun f cdv A outer s H vs Q E hr h => ?_)
  · obtain ⟨p, n, l, ws, rfl, _⟩ := h
    rfl
  · obtain ⟨p, n, l, ws, rfl, hP, hl, nlp, n1, n3, hok, q⟩ := h
    refine ⟨_, (pss_cons (ps_set (i := 3) sc__law_home_lines.nd rfl (Or.inl rfl) (pe_tup (pa_cons (pv 1) (pa_cons (pe_callTy call_tuple_of (by rfl) T.b_tuple (by decide +kernel) (pa_cons (pv 2) pa_nil)) pa_nil))))
        (pss_cons (ps_set (i := 4) sc__law_home_lines.nd rfl (Or.inl rfl) (pe_bm PySem.F.plainAttrs_str PySem.F.slot_str_join PySem.F.type_str_join mt_join (pe_str) (pa_cons (pe_op op_cat (pe_lst (pa_cons (pe_op op_add_str (pe_callTy call_str_int (by rfl) T.b_str (by decide +kernel) (pa_cons (pv 1) pa_nil)) (pe_str)) pa_nil)) (pv 2)) pa_nil)))
        (pss_cons (ps_if (pt_not (pt_val (pe_df G__law_same (hr.mono (by decide)) (by rfl) pass0 (pa_cons (pe_tup (pa_cons (pv 4) (pa_cons (pv 4) pa_nil))) (pa_cons (pe_tup (pa_cons (pe_df G_house_line (hr.mono (by decide)) (by rfl) pass0 (pa_cons (pv 3) pa_nil)) (pa_cons (pe_dfk G_house_line (hr.mono (by decide)) (by rfl) pass0 (pk_cons (pv 3) pk_nil) (fun _ _ _ _ _ _ ws hl => match ws, hl with | [_], _ => rfl)) pa_nil))) pa_nil))))) (pss_one (ps_ret (pe_bl))) pss_nil)
        (pss_cons (ps_if (pt_not (pt_val (pe_df G__law_same (hr.mono (by decide)) (by rfl) pass0 (pa_cons (pe_tup (pa_cons (pe_str) (pa_cons (pv 3) pa_nil))) (pa_cons (pe_df G__law_read (hr.mono (by decide)) (by rfl) pass0 (pa_cons (pe_int) (pa_cons (pv 1) (pa_cons (pv 4) pa_nil)))) pa_nil))))) (pss_one (ps_ret (pe_bl))) pss_nil)
        (pss_cons (ps_set (i := 5) sc__law_home_lines.nd rfl (Or.inl rfl) (pe_lst (pa_cons (pe_str) (pa_cons (pe_str) (pa_cons (pe_str) (pa_cons (pe_op op_add_str (pe_op op_add_str (pe_str) (pe_callTy call_str_int (by rfl) T.b_str (by decide +kernel) (pa_cons (pv 1) pa_nil))) (pe_str)) (pa_cons (pe_str) (pa_cons (pe_callTy call_str_int (by rfl) T.b_str (by decide +kernel) (pa_cons (pv 1) pa_nil)) (pa_cons (pe_op op_add_str (pe_callTy call_str_int (by rfl) T.b_str (by decide +kernel) (pa_cons (pv 1) pa_nil)) (pe_str)) (pa_cons (pe_op op_add_str (pe_callTy call_str_int (by rfl) T.b_str (by decide +kernel) (pa_cons (pv 1) pa_nil)) (pe_str)) (pa_cons (pe_str) (pa_cons (pe_op op_add_str (pe_callTy call_str_int (by rfl) T.b_str (by decide +kernel) (pa_cons (pe_op op_add (pv 1) (pe_int)) pa_nil)) (pe_str)) (pa_cons (pe_op op_repS (pe_str) (pv 1)) (pa_cons (pe_op op_repS (pe_str) (pv 1)) (pa_cons (pe_op op_repS (pe_str) (pe_op op_add (pv 1) (pe_int))) (pa_cons (pe_op op_repS (pe_str) (pv 1)) (pa_cons (pe_op op_repS (pe_str) (pv 1)) (pa_cons (pe_op op_repS (pe_str) (pe_op op_sub (pv 1) (pe_int))) (pa_cons (pe_op op_add_str (pe_op op_repS (pe_str) (pe_op op_sub (pv 1) (pe_int))) (pe_str)) (pa_cons (pe_str) (pa_cons (pe_op op_add_str (pe_callTy call_str_int (by rfl) T.b_str (by decide +kernel) (pa_cons (pv 1) pa_nil)) (pe_str)) pa_nil)))))))))))))))))))))
        (pss_cons (ps_for PassesOwn.never rfl (pi_range1 (by rfl) T.b_range (pa_cons (pe_int) pa_nil)) (pg_name (i := 6) sc__law_home_lines.nd rfl (Or.inl rfl)) (pss_cons (ps_set (i := 7) sc__law_home_lines.nd rfl (Or.inl rfl) (pe_df G__law_turned (hr.mono (by decide)) (by rfl) pass0 (pa_cons (pv 0) (pa_cons (pv 5) (pa_cons (pv 4) pa_nil)))))
        (pss_one (ps_if (pt_not (pt_val (pe_df G__law_same (hr.mono (by decide)) (by rfl) pass0 (pa_cons (pe_df G__law_read_home (hr.mono (by decide)) (by rfl) pass0 (pa_cons (pv 7) pa_nil)) (pa_cons (pe_df G__law_read (hr.mono (by decide)) (by rfl) pass0 (pa_cons (pe_int) (pa_cons (pv 1) (pa_cons (pv 7) pa_nil)))) pa_nil))))) (pss_one (ps_ret (pe_bl))) pss_nil))))
        (pss_cons (ps_set (i := 8) sc__law_home_lines.nd rfl (Or.inl rfl) (pe_ix ix_list (pe_lst (pa_cons (pe_non) (pa_cons (pe_int) (pa_cons (pe_bl) (pa_cons (pe_tup (pa_cons (pv 4) pa_nil)) (pa_cons (pe_lst (pa_cons (pv 4) pa_nil)) (pa_cons (pe_tup pa_nil) pa_nil))))))) (pe_df G__law_take (hr.mono (by decide)) (by rfl) pass0 (pa_cons (pv 0) (pa_cons (pe_int) pa_nil))) (fun _ _ => rfl)))
        (pss_cons (ps_for PassesOwn.never rfl (pi_range1 (by rfl) T.b_range (pa_cons (pe_int) pa_nil)) (pg_name (i := 9) sc__law_home_lines.nd rfl (Or.inl rfl)) (pss_one (ps_if (pt_not (pt_val (pe_df G__law_same (hr.mono (by decide)) (by rfl) pass0 (pa_cons (pe_tup (pa_cons (pe_str) (pa_cons (pe_str) (pa_cons (pe_un un_neg (pe_int)) pa_nil)))) (pa_cons (pe_df G__law_read (hr.mono (by decide)) (by rfl) pass0 (pa_cons (pv 9) (pa_cons (pv 1) (pa_cons (pv 8) pa_nil)))) pa_nil))))) (pss_one (ps_ret (pe_bl))) pss_nil)))
        (pss_one (ps_ret (pe_bl))))))))))), ?_⟩
    have lg := num_log n1 n3
    have lg1 : (n + 1).natAbs.log2 < 1920 := by rcases n123 n1 n3 with rfl | rfl | rfl <;> decide +kernel
    have h100 : ∀ {m : Nat}, m ≤ 100 → m ≤ sizeLine := fun h => Nat.le_trans h (by decide)
    obtain ⟨z1, z2, z3, z4, z5, z6, z7⟩ := home_sizes n1 n3
    obtain ⟨da, dl, df⟩ := home_line n1 n3 hok
    have rb := home_back n1 n3 hok
    have hw3 : ∀ w ∈ ws, asc w ∧ w.length ≤ 3 := fun w hw => by
      obtain ⟨h1, h2⟩ := ascii_wide (hok.2.2 w hw).1
      exact ⟨h1, by omega⟩
    have hsum := sum_le3 (l := ws) fun w hw => (hw3 w hw).2
    have hw7 := hok.1
    have hws := (wsum_len ws).2
    refine ⟨_, rfl, _, rfl, l, _, rfl, .inl ⟨.inl (.inl hl), fun t1 ht1 => ⟨two_ok, fun t2 ht2 => ?_⟩⟩⟩
    have s1 := same_upd ht1 (o := .tup (ws.map V.str))
    have s2 := same_upd ht2 (o := .tup [.int n, .ref t1])
    have hv : Dp K (upd (upd H t1 (.tup (ws.map V.str))) t2 (.tup [.int n, .ref t1])) (.ref t2) (.tuple [.int n, .tuple (ws.map .str)]) := .tup (.inl (.inl upd_same)) (.cons (.int n) (.cons (.tup (.inl (.inl (s2 _ _ upd_same))) (dpa_strs ws)) .nil))
    have s12 := s1.trans s2
    generalize upd (upd H t1 (.tup (ws.map V.str))) t2 (.tup [.int n, .ref t1]) = H2 at hv s12 ⊢
    refine ⟨rfl, _, rfl, n, rfl, lg, _, ";", rfl, rfl, h100 z7, by show 1 ≤ sizeLine; decide, fun t3 ht3 => ?_⟩
    have s3 := same_upd ht3 (o := .lst [.str (Str.ofString (toString n) ++ (";" : Str))])
    refine ⟨_, rfl, t3, l, _, _, rfl, rfl, upd_same, s3 _ _ (s12 _ _ hl), by rw [List.length_map, sizeLine_eq]; simp; omega, fun t4 ht4 => ?_⟩
    have s4 := same_upd ht4 (o := .lst ([.str (Str.ofString (toString n) ++ (";" : Str))] ++ ws.map V.str))
    refine ⟨" ", t4, (Str.ofString (toString n) ++ (";" : Str)) :: ws, rfl, rfl, .inl (.inl (.inl upd_same)), ?_, ?_⟩
    · have l1 : (" " : Str).length = 1 := rfl
      have := shortB_ok (head_back n1 n3).2.2.1
      rw [List.map_cons, List.sum_cons, List.length_cons, l1]
      omega
    have eH : Txt.join " " ((Str.ofString (toString n) ++ (";" : Str)) :: ws) = homeT n ws := rfl
    rw [eH]
    have hv4 := dp_mono (s3.trans s4) hv
    have s14 := s12.trans (s3.trans s4)
    generalize upd (upd H2 t3 _) t4 _ = H4 at hv4 s14 ⊢
    have hD : homeT n ws = homeT n ws := rfl
    have sdd : small (.str (homeT n ws)) = true := small_mk (by rw [wt_asc da]; omega) (by simp only [PyData.depth]; omega)
    have twoD := told_two' da dl
    refine ⟨_, rfl, _, rfl, two_ok, fun t5 ht5 => ⟨_, rfl, _, n, ws, rfl, dp_mono (same_upd ht5) hv4, n1, n3, hok, fun H6 s6 => ⟨_, rfl, rfl, rfl, _, n, ws, rfl, dp_mono ((same_upd ht5).trans s6) hv4, n1, n3, hok, fun H7 s7 => ⟨two_ok, fun t6 ht6 => ?_⟩⟩⟩⟩
    refine ⟨.ref t5, .ref t6, .tuple [.str (homeT n ws), .str (homeT n ws)], rfl, .tup (.inl (.inl (same_upd ht6 _ _ (s7 _ _ (s6 _ _ upd_same))))) (.cons (.str _) (.cons (.str _) .nil)), .tup (.inl (.inl upd_same)) (.cons (.str _) (.cons (.str _) .nil)), twoD.1, by omega, twoD.2.2, fun H8 s8 => ⟨_, rfl, iteF ?_⟩⟩
    have s48 := (((same_upd ht5 (o := .tup [.str (homeT n ws), .str (homeT n ws)])).trans (s6.trans s7)).trans (same_upd ht6 (o := .tup [.str (homeT n ws), .str (homeT n ws)]))).trans s8
    have hv8 := dp_mono s48 hv4
    have tP := told_pair (n := n) (ws := ws) (wt_intL (by omega)) (fun f hf => (hw3 f hf).1) (by omega)
    refine ⟨_, rfl, two_ok, fun t7 ht7 => ⟨_, rfl, _, rfl, 1, n, _, .str (homeT n ws), rfl, .inr rfl, .str _, sdd, n1, by omega, fun z ez => by cases ez; exact ⟨da, by omega⟩, fun r H9 s9 hr => ?_⟩⟩
    have hr' : Dp K H9 r (.tuple [.str "house", .tuple [.int n, .tuple (ws.map .str)]]) := by
      have e : toldD 1 n (.str (homeT n ws)) = .tuple [.str "house", .tuple [.int n, .tuple (ws.map .str)]] := by
        show readHD (Txt.split (homeT n ws) " ") = _
        unfold readHD
        rw [rb]
      rw [← e]
      exact hr
    refine ⟨.ref t7, r, _, rfl, .tup (.inl (.inl (s9 _ _ upd_same))) (.cons (.str _) (.cons (dp_mono ((same_upd ht7).trans s9) hv8) .nil)), hr', tP.1, tP.2.1, tP.2.2, fun H10 s10 => ⟨_, rfl, iteF ?_⟩⟩
    have S10 := Sam.of hP ((s14.trans s48).trans (((same_upd ht7 (o := .tup [.str "house", .ref t2])).trans s9).trans s10))
    refine ⟨_, rfl, n, rfl, lg, "0", _, rfl, rfl, h100 z1, _, ";", rfl, rfl, h100 z2, _, rfl, n, rfl, lg, _, rfl, n, rfl, lg, _, ";;", rfl, rfl, h100 z3, _, rfl, n, rfl, lg, _, ",", rfl, rfl, h100 z4, _, rfl, _, _, rfl, rfl, _, rfl, lg1, _, ";", rfl, rfl, h100 z5, _, rfl, 73, n, rfl, rfl, by omega, by omega, _, rfl, 88, n, rfl, rfl, by omega, by omega, _, rfl, _, _, rfl, rfl, 88, _, rfl, rfl, by omega, by omega, _, rfl, 90, n, rfl, rfl, by omega, by omega, _, rfl, 120, n, rfl, rfl, by omega, by omega, _, rfl, _, _, rfl, rfl, 88, _, rfl, rfl, by omega, by omega, _, rfl, _, _, rfl, rfl, 88, _, rfl, rfl, by omega, by omega, _, "0", rfl, rfl, h100 z6, _, rfl, n, rfl, lg, _, ";", rfl, rfl, h100 z7, by show 19 ≤ sizeLine; decide, fun m hm => ?_⟩
    have nmp : m ≠ p := pool_ne S10.2 hm
    have hms := menuH_ok n1 n3
    have hml : (menuH n).length = 19 := rfl
    have sM := same_upd hm (o := .lst ((menuH n).map V.str))
    have SM := Sam.of S10.2 sM
    have hmM : (upd H10 m (.lst ((menuH n).map V.str))) m = _ := upd_same
    refine ⟨9, rfl, by decide, by decide, for_it walk_r0 (fun i σ H' => Sam p (upd H10 m (.lst ((menuH n).map V.str))) H' ∧ ∃ y6 y7, σ = [some (.ref p), some (.int n), some (.ref l), some (.ref t2), some (.str (homeT n ws)), some (.ref m), y6, y7, none, none]) ⟨⟨Same.refl _, SM.2⟩, _, _, rfl⟩ (fun _ _ _ _ _ => trivial) (fun i x σ H13 H13' hi hp hy => ?_) (fun σ H13 hp => ?_)⟩
    · obtain ⟨S13, y6, y7, rfl⟩ := hp
      obtain ⟨rfl, rfl⟩ := hy
      refine ⟨_, rfl, _, rfl, _, rfl, p, m, homeT n ws, menuH n, rfl, S13.2, sam_at S13 nmp hmM, nmp, by rw [hml]; decide, by rw [hml]; decide, hms, da, dl, df, fun y H14 S14 ya yl => ?_⟩
      have tds := told_home ya yl
      have sy : small (.str y) = true := small_mk (by rw [wt_asc ya]; omega) (by simp only [PyData.depth]; omega)
      exact ⟨_, rfl, y, rfl, ya, yl, fun ra Ha sa ha => ⟨_, rfl, _, rfl, 1, n, _, .str y, rfl, .inr rfl, .str y, sy, by omega, by omega, (fun z ez => by cases ez; exact ⟨ya, yl⟩), fun rb' Hb sb hb => ⟨ra, rb', readHD (Txt.split y " "), rfl, dp_mono sb ha, hb, tds.1, tds.2.1, tds.2.2, fun Hc sc => ⟨_, rfl, iteF ⟨S13.trans (S14.trans (Sam.of S14.2 ((sa.trans sb).trans sc))), _, _, rfl⟩⟩⟩⟩⟩
    · obtain ⟨S13, y6, y7, rfl⟩ := hp
      have S013 := (S10.trans SM).trans S13
      refine yp_pick (p := p) (K := K) (H0 := H13) (ds := badL (homeT n ws)) (yp_lst (yps_cons yp_non (yps_cons yp_int (yps_cons yp_bl (yps_cons (yp_tup (yps_cons (yp_var rfl (.str _)) yps_nil)) (yps_cons (yp_lst (yps_cons (yp_var rfl (.str _)) yps_nil)) (yps_cons (yp_tup yps_nil) yps_nil)))))) (by show (6 : Nat) ≤ 1000; decide)) (Same.refl H13) S13.2 rfl rfl (by decide) (by decide) (fun v d H14 S14 hdm hdv => ?_)
      obtain ⟨b1, b2⟩ := bad_no da dl d hdm
      have hd14 := dp_mono (del_le _ p) hdv
      refine ⟨2, rfl, by decide, by decide, for_it walk_r0 (fun i σ H' => Same H14 H' ∧ ∃ y9, σ = [some (.ref p), some (.int n), some (.ref l), some (.ref t2), some (.str (homeT n ws)), some (.ref m), y6, y7, some v, y9]) ⟨Same.refl _, _, rfl⟩ (fun _ _ _ _ _ => trivial) (fun i x σ H15 H15' hi hp hy => ?_) (fun σ H15 hp => ?_)⟩
      · obtain ⟨S15, y9, rfl⟩ := hp
        obtain ⟨rfl, rfl⟩ := hy
        have hi2 : ((i : Nat) : Int) = 0 ∨ ((i : Nat) : Int) = 1 := by
          have : i < 2 := hi
          omega
        refine ⟨1, rfl, by show 3 ≤ sizeLine; decide, fun t8 ht8 => ⟨_, rfl, _, rfl, _, rfl, (i : Nat), n, v, d, rfl, hi2, dp_mono (S15.trans (same_upd ht8)) hd14, b2, n1, by omega, (fun z ez => by rw [ez] at b1; cases b1), fun r Hr sr hr => ?_⟩⟩
        rw [told_no b1] at hr
        exact ⟨.ref t8, r, _, rfl, .tup (.inl (.inl (sr _ _ upd_same))) (.cons (.str _) (.cons (.str _) (.cons (.int _) .nil))), hr, no_facts.1, no_facts.2.1, no_facts.2.2, fun Hs ss => ⟨_, rfl, iteF ⟨((S15.trans (same_upd ht8)).trans sr).trans ss, _, rfl⟩⟩⟩
      · obtain ⟨S15, y9, rfl⟩ := hp
        exact q _ (S013.trans (S14.trans (Sam.of S14.2 S15)))
end
end V0
namespace V0
open PySem PySem.Spec PyProof.Rows L2
/-- the law, of a list of at most 63 whole numbers: True -/
def spLaw (K : PySem.W.Frag) : Sp := fun vs H Q _ => ∃ (a : Addr) (ns : List Int), vs = [.ref a] ∧ SqL K H a (ns.map V.int) ∧ ns.length ≤ 63 ∧ ∀ H', Q (.bl true) H'
section
variable {P : Program} {w : World} {K : PySem.W.Frag} {mg : Str → Option Value} {base : Heap} {cP cU cT : Addr}
abbrev s_law : Stmt := topS 59
theorem sc_law : FnScope ["_law_script", "_law_pool_here", "_law_n", "_law_row_here"] ["_law_script"] (defScope s_law) := ⟨rfl, rfl, rfl, by decide +kernel, rfl, by decide +kernel, by decide +kernel⟩
theorem ok_law (Er : Errs K mg cP cU cT) (Ki : Kin K mg cP cU cT) (T : Tops K mg) : Dg P w K mg base CX0 8 "law" s_law ["_law_script"] (spLaw K) := by
  have G__law_pool := ok__law_pool (P := P) (w := w) (base := base) T
  have G__law_home := ok__law_home (P := P) (w := w) (base := base) T
  have G__law_kinds := ok__law_kinds (P := P) (w := w) (base := base) T
  have G__law_checker := ok__law_checker (P := P) (w := w) (base := base) Er Ki T
  have G__law_short_lines := ok__law_short_lines (P := P) (w := w) (base := base) Er Ki T
  have G__law_home_lines := ok__law_home_lines (P := P) (w := w) (base := base) Er Ki T
  refine dg_mk (k := 8-1) T.d_law sc_law (fun vs H Q E h => ?_) (fun _ _ _ _ _ _ us hl => match us, hl with | [_], _ => rfl) (fun f cdv A outer s H vs Q E gd hr h => ?_)
  · obtain ⟨a, ns, rfl, _⟩ := h
    rfl
  · obtain ⟨a, ns, rfl, hS, hl, q⟩ := h
    refine ⟨_, (pss_cons (ps_set (i := 1) sc_law.nd rfl (Or.inl rfl) (pe_df G__law_pool (hr.mono (by decide)) (by rfl) pass0 (pa_cons (pv 0) pa_nil)))
        (pss_cons (ps_asg (pe_df G__law_home (hr.mono (by decide)) (by rfl) pass0 (pa_cons (pv 1) pa_nil)) (pg_tup (by rfl) (pgs_cons (pg_name (i := 2) sc_law.nd rfl (Or.inl rfl)) (pgs_cons (pg_name (i := 3) sc_law.nd rfl (Or.inl rfl)) pgs_nil))))
        (pss_cons (ps_if (PW.pt (pw_or (pt_not (pt_val (pe_dg G__law_kinds gd (hr.mono (by decide)) (by rfl) pass0 (pa_cons (pv 1) (pa_cons (pv 2) (pa_cons (pv 3) pa_nil)))))) (pw_or1 (pt_not (pt_val (pe_dg G__law_checker gd (hr.mono (by decide)) (by rfl) pass0 (pa_cons (pv 1) (pa_cons (pv 2) (pa_cons (pv 3) pa_nil))))))))) (pss_one (ps_ret (pe_bl))) pss_nil)
        (pss_one (ps_ret ((pe_and (pe_df G__law_short_lines (hr.mono (by decide)) (by rfl) pass0 (pa_cons (pv 1) pa_nil)) (pe_one (pe_df G__law_home_lines (hr.mono (by decide)) (by rfl) pass0 (pa_cons (pv 1) (pa_cons (pv 2) (pa_cons (pv 3) pa_nil)))))))))))), ?_⟩
    refine ⟨_, rfl, a, ns, rfl, hS, hl, fun p H1 g m hp0 s1 hp ok => ?_⟩
    have P1 : Pool H1 p := ⟨g, m, hp, ok⟩
    refine ⟨_, rfl, p, rfl, P1, fun t l n ws H2 n1 n3 hok S2 ntp ht hl2 nlp hlH => ?_⟩
    refine ⟨t, [.int n, .ref l], rfl, .inl (.inl ht), rfl, .int n, [.ref l], rfl, .ref l, [], rfl, rfl, ?_⟩
    refine ⟨_, rfl, _, rfl, _, rfl, p, n, l, ws, rfl, S2.2, hl2, nlp, n1, n3, hok, fun H3 S3 => ⟨_, rfl, ?_⟩⟩
    have hl3 := sam_at S3 nlp hl2
    refine iteF ⟨_, rfl, _, rfl, _, rfl, p, n, l, ws, rfl, S3.2, hl3, nlp, n1, n3, hok, fun H4 S4 => ⟨_, rfl, ?_⟩⟩
    have hl4 := sam_at S4 nlp hl3
    refine iteF ⟨_, rfl, p, rfl, S4.2, fun H5 S5 => ⟨_, rfl, iteT ?_⟩⟩
    exact ⟨_, rfl, _, rfl, _, rfl, p, n, l, ws, rfl, S5.2, sam_at S5 nlp hl4, nlp, n1, n3, hok, fun H6 S6 => q _⟩
end
end V0
namespace V0
open PySem PySem.W PySem.Calls PyProof.Rows L2
def fas : List He.Fa := ([.glo "is_integer", .glo "is_number", .glo "is_word", .glo "is_wide_word", .glo "is_words", .glo "is_blank", .glo "is_rising", .glo "is_lot", .glo "is_pair", .glo "words_fault", .glo "house_fault", .glo "is_house", .glo "lets_house", .glo "need", .glo "blank_of", .glo "is_figures", .glo "is_short_field", .glo "read_short", .glo "read_house", .glo "short_line"] : List He.Fa) ++ ([.glo "house_line", .glo "_law_pool", .glo "_law_take", .glo "_law_whole", .glo "_law_letters", .glo "_law_row", .glo "_law_rising", .glo "_law_fault", .glo "_law_home", .glo "_law_things", .glo "_law_kind", .glo "_law_kinds", .glo "_law_spoilt", .glo "_law_checked", .glo "_law_checker", .glo "_law_same", .glo "_law_figures", .glo "_law_short", .glo "_law_read_short", .glo "_law_read_home"] : List He.Fa) ++ ([.glo "_law_read", .glo "_law_turned", .glo "_law_short_lines", .glo "_law_home_lines", .glo "law", .glo "BornError", .glo "PaperError", .glo "HouseError", .glo "TextError", .glo "InvalidPaper", .glo "NotUsable", .glo "InvalidText", .free "ValueError", .free "abs", .free "all", .free "bool", .free "enumerate", .free "int", .free "isinstance", .free "len"] : List He.Fa) ++ ([.free "list", .free "min", .free "range", .free "repr", .free "sorted", .free "str", .free "tuple"] : List He.Fa)
def fns : List He.DefD := ([⟨("is_integer", none), "is_integer", "is_integer", defArgs (topS 9), defBody (topS 9), defScope (topS 9), [], []⟩, ⟨("is_number", none), "is_number", "is_number", defArgs (topS 10), defBody (topS 10), defScope (topS 10), [], []⟩, ⟨("is_word", none), "is_word", "is_word", defArgs (topS 11), defBody (topS 11), defScope (topS 11), [], []⟩, ⟨("is_wide_word", none), "is_wide_word", "is_wide_word", defArgs (topS 12), defBody (topS 12), defScope (topS 12), [], []⟩, ⟨("is_words", none), "is_words", "is_words", defArgs (topS 13), defBody (topS 13), defScope (topS 13), [], []⟩, ⟨("is_blank", none), "is_blank", "is_blank", defArgs (topS 14), defBody (topS 14), defScope (topS 14), [], []⟩, ⟨("is_rising", none), "is_rising", "is_rising", defArgs (topS 15), defBody (topS 15), defScope (topS 15), [], []⟩, ⟨("is_lot", none), "is_lot", "is_lot", defArgs (topS 16), defBody (topS 16), defScope (topS 16), [], []⟩, ⟨("is_pair", none), "is_pair", "is_pair", defArgs (topS 17), defBody (topS 17), defScope (topS 17), [], []⟩, ⟨("words_fault", none), "words_fault", "words_fault", defArgs (topS 18), defBody (topS 18), defScope (topS 18), [], []⟩, ⟨("house_fault", none), "house_fault", "house_fault", defArgs (topS 19), defBody (topS 19), defScope (topS 19), [], []⟩, ⟨("is_house", none), "is_house", "is_house", defArgs (topS 20), defBody (topS 20), defScope (topS 20), [], []⟩, ⟨("lets_house", none), "lets_house", "lets_house", defArgs (topS 22), defBody (topS 22), defScope (topS 22), [], []⟩, ⟨("need", none), "need", "need", defArgs (topS 24), defBody (topS 24), defScope (topS 24), [], []⟩, ⟨("blank_of", none), "blank_of", "blank_of", defArgs (topS 26), defBody (topS 26), defScope (topS 26), [], []⟩, ⟨("is_figures", none), "is_figures", "is_figures", defArgs (topS 28), defBody (topS 28), defScope (topS 28), [], []⟩, ⟨("is_short_field", none), "is_short_field", "is_short_field", defArgs (topS 29), defBody (topS 29), defScope (topS 29), [], []⟩, ⟨("read_short", none), "read_short", "read_short", defArgs (topS 30), defBody (topS 30), defScope (topS 30), [], []⟩, ⟨("read_house", none), "read_house", "read_house", defArgs (topS 31), defBody (topS 31), defScope (topS 31), [], []⟩, ⟨("short_line", none), "short_line", "short_line", defArgs (topS 33), defBody (topS 33), defScope (topS 33), [], []⟩] : List He.DefD) ++ ([⟨("house_line", none), "house_line", "house_line", defArgs (topS 34), defBody (topS 34), defScope (topS 34), [], []⟩, ⟨("_law_pool", none), "_law_pool", "_law_pool", defArgs (topS 36), defBody (topS 36), defScope (topS 36), [], []⟩, ⟨("_law_take", none), "_law_take", "_law_take", defArgs (topS 37), defBody (topS 37), defScope (topS 37), [], []⟩, ⟨("_law_whole", none), "_law_whole", "_law_whole", defArgs (topS 38), defBody (topS 38), defScope (topS 38), [], []⟩, ⟨("_law_letters", none), "_law_letters", "_law_letters", defArgs (topS 39), defBody (topS 39), defScope (topS 39), [], []⟩, ⟨("_law_row", none), "_law_row", "_law_row", defArgs (topS 40), defBody (topS 40), defScope (topS 40), [], []⟩, ⟨("_law_rising", none), "_law_rising", "_law_rising", defArgs (topS 41), defBody (topS 41), defScope (topS 41), [], []⟩, ⟨("_law_fault", none), "_law_fault", "_law_fault", defArgs (topS 42), defBody (topS 42), defScope (topS 42), [], []⟩, ⟨("_law_home", none), "_law_home", "_law_home", defArgs (topS 43), defBody (topS 43), defScope (topS 43), [], []⟩, ⟨("_law_things", none), "_law_things", "_law_things", defArgs (topS 44), defBody (topS 44), defScope (topS 44), [], []⟩, ⟨("_law_kind", none), "_law_kind", "_law_kind", defArgs (topS 45), defBody (topS 45), defScope (topS 45), [], []⟩, ⟨("_law_kinds", none), "_law_kinds", "_law_kinds", defArgs (topS 46), defBody (topS 46), defScope (topS 46), [], []⟩, ⟨("_law_spoilt", none), "_law_spoilt", "_law_spoilt", defArgs (topS 47), defBody (topS 47), defScope (topS 47), [], []⟩, ⟨("_law_checked", none), "_law_checked", "_law_checked", defArgs (topS 48), defBody (topS 48), defScope (topS 48), [], []⟩, ⟨("_law_checker", none), "_law_checker", "_law_checker", defArgs (topS 49), defBody (topS 49), defScope (topS 49), [], []⟩, ⟨("_law_same", none), "_law_same", "_law_same", defArgs (topS 50), defBody (topS 50), defScope (topS 50), [], []⟩, ⟨("_law_figures", none), "_law_figures", "_law_figures", defArgs (topS 51), defBody (topS 51), defScope (topS 51), [], []⟩, ⟨("_law_short", none), "_law_short", "_law_short", defArgs (topS 52), defBody (topS 52), defScope (topS 52), [], []⟩, ⟨("_law_read_short", none), "_law_read_short", "_law_read_short", defArgs (topS 53), defBody (topS 53), defScope (topS 53), [], []⟩, ⟨("_law_read_home", none), "_law_read_home", "_law_read_home", defArgs (topS 54), defBody (topS 54), defScope (topS 54), [], []⟩] : List He.DefD) ++ ([⟨("_law_read", none), "_law_read", "_law_read", defArgs (topS 55), defBody (topS 55), defScope (topS 55), [], []⟩, ⟨("_law_turned", none), "_law_turned", "_law_turned", defArgs (topS 56), defBody (topS 56), defScope (topS 56), [], []⟩, ⟨("_law_short_lines", none), "_law_short_lines", "_law_short_lines", defArgs (topS 57), defBody (topS 57), defScope (topS 57), [], []⟩, ⟨("_law_home_lines", none), "_law_home_lines", "_law_home_lines", defArgs (topS 58), defBody (topS 58), defScope (topS 58), [], []⟩, ⟨("law", none), "law", "law", defArgs (topS 59), defBody (topS 59), defScope (topS 59), [], []⟩, ⟨("InvalidPaper", some "__init__"), "__init__", "InvalidPaper.__init__", defArgs i_InvalidPaper, defBody i_InvalidPaper, defScope i_InvalidPaper, [], []⟩, ⟨("NotUsable", some "__init__"), "__init__", "NotUsable.__init__", defArgs i_NotUsable, defBody i_NotUsable, defScope i_NotUsable, [], []⟩, ⟨("InvalidText", some "__init__"), "__init__", "InvalidText.__init__", defArgs i_InvalidText, defBody i_InvalidText, defScope i_InvalidText, [], []⟩] : List He.DefD)
def ecls : List (Str × Str × Str) := [("InvalidPaper", "word", "at"), ("NotUsable", "word", "at"), ("InvalidText", "line", "field")]
def clsB (K : Frag) (C : Addr) : Bool := match K.lookup C with
  | some ⟨.type "type", _, .cls cd, sl⟩ => (match cd.mro, sl.toList with
    | .ref B :: up, [_, _, _, _, some (.builtin mk), _] => (decide (B = C) && decide (mk = "ValueError.__new__")) && ((!cd.hasDel && cd.hasDict) && HandSPX.refsVE up)
    | _, _ => false)
  | _ => false
/-- of an error's class, what the three structures ask but for the class object itself -/
def exB (K : Frag) (q : Str × Str × Str) : Bool := let C := He.ga K q.1
  decide (findIn K (.ref C) "__getattribute__" = some (some (.builtin "BaseException.__getattribute__"))) && decide (findIn K (.ref C) "__getattr__" = some none) && decide (subIn K (.ref C) (.type "BaseException") = some true) && hasDictIn K C &&
  decide (findIn K (.ref C) "__class__" = some (some (.builtin "object.__class__"))) && decide (specialIn K (.builtin "object.__class__") "__get__" = some (some (.builtin "getset_descriptor.__get__"))) && decide (takesIn K (.builtin "object.__class__") = some true) && decide (mroIn K C (.type "object") = some true) &&
  decide (findIn K (.ref C) "__setattr__" = some (some (.builtin "object.__setattr__"))) && decide (typeIn K (.ref C) = some (.type "type")) && keepIn K (.ref C) && decide (findIn K (.ref C) q.2.1 = some none) && decide (findIn K (.ref C) q.2.2 = some none) &&
  decide (findIn K (.ref C) "__init__" = some (some (.ref (He.ma K C "__init__")))) && decide (typeIn K (.ref (He.ma K C "__init__")) = some (.type "function")) && clsB K C
def kits : List (Str × List (Str × Bool)) := [("BornError", [("InvalidPaper", true), ("NotUsable", true), ("InvalidText", true)]), ("PaperError", [("InvalidPaper", true), ("NotUsable", false), ("InvalidText", false)]), ("HouseError", [("InvalidPaper", false), ("NotUsable", true), ("InvalidText", false)]), ("TextError", [("InvalidPaper", false), ("NotUsable", false), ("InvalidText", true)])]
def kitB (K : Frag) : Bool := kits.all fun q => q.2.all fun r => decide (kitOne K (.ref (He.ga K r.1)) (.ref (He.ga K q.1)) = some r.2)
def exms : List (Str × Str × Bool) := [("InvalidPaper", "InvalidPaper", true), ("InvalidText", "InvalidText", true), ("NotUsable", "InvalidText", false), ("NotUsable", "NotUsable", true)]
def moreB (K : Frag) : Bool := ecls.all (exB K) && kitB K && decide (kitOne K (.ref (He.ga K "InvalidPaper")) (.type "ValueError") = some true) && exms.all fun q => decide (exmOne K (.ref (He.ga K q.1)) (.ref (He.ga K q.2.1)) = some q.2.2)
abbrev R : OpenRow := OpenLaw.row PySem.Challenge.rw_clashborn_k00_kinds_checker_lines
abbrev qv : Program := view R.prog [59]
def hk : Hook where
  α := He.AlD × Bool
  obs := fun s => (He.obsDG 4 fas fns s.heap.get?, moreB (He.frG s.heap.get? (He.asD s.heap.get? 4)))
  val := fun _ => (He.valD fns, true)
  says := fun _ h => ∃ K : Frag, K.In h ∧ He.SaysD fas fns K ∧ moreB K = true
  of := fun _ s e => ⟨He.frG s.heap.get? (He.asD s.heap.get? 4), He.frG_in, (Prod.mk.inj e).1, (Prod.mk.inj e).2⟩
  keeps := fun _ _ _ ⟨K, hK, c⟩ k => ⟨K, Frag.In.keeps hK k, c⟩
def ob (s : SharedT) : He.AlD × Bool := (He.obsDG 4 fas fns (HandSHeadRun.getT s), moreB (He.frG (HandSHeadRun.getT s) (He.asD (HandSHeadRun.getT s) 4)))
theorem ob_eq (s : SharedT) : ob s = hk.obs s.abs := by
  have e : HandSHeadRun.getT s = s.abs.heap.get? := funext fun a => HandSHeadRun.getT_eq s a
  show (He.obsDG 4 fas fns (HandSHeadRun.getT s), moreB (He.frG (HandSHeadRun.getT s) (He.asD (HandSHeadRun.getT s) 4))) = _
  rw [e]
  rfl
def names : List Str := (["BornError", "PaperError", "HouseError", "TextError", "InvalidPaper", "NotUsable", "InvalidText", "is_integer", "is_number", "is_word", "is_wide_word", "is_words", "is_blank", "is_rising", "is_lot", "is_pair", "words_fault", "house_fault", "is_house", "lets_house", "need", "blank_of", "is_figures", "is_short_field", "read_short", "read_house", "short_line", "house_line", "_law_pool", "_law_take"] : List Str) ++ (["_law_whole", "_law_letters", "_law_row", "_law_rising", "_law_fault", "_law_home", "_law_things", "_law_kind", "_law_kinds", "_law_spoilt", "_law_checked", "_law_checker", "_law_same", "_law_figures", "_law_short", "_law_read_short", "_law_read_home", "_law_read", "_law_turned", "_law_short_lines", "_law_home_lines"] : List Str)
theorem run (w : World) : HandSHeadRun.RunEq R qv hk ob 4000 names w := by
  intro os
  kernel_rfl
end V0
/-! the law's end, for a def that wants that no repr is under way -/
namespace V0
open PySem PySem.Spec PyProof.Rows L2
section
variable {P : Program} {w : World} {K : PySem.W.Frag} {mg mb : Str → Option Value} {CX : CXT} {k : Nat} {fa a : Addr} {fd : FuncData} {x : Str} {sp : Sp} {z : Shared} {vs : List Value} {ns : List Int}
/-- from a heap of which at most the script is told -/
theorem end_core (KX : K.In z.heap) (hm : z.heap.Ns mainGlobals mg) (hb : z.heap.Ns builtinsNs mb) (hbb : ∀ x : Str, x ≠ "__name__" → mb x = bootBuiltins x) (hlim : z.heap.NoLimit) (hg : z.gens = #[])
    (ha : z.heap.get? a = some { cls := .type "list", data := .seq vs.toArray }) (hr : Room k callerA) (F : ∀ base : Heap, K.In base → base.Ns mainGlobals mg → FnG P w K mg base CX k fa fd [x] sp) (hbind : ∀ (s : Shared) (u : Value), BindsTo s fd ⟨[u], []⟩ [(x, u)])
    (hCX : ∀ H e s', CX [] H z (fun _ _ _ => False) e s' → False) (H : Hp) (hsp : sp [.ref a] H (fun v _ => v = .bl true) fun _ _ _ => False) (only : Only H) (ok : HOk P w H z.heap) (one : ∀ b, H b ≠ none → b = a) (noK : H a ≠ none → K.lookup a = none) :
    codeAny (model P w) callerA (.call (.ref fa) ⟨[.ref a], []⟩) (fun r s' => r = .ok (.ret (.bool true)) ∧ OldK z.heap s'.heap ∧ s'.os = z.os ∧ AllBare s'.gens) z := by
  have atA : ∀ {b : Addr}, H b ≠ none → z.heap.get? b = some { cls := .type "list", data := .seq vs.toArray } := fun h => by rw [one _ h]; exact ha
  have see : ∀ {b : Addr} {o : Obj}, z.heap.get? b = some o → H b = none → (hidT z.heap H).get? b = some o := fun e n => hidT_get e n
  have dicts : ∀ {b : Addr} {o : Obj} {es : Array DictEntry} {ep : Nat}, z.heap.get? b = some o → o.data = .dict es ep → H b = none := fun {b o es ep} e d => by
    by_cases h : H b = none
    · exact h
    · have e2 := atA h
      rw [e] at e2
      cases e2
      have d2 : Data.seq vs.toArray _ = Data.dict es ep := d
      cases d2
  have names : ∀ {b : Addr} {m : Str → Option Value}, z.heap.Ns b m → (hidT z.heap H).Ns b m := fun {b m} h => by
    obtain ⟨o, es, ep, e, d, r⟩ := h
    exact ⟨o, es, ep, see e (dicts e d), d, r⟩
  have KB : K.In (hidT z.heap H) := fun b o e => see (KX b o e) (by
    by_cases h : H b = none
    · exact h
    · have e2 := one b h
      subst e2
      rw [noK h] at e
      cases e)
  have lim : (hidT z.heap H).NoLimit := by
    obtain ⟨mc, l1, l2⟩ := hlim
    exact ⟨mc, names l1, l2⟩
  have md : Mod K mg (hidT z.heap H) := ⟨KB, names hm, ⟨mb, names hb, hbb⟩, lim⟩
  have env : Env0 P w K mg (hidT z.heap H) callerA [] z H := by
    refine ⟨rfl, md, fun b o e => of_hidT e, Nat.le_of_eq (hidT_size _ _), trivial, fun b hb => ?_, ok, .of_eq hg⟩
    exact absurd (show b ∈ ([] : List Addr) from hb) List.not_mem_nil
  have done := (F _ KB (names hm)).run callerA [] z H ⟨[.ref a], []⟩ [.ref a] [.ref a] _ _ rfl hr env (hbind z (.ref a)) (.cons rfl .nil) hsp
  refine codeAny_mono done fun r s' way => ?_
  match r, way with
  | .error e, way => exact (hCX H e s' way).elim
  | .ok .next, way => exact way.elim
  | .ok .brk, way => exact way.elim
  | .ok .cont, way => exact way.elim
  | .ok (.ret u), ⟨v, H', os, bare, un, ok', ru, qv⟩ =>
    have ev : v = .bl true := qv
    subst ev
    have eu : u = Value.bool true := ru
    subst eu
    refine ⟨rfl, OldK.of_keep fun b o e => ?_, os, bare⟩
    cases hH : H b with
    | none => exact un.keep b o e hH (fun m => absurd (show b ∈ ([] : List Addr) from m) List.not_mem_nil) (by simp)
    | some y =>
      rcases only b with n | ⟨ob, xs, n⟩
      · rw [hH] at n
        cases n
      · have later := un.frzs b ob _ n
        obtain ⟨g1, _⟩ := ok b _ n
        obtain ⟨g2, _⟩ := ok' b _ later
        have : o = ob := Option.some.inj (e.symm.trans g1)
        rw [this]
        exact g2
theorem law_end (KX : K.In z.heap) (hm : z.heap.Ns mainGlobals mg) (hb : z.heap.Ns builtinsNs mb) (hbb : ∀ x : Str, x ≠ "__name__" → mb x = bootBuiltins x) (hlim : z.heap.NoLimit) (hg : z.gens = #[])
    (ha : z.heap.get? a = some { cls := .type "list", data := .seq vs.toArray }) (hi : IntsAre vs ns) (hl : ns.length ≤ sizeLine) (hr : Room k callerA) (F : ∀ base : Heap, K.In base → base.Ns mainGlobals mg → FnG P w K mg base CX k fa fd [x] sp)
    (hbind : ∀ (s : Shared) (u : Value), BindsTo s fd ⟨[u], []⟩ [(x, u)]) (hsp : ∀ H : Hp, SqL K H a (ns.map V.int) → sp [.ref a] H (fun v _ => v = .bl true) fun _ _ _ => False) (hCX : ∀ H e s', CX [] H z (fun _ _ _ => False) e s' → False) :
    codeAny (model P w) callerA (.call (.ref fa) ⟨[.ref a], []⟩) (fun r s' => r = .ok (.ret (.bool true)) ∧ OldK z.heap s'.heap ∧ s'.os = z.os ∧ AllBare s'.gens) z := by
  have rv := vals_ints hi
  have lv := hi.length
  cases hk : K.lookup a with
  | some o =>
    have e := KX a o hk
    rw [ha] at e
    cases e
    have sq : SqL K (fun _ => none) a (ns.map V.int) := .inr ⟨_, vs.toArray, _, hk, rfl, rfl, rfl, by rw [List.size_toArray, lv]; exact hl, by simpa using rv⟩
    exact end_core KX hm hb hbb hlim hg ha hr F hbind hCX (fun _ => none) (hsp _ sq) (fun _ => .inl rfl) (fun b u h => nomatch (show (none : Option HO) = some u from h)) (fun b h => absurd rfl h) fun h => absurd rfl h
  | none =>
    let Hs : Hp := fun b => if b = a then some (.frz { cls := .type "list", data := .seq vs.toArray } (.lst (ns.map V.int))) else none
    have atS : Hs a = some (.frz { cls := .type "list", data := .seq vs.toArray } (.lst (ns.map V.int))) := if_pos rfl
    have offS : ∀ {b : Addr}, b ≠ a → Hs b = none := fun h => if_neg h
    refine end_core KX hm hb hbb hlim hg ha hr F hbind hCX Hs (hsp _ (.inl (.inr ⟨_, atS⟩))) (fun b => ?_) (fun b u h => ?_) (fun b h => ?_) fun _ => hk
    · by_cases e : b = a
      · rw [e]
        exact .inr ⟨_, _, atS⟩
      · exact .inl (offS e)
    · by_cases e : b = a
      · subst e
        have e2 := atS.symm.trans h
        cases e2
        exact ⟨ha, by rw [List.length_map]; exact hl, vs, _, rv, ha⟩
      · rw [offS e] at h
        cases h
    · by_cases e : b = a
      · exact e
      · exact absurd (offS e) h
end
theorem walk_end {l : PySem.W.OpenLaw} {n k : Nat} {q : Program} {loose : List Str} {XP : (Str → Option Value) → Heap → Prop} {YP : World → Heap → Prop} {d : DefRec} {CX : CXT} {x : Str} (hn : l.most = some n) (hn2 : n ≤ sizeLine) (hdf : d.params.defaults = []) (hr : Room k callerA)
    (F : ∀ (w : World) (mg : Str → Option Value) (fa : Addr) (h : Heap), YP w h → h.Ns mainGlobals mg → mg d.name = some (.ref fa) → ∃ (K : PySem.W.Frag) (fd : FuncData) (sp : Sp), K.In h ∧ (∀ (s : Shared) (u : Value), BindsTo s fd ⟨[u], []⟩ [(x, u)]) ∧
      (∀ (H : Hp) (a : Addr) (ns : List Int), ns.length ≤ n → SqL K H a (ns.map V.int) → sp [.ref a] H (fun v _ => v = .bl true) fun _ _ _ => False) ∧ ∀ base : Heap, K.In base → base.Ns mainGlobals mg → FnG l.prog w K mg base CX k fa fd [x] sp)
    (hCX : ∀ (H : Hp) (s : Shared) (e : Value) (s' : Shared), CX [] H s (fun _ _ _ => False) e s' → False) : PySem.W.WalkO q loose XP YP l.row.toRowW d [] (fun f vs => PySem.call f vs) :=
  Att.attach_call hn hdf fun w _ z mg mb fa o pm cd doc a vs ns G Y ho hd hcd hmg hobj hints hlen hg => by
    obtain ⟨K, fd, sp, KX, bnd, promise, keeps⟩ := F w mg fa _ Y G.T.g hmg
    exact law_end KX G.T.g G.T.b G.T.builtins G.T.nolimit hg hobj hints (Nat.le_trans hlen hn2) hr keeps bnd (fun H hS => promise H a ns hlen hS) fun H e s' => hCX H z e s'
end V0
namespace V0
open PySem PySem.W PySem.Calls PyProof.Rows L2
abbrev dd (x : Str) (st : Stmt) : He.DefD := ⟨(x, none), x, x, defArgs st, defBody st, defScope st, [], []⟩
abbrev di (x q : Str) (st : Stmt) : He.DefD := ⟨(x, some "__init__"), "__init__", q, defArgs st, defBody st, defScope st, [], []⟩
theorem cls_of {K : Frag} {C : Addr} (h : clsB K C = true) : ∃ nm q N bs bm sn sub ab col od k0 k1 k2 k3 k5, K.lookup C = some (excClassObj nm q C N bs bm true sn sub ab col od k0 k1 k2 k3 k5 "ValueError.__new__") ∧ HandSPX.refsVE bm = true := by
  unfold clsB at h
  split at h
  · rename_i od cd sl look
    split at h
    · rename_i B up k0 k1 k2 k3 mk k5 em es
      obtain ⟨h1, h2⟩ := Bool.and_eq_true_iff.mp h
      obtain ⟨h3, h4⟩ := Bool.and_eq_true_iff.mp h1
      obtain ⟨h5, h6⟩ := Bool.and_eq_true_iff.mp h2
      obtain ⟨h7, h8⟩ := Bool.and_eq_true_iff.mp h5
      have eB := of_decide_eq_true h3
      have eM := of_decide_eq_true h4
      subst eB eM
      obtain ⟨nm, bs, mro, N, q, hd, sn, sub, ab, col, del⟩ := cd
      have e1 : mro = Value.ref B :: up := em
      have e2 : hd = true := h8
      have e3 : del = false := by
        cases del with
        | true => cases h7
        | false => rfl
      subst e1 e2 e3
      have e4 : sl = #[k0, k1, k2, k3, some (.builtin "ValueError.__new__"), k5] := by
        obtain ⟨l⟩ := sl
        have : l = [k0, k1, k2, k3, some (.builtin "ValueError.__new__"), k5] := es
        rw [this]
      subst e4
      exact ⟨nm, q, N, bs, up, sn, sub, ab, col, od, k0, k1, k2, k3, k5, look, h6⟩
    · cases h
  · cases h
section
variable {K : Frag} {h : Heap} {mg : Str → Option Value}
theorem has_of (X : K.In h) (G : h.Ns mainGlobals mg) {x : Str} {st : Stmt} (g : (He.Fa.glo x).ok K = true) (d : ∃ fd, FunD K (dd x st).name (dd x st).qual (dd x st).params (dd x st).body (dd x st).scope ((dd x st).dvs K) ((dd x st).kws K) (He.fAd K (dd x st).at_) fd) : Has K mg x st := by
  obtain ⟨fd, F⟩ := d
  exact ⟨He.ga K x, fd, He.glo_ok X G g, F⟩
theorem ex2_of (X : K.In h) (G : h.Ns mainGlobals mg) {x q f1 f2 : Str} {st : Stmt} (g : (He.Fa.glo x).ok K = true) (e : exB K (x, f1, f2) = true) (d : ∃ fd, FunD K (di x q st).name (di x q st).qual (di x q st).params (di x q st).body (di x q st).scope ((di x q st).dvs K) ((di x q st).kws K) (He.fAd K (di x q st).at_) fd) : Ex2 K mg x q f1 f2 st (He.ga K x) := by
  obtain ⟨fd, F⟩ := d
  simp only [exB, Bool.and_eq_true, decide_eq_true_eq] at e
  obtain ⟨⟨⟨⟨⟨⟨⟨⟨⟨⟨⟨⟨⟨⟨⟨a1, a2⟩, a3⟩, a4⟩, a5⟩, a6⟩, a7⟩, a8⟩, a9⟩, a10⟩, a11⟩, a12⟩, a13⟩, a14⟩, a15⟩, a16⟩ := e
  exact ⟨⟨cls_of a16, a9, a3, a10, a11⟩, ⟨a1, a2, a3, a4⟩, He.glo_ok X G g, a12, a13, _, fd, a14, a15, F⟩
theorem exc_of {q : Str × Str × Str} (e : exB K q = true) : ExcC K (He.ga K q.1) := by
  simp only [exB, Bool.and_eq_true, decide_eq_true_eq] at e
  obtain ⟨⟨⟨⟨⟨⟨⟨⟨⟨⟨⟨⟨⟨⟨⟨a1, a2⟩, a3⟩, a4⟩, a5⟩, a6⟩, a7⟩, a8⟩, a9⟩, a10⟩, a11⟩, a12⟩, a13⟩, a14⟩, a15⟩, a16⟩ := e
  exact ⟨a1, a2, a3, a4, a5, a6, a7, a8⟩
theorem facts (X : K.In h) (G : h.Ns mainGlobals mg) (c : He.SaysD fas fns K) (m : moreB K = true) : Tops K mg ∧ Errs K mg (He.ga K "InvalidPaper") (He.ga K "NotUsable") (He.ga K "InvalidText") ∧ Kin K mg (He.ga K "InvalidPaper") (He.ga K "NotUsable") (He.ga K "InvalidText") := by
  unfold moreB at m
  obtain ⟨m123, m4⟩ := Bool.and_eq_true_iff.mp m
  obtain ⟨m12, m3⟩ := Bool.and_eq_true_iff.mp m123
  obtain ⟨m1, m2⟩ := Bool.and_eq_true_iff.mp m12
  have ex : ∀ q : Str × Str × Str, q ∈ ecls → exB K q = true := fun q hq => List.all_eq_true.mp m1 q hq
  have kit : ∀ q : Str × List (Str × Bool), q ∈ kits → ∀ r : Str × Bool, r ∈ q.2 → kitOne K (.ref (He.ga K r.1)) (.ref (He.ga K q.1)) = some r.2 := fun q hq r hr => by
    have := List.all_eq_true.mp m2 q hq
    exact of_decide_eq_true (List.all_eq_true.mp this r hr)
  have exm : ∀ q : Str × Str × Bool, q ∈ exms → exmOne K (.ref (He.ga K q.1)) (.ref (He.ga K q.2.1)) = some q.2.2 := fun q hq => of_decide_eq_true (List.all_eq_true.mp m4 q hq)
  exact ⟨{
    b_ValueError := He.free_ok X G (c.fact 52 (f := .free "ValueError") rfl)
    b_abs := He.free_ok X G (c.fact 53 (f := .free "abs") rfl)
    b_all := He.free_ok X G (c.fact 54 (f := .free "all") rfl)
    b_bool := He.free_ok X G (c.fact 55 (f := .free "bool") rfl)
    b_enumerate := He.free_ok X G (c.fact 56 (f := .free "enumerate") rfl)
    b_int := He.free_ok X G (c.fact 57 (f := .free "int") rfl)
    b_isinstance := He.free_ok X G (c.fact 58 (f := .free "isinstance") rfl)
    b_len := He.free_ok X G (c.fact 59 (f := .free "len") rfl)
    b_list := He.free_ok X G (c.fact 60 (f := .free "list") rfl)
    b_min := He.free_ok X G (c.fact 61 (f := .free "min") rfl)
    b_range := He.free_ok X G (c.fact 62 (f := .free "range") rfl)
    b_repr := He.free_ok X G (c.fact 63 (f := .free "repr") rfl)
    b_sorted := He.free_ok X G (c.fact 64 (f := .free "sorted") rfl)
    b_str := He.free_ok X G (c.fact 65 (f := .free "str") rfl)
    b_tuple := He.free_ok X G (c.fact 66 (f := .free "tuple") rfl)
    d_is_integer := has_of X G (c.fact 0 (f := .glo "is_integer") rfl) (c.def_ 0 (d := dd "is_integer" (topS 9)) rfl)
    d_is_number := has_of X G (c.fact 1 (f := .glo "is_number") rfl) (c.def_ 1 (d := dd "is_number" (topS 10)) rfl)
    d_is_word := has_of X G (c.fact 2 (f := .glo "is_word") rfl) (c.def_ 2 (d := dd "is_word" (topS 11)) rfl)
    d_is_wide_word := has_of X G (c.fact 3 (f := .glo "is_wide_word") rfl) (c.def_ 3 (d := dd "is_wide_word" (topS 12)) rfl)
    d_is_words := has_of X G (c.fact 4 (f := .glo "is_words") rfl) (c.def_ 4 (d := dd "is_words" (topS 13)) rfl)
    d_is_blank := has_of X G (c.fact 5 (f := .glo "is_blank") rfl) (c.def_ 5 (d := dd "is_blank" (topS 14)) rfl)
    d_is_rising := has_of X G (c.fact 6 (f := .glo "is_rising") rfl) (c.def_ 6 (d := dd "is_rising" (topS 15)) rfl)
    d_is_lot := has_of X G (c.fact 7 (f := .glo "is_lot") rfl) (c.def_ 7 (d := dd "is_lot" (topS 16)) rfl)
    d_is_pair := has_of X G (c.fact 8 (f := .glo "is_pair") rfl) (c.def_ 8 (d := dd "is_pair" (topS 17)) rfl)
    d_words_fault := has_of X G (c.fact 9 (f := .glo "words_fault") rfl) (c.def_ 9 (d := dd "words_fault" (topS 18)) rfl)
    d_house_fault := has_of X G (c.fact 10 (f := .glo "house_fault") rfl) (c.def_ 10 (d := dd "house_fault" (topS 19)) rfl)
    d_is_house := has_of X G (c.fact 11 (f := .glo "is_house") rfl) (c.def_ 11 (d := dd "is_house" (topS 20)) rfl)
    d_lets_house := has_of X G (c.fact 12 (f := .glo "lets_house") rfl) (c.def_ 12 (d := dd "lets_house" (topS 22)) rfl)
    d_need := has_of X G (c.fact 13 (f := .glo "need") rfl) (c.def_ 13 (d := dd "need" (topS 24)) rfl)
    d_blank_of := has_of X G (c.fact 14 (f := .glo "blank_of") rfl) (c.def_ 14 (d := dd "blank_of" (topS 26)) rfl)
    d_is_figures := has_of X G (c.fact 15 (f := .glo "is_figures") rfl) (c.def_ 15 (d := dd "is_figures" (topS 28)) rfl)
    d_is_short_field := has_of X G (c.fact 16 (f := .glo "is_short_field") rfl) (c.def_ 16 (d := dd "is_short_field" (topS 29)) rfl)
    d_read_short := has_of X G (c.fact 17 (f := .glo "read_short") rfl) (c.def_ 17 (d := dd "read_short" (topS 30)) rfl)
    d_read_house := has_of X G (c.fact 18 (f := .glo "read_house") rfl) (c.def_ 18 (d := dd "read_house" (topS 31)) rfl)
    d_short_line := has_of X G (c.fact 19 (f := .glo "short_line") rfl) (c.def_ 19 (d := dd "short_line" (topS 33)) rfl)
    d_house_line := has_of X G (c.fact 20 (f := .glo "house_line") rfl) (c.def_ 20 (d := dd "house_line" (topS 34)) rfl)
    d__law_pool := has_of X G (c.fact 21 (f := .glo "_law_pool") rfl) (c.def_ 21 (d := dd "_law_pool" (topS 36)) rfl)
    d__law_take := has_of X G (c.fact 22 (f := .glo "_law_take") rfl) (c.def_ 22 (d := dd "_law_take" (topS 37)) rfl)
    d__law_whole := has_of X G (c.fact 23 (f := .glo "_law_whole") rfl) (c.def_ 23 (d := dd "_law_whole" (topS 38)) rfl)
    d__law_letters := has_of X G (c.fact 24 (f := .glo "_law_letters") rfl) (c.def_ 24 (d := dd "_law_letters" (topS 39)) rfl)
    d__law_row := has_of X G (c.fact 25 (f := .glo "_law_row") rfl) (c.def_ 25 (d := dd "_law_row" (topS 40)) rfl)
    d__law_rising := has_of X G (c.fact 26 (f := .glo "_law_rising") rfl) (c.def_ 26 (d := dd "_law_rising" (topS 41)) rfl)
    d__law_fault := has_of X G (c.fact 27 (f := .glo "_law_fault") rfl) (c.def_ 27 (d := dd "_law_fault" (topS 42)) rfl)
    d__law_home := has_of X G (c.fact 28 (f := .glo "_law_home") rfl) (c.def_ 28 (d := dd "_law_home" (topS 43)) rfl)
    d__law_things := has_of X G (c.fact 29 (f := .glo "_law_things") rfl) (c.def_ 29 (d := dd "_law_things" (topS 44)) rfl)
    d__law_kind := has_of X G (c.fact 30 (f := .glo "_law_kind") rfl) (c.def_ 30 (d := dd "_law_kind" (topS 45)) rfl)
    d__law_kinds := has_of X G (c.fact 31 (f := .glo "_law_kinds") rfl) (c.def_ 31 (d := dd "_law_kinds" (topS 46)) rfl)
    d__law_spoilt := has_of X G (c.fact 32 (f := .glo "_law_spoilt") rfl) (c.def_ 32 (d := dd "_law_spoilt" (topS 47)) rfl)
    d__law_checked := has_of X G (c.fact 33 (f := .glo "_law_checked") rfl) (c.def_ 33 (d := dd "_law_checked" (topS 48)) rfl)
    d__law_checker := has_of X G (c.fact 34 (f := .glo "_law_checker") rfl) (c.def_ 34 (d := dd "_law_checker" (topS 49)) rfl)
    d__law_same := has_of X G (c.fact 35 (f := .glo "_law_same") rfl) (c.def_ 35 (d := dd "_law_same" (topS 50)) rfl)
    d__law_figures := has_of X G (c.fact 36 (f := .glo "_law_figures") rfl) (c.def_ 36 (d := dd "_law_figures" (topS 51)) rfl)
    d__law_short := has_of X G (c.fact 37 (f := .glo "_law_short") rfl) (c.def_ 37 (d := dd "_law_short" (topS 52)) rfl)
    d__law_read_short := has_of X G (c.fact 38 (f := .glo "_law_read_short") rfl) (c.def_ 38 (d := dd "_law_read_short" (topS 53)) rfl)
    d__law_read_home := has_of X G (c.fact 39 (f := .glo "_law_read_home") rfl) (c.def_ 39 (d := dd "_law_read_home" (topS 54)) rfl)
    d__law_read := has_of X G (c.fact 40 (f := .glo "_law_read") rfl) (c.def_ 40 (d := dd "_law_read" (topS 55)) rfl)
    d__law_turned := has_of X G (c.fact 41 (f := .glo "_law_turned") rfl) (c.def_ 41 (d := dd "_law_turned" (topS 56)) rfl)
    d__law_short_lines := has_of X G (c.fact 42 (f := .glo "_law_short_lines") rfl) (c.def_ 42 (d := dd "_law_short_lines" (topS 57)) rfl)
    d__law_home_lines := has_of X G (c.fact 43 (f := .glo "_law_home_lines") rfl) (c.def_ 43 (d := dd "_law_home_lines" (topS 58)) rfl)
    d_law := has_of X G (c.fact 44 (f := .glo "law") rfl) (c.def_ 44 (d := dd "law" (topS 59)) rfl)
  }, {
    ip := ex2_of X G (c.fact 49 (f := .glo "InvalidPaper") rfl) (ex ("InvalidPaper", "word", "at") (by simp [ecls])) (c.def_ 45 (d := di "InvalidPaper" "InvalidPaper.__init__" i_InvalidPaper) rfl)
    nu := ex2_of X G (c.fact 50 (f := .glo "NotUsable") rfl) (ex ("NotUsable", "word", "at") (by simp [ecls])) (c.def_ 46 (d := di "NotUsable" "NotUsable.__init__" i_NotUsable) rfl)
    it := ex2_of X G (c.fact 51 (f := .glo "InvalidText") rfl) (ex ("InvalidText", "line", "field") (by simp [ecls])) (c.def_ 47 (d := di "InvalidText" "InvalidText.__init__" i_InvalidText) rfl)
  }, {
    eP := exc_of (ex ("InvalidPaper", "word", "at") (by simp [ecls]))
    eU := exc_of (ex ("NotUsable", "word", "at") (by simp [ecls]))
    eT := exc_of (ex ("InvalidText", "line", "field") (by simp [ecls]))
    born := ⟨_, He.glo_ok X G (c.fact 45 (f := .glo "BornError") rfl), fun q hq => by
      simp only [List.mem_cons, List.not_mem_nil, or_false] at hq
      rcases hq with rfl | rfl | rfl
      · exact kit ("BornError", [("InvalidPaper", true), ("NotUsable", true), ("InvalidText", true)]) (by simp [kits]) ("InvalidPaper", true) (by simp)
      · exact kit ("BornError", [("InvalidPaper", true), ("NotUsable", true), ("InvalidText", true)]) (by simp [kits]) ("NotUsable", true) (by simp)
      · exact kit ("BornError", [("InvalidPaper", true), ("NotUsable", true), ("InvalidText", true)]) (by simp [kits]) ("InvalidText", true) (by simp)⟩
    paper := ⟨_, He.glo_ok X G (c.fact 46 (f := .glo "PaperError") rfl), fun q hq => by
      simp only [List.mem_cons, List.not_mem_nil, or_false] at hq
      rcases hq with rfl | rfl | rfl
      · exact kit ("PaperError", [("InvalidPaper", true), ("NotUsable", false), ("InvalidText", false)]) (by simp [kits]) ("InvalidPaper", true) (by simp)
      · exact kit ("PaperError", [("InvalidPaper", true), ("NotUsable", false), ("InvalidText", false)]) (by simp [kits]) ("NotUsable", false) (by simp)
      · exact kit ("PaperError", [("InvalidPaper", true), ("NotUsable", false), ("InvalidText", false)]) (by simp [kits]) ("InvalidText", false) (by simp)⟩
    house := ⟨_, He.glo_ok X G (c.fact 47 (f := .glo "HouseError") rfl), fun q hq => by
      simp only [List.mem_cons, List.not_mem_nil, or_false] at hq
      rcases hq with rfl | rfl | rfl
      · exact kit ("HouseError", [("InvalidPaper", false), ("NotUsable", true), ("InvalidText", false)]) (by simp [kits]) ("InvalidPaper", false) (by simp)
      · exact kit ("HouseError", [("InvalidPaper", false), ("NotUsable", true), ("InvalidText", false)]) (by simp [kits]) ("NotUsable", true) (by simp)
      · exact kit ("HouseError", [("InvalidPaper", false), ("NotUsable", true), ("InvalidText", false)]) (by simp [kits]) ("InvalidText", false) (by simp)⟩
    text := ⟨_, He.glo_ok X G (c.fact 48 (f := .glo "TextError") rfl), fun q hq => by
      simp only [List.mem_cons, List.not_mem_nil, or_false] at hq
      rcases hq with rfl | rfl | rfl
      · exact kit ("TextError", [("InvalidPaper", false), ("NotUsable", false), ("InvalidText", true)]) (by simp [kits]) ("InvalidPaper", false) (by simp)
      · exact kit ("TextError", [("InvalidPaper", false), ("NotUsable", false), ("InvalidText", true)]) (by simp [kits]) ("NotUsable", false) (by simp)
      · exact kit ("TextError", [("InvalidPaper", false), ("NotUsable", false), ("InvalidText", true)]) (by simp [kits]) ("InvalidText", true) (by simp)⟩
    value := of_decide_eq_true m3
    mPP := exm ("InvalidPaper", "InvalidPaper", true) (by simp [exms])
    mTT := exm ("InvalidText", "InvalidText", true) (by simp [exms])
    mUT := exm ("NotUsable", "InvalidText", false) (by simp [exms])
    mUU := exm ("NotUsable", "NotUsable", true) (by simp [exms])
  }⟩
end
end V0
namespace V0
open PySem PySem.Spec PyProof.Rows L2
theorem fd_one {K : PySem.W.Frag} {x : Str} {st : Stmt} {f : Addr} {fd fd' : FuncData} (F : FnP K x st f fd) (F' : FnP K x st f fd') : fd = fd' := by
  obtain ⟨_, _, _, _, _, _, _, _, _, _, rfl, l1, _, _, _⟩ := F.ex
  obtain ⟨_, _, _, _, _, _, _, _, _, _, rfl, l2, _, _, _⟩ := F'.ex
  have e := Option.some.inj (l1.symm.trans l2)
  exact Data.func.inj (congrArg Obj.data e)
theorem out {P : Program} {w : World} {K : PySem.W.Frag} {mg : Str → Option Value} {cP cU cT fa : Addr} (hmg : mg ("law" : Str) = some (.ref fa)) (Er : Errs K mg cP cU cT) (Ki : Kin K mg cP cU cT) (T : Tops K mg) :
    ∃ fd : FuncData, (∀ (s : Shared) (u : Value), BindsTo s fd ⟨[u], []⟩ [("_law_script", u)]) ∧ ∀ base : Heap, K.In base → base.Ns mainGlobals mg → FnG P w K mg base CX0 8 fa fd ["_law_script"] (spLaw K) := by
  obtain ⟨f0, fd0, m0, F0⟩ := T.d_law
  have e0 : f0 = fa := by
    have e := m0.symm.trans hmg
    cases e
    rfl
  subst e0
  have b := FunD.bindsA (ps := ["_law_script"]) F0 fun _ _ _ _ _ _ us hl => match us, hl with | [_], _ => rfl
  refine ⟨fd0, fun s v => b s [v] rfl, fun base _ _ => ?_⟩
  obtain ⟨f1, fd1, FG, m1, _, _, F1⟩ := (ok_law (P := P) (w := w) (base := base) Er Ki T).ex
  have e1 : f1 = f0 := by
    have e := m1.symm.trans m0
    cases e
    rfl
  subst e1
  rw [fd_one F0 F1]
  exact FG
end V0
open PySem PySem.W PySem.Calls PyProof.Rows
theorem PySem.Challenge.cw_clashborn_k00_kinds_checker_lines_holds : PySem.Challenge.rw_clashborn_k00_kinds_checker_lines.Holds := by
  w_on; o_law
  refine HandSHeadRun.head_any (r := OpenLaw.row PySem.Challenge.rw_clashborn_k00_kinds_checker_lines) (q := V0.qv) (H := V0.hk) (ob := V0.ob) (M := 4000) (loose := V0.names) (d := HandSHeadRun.topDef (OpenLaw.row PySem.Challenge.rw_clashborn_k00_kinds_checker_lines).prog 59) (kwd := []) V0.ob_eq
    (by kernel_rfl) (fun s => by kernel_rfl) V0.run (by kernel_rfl) (by kernel_rfl) (by kernel_rfl) (by rfl) (by first | assumption | decide +kernel) (by decide +kernel) ⟨rfl, rfl, rfl, rfl, rfl, by decide +kernel⟩ ?hw ?hc
  case hw => w_witness2
  case hc =>
    refine V0.walk_end (l := PySem.Challenge.rw_clashborn_k00_kinds_checker_lines) (n := 63) (k := 8) (x := "_law_script") (CX := L2.CX0) rfl (by decide) (by kernel_rfl) ⟨rfl, by decide, by decide⟩ ?F (fun _ _ _ _ z => z)
    intro w mg fa h Y G hmg0
    obtain ⟨K, KX, c, m⟩ := Y
    have hmg : mg ("law" : PySem.Str) = some (.ref fa) := by
      have e : (HandSHeadRun.topDef (OpenLaw.row PySem.Challenge.rw_clashborn_k00_kinds_checker_lines).prog 59).name = ("law" : PySem.Str) := by kernel_rfl
      rw [← e]
      exact hmg0
    obtain ⟨T, Er, Ki⟩ := V0.facts KX G c m
    obtain ⟨fd, hb, hF⟩ := V0.out (P := (PySem.Challenge.rw_clashborn_k00_kinds_checker_lines).prog) (w := w) hmg Er Ki T
    exact ⟨K, fd, V0.spLaw K, KX, hb, fun H a ns hl hS => ⟨a, ns, rfl, hS, hl, fun _ => rfl⟩, hF⟩
