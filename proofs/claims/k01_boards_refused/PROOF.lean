import PyProof.Rows.All
import Wide.All
import OpenK.AllK
import Wide.FinOn
import HandS.ForMost
import HandS.IsInst
import HandS.Zip
import HandS.Walk
import HandS.WrittenGet
import HandS.TupAny
import HandS.SetFor
import KE.GoesNew
import KE.KUnpackStar
import PySem.Challenge.RW_blockcarrier_k01_boards_refused
import KE.KDictKeyed
import KE.KDictDisplayH
import KE.KDictWalk
import HandS.ClsMeth
import HandS.Nested
import KE.KSuper
import KE.KExcSuper
import HandS.HotCalls
import HandS.ExcIs
import HandS.ExcCtx
import HandS.WordsExc
import HandS.Wide
import HandS.TupMul
import HandS.ExcInit
import HandS.FStr
import HandS.ExcField
import KE.KExcIs
import HandS.Lambda
import HandS.EndTab
import KE.KDflt
import HandS.Flow
import HandS.Text
import HandS.StrMore
import HandS.More
import HandS.Star
import HandS.EndOwn
import KE.RegKIsAll
import KE.RegKTryMore
set_option Elab.async false
set_option linter.all false
set_option maxRecDepth 100000
namespace Vt
open PySem PySem.Spec PyProof.Rows L2
def topS (i : Nat) : Stmt := PySem.Challenge.pw_blockcarrier_k01_boards_refused.main.body.getD i (.Pass ⟨0, 0, 0, 0⟩)
end Vt
namespace Vt
open PySem PySem.Spec PyProof.Rows L2
/-! ### calls of own defs by what they promise -/
structure Callee (P : Program) (w : World) (K : PySem.W.Frag) (mg : Str → Option Value) (base : Heap) (x : Str) (k : Nat) (n : Nat) (sp : Sp) : Prop where
  ex : ∃ (f : Addr) (fd : FuncData) (ps : List Str), FnOk P w K mg base CX0 k f fd ps sp ∧ mg x = some (.ref f) ∧ PySem.W.keepIn K (.ref f) = true ∧ Binds K fd ps []
section
variable {X : Cx} {x : Str} {k j n : Nat} {sp : Sp} {p pos : Pos} {e : Expr} {es : List Expr} {t : TA}
theorem pe_cal (C : Callee X.prog X.w X.K X.mg X.base x k n sp) (hr : Room j X.A) (hk : k ≤ j) (ha : PA X (e :: es) t) (hg : Gl X x := by rfl)
    (hdb : (x == ("__debug__" : Str)) = false := by decide) (he : starEach (e :: es) X.env = (false, eval e X.env) :: starEach es X.env := by rfl) (hpl : (backTo pos (starEach es X.env)).any (·.1) = false := by rfl) :
    PE X (.Call (.Name x p) (e :: es) [] pos) (tCall sp [] E0 t) := by
  have ⟨f, fd, ps, F, hm, hkp, hb⟩ := C.ex
  exact pe_call F (hr.mono hk) hg hm hkp hb .nil pass0 ha hdb he hpl
theorem pe_cal0 (C : Callee X.prog X.w X.K X.mg X.base x k n sp) (hr : Room j X.A) (hk : k ≤ j) (hg : Gl X x := by rfl)
    (hdb : (x == ("__debug__" : Str)) = false := by decide) : PE X (.Call (.Name x p) [] [] pos) (tCall sp [] E0 tNil) := by
  have ⟨f, fd, ps, F, hm, hkp, hb⟩ := C.ex
  exact pe_call0 F (hr.mono hk) hg hm hkp hb .nil pass0 hdb
end
/-- a statement, then the rest, with a word between them -/
def tCut (t u : TS) : TS := fun D σ H => ∃ Mid : L2.St → Hp → Prop, t { D with nx := Mid } σ H ∧ ∀ σ' H', Mid σ' H' → u D σ' H'
theorem pss_cut {X : Cx} {st : Stmt} {rest : List Stmt} {t u : TS} (h1 : PS X st t) (h2 : PSs X rest u) : PSs X (st :: rest) (tCut t u) := by
  refine ⟨fun pins s σ H D I h => ?_⟩
  obtain ⟨Mid, hm, hu⟩ := h
  refine wpAny_execs_cons (thn (h1.run pins s σ H { D with nx := Mid } I hm) fun f s1 q => ?_)
  cases f with
  | next =>
    obtain ⟨σ', H', I', q⟩ := q
    exact h2.run pins s1 σ' H' D I' (hu σ' H' q)
  | ret v => exact q
  | brk => exact q
  | cont => exact q
/-! ### lists or tuples -/
def SqA (K : PySem.W.Frag) (H : Hp) (a : Addr) (xs : List V) : Prop := SqL K H a xs ∨ SqT K H a xs
def rIxLT (K : PySem.W.Frag) : R2 := fun x y H Q => ∃ p xs i v, x = .ref p ∧ y = .int i ∧ SqA K H p xs ∧ atI xs i = some v ∧ Q v H
section
variable {X : Cx} {tg l : Expr} {tl : TE}
theorem ix_lt : IxR X (rIxLT X.K) := by
  intro value slice pins s σ H x y v u Q I rx ry h hs
  obtain ⟨p, xs, i, z, ex, ey, hq | hq, he, q⟩ := h
  · exact ix_list value slice pins s σ H x y v u Q I rx ry ⟨p, xs, i, z, ex, ey, hq, he, q⟩ hs
  · exact ix_tup value slice pins s σ H x y v u Q I rx ry ⟨p, xs, i, z, ex, ey, hq, he, q⟩ hs
theorem ix_ltk (K : PySem.W.Frag) (h : X.K = K := by rfl) : IxR X (rIxLT K) := by
  subst h
  exact ix_lt
def iLT (K : PySem.W.Frag) (tl : TE) : TI := fun σ H R => tl σ H fun x H1 => ∃ a, x = .ref a ∧ ((∃ xs, SqL K H1 a xs ∧ R (Itl K a) H1) ∨ ∃ xs, SqT K H1 a xs ∧ R (Itt K a) H1)
theorem pi_lt (hl : PE X l tl) : PI X tg l (iLT X.K tl) := by
  refine ⟨fun pins s σ H R I h => ?_⟩
  refine thn (hl.run pins s σ H _ I h) fun v s1 ⟨x, H1, I1, r1, q1⟩ => ?_
  obtain ⟨a, e, q⟩ := q1
  subst e
  cases r1
  rcases q with ⟨xs, hq, q⟩ | ⟨xs, hq, q⟩
  · obtain ⟨its, rv, p, hz⟩ := I1.list hq
    refine wpAny_pyIter_list p.isList ?_
    refine ⟨s1.heap.objs.size, [s1.heap.objs.size], _, _, H1, rfl, I1.kept (t' := s1.toks) fun b o e => Heap.get?_push_of_some _ e, turn_list a _, ⟨_, Heap.get?_push_size _ rfl, rfl, rfl⟩, fun b hb => ?_, q⟩
    have e : b = s1.heap.objs.size := by simpa using hb
    subst e
    exact I1.fpOk (Nat.le_refl _) (I1.hok.fresh (Nat.le_refl _))
  · obtain ⟨its, rv, p, hz⟩ := I1.tuple hq
    refine wpAny_pyIter_tuple (show s1.heap.IsTuple a its.toArray from p) ?_
    refine ⟨s1.heap.objs.size, [s1.heap.objs.size], _, _, H1, rfl, I1.kept (t' := s1.toks) fun b o e => Heap.get?_push_of_some _ e, turn_tuple a _, ⟨_, Heap.get?_push_size _ rfl, rfl, rfl⟩, fun b hb => ?_, q⟩
    have e : b = s1.heap.objs.size := by simpa using hb
    subst e
    exact I1.fpOk (Nat.le_refl _) (I1.hok.fresh (Nat.le_refl _))
end
theorem pg_tupk {X : Cx} (K : PySem.W.Frag) {es : List Expr} {k n : Nat} {pos : Pos} {t : TGs} (hc : X.calm = true) (h : PGs X es t) (hK : X.K = K := by rfl)
    (hn : (assignEach es X.env).length = n := by rfl) (hst : (assignEach es X.env).findIdx? (·.1) = none := by rfl) : PG X (.Tuple es k pos) (gTup K n t) := by
  subst hK
  exact pg_tup hc h hn hst
/-! ### enumerate(tuple) -/
theorem meets_enumT {v : Value} {o : Obj} {H : Heap → Prop} (B : Begins v o H) :
    Meets (Builtin.«enumerate.__new__» ⟨[.type "enumerate", v], []⟩) (fun _ R s => H s.heap ∧
      R (.ok (.ret (.ref (s.heap.push o).objs.size))) { s with heap := (s.heap.push o).push { cls := .type "enumerate", data := .fields #[.none, .bool false, .ref s.heap.objs.size, rawInt 0, .none, .none] } }) :=
  .of_wp fun prog w A R s h => by
    obtain ⟨hp, g, d, tk, os⟩ := s; obtain ⟨h1, h⟩ := h
    have hsub := sub_enumerate
    have q1 : ∀ {A E Q}, Q (.ref (Shared.heap ⟨hp, g, d, tk, os⟩).objs.size) ⟨hp.push o, g, d, tk, os⟩ → wpAny (model prog w) A (pyIter v) Q E ⟨hp, g, d, tk, os⟩ := fun {A E Q} q => B.iter prog w A E _ Q h1 q
    wp_walk using q1
    refine wpAny_stack_any fun st => wpAny_pure ?_
    split
    · rename_i c _ _ _ _ _
      cases (c == Value.type "enumerate")
      · wp_walk using q1
        exact ⟨_, rfl, h⟩
      · wp_walk using q1
        exact ⟨_, rfl, h⟩
    · wp_walk using q1
      exact ⟨_, rfl, h⟩
section
variable {prog : Program} {w : World} {A : Around} {E : Value → Shared → Prop} {s : Shared}
theorem call_enumB {v : Value} {o : Obj} {H : Heap → Prop} {Q : Value → Shared → Prop} (B : Begins v o H) (h1 : H s.heap)
    (h : ∀ h', IsEnum h' (s.heap.objs.size + 1) s.heap.objs.size 0 .none → h'.get? s.heap.objs.size = some o → h'.objs.size = s.heap.objs.size + 2 →
      (∀ b o, s.heap.get? b = some o → h'.get? b = some o) → Q (.ref (s.heap.objs.size + 1)) { s with heap := h' }) :
    wpAny (model prog w) A (call (.type "enumerate") [v]) Q E s := by
  refine callType_new F.called_enumerate (by decide) (F.typeCall_enumerate_1 _) (F.newCall_enumerate_1 _) (fun obj => F.args_object_init_2 obj _) F.entry_enumerate_new
    (meets_enumT B) ⟨h1, ?_⟩
  have hz : (s.heap.push o).objs.size = s.heap.objs.size + 1 := Heap.size_push ..
  show _ ∧ _
  rw [hz]
  have he : IsEnum ((s.heap.push o).push { cls := .type "enumerate", data := .fields #[.none, .bool false, .ref s.heap.objs.size, rawInt 0, .none, .none] }) (s.heap.objs.size + 1) s.heap.objs.size 0 .none := by
    have := Heap.get?_push_size (s.heap.push o) (o := { cls := .type "enumerate", data := .fields #[.none, .bool false, .ref s.heap.objs.size, rawInt 0, .none, .none] }) rfl
    rw [hz] at this; exact this
  refine ⟨⟨_, he, rfl⟩, h _ he (Heap.get?_push_of_some _ (Heap.get?_push_size _ B.free)) (by rw [Heap.size_push, hz]) fun b o x => Heap.get?_push_of_some _ (Heap.get?_push_of_some _ x)⟩
end
def Ien (K : PySem.W.Frag) (a : Addr) : It :=
  ⟨fun i H => ∃ (xs : List V) (x : V), SqT K H a xs ∧ xs[i]? = some x, fun i H v H' => ∃ T x, v = .ref T ∧ H T = none ∧ H' = upd H T (.tup [.int (i : Nat), x]) ∧ ∀ xs, SqT K H a xs → xs[i]? = some x, fun i H => ∃ xs : List V, SqT K H a xs ∧ xs.length = i⟩
theorem turn_enumT {P : Program} {w : World} {K : PySem.W.Frag} {elts : List Expr} {kk : Nat} {tpos : Pos} (a e it : Addr) :
    Turn P w K (.Tuple elts kk tpos) (Ien K a) [e, it] e (fun i h => (∃ old, IsEnum h e it (0 + (i : Int)) old) ∧ h.IsTupleIter it a i ∧ e ≠ it ∧ a ≠ it) where
  mem := by simp
  obj := fun i h st b hb => by
    obtain ⟨⟨old, he⟩, ⟨o, ho, hc, hd⟩, _⟩ := st
    have e' : b = e ∨ b = it := by simpa using hb
    rcases e' with z | z
    · rw [z]; exact ⟨_, he, fun v q => nomatch q⟩
    · rw [z]; exact ⟨o, ho, fun v q => by rw [hd] at q; cases q⟩
  keep := fun i h h' st k => let ⟨⟨old, he⟩, hi, hne, ha⟩ := st; ⟨⟨old, k e (by simp) _ he⟩, hi.at fun o q => k it (by simp) o q, hne, ha⟩
  item := by
    intro X hP hw hK hc i pins s σ H E I hf st hg
    subst hP hw hK
    obtain ⟨⟨old, he⟩, hit, hne, hat⟩ := st
    obtain ⟨xs, x, hq, hx⟩ := hg
    obtain ⟨its, rv, p, hz⟩ := I.tuple hq
    obtain ⟨u, hu, ru⟩ := rv.get hx
    have hel : e < s.heap.objs.size := Heap.lt_size he
    have hil : it < s.heap.objs.size := by obtain ⟨_, q, _⟩ := hit; exact Heap.lt_size q
    have hae : e ≠ a := fun z => by
      obtain ⟨o, ho, hc, _⟩ := p
      rw [← z, show s.heap.get? e = some _ from he] at ho
      cases ho
      exact absurd (show Value.type "enumerate" = Value.type "tuple" from hc) (by simp)
    have hsz : i < its.toArray.size := by
      have := (List.getElem?_eq_some_iff.mp hu).1
      simpa using this
    refine thn ((GoesN.enumFrom (elts := elts) (x1 := kk) (pos := tpos) 0 (Draws.tuple (prog := X.prog) (w := X.w) (A := X.A.in1) (I.ok.hd hc) it a hat its.toArray) e hne (by simp; exact ⟨hne, hae⟩) (by simp)).goes i s
      (fun v s2 => ∃ x H', Inv X pins σ H' s2 ∧ RelV x v ∧ (Ien X.K a).yld i H x H' ∧ ((∃ old, IsEnum s2.heap e it (0 + ((i + 1 : Nat) : Int)) old) ∧ s2.heap.IsTupleIter it a ((i + 1 : Nat) : Nat) ∧ e ≠ it ∧ a ≠ it) ∧ ∀ b ∈ [e, it], H' b = none) E hsz ⟨⟨old, he⟩, hit, p⟩ fun v h' tk hY st' hk htk => ?_) fun r s1 h1 => h1
    obtain ⟨T, t, y, ev, hT, hy, hTt⟩ := hY
    obtain ⟨he', hit', p'⟩ := st'
    subst ev
    have ey : y = u := by
      have e1 : its.toArray[i]? = some u := by simpa using hu
      rw [e1] at hy; exact (Option.some.inj hy).symm
    subst ey
    obtain ⟨oT, hoT, hcT, hdT⟩ := hTt
    have new : ObjOk X.prog X.w (upd H T (.tup [.int (i : Nat), x])) h' T (.tup [.int (i : Nat), x]) :=
      ⟨by show 2 ≤ sizeLine; decide, [.int (0 + (i : Int)) t, y], .cons ⟨t, by rw [Int.zero_add]⟩ (.cons ru .nil), ⟨oT, hoT, hcT, hdT⟩⟩
    have I1 : Inv X pins σ (upd H T (.tup [.int (i : Nat), x])) { s with heap := h', toks := tk } :=
      I.turnedNew (ch := [e, it]) (fun b ob hb q => hk b ob hb q) hf hT new
    refine ⟨.ref T, _, I1, rfl, ⟨_, x, rfl, I.hok.fresh hT, rfl, fun ys hy => by rw [I.tuple_inj hy hq]; exact hx⟩, ⟨he', hit', hne, hat⟩, fun b hb => ?_⟩
    have hb' : b < s.heap.objs.size := by
      have e' : b = e ∨ b = it := by simpa using hb
      rcases e' with z | z
      · rw [z]; exact hel
      · rw [z]; exact hil
    rw [upd_ne (Nat.ne_of_lt (Nat.lt_of_lt_of_le hb' hT))]
    exact (hf b hb).1
  done := by
    intro X hP hw hK hc i pins s σ H E I hf st hg
    subst hP hw hK
    obtain ⟨⟨old, he⟩, hit, hne, hat⟩ := st
    obtain ⟨xs, hq, hx⟩ := hg
    obtain ⟨its, rv, p, hz⟩ := I.tuple hq
    have hl := rv.length
    have hae : e ≠ a := fun z => by
      obtain ⟨o, ho, hc, _⟩ := p
      rw [← z, show s.heap.get? e = some _ from he] at ho
      cases ho
      exact absurd (show Value.type "enumerate" = Value.type "tuple" from hc) (by simp)
    have hsz : i = its.toArray.size := by simp; omega
    refine (GoesN.enumFrom (elts := elts) (x1 := kk) (pos := tpos) 0 (Draws.tuple (prog := X.prog) (w := X.w) (A := X.A.in1) (I.ok.hd hc) it a hat its.toArray) e hne (by simp; exact ⟨hne, hae⟩) (by simp)).stops s
      (fun s2 => Inv X pins σ H s2) E (by rw [← hsz]; exact ⟨⟨old, he⟩, hit, p⟩) fun h' tk hk htk => ?_
    exact I.turnedL (ch := [e, it]) (fun b ob hb q => hk b ob hb q) hf
  self := fun A i s Q E st h => let ⟨⟨_, he⟩, _⟩ := st; wpAny_pyIter_enum he h
def iEnT (K : PySem.W.Frag) (ta : TA) : TI := fun σ H R => ta σ H fun vs H1 => ∃ a, vs = [.ref a] ∧ ((∃ xs, SqL K H1 a xs ∧ R (Ite K a) H1) ∨ ∃ xs, SqT K H1 a xs ∧ R (Ien K a) H1)
theorem pi_enumT {X : Cx} {e : Expr} {ta : TA} {p pos tpos : Pos} {elts : List Expr} {kk : Nat} (hg : Gl X "enumerate") (hm : X.mg "enumerate" = none) (ha : PA X [e] ta) (hs : starEach [e] X.env = [(false, eval e X.env)] := by rfl) :
    PI X (.Tuple elts kk tpos) (.Call (.Name "enumerate" p) [e] [] pos) (iEnT X.K ta) := by
  refine ⟨fun pins s σ H R I h => ?_⟩
  refine Call_ (ld_blt I hg hm boot_enumerate (PyProof.Rows.callWith_type1 (thn (ha.run pos pins s σ H _ I h) fun us s1 ⟨vs, H1, I1, r1, q1⟩ => ?_) hs rfl))
  obtain ⟨a, ex, q⟩ := q1
  subst ex
  cases r1 with
  | cons r rr =>
    cases rr
    cases r
    have fp : ∀ b ∈ [s1.heap.objs.size + 1, s1.heap.objs.size], FpOk X pins H1 b := fun b hb => by
      have e' : b = s1.heap.objs.size + 1 ∨ b = s1.heap.objs.size := by simpa using hb
      have hle : s1.heap.objs.size ≤ b := by
        rcases e' with z | z
        · rw [z]; exact Nat.le_add_right _ _
        · rw [z]; exact Nat.le_refl _
      exact I1.fpOk hle (I1.hok.fresh hle)
    rcases q with ⟨xs, hq, q⟩ | ⟨xs, hq, q⟩
    · obtain ⟨its, rv, p', hz⟩ := I1.list hq
      refine call_enumerate_list p'.isList fun h' he hit hsz hk => wpAny_pyIter_enum he ?_
      have I2 : Inv X pins σ H1 { s1 with heap := h' } := I1.kept (t' := s1.toks) hk
      exact ⟨s1.heap.objs.size + 1, [s1.heap.objs.size + 1, s1.heap.objs.size], _, _, H1, rfl, I2, turn_enum a (s1.heap.objs.size + 1) s1.heap.objs.size, ⟨⟨.none, he⟩, hit, Nat.succ_ne_self _⟩, fp, q⟩
    · obtain ⟨its, rv, p', hz⟩ := I1.tuple hq
      have la : a < s1.heap.objs.size := p'.lt
      refine call_enumB (begins_tuple a its.toArray) p' fun h' he hit hsz hk => wpAny_pyIter_enum he ?_
      have I2 : Inv X pins σ H1 { s1 with heap := h' } := I1.kept (t' := s1.toks) hk
      exact ⟨s1.heap.objs.size + 1, [s1.heap.objs.size + 1, s1.heap.objs.size], _, _, H1, rfl, I2, turn_enumT a (s1.heap.objs.size + 1) s1.heap.objs.size, ⟨⟨.none, he⟩, ⟨_, hit, rfl, rfl⟩, Nat.succ_ne_self _, Nat.ne_of_lt la⟩, fp, q⟩
/-- the loop over enumerate(tuple) -/
theorem walk_enumT {K : PySem.W.Frag} {a : Addr} {xs : List V} : Walk (Ien K a) xs.length (fun H => SqT K H a xs) (YPair (fun i => some (.int (i : Nat))) (fun i => xs[i]?)) := by
  refine ⟨fun i _ hi q => ⟨xs, xs[i], q, by simp [hi]⟩, fun _ q => ⟨xs, q, rfl⟩, fun i H v H' _ q y => ?_⟩
  obtain ⟨T, x, h1, h2, h3, h4⟩ := y
  exact ⟨T, .int (i : Nat), x, h1, h2, h3, rfl, h4 xs q⟩
/-! ### zip(list, tuple) -/
def Izm (K : PySem.W.Frag) (a b : Addr) : It :=
  ⟨fun i H => ∃ (xs ys : List V) (x y : V), SqL K H a xs ∧ SqT K H b ys ∧ xs[i]? = some x ∧ ys[i]? = some y,
    fun i H v H' => ∃ T x y, v = .ref T ∧ H T = none ∧ H' = upd H T (.tup [x, y]) ∧ (∀ xs, SqL K H a xs → xs[i]? = some x) ∧ ∀ ys, SqT K H b ys → ys[i]? = some y,
    fun i H => ∃ xs ys : List V, SqL K H a xs ∧ SqT K H b ys ∧ min xs.length ys.length = i⟩
theorem turn_zipM {P : Program} {w : World} {K : PySem.W.Frag} {elts : List Expr} {kk : Nat} {tpos : Pos} {a b z TI TO i1 i2 : Addr} (S : ZipSep2 z TI TO i1 i2 [i1, a] [i2, b]) (h1a : a ≠ i1) (h2b : b ≠ i2) :
    Turn P w K (.Tuple elts kk tpos) (Izm K a b) [z, TI, TO, i1, i2] z (fun i h => IsZip h z TI TO .none ∧ IsTupOf2 h TI (.ref i1) (.ref i2) ∧ (∃ x y, IsTupOf2 h TO x y) ∧ h.IsListIter i1 a i ∧ h.IsTupleIter i2 b i) where
  mem := by simp
  obj := fun i h st c hc => by
    obtain ⟨hz, hTI, ⟨x, y, hTO⟩, ⟨o1, e1, _, d1⟩, ⟨o2, e2, _, d2⟩⟩ := st
    have e' : c = z ∨ c = TI ∨ c = TO ∨ c = i1 ∨ c = i2 := by simpa using hc
    rcases e' with q | q | q | q | q
    · rw [q]; exact ⟨_, hz, fun v q => nomatch q⟩
    · rw [q]; exact ⟨_, hTI, fun v q => nomatch q⟩
    · rw [q]; exact ⟨_, hTO, fun v q => nomatch q⟩
    · rw [q]; exact ⟨o1, e1, fun v q => by rw [d1] at q; cases q⟩
    · rw [q]; exact ⟨o2, e2, fun v q => by rw [d2] at q; cases q⟩
  keep := fun i h h' st k => by
    obtain ⟨hz, hTI, ⟨x, y, hTO⟩, h1, h2⟩ := st
    exact ⟨k z (by simp) _ hz, k TI (by simp) _ hTI, ⟨x, y, k TO (by simp) _ hTO⟩, h1.at fun o q => k i1 (by simp) o q, h2.at fun o q => k i2 (by simp) o q⟩
  item := by
    intro X hP hw hK hc i pins s σ H E I hf st hg
    subst hP hw hK
    obtain ⟨hz, hTI, hTO, h1, h2⟩ := st
    obtain ⟨xs, ys, x, y, hqx, hqy, hx, hy⟩ := hg
    obtain ⟨its, rv, p, _⟩ := I.list hqx
    obtain ⟨its2, rv2, p2, _⟩ := I.tuple hqy
    obtain ⟨u, hu, ru⟩ := rv.get hx
    obtain ⟨u2, hu2, ru2⟩ := rv2.get hy
    have n1 : i < its.toArray.size := by have := (List.getElem?_eq_some_iff.mp hu).1; simpa using this
    have n2 : i < its2.toArray.size := by have := (List.getElem?_eq_some_iff.mp hu2).1; simpa using this
    refine thn ((GoesN.zip2 (elts := elts) (x1 := kk) (pos := tpos) S (Draws.list (prog := X.prog) (w := X.w) (A := X.A.in1) (I.ok.hd hc) i1 a h1a its.toArray) (Draws.tuple (prog := X.prog) (w := X.w) (A := X.A.in1) (I.ok.hd hc) i2 b h2b its2.toArray)).goes i s
      (fun v s2 => ∃ x H', Inv X pins σ H' s2 ∧ RelV x v ∧ (Izm X.K a b).yld i H x H' ∧ (IsZip s2.heap z TI TO .none ∧ IsTupOf2 s2.heap TI (.ref i1) (.ref i2) ∧ (∃ x y, IsTupOf2 s2.heap TO x y) ∧ s2.heap.IsListIter i1 a ((i + 1 : Nat) : Nat) ∧ s2.heap.IsTupleIter i2 b ((i + 1 : Nat) : Nat)) ∧ ∀ b ∈ [z, TI, TO, i1, i2], H' b = none) E (by rw [Nat.lt_min]; exact ⟨n1, n2⟩)
      ⟨hz, hTI, hTO, ⟨h1, p.isList⟩, ⟨h2, p2⟩⟩ fun v h' tk hY st' hk htk => ?_) fun r s1 h1 => h1
    obtain ⟨T, v1, v2, ev, hT, hv1, hv2, hTt⟩ := hY
    obtain ⟨hz', hTI', hTO', ⟨h1', _⟩, ⟨h2', _⟩⟩ := st'
    subst ev
    have e1 : v1 = u := by
      have e1 : its.toArray[i]? = some u := by simpa using hu
      rw [e1] at hv1; exact (Option.some.inj hv1).symm
    have e2 : v2 = u2 := by
      have e1 : its2.toArray[i]? = some u2 := by simpa using hu2
      rw [e1] at hv2; exact (Option.some.inj hv2).symm
    subst e1 e2
    obtain ⟨oT, hoT, hcT, hdT⟩ := hTt
    have new : ObjOk X.prog X.w (upd H T (.tup [x, y])) h' T (.tup [x, y]) :=
      ⟨by show 2 ≤ sizeLine; decide, [v1, v2], .cons ru (.cons ru2 .nil), ⟨oT, hoT, hcT, hdT⟩⟩
    have I1 : Inv X pins σ (upd H T (.tup [x, y])) { s with heap := h', toks := tk } :=
      I.turnedNew (ch := [z, TI, TO, i1, i2]) (fun c ob hb q => hk c ob (fun m => hb (by simp only [List.mem_cons, List.not_mem_nil, or_false] at m ⊢; rcases m with h | h | h | h <;> simp [h])) q) hf hT new
    refine ⟨.ref T, _, I1, rfl, ⟨_, x, y, rfl, I.hok.fresh hT, rfl, fun ys hy => by rw [I.list_inj hy hqx]; exact hx, fun ys hy' => by rw [I.tuple_inj hy' hqy]; exact hy⟩, ⟨hz', hTI', hTO', h1', h2'⟩, fun c hb => ?_⟩
    have hn := (hf c hb).1
    have hb' : c < s.heap.objs.size := by
      obtain ⟨x0, y0, hTO0⟩ := hTO
      obtain ⟨o1, e1, _⟩ := h1
      obtain ⟨o2, e2, _⟩ := h2
      have e' : c = z ∨ c = TI ∨ c = TO ∨ c = i1 ∨ c = i2 := by simpa using hb
      rcases e' with q | q | q | q | q
      · rw [q]; exact Heap.lt_size hz
      · rw [q]; exact Heap.lt_size hTI
      · rw [q]; exact Heap.lt_size hTO0
      · rw [q]; exact Heap.lt_size e1
      · rw [q]; exact Heap.lt_size e2
    rw [upd_ne (Nat.ne_of_lt (Nat.lt_of_lt_of_le hb' hT))]
    exact hn
  done := by
    intro X hP hw hK hc i pins s σ H E I hf st hg
    subst hP hw hK
    obtain ⟨hz, hTI, hTO, h1, h2⟩ := st
    obtain ⟨xs, ys, hqx, hqy, hi⟩ := hg
    obtain ⟨its, rv, p, _⟩ := I.list hqx
    obtain ⟨its2, rv2, p2, _⟩ := I.tuple hqy
    have l1 := rv.length
    have l2 := rv2.length
    have hsz : i = min its.toArray.size its2.toArray.size := by simp; omega
    refine (GoesN.zip2 (elts := elts) (x1 := kk) (pos := tpos) S (Draws.list (prog := X.prog) (w := X.w) (A := X.A.in1) (I.ok.hd hc) i1 a h1a its.toArray) (Draws.tuple (prog := X.prog) (w := X.w) (A := X.A.in1) (I.ok.hd hc) i2 b h2b its2.toArray)).stops s
      (fun s2 => Inv X pins σ H s2) E (by rw [← hsz]; exact ⟨hz, hTI, hTO, ⟨h1, p.isList⟩, ⟨h2, p2⟩⟩) fun h' tk hk htk => ?_
    exact I.turnedL (ch := [z, TI, TO, i1, i2]) (fun c ob hb q => hk c ob (fun m => hb (by simp only [List.mem_cons, List.not_mem_nil, or_false] at m ⊢; rcases m with h | h | h | h <;> simp [h])) q) hf
  self := fun A i s Q E st h => wpAny_pyIter_zip st.1 h
theorem walk_zipM {K : PySem.W.Frag} {a b : Addr} {xs ys : List V} {n : Nat} (hn : n = min xs.length ys.length) : Walk (Izm K a b) n (fun H => SqL K H a xs ∧ SqT K H b ys) (YPair (fun i => xs[i]?) (fun i => ys[i]?)) := by
  subst hn
  refine ⟨fun i _ hi q => ?_, fun _ q => ⟨xs, ys, q.1, q.2, rfl⟩, fun i H v H' _ q y => ?_⟩
  · have h1 : i < xs.length := by omega
    have h2 : i < ys.length := by omega
    exact ⟨xs, ys, xs[i], ys[i], q.1, q.2, by simp [h1], by simp [h2]⟩
  · obtain ⟨T, x, z, h1, h2, h3, h4, h5⟩ := y
    exact ⟨T, x, z, h1, h2, h3, h4 xs q.1, h5 ys q.2⟩
def iZipM (K : PySem.W.Frag) (ta : TA) : TI := fun σ H R => ta σ H fun vs H1 => ∃ a b xs ys, vs = [.ref a, .ref b] ∧ SqL K H1 a xs ∧ SqT K H1 b ys ∧ R (Izm K a b) H1
theorem pi_zipM {X : Cx} {e e2 : Expr} {ta : TA} {p pos tpos : Pos} {elts : List Expr} {kk : Nat} (hg : Gl X "zip") (hm : X.mg "zip" = none) (ha : PA X [e, e2] ta)
    (hs : starEach [e, e2] X.env = (false, eval e X.env) :: starEach [e2] X.env := by rfl) (hpl : (backTo pos (starEach [e2] X.env)).any (·.1) = false := by rfl) :
    PI X (.Tuple elts kk tpos) (.Call (.Name "zip" p) [e, e2] [] pos) (iZipM X.K ta) := by
  refine ⟨fun pins s σ H R I h => ?_⟩
  refine Call_ (ld_blt I hg hm PyProof.Rows.boot_zip (PyProof.Rows.callWith_type1 (thn (ha.run pos pins s σ H _ I h) fun us s1 ⟨vs, H1, I1, r1, q1⟩ => ?_) hs hpl))
  obtain ⟨a, b, xs, ys, ex, hqx, hqy, q⟩ := q1
  subst ex
  cases r1 with
  | cons r rr =>
    cases rr with
    | cons r' rr =>
      cases rr
      cases r
      cases r'
      obtain ⟨its, rv, p1, _⟩ := I1.list hqx
      obtain ⟨its2, rv2, p2, _⟩ := I1.tuple hqy
      have la : a < s1.heap.objs.size := p1.lt
      have lb : b < s1.heap.objs.size := p2.lt
      refine zip_begins2 (begins_list a its.toArray) (begins_tuple b its2.toArray) p1.isList p2 fun h' hz hTI hTO h1 h2 hsz hk => wpAny_pyIter_zip hz ?_
      have I2 : Inv X pins σ H1 { s1 with heap := h' } := I1.kept (t' := s1.toks) hk
      refine ⟨s1.heap.objs.size + 4, [s1.heap.objs.size + 4, s1.heap.objs.size + 2, s1.heap.objs.size + 3, s1.heap.objs.size, s1.heap.objs.size + 1], _, _, H1, rfl, I2, turn_zipM (zip_sep2 (fun c hc => by rw [List.mem_singleton.mp hc]; exact la) (fun c hc => by rw [List.mem_singleton.mp hc]; exact lb)) (Nat.ne_of_lt la) (Nat.ne_of_lt (Nat.lt_succ_of_lt lb)), ⟨hz, hTI, ⟨_, _, hTO⟩, ⟨_, h1, rfl, rfl⟩, ⟨_, h2, rfl, rfl⟩⟩, fun c hcm => ?_, q⟩
      have e' : c = s1.heap.objs.size + 4 ∨ c = s1.heap.objs.size + 2 ∨ c = s1.heap.objs.size + 3 ∨ c = s1.heap.objs.size ∨ c = s1.heap.objs.size + 1 := by simpa using hcm
      have hle : s1.heap.objs.size ≤ c := by
        rcases e' with z | z | z | z | z
        · rw [z]; exact Nat.le_add_right _ _
        · rw [z]; exact Nat.le_add_right _ _
        · rw [z]; exact Nat.le_add_right _ _
        · rw [z]; exact Nat.le_refl _
        · rw [z]; exact Nat.le_add_right _ _
      exact I1.fpOk hle (I1.hok.fresh hle)
end Vt
namespace Vt
open PySem PySem.Spec PyProof.Rows L2
/-! ### xs[lo:hi] = another list -/
def gSlSet (to : TE) (tl th : TO) : TG := fun v σ H Q => to σ H fun o H1 => tl σ H1 fun l H2 => th σ H2 fun u H3 => ∃ (a b : Addr) (xs ys : List V) (lo hi : Nat), o = .ref a ∧ v = .ref b ∧ l = some (lo : Int) ∧ u = some (hi : Int) ∧ H3 a = some (.lst xs) ∧ H3 b = some (.lst ys) ∧ a ≠ b ∧
  lo ≤ hi ∧ hi ≤ xs.length ∧ xs.length + ys.length ≤ sizeLine ∧ Q σ (upd H3 a (.lst (xs.take lo ++ ys ++ xs.drop hi)))
section
variable {X : Cx} {pos p2 : Pos} {o : Expr} {lo hi : Option Expr} {to : TE} {tl th : TO}
theorem pg_slset (ho : PE X o to) (hl : PO X lo tl) (hu : PO X hi th)
    (ha : ∀ v, assign (.Subscript o (.Slice lo hi none p2) pos) X.env v = (do
      let ov ← holding [v] (eval o X.env)
      let iv ← holding [v, ov] (eval (.Slice lo hi none p2) X.env)
      standAt pos
      holding [v, ov, iv] (setItem ov iv v)
      release [iv, v, ov] []) := by intro _; rfl) : PG X (.Subscript o (.Slice lo hi none p2) pos) (gSlSet to tl th) := by
  refine ⟨fun pins s σ H v u Q I r h => ?_⟩
  rw [ha]
  refine wpAny_bind (wpAny_holding (thn (ho.run pins s σ H _ I h) fun ov s1 ⟨x, H1, I1, r1, q1⟩ => ?_))
  refine wpAny_bind (wpAny_holding ?_)
  refine wpAny_Slice (thn (hl.run pins s1 σ H1 _ I1 q1) fun vl s2 ⟨l, H2, I2, pl, q2⟩ => thn (hu.run pins s2 σ H2 _ I2 q2) fun vu s3 ⟨w, H3, I3, pu, a, b, xs, ys, lo', hi', e1, e2, e3, e4, hx, hy, ne, l1, l2, hz, q⟩ => ?_)
  rw [evalPart_none]
  refine wpAny_pure ?_
  subst e1 e2 e3 e4
  obtain rfl : ov = Value.ref a := r1
  obtain rfl : u = Value.ref b := r
  have I4 : Inv X pins σ H3 { s3 with heap := s3.heap.push { cls := .type "slice", data := .fields #[vl, vu, .none] } } := I3.kept (t' := s3.toks) fun b ob q => Heap.get?_push_of_some _ q
  have ra : RelV (.int (lo' : Int)) vl := by cases pl; exact ⟨_, rfl⟩
  have rc : RelV (.int (hi' : Int)) vu := by cases pu; exact ⟨_, rfl⟩
  refine wpAny_bind (wpAny_standAt (wpAny_bind (wpAny_holding (set_slice (a := (lo' : Int)) (c := (hi' : Int)) I4 hx hy ne (Heap.IsSliceOf.new ..) ra rc (by omega) (by omega) (by omega) hz fun s' I' => ?_))))
  exact wpAny_release ⟨σ, _, I', by simpa using q⟩
end
end Vt
namespace Vt
open PySem PySem.Spec PyProof.Rows L2
/-! ### methods of an own class, and its making, by what they promise -/
structure MCallee (P : Program) (w : World) (K : PySem.W.Frag) (mg : Str → Option Value) (base : Heap) (C : Addr) (m : Str) (k : Nat) (sp : Sp) : Prop where
  ex : ∃ (f : Addr) (fd : FuncData) (ps : List Str), Cls K C ∧ Meth K C m f ∧ FnOk P w K mg base CX0 k f fd ps sp ∧ Binds K fd ps []
structure Maker (P : Program) (w : World) (K : PySem.W.Frag) (mg : Str → Option Value) (base : Heap) (x : Str) (C : Addr) (k : Nat) (sp : Sp) : Prop where
  ex : ∃ (f : Addr) (fd : FuncData) (ps : List Str), Mk K C f ∧ FnOk P w K mg base CX0 k f fd ps sp ∧ mg x = some (.ref C) ∧ Binds K fd ps []
section
variable {X : Cx} {x m : Str} {k j : Nat} {C : Addr} {sp : Sp} {p pos apos : Pos} {e o : Expr} {es : List Expr} {ta : TE} {t : TA}
theorem pe_mcal {pl : Sem Bool} (c : MCallee X.prog X.w X.K X.mg X.base C m k sp) (hr : Room j X.A) (hk : k ≤ j) (he : PE X o ta) (ha : PA X (e :: es) t)
    (hst : starEach (e :: es) X.env = (false, eval e X.env) :: starEach es X.env := by rfl) (hpl : (backTo pos (starEach es X.env)).any (·.1) = false := by rfl)
    (ht : eval (.Call (.Attribute o m apos) (e :: es) [] pos) X.env = (do
      let ov ← eval o X.env
      standAt apos.atName
      let (f, first) ← holding [ov] (getMethod ov m pl)
      callWith pos f first (backTo pos (starEach (e :: es) X.env)) (backToKw pos (keywordEach [] X.env))) := by rfl) :
    PE X (.Call (.Attribute o m apos) (e :: es) [] pos) (tMeth C m sp [] E0 ta t) := by
  obtain ⟨f, fd, ps, hc, hm, F, b⟩ := c.ex
  exact pe_meth (pl := pl) he hc hm F (hr.mono hk) b .nil pass0 ha hst hpl ht
theorem pe_mcal0 {pl : Sem Bool} (c : MCallee X.prog X.w X.K X.mg X.base C m k sp) (hr : Room j X.A) (hk : k ≤ j) (he : PE X o ta)
    (ht : eval (.Call (.Attribute o m apos) [] [] pos) X.env = (do
      let ov ← eval o X.env
      standAt apos.atName
      let (f, first) ← holding [ov] (getMethod ov m pl)
      callWith pos f first (backTo pos (starEach [] X.env)) (backToKw pos (keywordEach [] X.env))) := by rfl) :
    PE X (.Call (.Attribute o m apos) [] [] pos) (tMeth C m sp [] E0 ta tNil) := by
  obtain ⟨f, fd, ps, hc, hm, F, b⟩ := c.ex
  exact pe_meth0 (pl := pl) he hc hm F (hr.mono hk) b .nil pass0 ht
theorem pe_mkc (c : Maker X.prog X.w X.K X.mg X.base x C k sp) (hr : Room j X.A) (hk : k + 1 ≤ j) (ha : PA X (e :: es) t) (hg : Gl X x := by rfl)
    (hdb : (x == ("__debug__" : Str)) = false := by decide) (he : starEach (e :: es) X.env = (false, eval e X.env) :: starEach es X.env := by rfl) (hpl : (backTo pos (starEach es X.env)).any (·.1) = false := by rfl) :
    PE X (.Call (.Name x p) (e :: es) [] pos) (tMake C sp [] E0 t) := by
  obtain ⟨f, fd, ps, M, F, hm, b⟩ := c.ex
  exact pe_make M F (hr.mono hk) hg hm b .nil pass0 ha hdb he hpl
end
end Vt
namespace Vt
open PySem PySem.Spec PyProof.Rows L2
/-! ### match over tuples that begin with a text -/
def capPats : List (Str × Pos) → List Pattern
  | [] => []
  | (x, p) :: r => .MatchAs none (some x) p :: capPats r
theorem capPats_length : ∀ cs : List (Str × Pos), (capPats cs).length = cs.length
  | [] => rfl
  | _ :: r => by rw [capPats, List.length_cons, List.length_cons, capPats_length r]
theorem capPats_star : ∀ cs : List (Str × Pos), (capPats cs).findIdx? (·.isStar) = none
  | [] => rfl
  | _ :: r => by rw [capPats, List.findIdx?_cons, capPats_star r]; rfl
theorem each_caps {M : Model} {A : Around} {E : Value → Shared → Prop} {env : Env} : ∀ (cs : List (Str × Pos)) (us : List Value) (s : Shared) (Q : Option (List (Str × Value)) → Shared → Prop), us.length = cs.length → Q (some ((cs.map (·.1)).zip us)) s →
    wpAny M A (matchEach (capPats cs) env us) Q E s
  | [], us, s, Q, hl, h => by
    cases us with
    | nil => exact wpAny_matchEach_nil h
    | cons u r => simp at hl
  | (x, p) :: r, us, s, Q, hl, h => by
    cases us with
    | nil => simp at hl
    | cons u us =>
      refine wpAny_matchEach_cons (p := .MatchAs none (some x) p) (wpAny_matchPattern_Capture ?_)
      refine each_caps r us s _ (by simpa using hl) ?_
      exact h
def bindAll : L2.St → List Nat → List V → L2.St
  | σ, i :: is, x :: xs => bindAll (σ.set i (some x)) is xs
  | σ, _, _ => σ
/-- how the caught names stand in their places -/
inductive Slots (X : Cx) : List (Str × Pos) → List Nat → Prop
  | nil : Slots X [] []
  | cons {x : Str} {p : Pos} {i : Nat} {cs : List (Str × Pos)} {is : List Nat} : X.N[i]? = some x → X.env.scope.names.lookup x = some .local → Slots X cs is → Slots X ((x, p) :: cs) (i :: is)
theorem store_caps {X : Cx} {pins : List (Addr × Obj)} {H : Hp} (hN : X.N.Nodup) : ∀ {cs : List (Str × Pos)} {is : List Nat} (_ : Slots X cs is) (xs : List V) (us : List Value) (σ : L2.St) (s : Shared) (Q : Unit → Shared → Prop), Inv X pins σ H s → Vals xs us → xs.length = cs.length →
    (∀ s', Inv X pins (bindAll σ is xs) H s' → Q () s') → wpAny (model X.prog X.w) X.A (assignInOrder ((((cs.map (·.1)).zip us).map fun (n, _) => bindName X.env n)) (((cs.map (·.1)).zip us).map (·.2))) Q X.xe s
  | _, _, .nil, xs, us, σ, s, Q, I, r, hl, h => by
    cases r with
    | nil => exact wpAny_assignInOrder_none (h s I)
    | cons r1 rr => simp at hl
  | _, _, .cons (x := x) hi hx sl, xs, us, σ, s, Q, I, r, hl, h => by
    cases r with
    | nil => simp at hl
    | cons r1 rr =>
      refine wpAny_assignInOrder_more (wpAny_bindName (store_ok I hN hi (.inl hx) r1 (fun s' I' => ?_) (.inr hx)))
      exact store_caps hN sl _ _ _ s' Q I' rr (by simpa using hl) h
structure PCases (X : Cx) (cs : List MatchCase) (t : V → TS) : Prop where
  run : ∀ (first : Bool) (pins : List (Addr × Obj)) (s : Shared) (σ : L2.St) (H : Hp) (D : Ends) (v : V) (u : Value), Inv X pins σ H s → RelV v u → t v D σ H → wpAny (model X.prog X.w) X.A (matchCases cs X.env u first) (SP X pins D) X.xe s
def tCaseNil : V → TS := fun _ D σ H => D.nx σ H
theorem pc_nil {X : Cx} : PCases X [] tCaseNil := ⟨fun _ _ s σ H D _ _ I _ h => wpAny_matchCases_nil ⟨σ, H, I, h⟩⟩
def tCase (K : PySem.W.Frag) (wd : Str) (is : List Nat) (tb : TS) (tr : V → TS) : V → TS := fun v D σ H => ∃ a z xs, v = .ref a ∧ SqT K H a (.str z :: xs) ∧
  ((z = wd ∧ xs.length = is.length ∧ tb D (bindAll σ is xs) H) ∨ (¬ (z = wd ∧ xs.length = is.length) ∧ tr v D σ H))
theorem str_eq_iff {a b : Str} : (a.cps.toList == b.cps.toList) = decide (a = b) := by
  by_cases e : a = b
  · subst e; simp
  · have h : ¬ a.cps.toList = b.cps.toList := fun q => e (by
      cases a; cases b
      simp only [Str.mk.injEq]
      exact Array.toList_inj.mp q)
    rw [decide_eq_false e]
    exact beq_eq_false_iff_ne.mpr h
theorem pc_case {X : Cx} {wd : Str} {j : Nat} {p1 p2 p3 : Pos} {cs : List (Str × Pos)} {is : List Nat} {body : List Stmt} {rest : List MatchCase} {tb : TS} {tr : V → TS} (hc : X.calm = true) (hN : X.N.Nodup) (sl : Slots X cs is) (hl : cs.length = is.length) (hb : PSs X body tb) (hr : PCases X rest tr) :
    PCases X (⟨.MatchSequence (.MatchValue (.Constant (.str wd) j p1) p2 :: capPats cs) p3, none, body⟩ :: rest) (tCase X.K wd is tb tr) := by
  refine ⟨fun first pins s σ H D v u I rv h => ?_⟩
  obtain ⟨a, z, xs, ev, hq, h⟩ := h
  subst ev
  cases rv
  obtain ⟨its, rvs, ht, hz⟩ := I.tuple hq
  have hlen : its.length = xs.length + 1 := by rw [← rvs.length]; rfl
  have hsz : its.toArray.size = xs.length + 1 := by simp [hlen]
  have hfit : (its.toArray.size : Int) < 2 ^ 63 := by
    have : (sizeLine : Int) < 2 ^ 63 := by decide
    have h2 : xs.length + 1 ≤ sizeLine := by simpa using hz
    rw [hsz]; omega
  have hpl : (Pattern.MatchValue (.Constant (.str wd) j p1) p2 :: capPats cs).length = is.length + 1 := by rw [List.length_cons, capPats_length, hl]
  have hstar : (Pattern.MatchValue (.Constant (.str wd) j p1) p2 :: capPats cs).findIdx? (·.isStar) = none := by
    rw [List.findIdx?_cons, capPats_star]; rfl
  have hwild : ((Pattern.MatchValue (.Constant (.str wd) j p1) p2 :: capPats cs).all fun p => p.isWildcard || (p.isStar && p.names.isEmpty)) = false := by
    rw [List.all_cons]; rfl
  have miss : ∀ tk, ¬ (z = wd ∧ xs.length = is.length) → wpAny (model X.prog X.w) X.A (matchCases rest X.env (.ref a) false) (SP X pins D) X.xe { s with toks := tk } := fun tk hn => by
    rcases h with ⟨e1, e2, _⟩ | ⟨_, q⟩
    · exact absurd ⟨e1, e2⟩ hn
    · exact hr.run false pins _ σ H D (.ref a) _ (I.tok tk) rfl q
  refine wpAny_matchCases_cons ?_
  by_cases hn : xs.length = is.length
  · refine matchSeq_tuple_hit ht hfit (by rw [hsz, hpl, hn]) ?_ hstar hwild
    have en : (Pattern.MatchValue (.Constant (.str wd) j p1) p2 :: capPats cs).length = its.toArray.size := by rw [hpl, hsz, hn]
    rw [en]
    refine unpackItems_tuple (s := { s with toks := s.toks + 1 + 1 }) (I.ok.hd hc) ht fun h' hx => ?_
    have hk : ∀ b o, s.heap.get? b = some o → h'.get? b = some o := fun b o e => hx b o (Nat.ne_of_lt (Heap.lt_size e)) e
    have I1 : Inv X pins σ H { s with heap := h', toks := s.toks + 1 + 1 } := I.kept hk
    cases rvs with
    | cons r0 rr =>
      rename_i u0 us
      obtain ⟨t0, rfl⟩ := r0
      refine wpAny_matchEach_cons (p := .MatchValue (.Constant (.str wd) j p1) p2) (wpAny_matchPattern_Value ?_)
      refine Calls.Constant_str ?_
      refine PyProof.Rows.eq_str ?_
      rw [show (z == wd) = decide (z = wd) from rfl]
      refine wpAny_truthy_bool ?_
      by_cases e : z = wd
      · rw [decide_eq_true e]
        have hul : us.length = cs.length := by
          have := rr.length
          omega
        refine each_caps cs us _ _ hul ?_
        simp only [List.nil_append]
        refine store_caps hN sl xs us σ _ _ (I1.tok _) rr (by omega) fun s' I' => ?_
        rcases h with ⟨_, _, q⟩ | ⟨q, _⟩
        · exact hb.run pins s' _ H D I' q
        · exact absurd ⟨e, hn⟩ q
      · rw [decide_eq_false e]
        have q := hr.run false pins
        rcases h with ⟨e1, _, _⟩ | ⟨_, q⟩
        · exact absurd e1 e
        · exact hr.run false pins _ σ H D (.ref a) _ (I1.tok _) rfl q
  · refine matchSeq_tuple_miss ht hfit (by rw [hsz, hpl]; omega) ?_ hstar hwild
    exact miss _ fun q => hn q.2
def tMatch (te : TE) (t : V → TS) : TS := fun D σ H => te σ H fun v H1 => t v D σ H1
theorem ps_match {X : Cx} {e : Expr} {cs : List MatchCase} {pos : Pos} {te : TE} {t : V → TS} (he : PE X e te) (hc : PCases X cs t) : PS X (.Match e cs pos) (tMatch te t) := by
  refine ⟨fun pins s σ H D I h => ?_⟩
  exact wpAny_Match (thn (he.run pins s σ H _ I h) fun u s1 ⟨v, H1, I1, r, q⟩ => hc.run true pins s1 σ H1 D v u I1 r q)
section
variable {X : Cx} {wd x0 x1 x2 : Str} {j : Nat} {p1 p2 p3 q0 q1 q2 : Pos} {body : List Stmt} {rest : List MatchCase} {tb : TS} {tr : V → TS}
theorem pc_seq0 (hN : X.N.Nodup) (hb : PSs X body tb) (hr : PCases X rest tr) (hc : X.calm = true := by rfl) :
    PCases X (⟨.MatchSequence [.MatchValue (.Constant (.str wd) j p1) p2] p3, none, body⟩ :: rest) (tCase X.K wd [] tb tr) := pc_case (cs := []) hc hN .nil rfl hb hr
theorem pc_seq1 {i0 : Nat} (hN : X.N.Nodup) (hb : PSs X body tb) (hr : PCases X rest tr) (hc : X.calm = true := by rfl) (h0 : X.N[i0]? = some x0 := by rfl) (l0 : X.env.scope.names.lookup x0 = some .local := by rfl) :
    PCases X (⟨.MatchSequence [.MatchValue (.Constant (.str wd) j p1) p2, .MatchAs none (some x0) q0] p3, none, body⟩ :: rest) (tCase X.K wd [i0] tb tr) :=
  pc_case (cs := [(x0, q0)]) hc hN (.cons h0 l0 .nil) rfl hb hr
theorem pc_seq2 {i0 i1 : Nat} (hN : X.N.Nodup) (hb : PSs X body tb) (hr : PCases X rest tr) (hc : X.calm = true := by rfl) (h0 : X.N[i0]? = some x0 := by rfl) (l0 : X.env.scope.names.lookup x0 = some .local := by rfl) (h1 : X.N[i1]? = some x1 := by rfl) (l1 : X.env.scope.names.lookup x1 = some .local := by rfl) :
    PCases X (⟨.MatchSequence [.MatchValue (.Constant (.str wd) j p1) p2, .MatchAs none (some x0) q0, .MatchAs none (some x1) q1] p3, none, body⟩ :: rest) (tCase X.K wd [i0, i1] tb tr) :=
  pc_case (cs := [(x0, q0), (x1, q1)]) hc hN (.cons h0 l0 (.cons h1 l1 .nil)) rfl hb hr
end
end Vt
namespace Vt
open PySem PySem.Spec PyProof.Rows L2
/-! ### word, *numbers = tuple -/
section
variable {prog : Program} {w : World} {A : Around} {E : Value → Shared → Prop} {s : Shared} {env : Env}
theorem star_tuple {l : Addr} {items : Array Value} {n i : Nat} {first mids lasts : List Value} {Q : List Value → Shared → Prop} (hl : IsTup s.heap l items) (hh : A.handled = none) (hi : i < n) (hn : n ≤ items.size + 1) (hz : items.size ≤ 16384)
    (h1 : items.toList.take i = first) (h2 : (items.toList.drop i).take (items.size + 1 - n) = mids) (h3 : (items.toList.drop i).drop (items.size + 1 - n) = lasts)
    (h : ∀ (h₂ : Heap) (tk : Nat), (∀ b o, s.heap.get? b = some o → h₂.get? b = some o) → Q (first ++ [.ref h₂.objs.size] ++ lasts) { s with heap := h₂.push { cls := .type "list", data := .seq mids.toArray }, toks := tk }) : wpAny (model prog w) A (unpackItems (.ref l) n (some i)) Q E s := by
  subst h1 h2 h3
  have hlt : l ≠ s.heap.objs.size := by obtain ⟨o, ho, _⟩ := hl; exact Nat.ne_of_lt (Heap.lt_size ho)
  have hll : l < s.heap.objs.size := by obtain ⟨o, ho, _⟩ := hl; exact Heap.lt_size ho
  unfold unpackItems
  refine wpAny_bind ?_
  unfold notIterableAtAll
  refine wpAny_bind (wpAny_specialOf hl.typeIs slot_tuple_iter.lookup ?_)
  refine wpAny_pure ?_
  simp only [Bool.false_eq_true, if_false]
  refine wpAny_bind (wpAny_holding (iter_tuple hl ?_))
  refine wpAny_bind (wpAny_holding (draw_tuple hlt i 0 _ _ ⟨_, Heap.get?_push_size _ rfl, rfl, rfl⟩ (hl.push _) (by omega) fun h₁ hit₁ hs₁ => ?_))
  have hl₁ : IsTup h₁ l items := (hl.push _).extBut hs₁.extBut hlt
  rw [Nat.zero_add] at hit₁
  have hit₁' := hit₁
  obtain ⟨oi, hoi, _⟩ := hit₁'
  have hl₁' := hl₁
  obtain ⟨ol, hol, _⟩ := hl₁'
  rw [List.drop_zero]
  have hfl : (items.toList.take i).length = i := by rw [List.length_take, Array.length_toList]; omega
  rw [if_neg (show ¬ ((items.toList.take i).length < i) by rw [hfl]; omega)]
  refine wpAny_bind (wpAny_holding (PySem.W.kun_collect (s := { s with heap := h₁ }) (T := "tuple_iterator") (.inr (.inr (.inr rfl))) (Walks.tuple (A := A.in1) hh s.heap.objs.size l hlt items) (fun j u st => st.1.typeIs) (k := i) (by omega) ⟨hit₁, hl₁⟩ (Heap.lt_size hoi) (Heap.lt_size hol) (fun h₂ tk hk => ?_) (by rw [sizeLine_eq]; omega)))
  have hrl : (items.toList.drop i).length = items.size - i := by rw [List.length_drop, Array.length_toList]
  have hmid : (items.toList.drop i).length - (n - 1 - i) = items.size + 1 - n := by rw [hrl]; omega
  show wpAny _ _ (if (items.toList.drop i).length < n - 1 - i then _ else _) _ _ _
  rw [if_neg (by rw [hrl]; omega)]
  show wpAny _ _ (newList ((items.toList.drop i).take ((items.toList.drop i).length - (n - 1 - i))) >>= fun d => pure (items.toList.take i ++ [d] ++ (items.toList.drop i).drop ((items.toList.drop i).length - (n - 1 - i)))) _ _ _
  rw [hmid]
  have he : Heap.ExtBut s.heap.objs.size s.heap h₂ := fun b o hb e => hk b o hb (hs₁.extBut b o hb (Heap.get?_push_of_some _ e))
  exact wpAny_bind (wpAny_newList (s := { s with heap := h₂, toks := tk }) (wpAny_pure (h h₂ tk fun b o e => he b o (Nat.ne_of_lt (Heap.lt_size e)) e)) (by rw [List.length_take, hrl, sizeLine_eq]; omega))
end
def gStar (K : PySem.W.Frag) (i j : Nat) : TG := fun v σ H Q => ∃ a x xs, v = .ref a ∧ SqT K H a (x :: xs) ∧ xs.length ≤ 1000 ∧ ∀ p, H p = none → Q ((σ.set i (some x)).set j (some (.ref p))) (upd H p (.lst xs))
theorem pg_star {X : Cx} {i j : Nat} {x y : Str} {px py ps pos : Pos} {k : Nat} (hc : X.calm = true) (hN : X.N.Nodup) (hi : X.N[i]? = some x) (hj : X.N[j]? = some y) (hx : X.env.scope.names.lookup x = some .local) (hy : X.env.scope.names.lookup y = some .local) :
    PG X (.Tuple [.Name x px, .Starred (.Name y py) ps] k pos) (gStar X.K i j) := by
  refine ⟨fun pins s σ H v u Q I r h => ?_⟩
  obtain ⟨a, z, xs, ev, hq, hl, h⟩ := h
  subst ev
  cases r
  obtain ⟨its, rvs, ht, hz⟩ := I.tuple hq
  have hlen : its.length = xs.length + 1 := by rw [← rvs.length]; rfl
  cases rvs with
  | cons r0 rr =>
    rename_i u0 us
    have hus : us.length = xs.length := rr.length.symm
    rw [assign_Tuple]
    refine wpAny_bind (wpAny_standAt ?_)
    unfold unpack
    have e1 : (assignEach [.Name x px, .Starred (.Name y py) ps] X.env).length = 2 := rfl
    have e2 : (assignEach [.Name x px, .Starred (.Name y py) ps] X.env).findIdx? (·.1) = some 1 := rfl
    rw [e1, e2]
    refine wpAny_bind (wpAny_holding (star_tuple (first := [u0]) (mids := us) (lasts := []) ht (I.ok.hd hc) (by decide) (by simp) (by simp; omega) rfl (by simp) (by simp) fun h₂ tk hk => ?_))
    have I2 : Inv X pins σ H { s with heap := h₂, toks := tk } := I.kept hk
    have hn : H h₂.objs.size = none := I2.hok.fresh (Nat.le_refl _)
    have hz2 : xs.length ≤ sizeLine := Nat.le_trans hl (by decide)
    have I1 : Inv X pins σ (upd H h₂.objs.size (.lst xs)) { s with heap := h₂.push { cls := .type "list", data := .seq us.toArray }, toks := tk } :=
      I2.laid (t' := tk) (fun b u e => Heap.get?_push_of_some _ e) (Nat.le_refl _) ⟨hz2, us, 0, rr, Heap.get?_push_size _ rfl⟩
    show wpAny _ _ (assignInOrder [assign (.Name x px) X.env, assign (.Name y py) X.env] [u0, .ref h₂.objs.size]) _ _ _
    refine assignInOrder_cons (thn ((pg_name (pos := px) hN hi (.inl hx) (.inr hx)).run pins _ σ _ z u0 (fun σ1 H1 => σ1 = σ.set i (some z) ∧ H1 = upd H h₂.objs.size (.lst xs)) I1 r0 ⟨rfl, rfl⟩) fun _ s1 ⟨σ1, H1, I3, e3, e4⟩ => ?_)
    subst e3 e4
    refine assignInOrder_cons (thn ((pg_name (pos := py) hN hj (.inl hy) (.inr hy)).run pins _ _ _ (.ref h₂.objs.size) _ Q I3 rfl (h _ hn)) fun _ s2 q => ?_)
    exact wpAny_assignInOrder_none q
end Vt
namespace Vt
open PySem PySem.Spec PyProof.Rows L2
/-! ### d.get(x), d a written dict of text keys -/
def tKGet (K : PySem.W.Frag) (w : World) (td ty : TE) : TE := fun σ H Q => td σ H fun x H1 => ∃ a, x = .ref a ∧ (a == sysModules) = false ∧ (∃ es n, K.lookup a = some ⟨.type "dict", none, .dict es n, #[]⟩ ∧ PySem.W.KeysLit w.params es.toList) ∧
  ty σ H1 fun y H2 => ∃ z, y = .str z ∧ ((∃ v, KDct K w a z v ∧ Q v H2) ∨ (KMiss K w a z ∧ Q .non H2))
section
variable {X : Cx} {o e : Expr} {apos cpos : Pos} {td ty : TE}
theorem pe_kget (ho : PE X o td) (he : PE X e ty) (m : M1 X o "get" apos e cpos) : PE X (.Call (.Attribute o "get" apos) [e] [] cpos) (tKGet X.K X.w td ty) := by
  refine ⟨fun pins s σ H Q I h => ?_⟩
  refine wpAny_Call_method m.base m.few m.line PySem.F.plainAttrs_dict PySem.F.slot_dict_get PySem.F.type_dict_get (thn (ho.run pins s σ H _ I h) fun u s1 ⟨x, H1, I1, rx, a, ex, hs, ⟨es, n, hl, hk⟩, q1⟩ => ?_)
  subst ex
  obtain rfl : u = Value.ref a := rx
  have hm := PySem.W.mapOf_K (prog := X.prog) (w := X.w) I1.kIn hl hk
  refine ⟨hm.typeIs, fun b q => ⟨_, I1.kIn _ _ (by cases q; exact hl), rfl⟩, ?_⟩
  rw [m.trees]
  refine Calls.callWith_builtin rfl (Calls.evalArgs_plain (Calls.spliced_cons (thn (he.run pins s1 σ H1 _ I1 q1) fun iv s2 ⟨y, H2, I2, ry, z, ey, q2⟩ => Calls.spliced_nil ?_)))
  subst ey
  obtain ⟨t, rfl⟩ := (show ∃ t, iv = Value.str z t from ry)
  have hm2 := PySem.W.mapOf_K (prog := X.prog) (w := X.w) I2.kIn hl hk
  refine call_meetsIn PySem.F.slot_dict_get hm2.typeIs PySem.F.entry_dict_get (PySem.F.args_dict_get_2 _ _) (meets_dict_get (strKind X.prog X.w) a (strKind_is X.prog X.w z t) hs) ⟨_, hm2, ?_⟩
  rcases q2 with ⟨v, ⟨es', n', u0, hl', hk', e', ru⟩, q2⟩ | ⟨⟨es', n', hl', hk', _, e'⟩, q2⟩
  · rw [hl] at hl'
    cases hl'
    exact ⟨v, H2, I2.tok _, by rw [PySem.W.find_K hl e']; exact ru, q2⟩
  · rw [hl] at hl'
    cases hl'
    exact ⟨.non, H2, I2.tok _, by rw [PySem.W.find_K hl e']; rfl, q2⟩
end
end Vt
namespace Vt
open PySem PySem.Spec PyProof.Rows L2
/-! ### the heap's small words -/
theorem sqA_l {K : PySem.W.Frag} {H : Hp} {a : Addr} {xs : List V} (h : H a = some (.lst xs)) : SqA K H a xs := .inl (.inl (.inl h))
theorem sqA_t {K : PySem.W.Frag} {H : Hp} {a : Addr} {xs : List V} (h : H a = some (.tup xs)) : SqA K H a xs := .inr (.inl (.inl h))
theorem sqL_l {K : PySem.W.Frag} {H : Hp} {a : Addr} {xs : List V} (h : H a = some (.lst xs)) : SqL K H a xs := .inl (.inl h)
theorem sqT_t {K : PySem.W.Frag} {H : Hp} {a : Addr} {xs : List V} (h : H a = some (.tup xs)) : SqT K H a xs := .inl (.inl h)
theorem same_new {H : Hp} {p : Addr} {o : HO} (h : H p = none) : Same H (upd H p o) := fun b x e => by
  rw [upd_ne (ne_of_none e h)]
  exact e
theorem Same.sqT {K : PySem.W.Frag} {H H' : Hp} {a : Addr} {xs : List V} (e : Same H H') (h : SqT K H a xs) : SqT K H' a xs := by
  rcases h with (h | ⟨o, h⟩) | h
  · exact .inl (.inl (e _ _ h))
  · exact .inl (.inr ⟨o, e _ _ h⟩)
  · exact .inr h
/-- all that was tracked stands but for these -/
def But (B : List Addr) (H H' : Hp) : Prop := ∀ c o, c ∉ B → H c = some o → H' c = some o
theorem But.refl {B : List Addr} {H : Hp} : But B H H := fun _ _ _ h => h
theorem But.trans {B : List Addr} {H H1 H2 : Hp} (a : But B H H1) (b : But B H1 H2) : But B H H2 := fun c o n h => b c o n (a c o n h)
theorem Same.but {B : List Addr} {H H' : Hp} (a : Same H H') : But B H H' := fun c o _ h => a c o h
theorem But.set {B : List Addr} {H : Hp} {p : Addr} {o : HO} (h : p ∈ B) : But B H (upd H p o) := fun c u n e => by
  rw [upd_ne (fun q => n (by rw [q]; exact h))]; exact e
theorem But.same {H H' : Hp} (a : But [] H H') : Same H H' := fun c o h => a c o (by simp) h
theorem But.mono {B B' : List Addr} {H H' : Hp} (a : But B H H') (h : ∀ b ∈ B, b ∈ B') : But B' H H' := fun c o n e => a c o (fun m => n (h c m)) e
/-- these stand for lists -/
def Lsts (H : Hp) (B : List Addr) : Prop := ∀ b ∈ B, ∃ xs, H b = some (.lst xs)
theorem But.sqT {K : PySem.W.Frag} {B : List Addr} {H H' : Hp} {a : Addr} {xs : List V} (e : But B H H') (l : Lsts H B) (h : SqT K H a xs) : SqT K H' a xs := by
  rcases h with (h | ⟨o, h⟩) | h
  · exact .inl (.inl (e _ _ (fun m => by obtain ⟨ys, q⟩ := l _ m; rw [q] at h; cases h) h))
  · exact .inl (.inr ⟨o, e _ _ (fun m => by obtain ⟨ys, q⟩ := l _ m; rw [q] at h; cases h) h⟩)
  · exact .inr h
theorem fits {n : Nat} (h : n ≤ 16000) : n < sizeLine := Nat.lt_of_le_of_lt h (by decide)
theorem fits' {n : Nat} (h : n ≤ 16000) : n ≤ sizeLine := Nat.le_of_lt (fits h)
theorem at0 {α : Type} {x : α} {r : List α} : atI (x :: r) 0 = some x := atI_nat (j := 0) rfl
theorem ixN_of {n : Nat} {i : Int} {j : Nat} (h : i = (j : Int)) (hj : j < n) : ixN n i = some j := by
  subst h
  unfold ixN
  rw [if_pos (by omega), if_pos (by omega)]
  rfl
theorem seqIx_of {n : Nat} {i : Int} {j : Nat} (h : i = (j : Int)) (hj : j < n) : seqIndex? i n = some j := (ixN_seq (ixN_of h hj)).1
/-! ### the asker's box of draws -/
def Box (H : Hp) (b l : Addr) : Prop := ∃ (ns : List Int) (s : Int), H b = some (.lst [.ref l, .int s]) ∧ H l = some (.lst (ns.map V.int)) ∧ 0 ≤ s ∧ s < 2147483647 ∧ ns.length ≤ 63
theorem Box.ne {H : Hp} {b l : Addr} (h : Box H b l) : b ≠ l := by
  obtain ⟨ns, s, h1, h2, _⟩ := h
  refine ne_of h1 h2 fun e => ?_
  cases ns with
  | nil => cases e
  | cons x r => cases e
theorem Box.lsts {H : Hp} {b l : Addr} (h : Box H b l) : Lsts H [b, l] := by
  obtain ⟨ns, s, h1, h2, _⟩ := h
  intro c hc
  rcases List.mem_cons.mp hc with rfl | hc
  · exact ⟨_, h1⟩
  · rw [List.mem_singleton.mp hc]; exact ⟨_, h2⟩
theorem Box.same {H H' : Hp} {b l : Addr} (e : Same H H') (h : Box H b l) : Box H' b l := by
  obtain ⟨ns, s, h1, h2, h3⟩ := h
  exact ⟨ns, s, e _ _ h1, e _ _ h2, h3⟩
theorem dpInts {K : PySem.W.Frag} {H : Hp} : ∀ ns : List Int, DpAll K H (ns.map V.int) (ns.map PyData.int)
  | [] => .nil
  | n :: r => .cons (.int n) (dpInts r)
theorem shapedInts (ns : List Int) : SeqAt.shaped (.list (ns.map PyData.int)) = true := by
  have h1 : ∀ ns : List Int, PyData.canLayAll0 (ns.map PyData.int) = true := by
    intro ns
    induction ns with
    | nil => simp [PyData.canLayAll0]
    | cons n r ih => simp [PyData.canLayAll0, PyData.canLay0, ih]
  have h2 : ∀ ns : List Int, PyData.depthAll (ns.map PyData.int) ≤ 1 := by
    intro ns
    induction ns with
    | nil => simp [PyData.depthAll]
    | cons n r ih => simp [PyData.depthAll, PyData.depth]; omega
  have a := h1 ns
  have b := h2 ns
  simp [SeqAt.shaped, PyData.canLay0, PyData.depth, a]
  omega
def nV (n : Nat) : V := .int (n : Int)
theorem chgN {i : Nat} {x y : V} {σ : L2.St} {H : Hp} {Q : L2.St → Hp → Prop} (e : x = y) (h : gName i y σ H Q) : gName i x σ H Q := by rw [e]; exact h
def spTake0 : Sp := fun vs H Q _ => ∃ (b l : Addr) (m : Int), vs = [.ref b, .int m] ∧ Box H b l ∧ 0 < m ∧ m < 1000000 ∧ ∀ H' r, Box H' b l → But [b, l] H H' → 0 ≤ r → r < m → Q (.int r) H'
section
variable {P : Program} {w : World} {K : PySem.W.Frag} {mg : Str → Option Value} {base : Heap}
abbrev st_law_take : Stmt := (topS 68)
abbrev nm_law_take : List Str := ["_law_box", "_law_many", "_law_number"]
theorem sc_law_take : FnScope ["_law_box", "_law_many", "_law_number"] ["_law_box", "_law_many"] (defScope st_law_take) := ⟨rfl, rfl, rfl, by decide +kernel, rfl, by decide +kernel, by decide +kernel⟩
theorem ok_take0 {f : Addr} {fd : FuncData} (F : Fun K "_law_take" "_law_take" st_law_take f fd) : FnOk P w K mg base CX0 1 f fd ["_law_box", "_law_many"] spTake0 := by
  refine F.ok sc_law_take (fun vs H Q E h => ?_) (fun cdv A outer s H vs Q E hr h => ?_)
  · obtain ⟨b, l, m, rfl, _⟩ := h
    rfl
  · obtain ⟨b, l, m, rfl, hB, m0, m1, q⟩ := h
    have hne := hB.ne
    obtain ⟨ns, sd, hb, hl, s0, s1, hlen⟩ := hB
    refine ⟨_, (pss_cons (ps_if (pt_cmpR (op_eqD hr.units) (pe_ix ix_lt (pv 0) pe_int (fun _ _ => rfl)) (pe_lst pa_nil) (nomark _)) (pss_cons (ps_asg (pe_op op_mod (pe_op op_mul (pe_ix ix_lt (pv 0) pe_int (fun _ _ => rfl)) pe_int) pe_int) (pg_sub (pv 0) pe_int set_list))
  (pss_one (ps_ret (pe_op op_mod (pe_op op_fdiv (pe_ix ix_lt (pv 0) pe_int (fun _ _ => rfl)) pe_int) (pv 1))))) pss_nil)
  (pss_cons (ps_set (i := 2) sc_law_take.nd rfl (Or.inl rfl) (pe_ix ix_lt (pe_ix ix_lt (pv 0) pe_int (fun _ _ => rfl)) pe_int (fun _ _ => rfl)))
  (pss_cons (ps_asg (pe_op op_fdiv (pv 2) (pv 1)) (pg_sub (pe_ix ix_lt (pv 0) pe_int (fun _ _ => rfl)) pe_int set_list))
  (pss_cut (ps_if (PW.pt (pw_or (pt_cmpR op_eq (pe_ix ix_lt (pe_ix ix_lt (pv 0) pe_int (fun _ _ => rfl)) pe_int (fun _ _ => rfl)) pe_int (nomark _)) (pw_or1 (pt_cmpR op_eq (pe_ix ix_lt (pe_ix ix_lt (pv 0) pe_int (fun _ _ => rfl)) pe_int (fun _ _ => rfl)) (pe_un un_neg pe_int) (nomark _))))) (pss_one (ps_expr (pe_bm PySem.F.plainAttrs_list PySem.F.slot_list_pop PySem.F.type_list_pop mt_popAt (pe_ix ix_lt (pv 0) pe_int (fun _ _ => rfl)) (pa_cons pe_int pa_nil)))) pss_nil)
  (pss_one (ps_ret (pe_op op_mod (pv 2) (pv 1)))))))), ?_⟩
    -- if box[0] == []
    refine ⟨_, rfl, b, _, 0, .ref l, rfl, rfl, sqA_l hb, rfl, ?_⟩
    refine ⟨Nat.zero_le _, fun p np => ?_⟩
    have sm : Same H (upd H p (.lst [])) := same_new np
    refine ⟨.list (ns.map PyData.int), .list [], .lst (sqL_l (sm _ _ hl)) (dpInts ns), .lst (sqL_l upd_same) .nil, shapedInts ns, rfl, _, rfl, ?_⟩
    have hb1 := sm _ _ hb
    have hl1 := sm _ _ hl
    have nbp : b ≠ p := ne_of_none hb np
    have nlp : l ≠ p := ne_of_none hl np
    cases ns with
    | nil =>
      refine iteT ?_
      -- box[1] = box[1] * 48271 % 2147483647
      refine ⟨_, rfl, b, _, 1, .int sd, rfl, rfl, sqA_l hb1, rfl, ?_⟩
      refine ⟨_, _, rfl, rfl, .inl ⟨by omega, by omega⟩, _, _, rfl, rfl, (by show (0 : Int) < 2147483647; decide), ?_⟩
      refine ⟨_, rfl, b, _, 1, 1, rfl, rfl, hb1, rfl, ?_⟩
      -- return box[1] // 7 % many
      refine ⟨_, rfl, b, _, 1, .int (sd * 48271 % 2147483647), rfl, rfl, sqA_l upd_same, rfl, ?_⟩
      refine ⟨_, _, rfl, rfl, ⟨by decide, by decide⟩, _, rfl, _, _, rfl, rfl, m0, ?_⟩
      have e0 : 0 ≤ sd * 48271 % 2147483647 := Int.emod_nonneg _ (by decide)
      have e1 : sd * 48271 % 2147483647 < 2147483647 := Int.emod_lt_of_pos _ (by decide)
      refine q _ _ ⟨[], _, upd_same, ?_, e0, e1, hlen⟩ ?_ ?_ ?_
      · rw [upd_ne hne.symm]; exact hl1
      · exact (Same.but sm).trans (But.set (by simp))
      · exact Int.emod_nonneg _ (by omega)
      · exact Int.emod_lt_of_pos _ m0
    | cons n r =>
      refine iteF ?_
      -- number = box[0][0]
      refine ⟨_, rfl, b, _, 0, .ref l, rfl, rfl, sqA_l hb1, rfl, l, _, 0, .int n, rfl, rfl, sqA_l hl1, at0, ?_⟩
      -- box[0][0] = number // many
      refine ⟨_, rfl, _, rfl, _, _, rfl, rfl, ⟨m0, by omega⟩, ?_⟩
      refine ⟨_, rfl, b, _, 0, .ref l, rfl, rfl, sqA_l hb1, rfl, l, _, 0, 0, rfl, rfl, hl1, ixN_of rfl (by simp), ?_⟩
      have nlb : l ≠ b := hne.symm
      have hb2 : (upd (upd H p (.lst [])) l (.lst ((V.int (n / m)) :: r.map V.int))) b = some (.lst [.ref l, .int sd]) := by
        rw [upd_ne hne]; exact hb1
      have bt : But [b, l] H (upd (upd H p (.lst [])) l (.lst ((V.int (n / m)) :: r.map V.int))) := (Same.but sm).trans (But.set (by simp))
      -- if box[0][0] == 0 or box[0][0] == -1
      have hr1 : r.length ≤ 63 := by simp at hlen; omega
      refine ⟨fun σ' H' => σ' = [some (.ref b), some (.int m), some (.int n)] ∧ Box H' b l ∧ But [b, l] H H', ?_, fun σ' H' hM => ?_⟩
      · have pop : ∀ D : Ends, D.nx = (fun σ' H' => σ' = [some (.ref b), some (.int m), some (.int n)] ∧ Box H' b l ∧ But [b, l] H H') →
            tDrop (tBM K "list" rPopAt (tOp (rIxLT K) (tVar 0) (tC (.int 0))) (tCons (tC (.int 0)) tNil)) D [some (.ref b), some (.int m), some (.int n)] (upd (upd H p (.lst [])) l (.lst ((V.int (n / m)) :: r.map V.int))) := fun D hD => by
          refine ⟨_, rfl, b, _, 0, .ref l, rfl, rfl, sqA_l hb2, rfl, .inl ⟨rfl, _, sqL_l upd_same⟩, ?_⟩
          refine ⟨l, _, 0, 0, .int (n / m), rfl, rfl, upd_same, by decide, by decide, seqIx_of rfl (by simp), rfl, ?_⟩
          rw [hD]
          refine ⟨rfl, ⟨r, sd, ?_, ?_, s0, s1, hr1⟩, bt.trans (But.set (by simp))⟩
          · rw [upd_ne hne]; exact hb2
          · rw [upd_same]; rfl
        refine ⟨_, rfl, b, _, 0, .ref l, rfl, rfl, sqA_l hb2, rfl, l, _, 0, .int (n / m), rfl, rfl, sqA_l upd_same, at0, rfl, _, rfl, ite2 (fun e => ?_) (fun e => ?_)⟩
        · exact iteT (pop _ rfl)
        · refine ⟨_, rfl, b, _, 0, .ref l, rfl, rfl, sqA_l hb2, rfl, l, _, 0, .int (n / m), rfl, rfl, sqA_l upd_same, at0, 1, rfl, rfl, _, rfl, ite2 (fun e => ?_) (fun e => ?_)⟩
          · exact pop _ rfl
          · exact ⟨rfl, ⟨n / m :: r, sd, hb2, upd_same, s0, s1, hlen⟩, bt⟩
      · obtain ⟨rfl, h1, h2⟩ := hM
        refine ⟨_, rfl, _, rfl, _, _, rfl, rfl, m0, ?_⟩
        exact q _ _ h1 h2 (Int.emod_nonneg _ (by omega)) (Int.emod_lt_of_pos _ m0)
/-- a draw below many -/
def spTake : Sp := fun vs H Q _ => ∃ (b l : Addr) (e : Int) (m : Nat), vs = [.ref b, .int e] ∧ e = (m : Int) ∧ Box H b l ∧ 0 < m ∧ m < 1000000 ∧ ∀ (H' : Hp) (r : Nat), Box H' b l → But [b, l] H H' → r < m → Q (nV r) H'
theorem ok_take {f : Addr} {fd : FuncData} (F : Fun K "_law_take" "_law_take" st_law_take f fd) : FnOk P w K mg base CX0 1 f fd ["_law_box", "_law_many"] spTake :=
  (ok_take0 F).imp fun vs H Q E h => by
    obtain ⟨b, l, e, m, rfl, rfl, hB, m0, m1, q⟩ := h
    refine ⟨b, l, m, rfl, hB, by omega, by omega, fun H' r hB' bt r0 r1 => ?_⟩
    obtain ⟨k, rfl⟩ := Int.eq_ofNat_of_zero_le r0
    exact q H' k hB' bt (by omega)
end
end Vt
namespace Vt
open PySem PySem.Spec PyProof.Rows L2
/-! ### data in the heap: ints, texts, None, bools, tuples and lists of them -/
inductive D where
  | non | bl (b : Bool) | int (i : Int) | str (x : Str) | tup (ds : List D) | lst (ds : List D)
mutual
inductive Pd (H : Hp) : V → D → Prop
  | non : Pd H .non .non
  | bl (b : Bool) : Pd H (.bl b) (.bl b)
  | int (i : Int) : Pd H (.int i) (.int i)
  | str (x : Str) : Pd H (.str x) (.str x)
  | tup {a : Addr} {xs : List V} {ds : List D} : H a = some (.tup xs) → Pds H xs ds → Pd H (.ref a) (.tup ds)
  | lst {a : Addr} {xs : List V} {ds : List D} : H a = some (.lst xs) → Pds H xs ds → Pd H (.ref a) (.lst ds)
inductive Pds (H : Hp) : List V → List D → Prop
  | nil : Pds H [] []
  | cons {v : V} {vs : List V} {d : D} {ds : List D} : Pd H v d → Pds H vs ds → Pds H (v :: vs) (d :: ds)
end
mutual
def D.noL : D → Bool
  | .lst _ => false
  | .tup ds => noLs ds
  | _ => true
def noLs : List D → Bool
  | [] => true
  | d :: ds => d.noL && noLs ds
end
mutual
def D.dep : D → Nat
  | .lst ds => deps ds + 1
  | .tup ds => deps ds + 1
  | _ => 0
def deps : List D → Nat
  | [] => 0
  | d :: ds => max d.dep (deps ds)
end
section
variable {H H' : Hp}
mutual
theorem Pd.same (s : Same H H') : ∀ {d : D} {v : V}, Pd H v d → Pd H' v d
  | .non, _, .non => .non
  | .bl _, _, .bl b => .bl b
  | .int _, _, .int b => .int b
  | .str _, _, .str b => .str b
  | .tup _, _, .tup h hs => .tup (s _ _ h) (Pds.same s hs)
  | .lst _, _, .lst h hs => .lst (s _ _ h) (Pds.same s hs)
theorem Pds.same (s : Same H H') : ∀ {ds : List D} {vs : List V}, Pds H vs ds → Pds H' vs ds
  | [], _, .nil => .nil
  | _ :: _, _, .cons h hs => .cons (Pd.same s h) (Pds.same s hs)
end
mutual
theorem Pd.but {B : List Addr} (s : But B H H') (l : Lsts H B) : ∀ {d : D} {v : V}, d.noL = true → Pd H v d → Pd H' v d
  | .non, _, _, .non => .non
  | .bl _, _, _, .bl b => .bl b
  | .int _, _, _, .int b => .int b
  | .str _, _, _, .str b => .str b
  | .tup ds, _, n, .tup h hs => .tup (s _ _ (fun m => by obtain ⟨ys, q⟩ := l _ m; rw [q] at h; cases h) h) (Pds.but s l (by rw [D.noL] at n; exact n) hs)
  | .lst ds, _, n, .lst h hs => by rw [D.noL] at n; cases n
theorem Pds.but {B : List Addr} (s : But B H H') (l : Lsts H B) : ∀ {ds : List D} {vs : List V}, noLs ds = true → Pds H vs ds → Pds H' vs ds
  | [], _, _, .nil => .nil
  | d :: ds, _, n, .cons h hs => by
    rw [noLs, Bool.and_eq_true] at n
    exact .cons (Pd.but s l n.1 h) (Pds.but s l n.2 hs)
end
theorem Pds.len : ∀ {ds : List D} {vs : List V}, Pds H vs ds → vs.length = ds.length
  | _, _, .nil => rfl
  | _, _, .cons _ hs => by rw [List.length_cons, List.length_cons, Pds.len hs]
theorem Pds.get : ∀ {ds : List D} {vs : List V} {i : Nat} {d : D}, Pds H vs ds → ds[i]? = some d → ∃ v, vs[i]? = some v ∧ Pd H v d
  | _, _, _, _, .nil, e => by simp at e
  | _, _, 0, _, .cons h _, e => by
    simp only [List.getElem?_cons_zero, Option.some.injEq] at e
    subst e; exact ⟨_, rfl, h⟩
  | _, _, i + 1, _, .cons _ hs, e => by
    obtain ⟨v, h1, h2⟩ := Pds.get (i := i) hs (by simpa using e)
    exact ⟨v, by simpa using h1, h2⟩
theorem Pds.get' : ∀ {ds : List D} {vs : List V} {i : Nat} {v : V}, Pds H vs ds → vs[i]? = some v → ∃ d, ds[i]? = some d ∧ Pd H v d
  | _, _, _, _, .nil, e => by simp at e
  | _, _, 0, _, .cons h _, e => by
    simp only [List.getElem?_cons_zero, Option.some.injEq] at e
    subst e; exact ⟨_, rfl, h⟩
  | _, _, i + 1, _, .cons _ hs, e => by
    obtain ⟨v, h1, h2⟩ := Pds.get' (i := i) hs (by simpa using e)
    exact ⟨v, by simpa using h1, h2⟩
theorem Pds.app : ∀ {ds es : List D} {vs us : List V}, Pds H vs ds → Pds H us es → Pds H (vs ++ us) (ds ++ es)
  | _, _, _, _, .nil, k => k
  | _, _, _, _, .cons h hs, k => .cons h (Pds.app hs k)
theorem Pds.ints : ∀ {ns : List Int} {vs : List V}, Pds H vs (ns.map D.int) → vs = ns.map V.int
  | [], _, .nil => rfl
  | n :: r, _, .cons (.int _) hs => by rw [List.map_cons, Pds.ints hs]
theorem Pds.ofInts : ∀ ns : List Int, Pds H (ns.map V.int) (ns.map D.int)
  | [] => .nil
  | n :: r => .cons (.int n) (Pds.ofInts r)
end
theorem deps_get : ∀ {ds : List D} {i : Nat} {d : D}, ds[i]? = some d → d.dep ≤ deps ds
  | [], _, _, e => by simp at e
  | x :: r, 0, d, e => by
    simp only [List.getElem?_cons_zero, Option.some.injEq] at e
    subst e; rw [deps]; omega
  | x :: r, i + 1, d, e => by
    have := deps_get (ds := r) (i := i) (d := d) (by simpa using e)
    rw [deps]; omega
/-! ### boards -/
structure Ord where
  src : Nat
  goal : Nat
  many : Nat
  later : Option Nat
inductive Deed where
  | set (c n : Nat) | add (c o : Nat) | say (c : Nat) | start (o : Nat) | wait | clean (l : Nat) | drop (l : Nat)
  deriving DecidableEq
structure Brd where
  mem : List Nat
  ords : List Ord
  prog : List Deed
def nD (n : Nat) : D := .int (n : Int)
def oV : Option Nat → V
  | none => .non
  | some k => nV k
def oD : Option Nat → D
  | none => .non
  | some k => nD k
def Ord.vs (o : Ord) : List V := [nV o.src, nV o.goal, nV o.many, oV o.later]
def Ord.d (o : Ord) : D := .tup [nD o.src, nD o.goal, nD o.many, oD o.later]
def Deed.word : Deed → Str
  | .set _ _ => "set" | .add _ _ => "add" | .say _ => "say" | .start _ => "start" | .wait => "wait" | .clean _ => "clean" | .drop _ => "drop"
def Deed.args : Deed → List Nat
  | .set c n => [c, n] | .add c o => [c, o] | .say c => [c] | .start o => [o] | .wait => [] | .clean l => [l] | .drop l => [l]
def Deed.vs (d : Deed) : List V := .str d.word :: d.args.map nV
def Deed.d (d : Deed) : D := .tup (.str d.word :: d.args.map nD)
def nsD (ns : List Nat) : D := .tup (ns.map nD)
def Brd.d (B : Brd) : D := .tup [nsD B.mem, .tup (B.ords.map Ord.d), .tup (B.prog.map Deed.d)]
theorem pd_o {H : Hp} : ∀ o : Option Nat, Pd H (oV o) (oD o)
  | none => .non
  | some k => .int k
theorem pds_ns {H : Hp} : ∀ ns : List Nat, Pds H (ns.map nV) (ns.map nD)
  | [] => .nil
  | n :: r => .cons (.int n) (pds_ns r)
theorem pds_ns' {H : Hp} : ∀ {ns : List Nat} {vs : List V}, Pds H vs (ns.map nD) → vs = ns.map nV
  | [], _, .nil => rfl
  | n :: r, _, .cons h hs => by
    cases h
    rw [List.map_cons, pds_ns' hs]; rfl
theorem Ord.pd {H : Hp} {o : Ord} {a : Addr} (h : H a = some (.tup o.vs)) : Pd H (.ref a) o.d := .tup h (.cons (.int _) (.cons (.int _) (.cons (.int _) (.cons (pd_o _) .nil))))
theorem Ord.of {H : Hp} {o : Ord} {v : V} (h : Pd H v o.d) : ∃ a, v = .ref a ∧ H a = some (.tup o.vs) := by
  obtain ⟨s, g, m, l⟩ := o
  cases h with
  | tup h hs =>
    cases hs with
    | cons h1 hs => cases h1; cases hs with
      | cons h2 hs => cases h2; cases hs with
        | cons h3 hs => cases h3; cases hs with
          | cons h4 hs =>
            cases hs
            refine ⟨_, rfl, ?_⟩
            cases l with
            | none => cases h4; exact h
            | some k => cases h4; exact h
theorem Deed.pd {H : Hp} {d : Deed} {a : Addr} (h : H a = some (.tup d.vs)) : Pd H (.ref a) d.d := .tup h (.cons (.str _) (pds_ns _))
theorem Deed.of {H : Hp} {d : Deed} {v : V} (h : Pd H v d.d) : ∃ a, v = .ref a ∧ H a = some (.tup d.vs) := by
  cases h with
  | tup h hs =>
    cases hs with
    | cons h1 hs =>
      cases h1
      rw [pds_ns' hs] at h
      exact ⟨_, rfl, h⟩
theorem Brd.of {H : Hp} {B : Brd} {v : V} (h : Pd H v B.d) : ∃ a m o p os ps, v = .ref a ∧ H a = some (.tup [.ref m, .ref o, .ref p]) ∧ H m = some (.tup (B.mem.map nV)) ∧ H o = some (.tup os) ∧ Pds H os (B.ords.map Ord.d) ∧ H p = some (.tup ps) ∧ Pds H ps (B.prog.map Deed.d) := by
  obtain ⟨mem, ords, prog⟩ := B
  cases h with
  | tup h hs =>
    cases hs with
    | cons h1 hs => cases h1 with
      | tup e1 k1 => cases hs with
        | cons h2 hs => cases h2 with
          | tup e2 k2 => cases hs with
            | cons h3 hs => cases h3 with
              | tup e3 k3 =>
                cases hs
                rw [pds_ns' k1] at e1
                exact ⟨_, _, _, _, _, _, rfl, h, e1, e2, k2, e3, k3⟩
theorem noL_ns : ∀ ns : List Nat, noLs (ns.map nD) = true
  | [] => by rw [List.map_nil, noLs]
  | n :: r => by rw [List.map_cons, noLs, noL_ns r]; rfl
theorem noL_ord (o : Ord) : o.d.noL = true := by
  obtain ⟨s, g, m, l⟩ := o
  cases l <;> simp [Ord.d, D.noL, noLs, nD, oD]
theorem noL_deed (d : Deed) : d.d.noL = true := by
  simp only [Deed.d, D.noL, noLs, Bool.true_and]
  exact noL_ns _
theorem noLs_map {α : Type} {f : α → D} (h : ∀ x, (f x).noL = true) : ∀ xs : List α, noLs (xs.map f) = true
  | [] => by rw [List.map_nil, noLs]
  | x :: r => by rw [List.map_cons, noLs, h x, noLs_map h r]; rfl
theorem noL_brd (B : Brd) : B.d.noL = true := by
  simp only [Brd.d, nsD, D.noL, noLs, Bool.and_true, Bool.and_eq_true]
  exact ⟨noL_ns _, noLs_map noL_ord _, noLs_map noL_deed _⟩
/-- what can be -/
structure OrdOk (o : Ord) (at_ count cells : Nat) : Prop where
  one : 1 ≤ o.many
  eight : o.many ≤ 8
  src : o.src + o.many ≤ cells
  goal : o.goal + o.many ≤ cells
  later : ∀ k, o.later = some k → at_ < k ∧ k < count
def DeedOk (d : Deed) (count cells : Nat) : Prop := match d with
  | .set c n => c < cells ∧ n < 10
  | .add c o => c < cells ∧ o < cells
  | .say c => c < cells
  | .start o => o < count
  | .wait => True
  | .clean l => l < cells / 4
  | .drop l => l < cells / 4
def isStart : Deed → Bool
  | .start _ => true
  | _ => false
structure BrdOk (B : Brd) : Prop where
  cells : B.mem.length = 4 ∨ B.mem.length = 8 ∨ B.mem.length = 12 ∨ B.mem.length = 16
  nums : ∀ n ∈ B.mem, n < 10
  four : B.ords.length ≤ 4
  ords : ∀ (i : Nat) (o : Ord), B.ords[i]? = some o → OrdOk o i B.ords.length B.mem.length
  sixty : B.prog.length ≤ 60
  prog : ∀ d ∈ B.prog, DeedOk d B.ords.length B.mem.length
  starts : (B.prog.filter isStart).length ≤ 3
end Vt
namespace Vt
open PySem PySem.Spec PyProof.Rows L2
/-- a list grows by a new tuple -/
theorem grow {H3 : Hp} {p T : Addr} {xs : List V} {ds : List D} {d : D} {vs : List V} (hx : H3 p = some (.lst xs)) (hp : Pds H3 xs ds) (n : noLs ds = true) (nT : H3 T = none) (hd : ∀ (H : Hp) (a : Addr), H a = some (.tup vs) → Pd H (.ref a) d) :
    (upd H3 T (.tup vs)) p = some (.lst xs) ∧ Pds (upd (upd H3 T (.tup vs)) p (.lst (xs ++ [.ref T]))) (xs ++ [.ref T]) (ds ++ [d]) ∧ But [p] H3 (upd (upd H3 T (.tup vs)) p (.lst (xs ++ [.ref T]))) := by
  have s3 : Same H3 (upd H3 T (.tup vs)) := same_new nT
  have hx4 := s3 _ _ hx
  have pT : T ≠ p := (ne_of_none hx nT).symm
  have ls : Lsts (upd H3 T (.tup vs)) [p] := fun c hc => ⟨xs, by rw [List.mem_singleton.mp hc]; exact hx4⟩
  have sB : But [p] (upd H3 T (.tup vs)) (upd (upd H3 T (.tup vs)) p (.lst (xs ++ [.ref T]))) := But.set (by simp)
  exact ⟨hx4, (Pds.but sB ls n (hp.same s3)).app (.cons (hd _ _ (by rw [upd_ne pT, upd_same])) .nil), (Same.but s3).trans sB⟩
theorem But.pds1 {H H' : Hp} {p : Addr} {xs ys : List V} {ds : List D} (b : But [p] H H') (hx : H p = some (.lst ys)) (n : noLs ds = true) (h : Pds H xs ds) : Pds H' xs ds :=
  Pds.but b (fun c hc => ⟨ys, by rw [List.mem_singleton.mp hc]; exact hx⟩) n h
theorem But.at1 {H H' : Hp} {p q : Addr} {o : HO} (b : But [p] H H') (h : H q = some o) (ne : q ≠ p) : H' q = some o := b q o (by simp [ne]) h
theorem But.new1 {H0 H H' : Hp} {p : Addr} (s : Same H0 H) (np : H0 p = none) (b : But [p] H H') : Same H0 H' := fun c o h => b c o (by simp [ne_of_none h np]) (s c o h)
theorem set_map {mem : List Nat} {c n : Nat} {v : V} (e : v = nV n) : (mem.map nV).set c v = (mem.set c n).map nV := by rw [e, List.map_set]
theorem nat_at {mem : List Nat} {c : Nat} (h : c < mem.length) : (mem.map nV)[c]? = some (nV (mem.getD c 0)) := by
  rw [List.getElem?_map, List.getElem?_eq_getElem h, List.getD_eq_getElem?_getD, List.getElem?_eq_getElem h]; rfl
end Vt
namespace Vt
open PySem PySem.Spec PyProof.Rows L2
/-! ### readings in short -/
section
variable {K : PySem.W.Frag} {σ : L2.St} {H : Hp} {a : Addr}
/-- t[0] == "x", t a deed -/
theorem rd_word {i : Nat} {d : Deed} {x : Str} {R : Bool → Hp → Prop} (hσ : σ[i]? = some (some (.ref a))) (h : H a = some (.tup d.vs)) (hr : R (decide (d.word = x)) H) : tTest (tOp rEq (tOp (rIxLT K) (tVar i) (tC (.int 0))) (tC (.str x))) σ H R := by
  refine ⟨_, hσ, a, _, 0, .str d.word, rfl, rfl, sqA_t h, at0, rfl, _, rfl, ?_⟩
  rw [show decide (V.str d.word = V.str x) = decide (d.word = x) by
    by_cases e : d.word = x
    · rw [e, decide_eq_true rfl, decide_eq_true rfl]
    · rw [decide_eq_false e, decide_eq_false (fun z => e (by injection z))]]
  exact hr
/-- t[0] in ("x", "y") -/
theorem rd_in {i : Nat} {d : Deed} {x y : Str} {R : Bool → Hp → Prop} (hσ : σ[i]? = some (some (.ref a))) (h : H a = some (.tup d.vs)) (hr : ∀ T, H T = none → R (decide (d.word = x) || decide (d.word = y)) (upd H T (.tup [.str x, .str y]))) :
    tTest (tOp (rIn K false) (tOp (rIxLT K) (tVar i) (tC (.int 0))) (tTup (tCons (tC (.str x)) (tCons (tC (.str y)) tNil)))) σ H R := by
  refine ⟨_, hσ, a, _, 0, .str d.word, rfl, rfl, sqA_t h, at0, by show 2 ≤ sizeLine; decide, fun T nT => ⟨T, _, rfl, .inr (sqT_t upd_same), rfl, rfl, _, rfl, ?_⟩⟩
  have e : (if false = true then !inV (.str d.word) [.str x, .str y] else inV (.str d.word) [.str x, .str y]) = (decide (d.word = x) || decide (d.word = y)) := by
    rw [if_neg (by decide)]
    show (eqV (.str x) (.str d.word) || (eqV (.str y) (.str d.word) || false)) = _
    rw [Bool.or_false, show ∀ z : Str, eqV (.str z) (.str d.word) = decide (d.word = z) from fun z => by
      show decide (z = d.word) = decide (d.word = z)
      exact decide_eq_decide.mpr eq_comm]
    rw [show eqV (.str y) (.str d.word) = decide (d.word = y) from by
      show decide (y = d.word) = decide (d.word = y)
      exact decide_eq_decide.mpr eq_comm]
  rw [e]
  exact hr T nT
end
theorem But.tup {B : List Addr} {H H' : Hp} {t : Addr} {xs : List V} (b : But B H H') (l : Lsts H B) (h : H t = some (.tup xs)) : H' t = some (.tup xs) :=
  b _ _ (fun m => by obtain ⟨ys, q⟩ := l _ m; rw [q] at h; cases h) h
end Vt
namespace Vt
open PySem PySem.Spec PyProof.Rows L2
section
variable {P : Program} {w : World} {K : PySem.W.Frag} {mg : Str → Option Value} {base : Heap}
/-! ### the box begun -/
abbrev st_law_begun : Stmt := (topS 67)
abbrev nm_law_begun : List Str := ["_law_script", "_law_stirred", "_law_cell"]
theorem sc_law_begun : FnScope ["_law_script", "_law_stirred", "_law_cell"] ["_law_script"] (defScope st_law_begun) := ⟨rfl, rfl, rfl, by decide +kernel, rfl, by decide +kernel, by decide +kernel⟩
def spBegun (K : PySem.W.Frag) : Sp := fun vs H Q _ => ∃ (a : Addr) (ns : List Int), vs = [.ref a] ∧ SqL K H a (ns.map V.int) ∧ ns.length ≤ 63 ∧ ∀ (H' : Hp) (b l : Addr), Box H' b l → Same H H' → Q (.ref b) H'
theorem ok_begun {f : Addr} {fd : FuncData} (F : Fun K "_law_begun" "_law_begun" st_law_begun f fd) (z_len : mg "len" = none) (z_int : mg "int" = none) (z_list : mg "list" = none) : FnOk P w K mg base CX0 1 f fd ["_law_script"] (spBegun K) := by
  refine F.ok sc_law_begun (fun vs H Q E h => ?_) (fun cdv A outer s H vs Q E hr h => ?_)
  · obtain ⟨a, ns, rfl, _⟩ := h
    rfl
  · obtain ⟨a, ns, rfl, hS, hlen, q⟩ := h
    refine ⟨_, (pss_cons (ps_set (i := 1) sc_law_begun.nd rfl (Or.inl rfl) pe_int)
  (pss_cons (ps_for PassesOwn.never rfl (pi_lt (pv 0)) (pg_name (i := 2) sc_law_begun.nd rfl (Or.inl rfl))
  (pss_one (ps_set (i := 1) sc_law_begun.nd rfl (Or.inl rfl) (pe_op op_mod (pe_op op_add (pe_op op_add (pe_op op_mul (pv 1) pe_int) (pe_op op_mul (pv 2) pe_int)) pe_int) pe_int))))
  (pss_one (ps_ret (pe_lst (pa_cons (pe_callTy call_list_of (by rfl) z_list (by decide +kernel) (pa_cons (pv 0) pa_nil)) (pa_cons (pe_op op_mul (pv 1) (pe_callTy call_int1 (by rfl) z_int (by decide +kernel) (pa_cons (pe_cmpR op_gt (pe_callB call_len_seq (by rfl) z_len (by decide +kernel) (pa_cons (pv 0) pa_nil)) pe_int (nomark _)) pa_nil))) pa_nil))))))), ?_⟩
    refine ⟨_, rfl, a, rfl, .inl ⟨_, hS, ?_⟩⟩
    refine for_it (walk_list (xs := ns.map V.int)) (fun i σ H' => ∃ (sd : Int) (x : Option V), σ = [some (.ref a), some (.int sd), x] ∧ H' = H ∧ 0 ≤ sd ∧ sd < 2147483647)
      ⟨0, none, rfl, rfl, by decide, by decide⟩ (fun i σ H' _ hp => by obtain ⟨_, _, _, rfl, _⟩ := hp; exact hS) (fun i x σ H1 H2 hi hp hy => ?_) (fun σ H1 hp => ?_)
    · obtain ⟨sd, x0, rfl, rfl, s0, s1⟩ := hp
      obtain ⟨rfl, hx⟩ := hy
      obtain ⟨n, hn, rfl⟩ : ∃ n, ns[i]? = some n ∧ V.int n = x := by rw [List.getElem?_map] at hx; simpa using hx
      refine ⟨_, rfl, _, _, rfl, rfl, .inl ⟨by omega, by omega⟩, _, rfl, _, _, rfl, rfl, .inr ⟨by decide, by decide⟩, _, _, rfl, rfl, _, _, rfl, rfl, _, _, rfl, rfl, (by show (0 : Int) < 2147483647; decide), ?_⟩
      exact ⟨_, _, rfl, rfl, Int.emod_nonneg _ (by decide), Int.emod_lt_of_pos _ (by decide)⟩
    · obtain ⟨sd, x0, rfl, rfl, s0, s1⟩ := hp
      refine ⟨.ref a, rfl, a, _, rfl, .inl hS, fun l nl => ?_⟩
      have sm : Same H1 (upd H1 l (.lst (ns.map V.int))) := same_new nl
      refine ⟨_, rfl, .ref a, rfl, a, _, rfl, .inl (sm.seq hS), _, _, rfl, rfl, .inr ⟨_, rfl, ?_⟩⟩
      refine ⟨_, _, rfl, rfl, .inl ⟨by omega, by omega⟩, by show 2 ≤ sizeLine; decide, fun b nb => ?_⟩
      refine q _ b l ⟨ns, _, upd_same, ?_, ?_, ?_, hlen⟩ (sm.trans (same_new nb))
      · rw [upd_ne (ne_of_none upd_same nb), upd_same]
      · split <;> omega
      · split <;> omega
/-! ### an order -/
abbrev st_law_order : Stmt := (topS 71)
abbrev nm_law_order : List Str := ["_law_box", "_law_cells", "_law_number", "_law_many", "_law_count", "_law_later"]
theorem sc_law_order : FnScope ["_law_box", "_law_cells", "_law_number", "_law_many", "_law_count", "_law_later"] ["_law_box", "_law_cells", "_law_number", "_law_many"] (defScope st_law_order) := ⟨rfl, rfl, rfl, by decide +kernel, rfl, by decide +kernel, by decide +kernel⟩
def spOrder : Sp := fun vs H Q _ => ∃ (b l : Addr) (cells at_ cnt : Nat), vs = [.ref b, nV cells, nV at_, nV cnt] ∧ Box H b l ∧ 1 ≤ cells ∧ cells ≤ 16 ∧ at_ < cnt ∧ cnt ≤ 4 ∧
  ∀ (H' : Hp) (a : Addr) (o : Ord), Box H' b l → But [b, l] H H' → H' a = some (.tup o.vs) → OrdOk o at_ cnt cells → Q (.ref a) H'
theorem ok_order {f : Addr} {fd : FuncData} (F : Fun K "_law_order" "_law_order" st_law_order f fd) (c_law_take : Callee P w K mg base "_law_take" 1 2 spTake) (z_min : mg "min" = none) :
    FnOk P w K mg base CX0 2 f fd ["_law_box", "_law_cells", "_law_number", "_law_many"] spOrder := by
  refine F.ok sc_law_order (fun vs H Q E h => ?_) (fun cdv A outer s H vs Q E hr h => ?_)
  · obtain ⟨b, l, cells, at_, cnt, rfl, _⟩ := h
    rfl
  · obtain ⟨b, l, cells, at_, cnt, rfl, hB, c1, c16, hat, h4, q⟩ := h
    refine ⟨_, (pss_cons (ps_set (i := 4) sc_law_order.nd rfl (Or.inl rfl) (pe_op op_add pe_int (pe_cal c_law_take hr (by first | decide | exact Nat.le_refl _) (pa_cons (pv 0) (pa_cons (pe_callB (call_min2 rfl) (by rfl) z_min (by decide +kernel) (pa_cons pe_int (pa_cons (pv 1) pa_nil))) pa_nil)))))
  (pss_cons (ps_set (i := 5) sc_law_order.nd rfl (Or.inl rfl) pe_non)
  (pss_cut (ps_if (PW.pt (pw_and (pt_cmpR op_lt (pe_op op_add (pv 2) pe_int) (pv 3) (nomark _)) (pw_and1 (pt_cmpR op_eq (pe_cal c_law_take hr (by first | decide | exact Nat.le_refl _) (pa_cons (pv 0) (pa_cons pe_int pa_nil))) pe_int (nomark _))))) (pss_one (ps_set (i := 5) sc_law_order.nd rfl (Or.inl rfl) (pe_op op_add (pe_op op_add (pv 2) pe_int) (pe_cal c_law_take hr (by first | decide | exact Nat.le_refl _) (pa_cons (pv 0) (pa_cons (pe_op op_sub (pe_op op_sub (pv 3) (pv 2)) pe_int) pa_nil)))))) pss_nil)
  (pss_one (ps_ret (pe_tup (pa_cons (pe_cal c_law_take hr (by first | decide | exact Nat.le_refl _) (pa_cons (pv 0) (pa_cons (pe_op op_add (pe_op op_sub (pv 1) (pv 4)) pe_int) pa_nil))) (pa_cons (pe_cal c_law_take hr (by first | decide | exact Nat.le_refl _) (pa_cons (pv 0) (pa_cons (pe_op op_add (pe_op op_sub (pv 1) (pv 4)) pe_int) pa_nil))) (pa_cons (pv 4) (pa_cons (pv 5) pa_nil)))))))))), ?_⟩
    -- count = 1 + take(box, min(8, cells))
    refine ⟨_, rfl, _, rfl, 8, cells, rfl, b, l, _, min 8 cells, rfl, (by split <;> omega), hB, by omega, by omega, fun H1 r hB1 bt1 hr1 => ?_⟩
    refine ⟨_, _, rfl, rfl, ?_⟩
    -- later
    refine ⟨fun σ' H' => ∃ lt : Option Nat, σ' = [some (.ref b), some (nV cells), some (nV at_), some (nV cnt), some (.int (1 + (r : Int))), some (oV lt)] ∧ Box H' b l ∧ But [b, l] H H' ∧ ∀ k, lt = some k → at_ < k ∧ k < cnt, ?_, fun σ' H' hM => ?_⟩
    · refine ⟨_, rfl, _, _, rfl, rfl, _, rfl, _, _, rfl, rfl, _, rfl, ite2 (fun e => ?_) (fun e => iteF ⟨none, rfl, hB1, bt1, fun k z => nomatch z⟩)⟩
      have e' : at_ + 1 < cnt := by have := of_decide_eq_true e; omega
      refine ⟨_, rfl, b, l, _, 2, rfl, rfl, hB1, by decide, by decide, fun H2 r2 hB2 bt2 hr2 => ?_⟩
      refine ⟨rfl, _, rfl, ite2 (fun e2 => ?_) (fun e2 => ⟨none, rfl, hB2, bt1.trans bt2, fun k z => nomatch z⟩)⟩
      refine ⟨_, rfl, _, _, rfl, rfl, _, rfl, _, rfl, _, rfl, _, _, rfl, rfl, _, _, rfl, rfl, b, l, _, cnt - at_ - 1, rfl, by omega, hB2, by omega, by omega, fun H3 r3 hB3 bt3 hr3 => ?_⟩
      refine ⟨_, _, rfl, rfl, some (at_ + 1 + r3), ?_, hB3, (bt1.trans bt2).trans bt3, fun k z => by cases z; omega⟩
      show _ = [some (.ref b), some (nV cells), some (nV at_), some (nV cnt), some (.int (1 + (r : Int))), some (nV (at_ + 1 + r3))]
      rw [show nV (at_ + 1 + r3) = .int ((at_ : Int) + 1 + (r3 : Int)) by simp [nV]]
      rfl
    · obtain ⟨lt, rfl, hB2, bt2, hlt⟩ := hM
      -- return (take(..), take(..), count, later)
      refine ⟨_, rfl, _, rfl, _, rfl, _, _, rfl, rfl, _, _, rfl, rfl, b, l, _, cells - (1 + r) + 1, rfl, by omega, hB2, by omega, by omega, fun H3 r3 hB3 bt3 hr3 => ?_⟩
      refine ⟨_, rfl, _, rfl, _, rfl, _, _, rfl, rfl, _, _, rfl, rfl, b, l, _, cells - (1 + r) + 1, rfl, by omega, hB3, by omega, by omega, fun H4 r4 hB4 bt4 hr4 => ?_⟩
      refine ⟨_, rfl, _, rfl, by show 4 ≤ sizeLine; decide, fun p np => ?_⟩
      have sm := same_new (o := .tup [nV r3, nV r4, .int (1 + (r : Int)), oV lt]) np
      refine q _ p ⟨r3, r4, 1 + r, lt⟩ (hB4.same sm) (((bt2.trans bt3).trans bt4).trans (Same.but sm)) ?_ ⟨?_, ?_, ?_, ?_, hlt⟩
      · rw [upd_same]
        show _ = some (HO.tup [nV r3, nV r4, nV (1 + r), oV lt])
        rw [show nV (1 + r) = .int (1 + (r : Int)) by simp [nV]]
      all_goals (dsimp only; omega)
end
end Vt
namespace Vt
open PySem PySem.Spec PyProof.Rows L2
theorem But.newset {B : List Addr} {H H' : Hp} {p : Addr} {o : HO} (n : H p = none) (h : But B H H') : But B H (upd H' p o) := fun c u m e => by
  rw [upd_ne (ne_of_none e n)]; exact h c u m e
theorem But.box {H : Hp} {b l p : Addr} {o : HO} (h : Box H b l) (n1 : p ≠ b) (n2 : p ≠ l) : Box (upd H p o) b l := by
  obtain ⟨ns, s, h1, h2, h3⟩ := h
  exact ⟨ns, s, by rw [upd_ne n1.symm]; exact h1, by rw [upd_ne n2.symm]; exact h2, h3⟩
def allWords : List Str := ["set", "add", "say", "start", "wait", "clean", "drop"]
section
variable {P : Program} {w : World} {K : PySem.W.Frag} {mg : Str → Option Value} {base : Heap}
abbrev st_law_deed : Stmt := (topS 72)
abbrev nm_law_deed : List Str := ["_law_box", "_law_cells", "_law_orders", "_law_kinds_here", "_law_word", "_law_cell"]
theorem sc_law_deed : FnScope ["_law_box", "_law_cells", "_law_orders", "_law_kinds_here", "_law_word", "_law_cell"] ["_law_box", "_law_cells", "_law_orders", "_law_kinds_here"] (defScope st_law_deed) := ⟨rfl, rfl, rfl, by decide +kernel, rfl, by decide +kernel, by decide +kernel⟩
def spDeed : Sp := fun vs H Q _ => ∃ (b l kl : Addr) (cells cnt : Nat) (ws : List Str), vs = [.ref b, nV cells, nV cnt, .ref kl] ∧ Box H b l ∧ 4 ≤ cells ∧ cells ≤ 16 ∧ 1 ≤ cnt ∧ cnt ≤ 4 ∧
  H kl = some (.lst (ws.map V.str)) ∧ ws ≠ [] ∧ ws.length ≤ 100 ∧ (∀ x ∈ ws, x ∈ allWords) ∧
  ∀ (H' : Hp) (a : Addr) (d : Deed), Box H' b l → But [b, l] H H' → H' a = some (.tup d.vs) → DeedOk d cnt cells → d.word ∈ ws → Q (.ref a) H'
theorem ok_deed {f : Addr} {fd : FuncData} (F : Fun K "_law_deed" "_law_deed" st_law_deed f fd) (c_law_take : Callee P w K mg base "_law_take" 1 2 spTake) (z_len : mg "len" = none) (z_int : mg "int" = none) :
    FnOk P w K mg base CX0 2 f fd ["_law_box", "_law_cells", "_law_orders", "_law_kinds_here"] spDeed := by
  refine F.ok sc_law_deed (fun vs H Q E h => ?_) (fun cdv A outer s H vs Q E hr h => ?_)
  · obtain ⟨b, l, kl, cells, cnt, ws, rfl, _⟩ := h
    rfl
  · obtain ⟨b, l, kl, cells, cnt, ws, rfl, hB, c4, c16, n1, n4, hk, hne, hlen, hws, q⟩ := h
    have hpos : 0 < ws.length := List.length_pos_iff.mpr hne
    have kb : kl ≠ b := by
      obtain ⟨ns, sd, e1, _⟩ := hB
      refine ne_of hk e1 fun z => ?_
      cases ws with
      | nil => exact hne rfl
      | cons x r => cases z
    have kl' : kl ≠ l := by
      obtain ⟨ns, sd, _, e2, _⟩ := hB
      refine ne_of hk e2 fun z => ?_
      cases ws with
      | nil => exact hne rfl
      | cons x r => cases ns with
        | nil => cases z
        | cons y t => cases z
    refine ⟨_, (pss_cons (ps_set (i := 4) sc_law_deed.nd rfl (Or.inl rfl) (pe_ix ix_lt (pv 3) (pe_cal c_law_take hr (by first | decide | exact Nat.le_refl _) (pa_cons (pv 0) (pa_cons (pe_callB call_len_seq (by rfl) z_len (by decide +kernel) (pa_cons (pv 3) pa_nil)) pa_nil))) (fun _ _ => rfl)))
  (pss_cons (ps_if (pt_cmpR op_eq (pv 4) pe_str (nomark _)) (pss_one (ps_ret (pe_tup (pa_cons (pv 4) pa_nil)))) pss_nil)
  (pss_cons (ps_if (pt_cmpR op_in_seq (pv 4) (pe_tup (pa_cons pe_str (pa_cons pe_str pa_nil))) (by rfl)) (pss_one (ps_ret (pe_tup (pa_cons (pv 4) (pa_cons (pe_cal c_law_take hr (by first | decide | exact Nat.le_refl _) (pa_cons (pv 0) (pa_cons (pe_op op_fdiv (pv 1) pe_int) pa_nil))) pa_nil))))) pss_nil)
  (pss_cons (ps_if (pt_cmpR op_eq (pv 4) pe_str (nomark _)) (pss_one (ps_ret (pe_tup (pa_cons (pv 4) (pa_cons (pe_cal c_law_take hr (by first | decide | exact Nat.le_refl _) (pa_cons (pv 0) (pa_cons (pv 2) pa_nil))) pa_nil))))) pss_nil)
  (pss_cons (ps_set (i := 5) sc_law_deed.nd rfl (Or.inl rfl) (pe_cal c_law_take hr (by first | decide | exact Nat.le_refl _) (pa_cons (pv 0) (pa_cons (pv 1) pa_nil))))
  (pss_cons (ps_if (pt_cmpR op_eq (pv 4) pe_str (nomark _)) (pss_one (ps_ret (pe_tup (pa_cons (pv 4) (pa_cons (pv 5) pa_nil))))) pss_nil)
  (pss_one (ps_ret (pe_tup (pa_cons (pv 4) (pa_cons (pv 5) (pa_cons (pe_cal c_law_take hr (by first | decide | exact Nat.le_refl _) (pa_cons (pv 0) (pa_cons (pe_ix ix_lt (pe_lst (pa_cons pe_int (pa_cons (pv 1) pa_nil))) (pe_callTy call_int1 (by rfl) z_int (by decide +kernel) (pa_cons (pe_cmpR op_eq (pv 4) pe_str (nomark _)) pa_nil)) (fun _ _ => rfl)) pa_nil))) pa_nil)))))))))))), ?_⟩
    refine ⟨_, rfl, _, rfl, _, rfl, _, _, rfl, .inl (sqL_l hk), b, l, _, ws.length, rfl, by simp, hB, hpos, by omega, fun H1 r hB1 bt1 hr1 => ?_⟩
    have hk1 : H1 kl = some (.lst (ws.map V.str)) := bt1 _ _ (by simp [kb, kl']) hk
    have hx : (ws.map V.str)[r]? = some (.str ws[r]) := by rw [List.getElem?_map, List.getElem?_eq_getElem hr1]; rfl
    have hmem : ws[r] ∈ ws := List.getElem_mem hr1
    have hall := hws _ hmem
    generalize ws[r] = wd at hx hmem hall
    refine ⟨kl, _, (r : Int), .str wd, rfl, rfl, sqA_l hk1, atI_nat hx, ?_⟩
    -- if word == "wait"
    refine ⟨_, rfl, rfl, _, rfl, ite2 (fun e => ?_) (fun e1 => ?_)⟩
    · cases of_decide_eq_true e
      refine ⟨_, rfl, by show 1 ≤ sizeLine; decide, fun p np => ?_⟩
      exact q _ p .wait (hB1.same (same_new np)) (bt1.trans (Same.but (same_new np))) upd_same trivial hmem
    -- if word in ("clean", "drop")
    refine ⟨_, rfl, by show 2 ≤ sizeLine; decide, fun p np => ?_⟩
    have hB2 := hB1.same (same_new (o := .tup [.str "clean", .str "drop"]) np)
    have bt2 := bt1.trans (Same.but (same_new (o := .tup [.str "clean", .str "drop"]) np))
    refine ⟨p, _, rfl, .inr (sqT_t upd_same), rfl, rfl, _, rfl, ite2 (fun e => ?_) (fun e2 => ?_)⟩
    · refine ⟨_, rfl, _, rfl, _, rfl, _, _, rfl, rfl, ⟨by decide, by decide⟩, b, l, _, cells / 4, rfl, by simp, hB2, by omega, by omega, fun H3 r3 hB3 bt3 hr3 => ?_⟩
      refine ⟨by show 2 ≤ sizeLine; decide, fun p2 np2 => ?_⟩
      have e' : (Str.ofString "clean") = wd ∨ (Str.ofString "drop") = wd := by
        simp only [inV, eqV, List.any_cons, List.any_nil, Bool.or_false, Bool.or_eq_true] at e
        simpa using e
      rcases e' with rfl | rfl
      · exact q _ p2 (.clean r3) (hB3.same (same_new np2)) ((bt2.trans bt3).trans (Same.but (same_new np2))) upd_same hr3 hmem
      · exact q _ p2 (.drop r3) (hB3.same (same_new np2)) ((bt2.trans bt3).trans (Same.but (same_new np2))) upd_same hr3 hmem
    -- if word == "start"
    refine ⟨_, rfl, rfl, _, rfl, ite2 (fun e => ?_) (fun e3 => ?_)⟩
    · cases of_decide_eq_true e
      refine ⟨_, rfl, _, rfl, _, rfl, b, l, _, cnt, rfl, rfl, hB2, by omega, by omega, fun H3 r3 hB3 bt3 hr3 => ?_⟩
      refine ⟨by show 2 ≤ sizeLine; decide, fun p2 np2 => ?_⟩
      exact q _ p2 (.start r3) (hB3.same (same_new np2)) ((bt2.trans bt3).trans (Same.but (same_new np2))) upd_same hr3 hmem
    refine ⟨_, rfl, _, rfl, b, l, _, cells, rfl, rfl, hB2, by omega, by omega, fun H3 r3 hB3 bt3 hr3 => ?_⟩
    -- if word == "say"
    refine ⟨_, rfl, rfl, _, rfl, ite2 (fun e => ?_) (fun e4 => ?_)⟩
    · cases of_decide_eq_true e
      refine ⟨_, rfl, _, rfl, by show 2 ≤ sizeLine; decide, fun p2 np2 => ?_⟩
      exact q _ p2 (.say r3) (hB3.same (same_new np2)) ((bt2.trans bt3).trans (Same.but (same_new np2))) upd_same hr3 hmem
    have hsa : wd = "set" ∨ wd = "add" := by
      have f1 : ¬ wd = "wait" := fun z => e1 (by rw [z]; exact decide_eq_true rfl)
      have f3 : ¬ wd = "start" := fun z => e3 (by rw [z]; exact decide_eq_true rfl)
      have f4 : ¬ wd = "say" := fun z => e4 (by rw [z]; exact decide_eq_true rfl)
      have f2 : ¬ (wd = "clean" ∨ wd = "drop") := fun z => e2 (by rcases z with rfl | rfl <;> decide)
      simp only [allWords, List.mem_cons, List.not_mem_nil, or_false] at hall
      rcases hall with h | h | h | h | h | h | h
      · exact .inl h
      · exact .inr h
      · exact absurd h f4
      · exact absurd h f3
      · exact absurd h f1
      · exact absurd (.inl h) f2
      · exact absurd (.inr h) f2
    refine ⟨_, rfl, _, rfl, _, rfl, _, rfl, by show 2 ≤ sizeLine; decide, fun p2 np2 => ?_⟩
    have hB4 := hB3.same (same_new (o := .lst [.int 10, nV cells]) np2)
    have bt4 := (bt2.trans bt3).trans (Same.but (same_new (o := .lst [.int 10, nV cells]) np2))
    refine ⟨_, rfl, rfl, .inr ⟨_, rfl, ?_⟩⟩
    rcases hsa with rfl | rfl
    · refine ⟨p2, [.int 10, nV cells], 0, .int 10, rfl, (by decide), sqA_l upd_same, rfl, b, l, _, 10, rfl, rfl, hB4, by decide, by decide, fun H5 r5 hB5 bt5 hr5 => ?_⟩
      refine ⟨by show 3 ≤ sizeLine; decide, fun p3 np3 => ?_⟩
      exact q _ p3 (.set r3 r5) (hB5.same (same_new np3)) ((bt4.trans bt5).trans (Same.but (same_new np3))) upd_same ⟨hr3, hr5⟩ hmem
    · refine ⟨p2, [.int 10, nV cells], 1, nV cells, rfl, (by decide), sqA_l upd_same, rfl, b, l, _, cells, rfl, rfl, hB4, by omega, by omega, fun H5 r5 hB5 bt5 hr5 => ?_⟩
      refine ⟨by show 3 ≤ sizeLine; decide, fun p3 np3 => ?_⟩
      exact q _ p3 (.add r3 r5) (hB5.same (same_new np3)) ((bt4.trans bt5).trans (Same.but (same_new np3))) upd_same ⟨hr3, hr5⟩ hmem
end
end Vt
namespace Vt
open PySem PySem.Spec PyProof.Rows L2
theorem nV_add (a b : Nat) : (V.int ((a : Int) + (b : Int))) = nV (a + b) := by simp [nV]
theorem filter_app {α : Type} (p : α → Bool) (xs : List α) (x : α) : ((xs ++ [x]).filter p).length = (xs.filter p).length + (if p x then 1 else 0) := by
  rw [List.filter_append, List.length_append]
  congr 1
  cases h : p x <;> simp [h]
theorem word_start (d : Deed) : (d.word = "start") ↔ isStart d = true := by
  cases d <;> simp [Deed.word, isStart] <;> decide
section
variable {P : Program} {w : World} {K : PySem.W.Frag} {mg : Str → Option Value} {base : Heap}
abbrev st_law_board : Stmt := (topS 73)
abbrev nm_law_board : List Str := ["_law_box", "_law_lines", "_law_deeds", "_law_kinds_here", "_law_cells", "_law_memory", "_law_cell", "_law_many", "_law_orders", "_law_number", "_law_program", "_law_turn", "_law_deed_here", "_law_one"]
theorem sc_law_board : FnScope ["_law_box", "_law_lines", "_law_deeds", "_law_kinds_here", "_law_cells", "_law_memory", "_law_cell", "_law_many", "_law_orders", "_law_number", "_law_program", "_law_turn", "_law_deed_here", "_law_one"] ["_law_box", "_law_lines", "_law_deeds", "_law_kinds_here"] (defScope st_law_board) := ⟨rfl, rfl, rfl, by decide +kernel, rfl, by decide +kernel, by decide +kernel⟩
def spBoard : Sp := fun vs H Q _ => ∃ (b l kl : Addr) (lines deeds : Nat) (ws : List Str), vs = [.ref b, nV lines, nV deeds, .ref kl] ∧ Box H b l ∧ 1 ≤ lines ∧ lines ≤ 4 ∧ deeds ≤ 60 ∧
  H kl = some (.lst (ws.map V.str)) ∧ ws ≠ [] ∧ ws.length ≤ 100 ∧ (∀ x ∈ ws, x ∈ allWords) ∧
  ∀ (H' : Hp) (v : V) (B : Brd), Box H' b l → But [b, l] H H' → Pd H' v B.d → BrdOk B → B.mem.length ≤ 4 * lines → B.prog.length ≤ deeds → 1 ≤ B.ords.length → (∀ d ∈ B.prog, d.word ∈ ws ∨ d.word = "say") → Q v H'
theorem ok_board {f : Addr} {fd : FuncData} (F : Fun K "_law_board" "_law_board" st_law_board f fd) (c_law_take : Callee P w K mg base "_law_take" 1 2 spTake) (c_law_order : Callee P w K mg base "_law_order" 2 4 spOrder) (c_law_deed : Callee P w K mg base "_law_deed" 2 4 spDeed)
    (z_len : mg "len" = none) (z_tuple : mg "tuple" = none) (z_range : mg "range" = none) : FnOk P w K mg base CX0 3 f fd ["_law_box", "_law_lines", "_law_deeds", "_law_kinds_here"] spBoard := by
  refine F.ok sc_law_board (fun vs H Q E h => ?_) (fun cdv A outer s H vs Q E hr h => ?_)
  · obtain ⟨b, l, kl, lines, deeds, ws, rfl, _⟩ := h
    rfl
  · obtain ⟨b, l, kl, lines, deeds, ws, rfl, hB, l1, l4, d60, hk, hne, hlen, hws, q⟩ := h
    have kb : kl ≠ b := by
      obtain ⟨ns, sd, e1, _⟩ := hB
      refine ne_of hk e1 fun z => ?_
      cases ws with
      | nil => exact hne rfl
      | cons x r => cases z
    have kl' : kl ≠ l := by
      obtain ⟨ns, sd, _, e2, _⟩ := hB
      refine ne_of hk e2 fun z => ?_
      cases ws with
      | nil => exact hne rfl
      | cons x r => cases ns with
        | nil => cases z
        | cons y t => cases z
    have hknot : kl ∉ [b, l] := by simp [kb, kl']
    have nonb : ∀ p, H p = none → p ≠ b ∧ p ≠ l := fun p np => by
      obtain ⟨ns, sd, e1, e2, _⟩ := hB
      exact ⟨(ne_of_none e1 np).symm, (ne_of_none e2 np).symm⟩
    refine ⟨_, (pss_cons (ps_set (i := 4) sc_law_board.nd rfl (Or.inr rfl) (pe_op op_mul pe_int (pe_op op_add pe_int (pe_cal c_law_take hr (by first | decide | exact Nat.le_refl _) (pa_cons (pv 0) (pa_cons (pv 1) pa_nil))))))
  (pss_cons (ps_set (i := 5) sc_law_board.nd rfl (Or.inl rfl) (pe_callTy call_tuple_of (by rfl) z_tuple (by decide +kernel) (pa_cons (pe_lc (own := [("_law_cell", 6)]) rfl sc_law_board.nd (pi_range1 (by rfl) z_range (pa_cons (pv 4) pa_nil)) (blkOk_by (own := [("_law_cell", 6)]) (N := nm_law_board) (sc := defScope (topS 73)) (by decide +kernel)) (fun _ _ _ _ _ => (pg_name (i := 6) sc_law_board.nd rfl (Or.inl rfl))) (fun _ _ _ _ _ => pts_nil) (fun _ _ _ _ _ => (pe_cal c_law_take hr (by first | decide | exact Nat.le_refl _) (pa_cons (pv 0) (pa_cons pe_int pa_nil))))) pa_nil)))
  (pss_cons (ps_set (i := 7) sc_law_board.nd rfl (Or.inr rfl) (pe_op op_add pe_int (pe_cal c_law_take hr (by first | decide | exact Nat.le_refl _) (pa_cons (pv 0) (pa_cons pe_int pa_nil)))))
  (pss_cons (ps_set (i := 8) sc_law_board.nd rfl (Or.inl rfl) (pe_callTy call_tuple_of (by rfl) z_tuple (by decide +kernel) (pa_cons (pe_lc (own := [("_law_number", 9)]) rfl sc_law_board.nd (pi_range1 (by rfl) z_range (pa_cons (pv 7) pa_nil)) (blkOk_by (own := [("_law_number", 9)]) (N := nm_law_board) (sc := defScope (topS 73)) (by decide +kernel)) (fun _ _ _ _ _ => (pg_name (i := 9) sc_law_board.nd rfl (Or.inl rfl))) (fun _ _ _ _ _ => pts_nil) (fun _ _ _ _ _ => (pe_cal c_law_order hr (by first | decide | exact Nat.le_refl _) (pa_cons (pv 0) (pa_cons (pv 4) (pa_cons (pv 9) (pa_cons (pv 7) pa_nil))))))) pa_nil)))
  (pss_cons (ps_set (i := 10) sc_law_board.nd rfl (Or.inl rfl) (pe_lst pa_nil))
  (pss_cons (ps_for PassesOwn.never rfl (pi_range1 (by rfl) z_range (pa_cons (pe_cal c_law_take hr (by first | decide | exact Nat.le_refl _) (pa_cons (pv 0) (pa_cons (pe_op op_add (pv 2) pe_int) pa_nil))) pa_nil)) (pg_name (i := 11) sc_law_board.nd rfl (Or.inl rfl))
  (pss_cons (ps_set (i := 12) sc_law_board.nd rfl (Or.inl rfl) (pe_cal c_law_deed hr (by first | decide | exact Nat.le_refl _) (pa_cons (pv 0) (pa_cons (pv 4) (pa_cons (pv 7) (pa_cons (pv 3) pa_nil))))))
  (pss_cut (ps_if (PW.pt (pw_and (pt_cmpR op_eq (pe_ix ix_lt (pv 12) pe_int (fun _ _ => rfl)) pe_str (nomark _)) (pw_and1 (pt_cmpR op_eq (pe_callB call_len_seq (by rfl) z_len (by decide +kernel) (pa_cons (pe_lc (own := [("_law_one", 13)]) rfl sc_law_board.nd (pi_lt (pv 10)) (blkOk_by (own := [("_law_one", 13)]) (N := nm_law_board) (sc := defScope (topS 73)) (by decide +kernel)) (fun _ _ _ _ _ => (pg_name (i := 13) sc_law_board.nd rfl (Or.inl rfl))) (fun _ _ _ _ _ => (pts_one (pt_cmpR op_eq (pe_ix (ix_ltk K) (pv 13) pe_int (fun _ _ => rfl)) pe_str (nomark _)))) (fun _ _ _ _ _ => (pv 13))) pa_nil)) pe_int (nomark _))))) (pss_one (ps_set (i := 12) sc_law_board.nd rfl (Or.inl rfl) (pe_tup (pa_cons pe_str (pa_cons (pe_cal c_law_take hr (by first | decide | exact Nat.le_refl _) (pa_cons (pv 0) (pa_cons (pv 4) pa_nil))) pa_nil))))) pss_nil)
  (pss_one (ps_expr (pe_bm PySem.F.plainAttrs_list PySem.F.slot_list_append PySem.F.type_list_append mt_append (pv 10) (pa_cons (pv 12) pa_nil)))))))
  (pss_one (ps_ret (pe_tup (pa_cons (pv 5) (pa_cons (pv 8) (pa_cons (pe_callTy call_tuple_of (by rfl) z_tuple (by decide +kernel) (pa_cons (pv 10) pa_nil)) pa_nil)))))))))))), ?_⟩
    -- cells = 4 * (1 + take(box, lines))
    refine ⟨_, rfl, _, rfl, b, l, _, lines, rfl, rfl, hB, by omega, by omega, fun H1 r1 hB1 bt1 hr1 => ?_⟩
    refine ⟨_, _, rfl, rfl, _, _, rfl, rfl, .inl ⟨by decide, by decide⟩, ?_⟩
    have ec : (4 : Int) * (1 + (r1 : Int)) = ((4 * (1 + r1) : Nat) : Int) := by omega
    refine chgN (y := nV (4 * (1 + r1))) (congrArg V.int ec) ?_
    generalize hc : 4 * (1 + r1) = cells
    have c16 : cells ≤ 16 := by omega
    have cN : cells = 4 ∨ cells = 8 ∨ cells = 12 ∨ cells = 16 := by omega
    -- memory
    refine ⟨_, rfl, _, rfl, by omega, by omega, fun D1 nD1 => ?_⟩
    refine lc_it (walk_range (lo := 0) (n := (cells : Int).toNat)) (fun i H' => ∃ ns : List Nat, ns.length = i ∧ (∀ n ∈ ns, n < 10) ∧ H' D1 = some (.lst (ns.map nV)) ∧ Box H' b l ∧ But [b, l] H1 H')
      ⟨[], rfl, by simp, upd_same, hB1.same (same_new nD1), Same.but (same_new nD1)⟩ (fun _ _ _ _ => trivial) (fun i x H2 H3 hi hp hy => ?_) (fun H2 hp => ?_)
    · obtain ⟨ns, e1, e2, e3, hB2, bt2⟩ := hp
      obtain ⟨rfl, rfl⟩ := hy
      refine ⟨rfl, ?_⟩
      refine ⟨_, rfl, b, l, _, 10, rfl, rfl, hB2, by decide, by decide, fun H4 r hB4 bt4 hr => ?_⟩
      have nD : D1 ≠ b ∧ D1 ≠ l := by
        obtain ⟨ns', sd, f1, f2, _⟩ := hB1
        exact ⟨(ne_of_none f1 nD1).symm, (ne_of_none f2 nD1).symm⟩
      have e3' := bt4 _ _ (by simp [nD.1, nD.2]) e3
      refine ⟨_, e3', by rw [List.length_map]; exact fits (by omega), ns ++ [r], by simp [e1], fun n hn => ?_, by rw [upd_same, List.map_append]; rfl, But.box hB4 nD.1 nD.2, But.newset nD1 (bt2.trans bt4)⟩
      rcases List.mem_append.mp hn with h | h
      · exact e2 n h
      · rw [List.mem_singleton.mp h]; exact hr
    obtain ⟨mem, m1, m2, m3, hB2, bt2⟩ := hp
    refine ⟨D1, _, rfl, .inl ⟨sqL_l m3, fun M nM => ?_⟩⟩
    have hM : (upd H2 M (.tup (mem.map nV))) M = some (.tup (mem.map nV)) := upd_same
    have hB3 := hB2.same (same_new (o := .tup (mem.map nV)) nM)
    have bt3 := (bt1.trans bt2).trans (Same.but (same_new (o := .tup (mem.map nV)) nM))
    have mlen : mem.length = cells := by omega
    generalize upd H2 M (.tup (mem.map nV)) = H3 at hM hB3 bt3
    -- many = 1 + take(box, 4)
    refine ⟨_, rfl, b, l, _, 4, rfl, rfl, hB3, by decide, by decide, fun H4 r4 hB4 bt4 hr4 => ?_⟩
    refine ⟨_, _, rfl, rfl, ?_⟩
    refine chgN (y := nV (1 + r4)) (congrArg V.int (by omega)) ?_
    generalize hcnt : 1 + r4 = cnt
    have nMb : M ∉ [b, l] := fun m => by
      obtain ⟨ys, e⟩ := hB3.lsts _ m
      rw [hM] at e; cases e
    have hM4 := bt4 _ _ nMb hM
    -- orders
    refine ⟨_, rfl, _, rfl, by omega, by omega, fun D2 nD2 => ?_⟩
    have nD2' : D2 ≠ b ∧ D2 ≠ l := by
      obtain ⟨ns', sd, f1, f2, _⟩ := hB4
      exact ⟨(ne_of_none f1 nD2).symm, (ne_of_none f2 nD2).symm⟩
    refine lc_it (walk_range (lo := 0) (n := (cnt : Int).toNat)) (fun i H' => ∃ (os : List Ord) (vs : List V), os.length = i ∧ (∀ (j : Nat) (o : Ord), os[j]? = some o → OrdOk o j cnt cells) ∧ Pds H' vs (os.map Ord.d) ∧ H' D2 = some (.lst vs) ∧ Box H' b l ∧ But [b, l] H4 H')
      ⟨[], [], rfl, by simp, .nil, upd_same, hB4.same (same_new nD2), Same.but (same_new nD2)⟩ (fun _ _ _ _ => trivial) (fun i x H5 H6 hi hp hy => ?_) (fun H5 hp => ?_)
    · obtain ⟨os, vs, e1, e2, e3, e4, hB5, bt5⟩ := hp
      obtain ⟨rfl, rfl⟩ := hy
      refine ⟨rfl, ?_⟩
      refine ⟨_, rfl, _, rfl, _, rfl, _, rfl, b, l, cells, i, cnt, by simp [nV], hB5, by omega, c16, by omega, by omega, fun H7 a o hB7 bt7 ha ho => ?_⟩
      have e4' := bt7 _ _ (by simp [nD2'.1, nD2'.2]) e4
      have hs5 : Pds H7 vs (os.map Ord.d) := Pds.but bt7 hB5.lsts (noLs_map noL_ord _) e3
      have aD : a ≠ D2 := fun z => by rw [z, e4'] at ha; cases ha
      have lsD : Lsts H7 [D2] := fun c hc => ⟨vs, by rw [List.mem_singleton.mp hc]; exact e4'⟩
      have stepB : But [D2] H7 (upd H7 D2 (.lst (vs ++ [.ref a]))) := But.set (by simp)
      have vlen := e3.len
      refine ⟨_, e4', by rw [vlen, List.length_map]; exact fits (by omega), os ++ [o], vs ++ [.ref a], by simp [e1], fun j o' hj => ?_, ?_, upd_same, But.box hB7 nD2'.1 nD2'.2, But.newset nD2 (bt5.trans bt7)⟩
      · rcases Nat.lt_or_ge j os.length with h | h
        · rw [List.getElem?_append_left h] at hj
          exact e2 j o' hj
        · rw [List.getElem?_append_right h] at hj
          have : j - os.length = 0 := by
            have := (List.getElem?_eq_some_iff.mp hj).1
            simp at this; omega
          rw [this] at hj
          cases hj
          have ej : j = i := by omega
          rw [ej]; exact ho
      · rw [List.map_append]
        exact (Pds.but stepB lsD (noLs_map noL_ord _) hs5).app (.cons (Ord.pd (by rw [upd_ne aD]; exact ha)) .nil)
    obtain ⟨os, ovs, o1, o2, o3, o4, hB5, bt5⟩ := hp
    refine ⟨D2, _, rfl, .inl ⟨sqL_l o4, fun O nO => ?_⟩⟩
    have hM5 := bt5 _ _ nMb hM4
    have sO : Same H5 (upd H5 O (.tup ovs)) := same_new nO
    have hO : (upd H5 O (.tup ovs)) O = some (.tup ovs) := upd_same
    have hOs := Pds.same sO o3
    have hM6 := sO _ _ hM5
    have hB6 := hB5.same sO
    have bt6 := ((bt3.trans bt4).trans bt5).trans (Same.but sO)
    have olen : os.length = cnt := by omega
    generalize upd H5 O (.tup ovs) = H6 at hO hOs hM6 hB6 bt6 sO
    have nOb : O ∉ [b, l] := fun m => by
      obtain ⟨ys, e⟩ := hB6.lsts _ m
      rw [hO] at e; cases e
    -- program = []
    refine ⟨Nat.zero_le _, fun pl npl => ?_⟩
    have hB7 := hB6.same (same_new (o := .lst []) npl)
    have npl' : pl ≠ b ∧ pl ≠ l := by
      obtain ⟨ns', sd, f1, f2, _⟩ := hB6
      exact ⟨(ne_of_none f1 npl).symm, (ne_of_none f2 npl).symm⟩
    -- for turn in range(take(box, deeds + 1))
    refine ⟨_, rfl, _, rfl, _, _, rfl, rfl, b, l, _, deeds + 1, rfl, by omega, hB7, by omega, by omega, fun H8 r8 hB8 bt8 hr8 => ?_⟩
    refine ⟨_, rfl, by omega, by omega, ?_⟩
    have hpl8 : H8 pl = some (.lst []) := bt8 _ _ (by simp [npl'.1, npl'.2]) upd_same
    have btx : But [b, l] H6 H8 := (Same.but (same_new npl)).trans bt8
    refine for_it (walk_range (lo := 0) (n := (r8 : Int).toNat)) (fun i σ H' => ∃ (ds : List Deed) (vs : List V) (y1 y2 : Option V), σ = [some (.ref b), some (nV lines), some (nV deeds), some (.ref kl), some (nV cells), some (.ref M), none, some (nV cnt), some (.ref O), none, some (.ref pl), y1, y2, none] ∧
        ds.length = i ∧ (∀ d ∈ ds, DeedOk d cnt cells ∧ (d.word ∈ ws ∨ d.word = "say")) ∧ (ds.filter isStart).length ≤ 3 ∧ Pds H' vs (ds.map Deed.d) ∧ H' pl = some (.lst vs) ∧ Box H' b l ∧ But [b, l] H6 H')
      ⟨[], [], _, _, rfl, rfl, by simp, by simp, .nil, hpl8, hB8, btx⟩ (fun _ _ _ _ _ => trivial) (fun i x σ H9 H10 hi hp hy => ?_) (fun σ H9 hp => ?_)
    · obtain ⟨ds, vs, y1, y2, rfl, e1, e2, e3, e4, e5, hB9, bt9⟩ := hp
      obtain ⟨rfl, rfl⟩ := hy
      have hk9 := (bt6.trans bt9) _ _ hknot hk
      refine ⟨_, rfl, _, rfl, _, rfl, _, rfl, b, l, kl, cells, cnt, ws, rfl, hB9, by omega, c16, by omega, by omega, hk9, hne, hlen, hws, fun H11 a d hB11 bt11 ha hd hw => ?_⟩
      have e5' := bt11 _ _ (by simp [npl'.1, npl'.2]) e5
      have e4' : Pds H11 vs (ds.map Deed.d) := Pds.but bt11 hB9.lsts (noLs_map noL_deed _) e4
      -- if deed[0] == "start" and len([..]) == 3
      refine ⟨fun σ' H' => ∃ (a' : Addr) (d' : Deed), σ' = [some (.ref b), some (nV lines), some (nV deeds), some (.ref kl), some (nV cells), some (.ref M), none, some (nV cnt), some (.ref O), none, some (.ref pl), some (.int (0 + (i : Int))), some (.ref a'), none] ∧
          H' a' = some (.tup d'.vs) ∧ DeedOk d' cnt cells ∧ (d'.word ∈ ws ∨ d'.word = "say") ∧ ((ds ++ [d']).filter isStart).length ≤ 3 ∧ Pds H' vs (ds.map Deed.d) ∧ H' pl = some (.lst vs) ∧ Box H' b l ∧ But [b, l] H6 H', ?_, fun σ' H' hM => ?_⟩
      · refine ⟨_, rfl, a, _, 0, .str d.word, rfl, rfl, sqA_t ha, at0, rfl, _, rfl, ite2 (fun e => ?_) (fun e => iteF ?_)⟩
        · have ew : d.word = "start" := by injection of_decide_eq_true e
          have es : isStart d = true := (word_start d).mp ew
          -- the comprehension
          refine ⟨_, rfl, pl, rfl, .inl ⟨_, sqL_l e5', fun D3 nD3 => ?_⟩⟩
          have plD : pl ≠ D3 := ne_of_none e5' nD3
          refine lc_it (walk_list (xs := vs)) (fun j H' => ∃ acc : List V, acc.length = ((ds.take j).filter isStart).length ∧ H' D3 = some (.lst acc) ∧ Same H11 H')
            ⟨[], rfl, upd_same, same_new nD3⟩ (fun j H' _ hp => by obtain ⟨_, _, _, sm⟩ := hp; exact sqL_l (sm _ _ e5')) (fun j x H12 H13 hj hp hy => ?_) (fun H12 hp => ?_)
          · obtain ⟨acc, a1, a2, sm⟩ := hp
            obtain ⟨rfl, hx⟩ := hy
            obtain ⟨dd, hdd, hpd⟩ := e4'.get' hx
            rw [List.getElem?_map] at hdd
            obtain ⟨d0, hd0, rfl⟩ : ∃ d0, ds[j]? = some d0 ∧ d0.d = dd := by simpa using hdd
            obtain ⟨a0, rfl, ha0⟩ := Deed.of hpd
            have tk : ((ds.take (j + 1)).filter isStart).length = ((ds.take j).filter isStart).length + (if isStart d0 then 1 else 0) := by
              rw [List.take_add_one, hd0]
              exact filter_app _ _ _
            refine ⟨rfl, _, rfl, a0, _, 0, .str d0.word, rfl, rfl, sqA_t (sm _ _ ha0), at0, rfl, _, rfl, ite2 (fun e => ?_) (fun e => ?_)⟩
            · have ew : d0.word = "start" := by injection of_decide_eq_true e
              have alen : acc.length ≤ 60 := by
                have := List.length_filter_le isStart (ds.take j)
                have := List.length_take_le' j ds
                omega
              refine ⟨_, rfl, acc, a2, fits (by omega), acc ++ [.ref a0], ?_, upd_same, fun c u hc => ?_⟩
              · rw [tk, (word_start d0).mp ew, List.length_append, a1]; rfl
              · rw [upd_ne (ne_of_none hc nD3)]; exact sm _ _ hc
            · have ew : ¬ isStart d0 = true := fun z => e (by rw [(word_start d0).mpr z]; exact decide_eq_true rfl)
              exact ⟨acc, by rw [tk, if_neg ew]; exact a1, a2, sm⟩
          · obtain ⟨acc, a1, a2, sm⟩ := hp
            have vlen : vs.length = ds.length := by rw [e4'.len, List.length_map]
            rw [vlen, List.take_length] at a1
            refine ⟨D3, _, rfl, .inl (sqL_l a2), rfl, _, rfl, ite2 (fun e7 => ?_) (fun e7 => ?_)⟩
            · refine ⟨_, rfl, _, rfl, b, l, _, cells, rfl, rfl, hB11.same sm, by omega, by omega, fun H14 r14 hB14 bt14 hr14 => ?_⟩
              refine ⟨by show 2 ≤ sizeLine; decide, fun a' na' => ?_⟩
              have s4 : Pds H14 vs (ds.map Deed.d) := Pds.but bt14 (hB11.same sm).lsts (noLs_map noL_deed _) (Pds.same sm e4')
              have s5 := bt14 _ _ (by simp [npl'.1, npl'.2]) (sm _ _ e5')
              refine ⟨a', .say r14, rfl, upd_same, hr14, .inr rfl, ?_, Pds.same (same_new na') s4, same_new na' _ _ s5, hB14.same (same_new na'), (((bt9.trans bt11).trans (Same.but sm)).trans bt14).trans (Same.but (same_new na'))⟩
              rw [filter_app]; exact e3
            · refine ⟨a, d, rfl, sm _ _ ha, hd, .inl hw, ?_, Pds.same sm e4', sm _ _ e5', hB11.same sm, (bt9.trans bt11).trans (Same.but sm)⟩
              rw [filter_app, if_pos es]
              have : ¬ acc.length = 3 := fun z => e7 (by rw [z]; rfl)
              omega
        · refine ⟨a, d, rfl, ha, hd, .inl hw, ?_, e4', e5', hB11, bt9.trans bt11⟩
          have ew : ¬ isStart d = true := fun z => e (by rw [(word_start d).mpr z]; exact decide_eq_true rfl)
          rw [filter_app, if_neg ew]; exact e3
      · obtain ⟨a', d', rfl, f1, f2, f3, f4, f5, f6, hB14, bt14⟩ := hM
        have vlen : vs.length = ds.length := by rw [f5.len, List.length_map]
        refine ⟨_, rfl, .inl ⟨rfl, _, sqL_l f6⟩, _, rfl, pl, _, _, rfl, rfl, f6, fits (by omega), ?_⟩
        have ap : a' ≠ pl := fun z => by rw [z, f6] at f1; cases f1
        have lsD : Lsts H' [pl] := fun c hc => ⟨vs, by rw [List.mem_singleton.mp hc]; exact f6⟩
        have stepB : But [pl] H' (upd H' pl (.lst (vs ++ [.ref a']))) := But.set (by simp)
        refine ⟨ds ++ [d'], vs ++ [.ref a'], _, _, rfl, by simp [e1], fun d hd => ?_, f4, ?_, upd_same, But.box hB14 npl'.1 npl'.2, But.newset npl bt14⟩
        · rcases List.mem_append.mp hd with h | h
          · exact e2 d h
          · rw [List.mem_singleton.mp h]; exact ⟨f2, f3⟩
        · rw [List.map_append]
          exact (Pds.but stepB lsD (noLs_map noL_deed _) f5).app (.cons (Deed.pd (by rw [upd_ne ap]; exact f1)) .nil)
    · obtain ⟨ds, vs, y1, y2, rfl, e1, e2, e3, e4, e5, hB9, bt9⟩ := hp
      refine ⟨_, rfl, _, rfl, _, rfl, pl, _, rfl, .inl ⟨sqL_l e5, fun Pt nPt => ?_⟩⟩
      refine ⟨by show 3 ≤ sizeLine; decide, fun v nv => ?_⟩
      have s1 : Same H9 (upd H9 Pt (.tup vs)) := same_new nPt
      have s2 := same_new (o := .tup [.ref M, .ref O, .ref Pt]) nv
      have s12 := s1.trans s2
      have gM := s12 _ _ (bt9 _ _ nMb hM6)
      have gO := s12 _ _ (bt9 _ _ nOb hO)
      have gP := s2 _ _ (show (upd H9 Pt (.tup vs)) Pt = some (.tup vs) from upd_same)
      refine q _ (.ref v) ⟨mem, os, ds⟩ (hB9.same s12) ((bt6.trans bt9).trans (Same.but s12)) ?_ ⟨?_, m2, ?_, fun j o hj => ?_, ?_, ?_, e3⟩ ?_ ?_ ?_ ?_
      · exact .tup upd_same (.cons (.tup gM (pds_ns _)) (.cons (.tup gO (Pds.same s12 (Pds.but bt9 hB6.lsts (noLs_map noL_ord _) hOs))) (.cons (.tup gP (Pds.same s12 e4)) .nil)))
      · dsimp only; rw [mlen]; exact cN
      · dsimp only; omega
      · dsimp only at hj ⊢; rw [olen, mlen]; exact o2 j o hj
      · dsimp only; omega
      · intro d hd; dsimp only at hd ⊢; rw [olen, mlen]; exact (e2 d hd).1
      · dsimp only; omega
      · dsimp only; omega
      · dsimp only; omega
      · intro d hd; exact (e2 d hd).2
end
end Vt
namespace Vt
open PySem PySem.Spec PyProof.Rows L2
/-! ### boards as they are handed in, and what is first wrong in them -/
structure ROrd where
  src : Int
  goal : Int
  many : Int
  later : Option Int
structure RDeed where
  word : Str
  nums : List Int
structure RBrd where
  mem : List Int
  ords : List ROrd
  prog : List RDeed
def iV : Option Int → V
  | none => .non
  | some k => .int k
def iD : Option Int → D
  | none => .non
  | some k => .int k
def ROrd.vs (o : ROrd) : List V := [.int o.src, .int o.goal, .int o.many, iV o.later]
def ROrd.d (o : ROrd) : D := .tup [.int o.src, .int o.goal, .int o.many, iD o.later]
def RDeed.vs (d : RDeed) : List V := .str d.word :: d.nums.map V.int
def RDeed.d (d : RDeed) : D := .tup (.str d.word :: d.nums.map D.int)
def RBrd.d (B : RBrd) : D := .tup [.tup (B.mem.map D.int), .tup (B.ords.map ROrd.d), .tup (B.prog.map RDeed.d)]
def Ord.raw (o : Ord) : ROrd := ⟨o.src, o.goal, o.many, o.later.map fun k => (k : Int)⟩
def Deed.raw (d : Deed) : RDeed := ⟨d.word, d.args.map fun (k : Nat) => (k : Int)⟩
def Brd.raw (B : Brd) : RBrd := ⟨B.mem.map (fun (k : Nat) => (k : Int)), B.ords.map Ord.raw, B.prog.map Deed.raw⟩
theorem raw_ord (o : Ord) : o.raw.d = o.d := by
  obtain ⟨s, g, m, l⟩ := o
  cases l <;> rfl
theorem raw_deed (d : Deed) : d.raw.d = d.d := by
  simp only [Deed.raw, RDeed.d, Deed.d, List.map_map]; rfl
theorem raw_brd (B : Brd) : B.raw.d = B.d := by
  simp only [Brd.raw, RBrd.d, Brd.d, nsD, List.map_map]
  have h1 : (ROrd.d ∘ Ord.raw) = Ord.d := funext raw_ord
  have h2 : (RDeed.d ∘ Deed.raw) = Deed.d := funext raw_deed
  rw [h1, h2]; rfl
section
variable {H : Hp}
theorem ROrd.of {o : ROrd} {v : V} (h : Pd H v o.d) : ∃ a, v = .ref a ∧ H a = some (.tup o.vs) := by
  obtain ⟨s, g, m, l⟩ := o
  cases h with
  | tup h hs =>
    cases hs with
    | cons h1 hs => cases h1; cases hs with
      | cons h2 hs => cases h2; cases hs with
        | cons h3 hs => cases h3; cases hs with
          | cons h4 hs =>
            cases hs
            refine ⟨_, rfl, ?_⟩
            cases l with
            | none => cases h4; exact h
            | some k => cases h4; exact h
theorem RDeed.of {d : RDeed} {v : V} (h : Pd H v d.d) : ∃ a, v = .ref a ∧ H a = some (.tup d.vs) := by
  cases h with
  | tup h hs =>
    cases hs with
    | cons h1 hs =>
      cases h1
      rw [hs.ints] at h
      exact ⟨_, rfl, h⟩
theorem RBrd.of {B : RBrd} {v : V} (h : Pd H v B.d) : ∃ a m o p os ps, v = .ref a ∧ H a = some (.tup [.ref m, .ref o, .ref p]) ∧ H m = some (.tup (B.mem.map V.int)) ∧ H o = some (.tup os) ∧ Pds H os (B.ords.map ROrd.d) ∧ H p = some (.tup ps) ∧ Pds H ps (B.prog.map RDeed.d) := by
  obtain ⟨mem, ords, prog⟩ := B
  cases h with
  | tup h hs =>
    cases hs with
    | cons h1 hs => cases h1 with
      | tup e1 k1 => cases hs with
        | cons h2 hs => cases h2 with
          | tup e2 k2 => cases hs with
            | cons h3 hs => cases h3 with
              | tup e3 k3 =>
                cases hs
                rw [k1.ints] at e1
                exact ⟨_, _, _, _, _, _, rfl, h, e1, e2, k2, e3, k3⟩
end
/-- the first place at which p stands -/
def fst {α : Type} (p : Nat → α → Bool) : Nat → List α → Option Nat
  | _, [] => none
  | i, x :: r => if p i x = true then some i else fst p (i + 1) r
theorem fst_none {α : Type} {p : Nat → α → Bool} : ∀ {xs : List α} {k : Nat}, (∀ i x, xs[i]? = some x → p (k + i) x = false) → fst p k xs = none
  | [], _, _ => rfl
  | x :: r, k, h => by
    rw [fst, if_neg (by rw [show p k x = false from h 0 x rfl]; simp)]
    exact fst_none fun i y e => by
      have := h (i + 1) y (by simpa using e)
      rw [show k + 1 + i = k + (i + 1) by omega]; exact this
theorem fst_some {α : Type} {p : Nat → α → Bool} : ∀ {xs : List α} {k i : Nat} {x : α}, xs[i]? = some x → p (k + i) x = true → (∀ j y, j < i → xs[j]? = some y → p (k + j) y = false) → fst p k xs = some (k + i)
  | [], _, _, _, e, _, _ => by simp at e
  | y :: r, k, 0, x, e, h, _ => by
    simp only [List.getElem?_cons_zero, Option.some.injEq] at e
    subst e
    rw [fst, if_pos (by simpa using h)]; rfl
  | y :: r, k, i + 1, x, e, h, hj => by
    rw [fst, if_neg (by rw [show p k y = false from hj 0 y (by omega) rfl]; simp)]
    rw [fst_some (k := k + 1) (i := i) (x := x) (by simpa using e) (by rw [show k + 1 + i = k + (i + 1) by omega]; exact h) fun j z hji ez => by
      rw [show k + 1 + j = k + (j + 1) by omega]
      exact hj (j + 1) z (by omega) (by simpa using ez)]
    congr 1; omega
theorem of_fst_none {α : Type} {p : Nat → α → Bool} : ∀ {xs : List α} {k : Nat}, fst p k xs = none → ∀ i x, xs[i]? = some x → p (k + i) x = false
  | [], _, _, i, x, e => by simp at e
  | y :: r, k, h, 0, x, e => by
    simp only [List.getElem?_cons_zero, Option.some.injEq] at e
    subst e
    rw [fst] at h
    split at h
    · cases h
    · rename_i hn; simpa using hn
  | y :: r, k, h, i + 1, x, e => by
    rw [fst] at h
    split at h
    · cases h
    · have := of_fst_none (k := k + 1) h i x (by simpa using e)
      rw [show k + (i + 1) = k + 1 + i by omega]; exact this
def badNum (_ : Nat) (n : Int) : Bool := !(decide (0 ≤ n) && decide (n < 10))
def fwCell (mem : List Int) : Option Nat :=
  if mem.length = 4 ∨ mem.length = 8 ∨ mem.length = 12 ∨ mem.length = 16 then fst badNum 0 mem else some 0
def laterCan (cnt : Int) (at_ : Nat) : Option Int → Bool
  | none => true
  | some k => decide ((at_ : Int) < k) && decide (k < cnt)
def ordCan (cnt cells : Int) (at_ : Nat) (o : ROrd) : Bool :=
  decide (1 ≤ o.many) && decide (o.many ≤ 8) && laterCan cnt at_ o.later &&
  decide (0 ≤ o.src) && decide (o.src ≤ cells - o.many) && decide (0 ≤ o.goal) && decide (o.goal ≤ cells - o.many)
def badOrd (cnt cells : Int) (at_ : Nat) (o : ROrd) : Bool := decide (at_ = 4) || !ordCan cnt cells at_ o
def fwOrd (ords : List ROrd) (cells : Int) : Option Nat := fst (badOrd ords.length cells) 0 ords
def kindsOf (z : Str) : Option (List Str) :=
  if z = "set" then some ["cell", "number"] else if z = "add" then some ["cell", "cell"] else if z = "say" then some ["cell"] else if z = "start" then some ["order"] else
  if z = "wait" then some [] else if z = "clean" then some ["line"] else if z = "drop" then some ["line"] else none
def cap (cnt cells : Int) (k : Str) : Int := if k = "cell" then cells else if k = "number" then 10 else if k = "order" then cnt else cells / 4
def numsCan (cnt cells : Int) : List Int → List Str → Bool
  | [], [] => true
  | n :: ns, k :: ks => (decide (0 ≤ n) && decide (n < cap cnt cells k)) && numsCan cnt cells ns ks
  | _, _ => false
def deedCan (cnt cells : Int) (d : RDeed) : Bool := match kindsOf d.word with
  | none => false
  | some ks => numsCan cnt cells d.nums ks
def rStart (d : RDeed) : Bool := decide (d.word = "start")
def badDeed (prog : List RDeed) (cnt cells : Int) (at_ : Nat) (d : RDeed) : Bool := decide (at_ = 60) || !deedCan cnt cells d || decide (3 < ((prog.take (at_ + 1)).filter rStart).length)
def fwDeed (prog : List RDeed) (cnt cells : Int) : Option Nat := fst (badDeed prog cnt cells) 0 prog
/-- a tuple of the written part -/
def KTup (K : PySem.W.Frag) (a : Addr) (xs : List V) : Prop := ∃ (o : Obj) (its : Array Value) (n : Nat), K.lookup a = some o ∧ o.cls = .type "tuple" ∧ o.data = .seq its n ∧ its.size ≤ sizeLine ∧ Vals xs its.toList
theorem KTup.sq {K : PySem.W.Frag} {a : Addr} {xs : List V} (h : KTup K a xs) (H : Hp) : SqT K H a xs := .inr h
/-- an enumerate's pair -/
theorem pair_at {H H' : Hp} {v : V} {x y : Nat → Option V} {i : Nat} (h : YPair x y i H v H') : ∃ T a b, v = .ref T ∧ H T = none ∧ H' = upd H T (.tup [a, b]) ∧ x i = some a ∧ y i = some b ∧ Same H H' ∧ H' T = some (.tup [a, b]) := by
  obtain ⟨T, a, b, h1, h2, h3, h4, h5⟩ := h
  subst h3
  exact ⟨T, a, b, h1, h2, rfl, h4, h5, same_new h2, upd_same⟩
section
variable {P : Program} {w : World} {K : PySem.W.Frag} {mg : Str → Option Value} {base : Heap}
/-- the module's numbers -/
structure Consts (K : PySem.W.Frag) (mg : Str → Option Value) : Prop where
  line : ∃ t, mg "LINE" = some (.int 4 t)
  numbers : ∃ t, mg "NUMBERS" = some (.int 10 t)
  orders : ∃ t, mg "MOST_ORDERS" = some (.int 4 t)
  moved : ∃ t, mg "MOST_MOVED" = some (.int 8 t)
  deeds : ∃ t, mg "MOST_DEEDS" = some (.int 60 t)
  starts : ∃ t, mg "MOST_STARTS" = some (.int 3 t)
  sizes : ∃ a, mg "MEMORY_SIZES" = some (.ref a) ∧ KTup K a [.int 4, .int 8, .int 12, .int 16]
abbrev st_first_wrong_cell : Stmt := (topS 17)
abbrev nm_first_wrong_cell : List Str := ["memory", "cell", "number"]
theorem sc_first_wrong_cell : FnScope ["memory", "cell", "number"] ["memory"] (defScope st_first_wrong_cell) := ⟨rfl, rfl, rfl, by decide +kernel, rfl, by decide +kernel, by decide +kernel⟩
def spFwCell : Sp := fun vs H Q _ => ∃ (m : Addr) (mem : List Int), vs = [.ref m] ∧ H m = some (.tup (mem.map V.int)) ∧ ∀ H', Same H H' → Q (oV (fwCell mem)) H'
theorem ok_fwcell {f : Addr} {fd : FuncData} (F : Fun K "first_wrong_cell" "first_wrong_cell" st_first_wrong_cell f fd) (C : Consts K mg) (z_len : mg "len" = none) (z_enumerate : mg "enumerate" = none) :
    FnOk P w K mg base CX0 1 f fd ["memory"] spFwCell := by
  obtain ⟨tN, mc_NUMBERS⟩ := C.numbers
  obtain ⟨ms, mc_MEMORY_SIZES, hms⟩ := C.sizes
  refine F.ok sc_first_wrong_cell (fun vs H Q E h => ?_) (fun cdv A outer s H vs Q E hr h => ?_)
  · obtain ⟨m, mem, rfl, _⟩ := h
    rfl
  · obtain ⟨m, mem, rfl, hm, q⟩ := h
    refine ⟨_, (pss_cons (ps_if (pt_cmpR op_notIn_seq (pe_callB call_len_seq (by rfl) z_len (by decide +kernel) (pa_cons (pv 0) pa_nil)) (pe_glob (v := .ref _) rfl mc_MEMORY_SIZES rfl) (by rfl)) (pss_one (ps_ret pe_int)) pss_nil)
  (pss_cons (ps_for PassesOwn.never rfl (pi_enumT (by rfl) z_enumerate (pa_cons (pv 0) pa_nil)) (pg_tup rfl (pgs_cons (pg_name (i := 1) sc_first_wrong_cell.nd rfl (Or.inl rfl)) (pgs_cons (pg_name (i := 2) sc_first_wrong_cell.nd rfl (Or.inl rfl)) pgs_nil)))
  (pss_one (ps_if (pt_not (pt_chain op_le op_lt pe_int (pv 2) (pe_glob (v := .int 10) rfl mc_NUMBERS ⟨_, rfl⟩))) (pss_one (ps_ret (pv 1))) pss_nil)))
  (pss_one (ps_ret pe_non)))), ?_⟩
    refine ⟨_, rfl, m, _, rfl, .inr (sqT_t hm), ms, _, rfl, .inr (hms.sq _), rfl, rfl, _, rfl, ite2 (fun e => ?_) (fun e => ?_)⟩
    · have hn : ¬ (mem.length = 4 ∨ mem.length = 8 ∨ mem.length = 12 ∨ mem.length = 16) := by
        simp only [inV, eqV, List.any_cons, List.any_nil, List.length_map] at e
        simp at e
        omega
      have := q H (Same.refl H)
      rw [fwCell, if_neg hn] at this
      exact this
    · have hn : mem.length = 4 ∨ mem.length = 8 ∨ mem.length = 12 ∨ mem.length = 16 := by
        simp only [inV, eqV, List.any_cons, List.any_nil, List.length_map] at e
        simp at e
        omega
      refine ⟨_, rfl, m, rfl, .inr ⟨_, sqT_t hm, ?_⟩⟩
      refine for_it (walk_enumT (xs := mem.map V.int)) (fun i σ H' => ∃ y1 y2, σ = [some (.ref m), y1, y2] ∧ Same H H' ∧ ∀ (j : Nat) (n : Int), j < i → mem[j]? = some n → badNum j n = false)
        ⟨_, _, rfl, Same.refl H, fun j n hj => absurd hj (by omega)⟩ (fun i σ H' _ hp => by obtain ⟨_, _, _, sm, _⟩ := hp; exact sqT_t (sm _ _ hm)) (fun i x σ H1 H2 hi hp hy => ?_) (fun σ H1 hp => ?_)
      · obtain ⟨y1, y2, rfl, sm, hall⟩ := hp
        obtain ⟨T, a, b, rfl, nT, _, ha, hb, s2, hT⟩ := pair_at hy
        cases ha
        obtain ⟨n, hn2, rfl⟩ : ∃ n, mem[i]? = some n ∧ V.int n = b := by rw [List.getElem?_map] at hb; simpa using hb
        refine ⟨T, _, rfl, sqT_t hT, rfl, _, _, rfl, _, _, rfl, rfl, ?_⟩
        have ret : badNum i n = true → Q (nV i) H2 := fun hb => by
          have := q H2 (sm.trans s2)
          rw [fwCell, if_pos hn, fst_some (i := i) hn2 (by rw [Nat.zero_add]; exact hb) fun j y hj ej => by rw [Nat.zero_add]; exact hall j y hj ej, Nat.zero_add] at this
          exact this
        have nxt : badNum i n = false → ∃ y1 y2, [some (V.ref m), some (V.int (i : Nat)), some (V.int n)] = [some (.ref m), y1, y2] ∧ Same H H2 ∧ ∀ (j : Nat) (n : Int), j < i + 1 → mem[j]? = some n → badNum j n = false := fun hb => by
          refine ⟨_, _, rfl, sm.trans s2, fun j y hj ej => ?_⟩
          by_cases hji : j < i
          · exact hall j y hji ej
          · have : j = i := by omega
            subst this
            rw [hn2] at ej; cases ej
            exact hb
        refine ⟨_, rfl, _, _, rfl, rfl, _, rfl, ?_⟩
        by_cases h0 : (0 : Int) ≤ n
        · rw [decide_eq_true h0]
          refine iteT ⟨_, _, rfl, rfl, _, rfl, ite2 (fun e => ⟨_, rfl, ret ?_⟩) (fun e => nxt ?_)⟩
          · simp [badNum, h0] at e ⊢; omega
          · simp [badNum, h0] at e ⊢; omega
        · rw [decide_eq_false h0]
          exact iteF ⟨_, rfl, ⟨_, rfl, ret (by simp [badNum, h0])⟩⟩
      · obtain ⟨y1, y2, rfl, sm, hall⟩ := hp
        have := q H1 sm
        rw [fwCell, if_pos hn, fst_none fun i x e => by
          rw [Nat.zero_add]
          exact hall i x (by have := (List.getElem?_eq_some_iff.mp e).1; simpa using this) e] at this
        exact this
end
end Vt
namespace Vt
open PySem PySem.Spec PyProof.Rows L2
/-! ### an order, a deed, the board -/
theorem valV_hit {k : Key} {v : V} {r : List (Key × V)} : valV ((k, v) :: r) k = some v := valV_pos rfl
/-- what a dict of four says -/
theorem counts_at {H : Hp} {a : Addr} {cnt cells : Int} {ks : List Str} {k : Str} (h : H a = some (.dK [(.inr "cell", .int cells), (.inr "number", .int 10), (.inr "order", .int cnt), (.inr "line", .int (cells / 4))]))
    (hk : k = "cell" ∨ k = "number" ∨ k = "order" ∨ k = "line") : DGet H a (.str k) (some (.int (cap cnt cells k))) := by
  have g := DGet.k (k := .inr k) h
  rcases hk with rfl | rfl | rfl | rfl
  · exact g
  · exact g
  · exact g
  · exact g
theorem kinds_known {z : Str} {ks : List Str} (h : kindsOf z = some ks) : ∀ k ∈ ks, k = "cell" ∨ k = "number" ∨ k = "order" ∨ k = "line" := by
  intro k hk
  unfold kindsOf at h
  repeat' split at h
  all_goals first
    | cases h
    | skip
  all_goals simp at hk
  all_goals first
    | (rcases hk with rfl | rfl <;> simp)
    | (subst hk; simp)
theorem kinds_len {z : Str} {ks : List Str} (h : kindsOf z = some ks) : ks.length ≤ 2 := by
  unfold kindsOf at h
  repeat' split at h
  all_goals first
    | (cases h; simp)
    | cases h
theorem numsCan_len {cnt cells : Int} : ∀ {ns : List Int} {ks : List Str}, ns.length ≠ ks.length → numsCan cnt cells ns ks = false
  | [], [], h => absurd rfl h
  | [], _ :: _, _ => by rw [numsCan]; all_goals simp
  | _ :: _, [], _ => by rw [numsCan]; all_goals simp
  | n :: ns, k :: ks, h => by
    rw [numsCan, numsCan_len (ns := ns) (ks := ks) (by simpa using h), Bool.and_false]
theorem numsCan_all {cnt cells : Int} : ∀ {ns : List Int} {ks : List Str}, ns.length = ks.length → ∀ (bs : List Bool), bs.length = ns.length → (∀ (i : Nat) (n : Int) (k : Str), ns[i]? = some n → ks[i]? = some k → bs[i]? = some (decide (0 ≤ n) && decide (n < cap cnt cells k))) → bs.all id = numsCan cnt cells ns ks
  | [], [], _, bs, hb, _ => by
    have : bs = [] := List.length_eq_zero_iff.mp hb
    subst this; rfl
  | [], _ :: _, h, _, _, _ => by simp at h
  | _ :: _, [], h, _, _, _ => by simp at h
  | n :: ns, k :: ks, h, bs, hb, hi => by
    cases bs with
    | nil => simp at hb
    | cons b bs =>
      have e0 := hi 0 n k rfl rfl
      simp only [List.getElem?_cons_zero, Option.some.injEq] at e0
      rw [numsCan, List.all_cons, numsCan_all (ns := ns) (ks := ks) (by simpa using h) bs (by simpa using hb) fun i n' k' e1 e2 => by
        have := hi (i + 1) n' k' (by simpa using e1) (by simpa using e2)
        simpa using this]
      rw [e0]; rfl
/-- the table of deeds -/
structure Kinds (K : PySem.W.Frag) (w : World) (mg : Str → Option Value) (dd : Addr) : Prop where
  at_ : mg "DEEDS" = some (.ref dd)
  low : (dd == sysModules) = false
  obj : ∃ es n, K.lookup dd = some ⟨.type "dict", none, .dict es n, #[]⟩ ∧ PySem.W.KeysLit w.params es.toList
  hit : ∀ z ks, kindsOf z = some ks → ∃ kt, KDct K w dd z (.ref kt) ∧ KTup K kt (ks.map V.str)
section
variable {P : Program} {w : World} {K : PySem.W.Frag} {mg : Str → Option Value} {base : Heap}
abbrev st_order_can_be : Stmt := (topS 19)
abbrev nm_order_can_be : List Str := ["order", "at", "order_count", "cell_count", "source", "goal", "many", "later"]
theorem sc_order_can_be : FnScope ["order", "at", "order_count", "cell_count", "source", "goal", "many", "later"] ["order", "at", "order_count", "cell_count"] (defScope st_order_can_be) := ⟨rfl, rfl, rfl, by decide +kernel, rfl, by decide +kernel, by decide +kernel⟩
def spOrdCan : Sp := fun vs H Q _ => ∃ (a : Addr) (o : ROrd) (at_ : Nat) (cnt cells : Int), vs = [.ref a, nV at_, .int cnt, .int cells] ∧ H a = some (.tup o.vs) ∧ Q (.bl (ordCan cnt cells at_ o)) H
theorem ok_ordcan {f : Addr} {fd : FuncData} (F : Fun K "order_can_be" "order_can_be" st_order_can_be f fd) (C : Consts K mg) : FnOk P w K mg base CX0 1 f fd ["order", "at", "order_count", "cell_count"] spOrdCan := by
  obtain ⟨tM, mc_MOST_MOVED⟩ := C.moved
  refine F.ok sc_order_can_be (fun vs H Q E h => ?_) (fun cdv A outer s H vs Q E hr h => ?_)
  · obtain ⟨a, o, at_, cnt, cells, rfl, _⟩ := h
    rfl
  · obtain ⟨a, ⟨src, goal, many, later⟩, at_, cnt, cells, rfl, ha, q⟩ := h
    refine ⟨_, (pss_cons (ps_asg (pv 0) (pg_tup rfl (pgs_cons (pg_name (i := 4) sc_order_can_be.nd rfl (Or.inl rfl)) (pgs_cons (pg_name (i := 5) sc_order_can_be.nd rfl (Or.inl rfl)) (pgs_cons (pg_name (i := 6) sc_order_can_be.nd rfl (Or.inl rfl)) (pgs_cons (pg_name (i := 7) sc_order_can_be.nd rfl (Or.inl rfl)) pgs_nil))))))
  (pss_cons (ps_if (pt_not (pt_chain op_le op_le pe_int (pv 6) (pe_glob (v := .int 8) rfl mc_MOST_MOVED ⟨_, rfl⟩))) (pss_one (ps_ret pe_bl)) pss_nil)
  (pss_cons (ps_if (PW.pt (pw_and (pt_cmpR op_notN (pv 7) pe_non (nomark _)) (pw_and1 (pt_not (pt_chain op_lt op_lt (pv 1) (pv 7) (pv 2)))))) (pss_one (ps_ret pe_bl)) pss_nil)
  (pss_one (ps_ret (pe_and (pe_chain op_le op_le pe_int (pv 4) (pe_op op_sub (pv 3) (pv 6))) (pe_one (pe_chain op_le op_le pe_int (pv 5) (pe_op op_sub (pv 3) (pv 6)))))))))), ?_⟩
    refine ⟨_, rfl, a, _, rfl, sqT_t ha, rfl, _, _, rfl, _, _, rfl, _, _, rfl, _, _, rfl, rfl, ?_⟩
    -- not 1 <= many <= MOST_MOVED
    refine ⟨_, rfl, _, _, rfl, rfl, _, rfl, ?_⟩
    by_cases h1 : (1 : Int) ≤ many
    · rw [decide_eq_true h1]
      refine iteT ⟨_, _, rfl, rfl, _, rfl, ite2 (fun e => ?_) (fun e => ?_)⟩
      · rw [show ordCan cnt cells at_ ⟨src, goal, many, later⟩ = false by simp [ordCan, laterCan] at e ⊢; omega] at q
        exact q
      · have h8 : many ≤ 8 := by simpa using e
        have rest : ∀ σ, σ = [some (.ref a), some (nV at_), some (.int cnt), some (.int cells), some (.int src), some (.int goal), some (.int many), some (iV later)] → laterCan cnt at_ later = true →
            tRet (tAndV (tChain (rI0 fun i j => V.bl (decide (i ≤ j))) (rI0 fun i j => V.bl (decide (i ≤ j))) (tC (.int 0)) (tVar 4) (tOp (rI0 fun i j => V.int (i - j)) (tVar 3) (tVar 6)))
              (tChain (rI0 fun i j => V.bl (decide (i ≤ j))) (rI0 fun i j => V.bl (decide (i ≤ j))) (tC (.int 0)) (tVar 5) (tOp (rI0 fun i j => V.int (i - j)) (tVar 3) (tVar 6)))) { nx := fun _ H' => Q .non H', rt := Q } σ H := fun σ hσ hl => by
          subst hσ
          have ev : ordCan cnt cells at_ ⟨src, goal, many, later⟩ = ((decide (0 ≤ src) && decide (src ≤ cells - many)) && (decide (0 ≤ goal) && decide (goal ≤ cells - many))) := by
            simp only [ordCan, decide_eq_true h1, decide_eq_true h8, hl, Bool.true_and, Bool.and_assoc]
          rw [ev] at q
          refine ⟨_, rfl, _, _, rfl, rfl, _, rfl, ?_⟩
          by_cases g1 : (0 : Int) ≤ src
          · rw [decide_eq_true g1] at q ⊢
            refine iteT ⟨_, rfl, _, rfl, _, _, rfl, rfl, _, _, rfl, rfl, _, rfl, ?_⟩
            by_cases g2 : src ≤ cells - many
            · rw [decide_eq_true g2] at q ⊢
              refine iteT ⟨_, rfl, _, _, rfl, rfl, _, rfl, ?_⟩
              by_cases g3 : (0 : Int) ≤ goal
              · rw [decide_eq_true g3] at q ⊢
                refine iteT ⟨_, rfl, _, rfl, _, _, rfl, rfl, _, _, rfl, rfl, ?_⟩
                exact q
              · rw [decide_eq_false g3] at q ⊢
                exact iteF q
            · rw [decide_eq_false g2] at q ⊢
              exact iteF q
          · rw [decide_eq_false g1] at q ⊢
            exact iteF ⟨_, rfl, iteF q⟩
        cases later with
        | none => exact ⟨_, rfl, rfl, _, rfl, iteF (rest _ rfl rfl)⟩
        | some k =>
          refine ⟨_, rfl, rfl, _, rfl, iteT ⟨_, rfl, _, rfl, _, _, rfl, rfl, _, rfl, ?_⟩⟩
          by_cases g1 : (at_ : Int) < k
          · rw [decide_eq_true g1]
            refine iteT ⟨_, rfl, _, _, rfl, rfl, _, rfl, ite2 (fun e => ?_) (fun e => rest _ rfl ?_)⟩
            · rw [show ordCan cnt cells at_ ⟨src, goal, many, some k⟩ = false by simp [ordCan, laterCan] at e ⊢; omega] at q
              exact q
            · simp [laterCan] at e ⊢; exact ⟨g1, e⟩
          · rw [decide_eq_false g1]
            refine iteF ⟨_, rfl, iteT ?_⟩
            rw [show ordCan cnt cells at_ ⟨src, goal, many, some k⟩ = false by simp [ordCan, laterCan, g1]] at q
            exact q
    · rw [decide_eq_false h1]
      refine iteF ⟨_, rfl, iteT ?_⟩
      rw [show ordCan cnt cells at_ ⟨src, goal, many, later⟩ = false by simp [ordCan, h1]] at q
      exact q
abbrev st_first_wrong_order : Stmt := (topS 18)
abbrev nm_first_wrong_order : List Str := ["orders", "cell_count", "at", "order"]
theorem sc_first_wrong_order : FnScope ["orders", "cell_count", "at", "order"] ["orders", "cell_count"] (defScope st_first_wrong_order) := ⟨rfl, rfl, rfl, by decide +kernel, rfl, by decide +kernel, by decide +kernel⟩
def spFwOrd : Sp := fun vs H Q _ => ∃ (a : Addr) (os : List V) (ords : List ROrd) (cells : Int), vs = [.ref a, .int cells] ∧ H a = some (.tup os) ∧ Pds H os (ords.map ROrd.d) ∧ ∀ H', Same H H' → Q (oV (fwOrd ords cells)) H'
theorem ok_fword {f : Addr} {fd : FuncData} (F : Fun K "first_wrong_order" "first_wrong_order" st_first_wrong_order f fd) (C : Consts K mg) (c_order_can_be : Callee P w K mg base "order_can_be" 1 4 spOrdCan) (z_len : mg "len" = none) (z_enumerate : mg "enumerate" = none) :
    FnOk P w K mg base CX0 2 f fd ["orders", "cell_count"] spFwOrd := by
  obtain ⟨tM, mc_MOST_ORDERS⟩ := C.orders
  refine F.ok sc_first_wrong_order (fun vs H Q E h => ?_) (fun cdv A outer s H vs Q E hr h => ?_)
  · obtain ⟨a, os, ords, cells, rfl, _⟩ := h
    rfl
  · obtain ⟨a, os, ords, cells, rfl, ha, hs, q⟩ := h
    have olen : os.length = ords.length := by rw [hs.len, List.length_map]
    refine ⟨_, (pss_cons (ps_for PassesOwn.never rfl (pi_enumT (by rfl) z_enumerate (pa_cons (pv 0) pa_nil)) (pg_tup rfl (pgs_cons (pg_name (i := 2) sc_first_wrong_order.nd rfl (Or.inl rfl)) (pgs_cons (pg_name (i := 3) sc_first_wrong_order.nd rfl (Or.inl rfl)) pgs_nil)))
  (pss_one (ps_if (PW.pt (pw_or (pt_cmpR op_eq (pv 2) (pe_glob (v := .int 4) rfl mc_MOST_ORDERS ⟨_, rfl⟩) (nomark _)) (pw_or1 (pt_not (pt_val (pe_cal c_order_can_be hr (by first | decide | exact Nat.le_refl _) (pa_cons (pv 3) (pa_cons (pv 2) (pa_cons (pe_callB call_len_seq (by rfl) z_len (by decide +kernel) (pa_cons (pv 0) pa_nil)) (pa_cons (pv 1) pa_nil)))))))))) (pss_one (ps_ret (pv 2))) pss_nil)))
  (pss_one (ps_ret pe_non))), ?_⟩
    refine ⟨_, rfl, a, rfl, .inr ⟨_, sqT_t ha, ?_⟩⟩
    refine for_it (walk_enumT (xs := os)) (fun i σ H' => ∃ y1 y2, σ = [some (.ref a), some (.int cells), y1, y2] ∧ Same H H' ∧ ∀ (j : Nat) (o : ROrd), j < i → ords[j]? = some o → badOrd ords.length cells j o = false)
      ⟨_, _, rfl, Same.refl H, fun j n hj => absurd hj (by omega)⟩ (fun i σ H' _ hp => by obtain ⟨_, _, _, sm, _⟩ := hp; exact sqT_t (sm _ _ ha)) (fun i x σ H1 H2 hi hp hy => ?_) (fun σ H1 hp => ?_)
    · obtain ⟨y1, y2, rfl, sm, hall⟩ := hp
      obtain ⟨T, a1, b, rfl, nT, _, h1, hb, s2, hT⟩ := pair_at hy
      cases h1
      obtain ⟨dd, hd, hpd⟩ := hs.get' hb
      rw [List.getElem?_map] at hd
      obtain ⟨o, ho, rfl⟩ : ∃ o, ords[i]? = some o ∧ o.d = dd := by simpa using hd
      obtain ⟨oa, rfl, hoa⟩ := ROrd.of ((hpd.same sm).same s2)
      have ret : badOrd ords.length cells i o = true → Q (nV i) H2 := fun hb => by
        have := q H2 (sm.trans s2)
        rw [fwOrd, fst_some (i := i) ho (by rw [Nat.zero_add]; exact hb) fun j y hj ej => by rw [Nat.zero_add]; exact hall j y hj ej, Nat.zero_add] at this
        exact this
      have nxt : badOrd ords.length cells i o = false → ∃ y1 y2, [some (V.ref a), some (.int cells), some (V.int (i : Nat)), some (V.ref oa)] = [some (.ref a), some (.int cells), y1, y2] ∧ Same H H2 ∧ ∀ (j : Nat) (o : ROrd), j < i + 1 → ords[j]? = some o → badOrd ords.length cells j o = false := fun hb => by
        refine ⟨_, _, rfl, sm.trans s2, fun j y hj ej => ?_⟩
        by_cases hji : j < i
        · exact hall j y hji ej
        · have : j = i := by omega
          subst this
          rw [ho] at ej; cases ej
          exact hb
      refine ⟨T, _, rfl, sqT_t hT, rfl, _, _, rfl, _, _, rfl, rfl, ?_⟩
      refine ⟨_, rfl, rfl, _, rfl, ite2 (fun e => iteT ?_) (fun e => ?_)⟩
      · have e4 : (i : Int) = 4 := by injection of_decide_eq_true e
        have e4' : i = 4 := by omega
        exact ⟨_, rfl, ret (by simp [badOrd, e4'])⟩
      · have n4 : ¬ i = 4 := fun z => e (by rw [z]; rfl)
        refine ⟨_, rfl, _, rfl, _, rfl, a, _, rfl, .inr (sqT_t ((sm.trans s2) _ _ ha)), _, rfl, oa, o, i, _, _, rfl, hoa, _, rfl, ite2 (fun e => ⟨_, rfl, ret ?_⟩) (fun e => nxt ?_)⟩
        · rw [olen] at e; simp only [badOrd, e, Bool.or_true]
        · rw [olen] at e
          have e' : (!ordCan ords.length cells i o) = false := by simpa using e
          simp only [badOrd, e', decide_eq_false n4, Bool.or_false]
    · obtain ⟨y1, y2, rfl, sm, hall⟩ := hp
      have := q H1 sm
      rw [fwOrd, fst_none fun i x e => by
        rw [Nat.zero_add]
        exact hall i x (by have := (List.getElem?_eq_some_iff.mp e).1; omega) e] at this
      exact this
end
end Vt
namespace Vt
open PySem PySem.Spec PyProof.Rows L2
section
variable {P : Program} {w : World} {K : PySem.W.Frag} {mg : Str → Option Value} {base : Heap}
def countsK (cnt cells : Int) : List (Key × V) := [(.inr "cell", .int cells), (.inr "number", .int 10), (.inr "order", .int cnt), (.inr "line", .int (cells / 4))]
abbrev st_deed_can_be : Stmt := (topS 22)
abbrev nm_deed_can_be : List Str := ["deed", "counts", "word", "numbers", "kinds", "number", "kind"]
theorem sc_deed_can_be : FnScope ["deed", "counts", "word", "numbers", "kinds", "number", "kind"] ["deed", "counts"] (defScope st_deed_can_be) := ⟨rfl, rfl, rfl, by decide +kernel, rfl, by decide +kernel, by decide +kernel⟩
def spDeedCan (K : PySem.W.Frag) (w : World) (dd : Addr) : Sp := fun vs H Q _ => ∃ (a c : Addr) (d : RDeed) (cnt cells : Int), vs = [.ref a, .ref c] ∧ H a = some (.tup d.vs) ∧ d.nums.length ≤ 1000 ∧ H c = some (.dK (countsK cnt cells)) ∧
  (kindsOf d.word = none → KMiss K w dd d.word) ∧ ∀ H', Same H H' → Q (.bl (deedCan cnt cells d)) H'
theorem ok_deedcan {f dd : Addr} {fd : FuncData} (F : Fun K "deed_can_be" "deed_can_be" st_deed_can_be f fd) (Kd : Kinds K w mg dd) (z_len : mg "len" = none) (z_all : mg "all" = none) (z_zip : mg "zip" = none) :
    FnOk P w K mg base CX0 1 f fd ["deed", "counts"] (spDeedCan K w dd) := by
  have mc_DEEDS := Kd.at_
  refine F.ok sc_deed_can_be (fun vs H Q E h => ?_) (fun cdv A outer s H vs Q E hr h => ?_)
  · obtain ⟨a, c, d, cnt, cells, rfl, _⟩ := h
    rfl
  · obtain ⟨a, c, ⟨wd, nums⟩, cnt, cells, rfl, ha, hl, hc, hmiss, q⟩ := h
    dsimp only at hl hmiss
    refine ⟨_, (pss_cons (ps_asg (pv 0) (pg_star (i := 2) (j := 3) rfl sc_deed_can_be.nd rfl rfl rfl rfl))
  (pss_cons (ps_set (i := 4) sc_deed_can_be.nd rfl (Or.inl rfl) (pe_kget (pe_glob (v := .ref _) rfl mc_DEEDS rfl) (pv 2) ⟨rfl, rfl, rfl, rfl⟩))
  (pss_cons (ps_if (PW.pt (pw_or (pt_cmpR op_isN (pv 4) pe_non (nomark _)) (pw_or1 (pt_cmpR op_ne (pe_callB call_len_seq (by rfl) z_len (by decide +kernel) (pa_cons (pv 3) pa_nil)) (pe_callB call_len_seq (by rfl) z_len (by decide +kernel) (pa_cons (pv 4) pa_nil)) (nomark _))))) (pss_one (ps_ret pe_bl)) pss_nil)
  (pss_one (ps_ret (pe_callB (cr_all rfl) (by rfl) z_all (by decide +kernel) (pa_cons (pe_lc (own := [("number", 5), ("kind", 6)]) rfl sc_deed_can_be.nd (pi_zipM (by rfl) z_zip (pa_cons (pv 3) (pa_cons (pv 4) pa_nil))) (blkOk_by (own := [("number", 5), ("kind", 6)]) (N := nm_deed_can_be) (sc := defScope (topS 22)) (by decide +kernel)) (fun _ _ _ _ _ => (pg_tupk K (n := 2) rfl (pgs_cons (pg_name (i := 5) sc_deed_can_be.nd rfl (Or.inl rfl)) (pgs_cons (pg_name (i := 6) sc_deed_can_be.nd rfl (Or.inl rfl)) pgs_nil)))) (fun _ _ _ _ _ => pts_nil) (fun _ _ _ _ _ => (pe_chain op_le op_lt pe_int (pv 5) (pe_dget (hu_of hr) (pv 1) (pv 6) (fun _ _ => rfl))))) pa_nil))))))), ?_⟩
    refine ⟨_, rfl, a, .str wd, nums.map V.int, rfl, sqT_t ha, by rw [List.length_map]; exact hl, fun p np => ?_⟩
    have s1 : Same H (upd H p (.lst (nums.map V.int))) := same_new np
    have hp1 : (upd H p (.lst (nums.map V.int))) p = some (.lst (nums.map V.int)) := upd_same
    generalize upd H p (.lst (nums.map V.int)) = H1 at s1 hp1
    obtain ⟨es, n, hobj, hlit⟩ := Kd.obj
    refine ⟨dd, rfl, Kd.low, ⟨es, n, hobj, hlit⟩, _, rfl, wd, rfl, ?_⟩
    cases hk : kindsOf wd with
    | none =>
      refine .inr ⟨hmiss hk, ?_⟩
      refine ⟨_, rfl, rfl, _, rfl, iteT (iteT ?_)⟩
      have := q H1 s1
      rw [show deedCan cnt cells ⟨wd, nums⟩ = false by simp [deedCan, hk]] at this
      exact this
    | some ks =>
      obtain ⟨kt, hkd, hkt⟩ := Kd.hit wd ks hk
      have k2 := kinds_len hk
      refine .inl ⟨.ref kt, hkd, ?_⟩
      refine ⟨_, rfl, rfl, _, rfl, iteF ⟨_, rfl, p, _, rfl, .inl (sqL_l hp1), _, rfl, kt, _, rfl, .inr (hkt.sq _), rfl, _, rfl, ite2 (fun e => ?_) (fun e => ?_)⟩⟩
      · have hne : nums.length ≠ ks.length := fun z => by
          simp only [List.length_map, z] at e
          simp at e
        have := q H1 s1
        rw [show deedCan cnt cells ⟨wd, nums⟩ = false by simp only [deedCan, hk]; exact numsCan_len hne] at this
        exact this
      · have heq : nums.length = ks.length := by
          simp only [List.length_map] at e
          simp at e
          omega
        have hc1 := s1 _ _ hc
        refine ⟨_, rfl, _, rfl, p, kt, nums.map V.int, ks.map V.str, rfl, sqL_l hp1, hkt.sq _, fun D nD => ?_⟩
        have pD : p ≠ D := ne_of_none hp1 nD
        refine lc_it (walk_zipM (xs := nums.map V.int) (ys := ks.map V.str) (n := nums.length) (by simp [heq])) (fun i H' => ∃ bs : List Bool, bs.length = i ∧ H' D = some (.lst (bs.map V.bl)) ∧ Same H1 H' ∧
            ∀ (j : Nat) (n : Int) (k : Str), j < i → nums[j]? = some n → ks[j]? = some k → bs[j]? = some (decide (0 ≤ n) && decide (n < cap cnt cells k)))
          ⟨[], rfl, upd_same, same_new nD, fun j _ _ hj => absurd hj (by omega)⟩ (fun i H' _ hp => by obtain ⟨_, _, _, sm, _⟩ := hp; exact ⟨sqL_l (sm _ _ hp1), hkt.sq _⟩) (fun i x H2 H3 hi hp hy => ?_) (fun H2 hp => ?_)
        · obtain ⟨bs, b1, b2, sm, ball⟩ := hp
          obtain ⟨T, v1, v2, rfl, nT, _, e1, e2, s3, hT⟩ := pair_at hy
          obtain ⟨n, hn, rfl⟩ : ∃ n, nums[i]? = some n ∧ V.int n = v1 := by rw [List.getElem?_map] at e1; simpa using e1
          obtain ⟨k, hk2, rfl⟩ : ∃ k, ks[i]? = some k ∧ V.str k = v2 := by rw [List.getElem?_map] at e2; simpa using e2
          have TD : D ≠ T := ne_of_none b2 nT
          have hb3 : H3 D = some (.lst (bs.map V.bl)) := s3 _ _ b2
          have hget : DGet H3 c (.str k) (some (.int (cap cnt cells k))) := counts_at (ks := ks) (s3 _ _ (sm _ _ hc1)) (kinds_known hk k (List.mem_of_getElem? hk2))
          have fin : ∀ r : Bool, r = (decide (0 ≤ n) && decide (n < cap cnt cells k)) → ∃ acc, H3 D = some (.lst acc) ∧ acc.length < sizeLine ∧ ∃ bs : List Bool, bs.length = i + 1 ∧ (upd H3 D (.lst (acc ++ [.bl r]))) D = some (.lst (bs.map V.bl)) ∧ Same H1 (upd H3 D (.lst (acc ++ [.bl r]))) ∧
              ∀ (j : Nat) (n : Int) (k : Str), j < i + 1 → nums[j]? = some n → ks[j]? = some k → bs[j]? = some (decide (0 ≤ n) && decide (n < cap cnt cells k)) := fun r hr => by
            refine ⟨_, hb3, by rw [List.length_map]; exact fits (by omega), bs ++ [r], by simp [b1], by rw [upd_same, List.map_append]; rfl, fun u o hu => ?_, fun j n' k' hj f1 f2 => ?_⟩
            · rw [upd_ne (ne_of_none hu nD)]; exact s3 _ _ (sm _ _ hu)
            · by_cases hji : j < i
              · rw [List.getElem?_append_left (by omega)]
                exact ball j n' k' hji f1 f2
              · have : j = i := by omega
                subst this
                rw [hn] at f1; cases f1
                rw [hk2] at f2; cases f2
                rw [List.getElem?_append_right (by omega), b1, Nat.sub_self, hr]; rfl
          refine ⟨T, _, rfl, sqT_t hT, rfl, _, _, rfl, _, _, rfl, rfl, rfl, ?_⟩
          refine ⟨_, rfl, _, _, rfl, rfl, _, rfl, ?_⟩
          by_cases h0 : (0 : Int) ≤ n
          · rw [decide_eq_true h0]
            refine iteT ⟨_, rfl, _, rfl, c, _, rfl, hget, _, _, rfl, rfl, ?_⟩
            exact fin _ (by rw [decide_eq_true h0]; rfl)
          · rw [decide_eq_false h0]
            exact iteF (fin _ (by rw [decide_eq_false h0]; rfl))
        · obtain ⟨bs, b1, b2, sm, ball⟩ := hp
          refine ⟨D, bs, rfl, sqL_l b2, ?_⟩
          have := q H2 (s1.trans sm)
          rw [show deedCan cnt cells ⟨wd, nums⟩ = bs.all id by
            simp only [deedCan, hk]
            exact (numsCan_all heq bs b1 fun j n k e1 e2 => ball j n k (by have := (List.getElem?_eq_some_iff.mp e1).1; omega) e1 e2).symm] at this
          exact this
theorem starts_take {prog : List RDeed} {i : Nat} {d : RDeed} (h : prog[i]? = some d) : ((prog.take (i + 1)).filter rStart).length = ((prog.take i).filter rStart).length + (if rStart d then 1 else 0) := by
  rw [List.take_add_one, h]
  exact filter_app _ _ _
abbrev st_counts_of_things : Stmt := (topS 21)
abbrev nm_counts_of_things : List Str := ["order_count", "cell_count"]
theorem sc_counts_of_things : FnScope ["order_count", "cell_count"] ["order_count", "cell_count"] (defScope st_counts_of_things) := ⟨rfl, rfl, rfl, by decide +kernel, rfl, by decide +kernel, by decide +kernel⟩
def spCounts : Sp := fun vs H Q _ => ∃ (cnt cells : Int), vs = [.int cnt, .int cells] ∧ ∀ (c : Addr) H', H c = none → H' c = some (.dK (countsK cnt cells)) → Same H H' → Q (.ref c) H'
theorem ok_counts {f : Addr} {fd : FuncData} (F : Fun K "counts_of_things" "counts_of_things" st_counts_of_things f fd) (C : Consts K mg) : FnOk P w K mg base CX0 1 f fd ["order_count", "cell_count"] spCounts := by
  obtain ⟨tN, mc_NUMBERS⟩ := C.numbers
  obtain ⟨tL, mc_LINE⟩ := C.line
  refine F.ok sc_counts_of_things (fun vs H Q E h => ?_) (fun cdv A outer s H vs Q E hr h => ?_)
  · obtain ⟨cnt, cells, rfl, _⟩ := h
    rfl
  · obtain ⟨cnt, cells, rfl, q⟩ := h
    refine ⟨_, (pss_one (ps_ret (pe_disp (pps_cons pe_str (pv 1) (pps_cons pe_str (pe_glob (v := .int 10) rfl mc_NUMBERS ⟨_, rfl⟩) (pps_cons pe_str (pv 0) (pps_cons pe_str (pe_op op_fdiv (pv 1) (pe_glob (v := .int 4) rfl mc_LINE ⟨_, rfl⟩)) pps_nil)))) (by rfl) (by rfl) (fun z => by cases z) (by decide)))), ?_⟩
    refine fun c nc => ?_
    refine ⟨_, rfl, _, rfl, _, rfl, _, _, rfl, rfl, ⟨by decide, by decide⟩, upd_same, countsK cnt cells, rfl, (by show 4 ≤ 15; decide), ?_⟩
    refine q c _ nc ?_ ?_
    · rw [upd_same]; rfl
    · rw [upd_upd]; exact same_new nc
abbrev st_first_wrong_deed : Stmt := (topS 20)
abbrev nm_first_wrong_deed : List Str := ["program", "order_count", "cell_count", "counts", "starts", "at", "deed"]
theorem sc_first_wrong_deed : FnScope ["program", "order_count", "cell_count", "counts", "starts", "at", "deed"] ["program", "order_count", "cell_count"] (defScope st_first_wrong_deed) := ⟨rfl, rfl, rfl, by decide +kernel, rfl, by decide +kernel, by decide +kernel⟩
def spFwDeed (K : PySem.W.Frag) (w : World) (dd : Addr) : Sp := fun vs H Q _ => ∃ (a : Addr) (ps : List V) (prog : List RDeed) (cnt cells : Int), vs = [.ref a, .int cnt, .int cells] ∧ H a = some (.tup ps) ∧ Pds H ps (prog.map RDeed.d) ∧ (∀ d ∈ prog, d.nums.length ≤ 1000) ∧
  (∀ d ∈ prog, kindsOf d.word = none → KMiss K w dd d.word) ∧ ∀ H', Same H H' → Q (oV (fwDeed prog cnt cells)) H'
theorem ok_fwdeed {f dd : Addr} {fd : FuncData} (F : Fun K "first_wrong_deed" "first_wrong_deed" st_first_wrong_deed f fd) (C : Consts K mg) (c_deed_can_be : Callee P w K mg base "deed_can_be" 1 2 (spDeedCan K w dd)) (c_counts_of_things : Callee P w K mg base "counts_of_things" 1 2 spCounts) (z_enumerate : mg "enumerate" = none) :
    FnOk P w K mg base CX0 2 f fd ["program", "order_count", "cell_count"] (spFwDeed K w dd) := by
  obtain ⟨tN, mc_NUMBERS⟩ := C.numbers
  obtain ⟨tL, mc_LINE⟩ := C.line
  obtain ⟨tD, mc_MOST_DEEDS⟩ := C.deeds
  obtain ⟨tS, mc_MOST_STARTS⟩ := C.starts
  refine F.ok sc_first_wrong_deed (fun vs H Q E h => ?_) (fun cdv A outer s H vs Q E hr h => ?_)
  · obtain ⟨a, ps, prog, cnt, cells, rfl, _⟩ := h
    rfl
  · obtain ⟨a, ps, prog, cnt, cells, rfl, ha, hs, hnum, hmiss, q⟩ := h
    have plen : ps.length = prog.length := by rw [hs.len, List.length_map]
    refine ⟨_, (pss_cons (ps_set (i := 3) sc_first_wrong_deed.nd rfl (Or.inl rfl) (pe_cal c_counts_of_things hr (by first | decide | exact Nat.le_refl _) (pa_cons (pv 1) (pa_cons (pv 2) pa_nil))))
  (pss_cons (ps_set (i := 4) sc_first_wrong_deed.nd rfl (Or.inl rfl) pe_int)
  (pss_cons (ps_for PassesOwn.never rfl (pi_enumT (by rfl) z_enumerate (pa_cons (pv 0) pa_nil)) (pg_tup rfl (pgs_cons (pg_name (i := 5) sc_first_wrong_deed.nd rfl (Or.inl rfl)) (pgs_cons (pg_name (i := 6) sc_first_wrong_deed.nd rfl (Or.inl rfl)) pgs_nil)))
  (pss_cons (ps_if (PW.pt (pw_or (pt_cmpR op_eq (pv 5) (pe_glob (v := .int 60) rfl mc_MOST_DEEDS ⟨_, rfl⟩) (nomark _)) (pw_or1 (pt_not (pt_val (pe_cal c_deed_can_be hr (by first | decide | exact Nat.le_refl _) (pa_cons (pv 6) (pa_cons (pv 3) pa_nil)))))))) (pss_one (ps_ret (pv 5))) pss_nil)
  (pss_cut (ps_if (pt_cmpR op_eq (pe_ix ix_lt (pv 6) pe_int (fun _ _ => rfl)) pe_str (nomark _)) (pss_one (ps_aug (i := 4) sc_first_wrong_deed.nd rfl (Or.inl rfl) pe_int ip_add)) pss_nil)
  (pss_one (ps_if (pt_cmpR op_gt (pv 4) (pe_glob (v := .int 3) rfl mc_MOST_STARTS ⟨_, rfl⟩) (nomark _)) (pss_one (ps_ret (pv 5))) pss_nil)))))
  (pss_one (ps_ret pe_non))))), ?_⟩
    -- counts
    refine ⟨_, rfl, _, rfl, cnt, cells, rfl, fun c H1 nc hc1 s1 => ?_⟩
    refine ⟨_, rfl, a, rfl, .inr ⟨_, sqT_t (s1 _ _ ha), ?_⟩⟩
    refine for_it (walk_enumT (xs := ps)) (fun i σ H' => ∃ y1 y2, σ = [some (.ref a), some (.int cnt), some (.int cells), some (.ref c), some (.int (((prog.take i).filter rStart).length : Nat)), y1, y2] ∧ Same H1 H' ∧
        ∀ (j : Nat) (d : RDeed), j < i → prog[j]? = some d → badDeed prog cnt cells j d = false)
      ⟨_, _, rfl, Same.refl _, fun j n hj => absurd hj (by omega)⟩ (fun i σ H' _ hp => by obtain ⟨_, _, _, sm, _⟩ := hp; exact sqT_t ((s1.trans sm) _ _ ha)) (fun i x σ H2 H3 hi hp hy => ?_) (fun σ H2 hp => ?_)
    · obtain ⟨y1, y2, rfl, sm, hall⟩ := hp
      obtain ⟨T, a1, b, rfl, nT, _, h1, hb, s2, hT⟩ := pair_at hy
      cases h1
      obtain ⟨dx, hd, hpd⟩ := hs.get' hb
      rw [List.getElem?_map] at hd
      obtain ⟨d, ho, rfl⟩ : ∃ d, prog[i]? = some d ∧ d.d = dx := by simpa using hd
      have hmem : d ∈ prog := List.mem_of_getElem? ho
      have s13 : Same H H3 := (s1.trans sm).trans s2
      obtain ⟨oa, rfl, hoa⟩ := RDeed.of (hpd.same s13)
      have ret : ∀ H', Same H3 H' → badDeed prog cnt cells i d = true → Q (nV i) H' := fun H' s4 hb => by
        have := q H' (s13.trans s4)
        rw [fwDeed, fst_some (i := i) ho (by rw [Nat.zero_add]; exact hb) fun j y hj ej => by rw [Nat.zero_add]; exact hall j y hj ej, Nat.zero_add] at this
        exact this
      refine ⟨T, _, rfl, sqT_t hT, rfl, _, _, rfl, _, _, rfl, rfl, ?_⟩
      refine ⟨_, rfl, rfl, _, rfl, ite2 (fun e => iteT ?_) (fun e => ?_)⟩
      · have e4 : (i : Int) = 60 := by injection of_decide_eq_true e
        have e4' : i = 60 := by omega
        exact ⟨_, rfl, ret H3 (Same.refl _) (by simp [badDeed, e4'])⟩
      · have n4 : ¬ i = 60 := fun z => e (by rw [z]; rfl)
        refine ⟨_, rfl, _, rfl, oa, c, d, cnt, cells, rfl, hoa, hnum d hmem, (sm.trans s2) _ _ hc1, hmiss d hmem, fun H4 s4 => ⟨_, rfl, ite2 (fun e => ⟨_, rfl, ret H4 s4 ?_⟩) (fun e => ?_)⟩⟩
        · simp only [badDeed, e, Bool.or_true, Bool.true_or]
        have can : deedCan cnt cells d = true := by simpa using e
        -- if deed[0] == "start": starts += 1
        refine ⟨fun σ' H' => σ' = [some (.ref a), some (.int cnt), some (.int cells), some (.ref c), some (.int (((prog.take (i + 1)).filter rStart).length : Nat)), some (.int (i : Nat)), some (.ref oa)] ∧ H' = H4, ?_, fun σ' H' hM => ?_⟩
        · refine ⟨_, rfl, oa, _, 0, .str d.word, rfl, rfl, sqA_t (s4 _ _ hoa), at0, rfl, _, rfl, ite2 (fun e => ?_) (fun e => ?_)⟩
          · have ew : d.word = "start" := by injection of_decide_eq_true e
            refine ⟨_, rfl, _, _, rfl, rfl, ?_, rfl⟩
            rw [starts_take ho, if_pos (by simp [rStart, ew])]
            rfl
          · have ew : ¬ d.word = "start" := fun z => e (by rw [z]; exact decide_eq_true rfl)
            refine ⟨?_, rfl⟩
            rw [starts_take ho, if_neg (by simp [rStart, ew])]
            rfl
        · obtain ⟨rfl, rfl⟩ := hM
          refine ⟨_, rfl, _, _, rfl, rfl, _, rfl, ite2 (fun e => ⟨_, rfl, ret _ s4 ?_⟩) (fun e => ?_)⟩
          · have h3 : 3 < ((prog.take (i + 1)).filter rStart).length := by have := of_decide_eq_true e; omega
            simp only [badDeed, decide_eq_true h3, Bool.or_true]
          · have h3 : ¬ 3 < ((prog.take (i + 1)).filter rStart).length := fun z => e (decide_eq_true (by omega))
            refine ⟨_, _, rfl, (sm.trans s2).trans s4, fun j y hj ej => ?_⟩
            by_cases hji : j < i
            · exact hall j y hji ej
            · have : j = i := by omega
              subst this
              rw [ho] at ej; cases ej
              simp only [badDeed, can, decide_eq_false n4, decide_eq_false h3]; rfl
    · obtain ⟨y1, y2, rfl, sm, hall⟩ := hp
      have := q H2 (s1.trans sm)
      rw [fwDeed, fst_none fun i x e => by
        rw [Nat.zero_add]
        exact hall i x (by have := (List.getElem?_eq_some_iff.mp e).1; omega) e] at this
      exact this
end
end Vt
namespace Vt
open PySem PySem.Spec PyProof.Rows L2
/-! ### boards that can be -/
theorem kinds_deed (d : Deed) : ∃ ks, kindsOf d.word = some ks ∧ ks.length = d.args.length := by
  cases d
  · exact ⟨["cell", "number"], rfl, rfl⟩
  · exact ⟨["cell", "cell"], rfl, rfl⟩
  · exact ⟨["cell"], rfl, rfl⟩
  · exact ⟨["order"], rfl, rfl⟩
  · exact ⟨[], rfl, rfl⟩
  · exact ⟨["line"], rfl, rfl⟩
  · exact ⟨["line"], rfl, rfl⟩
theorem can_deed {d : Deed} {cnt cells : Nat} (h : DeedOk d cnt cells) : deedCan cnt cells d.raw = true := by
  have c1 : ∀ a b : Int, cap a b "cell" = b := fun _ _ => rfl
  have c2 : ∀ a b : Int, cap a b "number" = 10 := fun _ _ => rfl
  have c3 : ∀ a b : Int, cap a b "order" = a := fun _ _ => rfl
  have c4 : ∀ a b : Int, cap a b "line" = b / 4 := fun _ _ => rfl
  cases d with
  | set c n =>
    obtain ⟨h1, h2⟩ := h
    have e : kindsOf "set" = (some ["cell", "number"] : Option (List Str)) := by decide
    simp only [deedCan, Deed.raw, Deed.word, Deed.args, e, List.map_cons, List.map_nil, numsCan, c1, c2, Bool.and_true, Bool.and_eq_true, decide_eq_true_eq]
    omega
  | add c n =>
    obtain ⟨h1, h2⟩ := h
    have e : kindsOf "add" = (some ["cell", "cell"] : Option (List Str)) := by decide
    simp only [deedCan, Deed.raw, Deed.word, Deed.args, e, List.map_cons, List.map_nil, numsCan, c1, c2, Bool.and_true, Bool.and_eq_true, decide_eq_true_eq]
    omega
  | say c =>
    have h1 : c < cells := h
    have e : kindsOf "say" = (some ["cell"] : Option (List Str)) := by decide
    simp only [deedCan, Deed.raw, Deed.word, Deed.args, e, List.map_cons, List.map_nil, numsCan, c1, c2, Bool.and_true, Bool.and_eq_true, decide_eq_true_eq]
    omega
  | start c =>
    have h1 : c < cnt := h
    have e : kindsOf "start" = (some ["order"] : Option (List Str)) := by decide
    simp only [deedCan, Deed.raw, Deed.word, Deed.args, e, List.map_cons, List.map_nil, numsCan, c3, Bool.and_true, Bool.and_eq_true, decide_eq_true_eq]
    omega
  | wait =>
    have e : kindsOf "wait" = (some [] : Option (List Str)) := by decide
    simp only [deedCan, Deed.raw, Deed.word, Deed.args, e, List.map_nil, numsCan]
  | clean c =>
    have h1 : c < cells / 4 := h
    have e : kindsOf "clean" = (some ["line"] : Option (List Str)) := by decide
    simp only [deedCan, Deed.raw, Deed.word, Deed.args, e, List.map_cons, List.map_nil, numsCan, c4, Bool.and_true, Bool.and_eq_true, decide_eq_true_eq]
    omega
  | drop c =>
    have h1 : c < cells / 4 := h
    have e : kindsOf "drop" = (some ["line"] : Option (List Str)) := by decide
    simp only [deedCan, Deed.raw, Deed.word, Deed.args, e, List.map_cons, List.map_nil, numsCan, c4, Bool.and_true, Bool.and_eq_true, decide_eq_true_eq]
    omega
theorem can_ord {o : Ord} {at_ cnt cells : Nat} (h : OrdOk o at_ cnt cells) : ordCan cnt cells at_ o.raw = true := by
  obtain ⟨h1, h2, h3, h4, h5⟩ := h
  have hl : laterCan cnt at_ o.raw.later = true := by
    obtain ⟨s, g, m, l⟩ := o
    cases l with
    | none => rfl
    | some k =>
      have := h5 k rfl
      show (decide ((at_ : Int) < (k : Int)) && decide ((k : Int) < (cnt : Int))) = true
      rw [Bool.and_eq_true, decide_eq_true_eq, decide_eq_true_eq]
      omega
  simp only [ordCan, hl, Bool.and_true, Bool.and_eq_true, decide_eq_true_eq]
  simp only [Ord.raw]
  refine ⟨⟨⟨⟨⟨?_, ?_⟩, ?_⟩, ?_⟩, ?_⟩, ?_⟩ <;> omega
theorem ok_mem {B : Brd} (h : BrdOk B) : fwCell B.raw.mem = none := by
  have hl : B.raw.mem.length = B.mem.length := by simp [Brd.raw]
  rw [fwCell, if_pos (by rw [hl]; exact h.cells)]
  refine fst_none fun i x e => ?_
  obtain ⟨n, hn, rfl⟩ : ∃ n, B.mem[i]? = some n ∧ (n : Int) = x := by
    simp only [Brd.raw, List.getElem?_map] at e
    simpa using e
  have := h.nums n (List.mem_of_getElem? hn)
  simp [badNum]; omega
theorem ok_ords {B : Brd} (h : BrdOk B) : fwOrd B.raw.ords B.mem.length = none := by
  refine fst_none fun i x e => ?_
  obtain ⟨o, ho, rfl⟩ : ∃ o, B.ords[i]? = some o ∧ o.raw = x := by
    simp only [Brd.raw, List.getElem?_map] at e
    simpa using e
  have hl : B.raw.ords.length = B.ords.length := by simp [Brd.raw]
  have hi : i < B.ords.length := (List.getElem?_eq_some_iff.mp ho).1
  have := h.four
  rw [Nat.zero_add, badOrd, hl, can_ord (h.ords i o ho)]
  simp; omega
theorem rstart_raw (d : Deed) : rStart d.raw = isStart d := by
  have := word_start d
  simp only [rStart, Deed.raw]
  cases h : isStart d with
  | true => exact decide_eq_true (this.mpr h)
  | false => exact decide_eq_false fun z => by rw [this.mp z] at h; cases h
theorem ok_prog {B : Brd} (h : BrdOk B) : fwDeed B.raw.prog B.ords.length B.mem.length = none := by
  refine fst_none fun i x e => ?_
  obtain ⟨d, hd, rfl⟩ : ∃ d, B.prog[i]? = some d ∧ d.raw = x := by
    simp only [Brd.raw, List.getElem?_map] at e
    simpa using e
  have hi : i < B.prog.length := (List.getElem?_eq_some_iff.mp hd).1
  have h60 := h.sixty
  have hs : ((B.raw.prog.take (i + 1)).filter rStart).length ≤ 3 := by
    have e1 : (B.raw.prog.take (i + 1)).filter rStart = ((B.prog.take (i + 1)).filter isStart).map Deed.raw := by
      simp only [Brd.raw, ← List.map_take, List.filter_map]
      congr 1
      exact List.filter_congr fun d _ => rstart_raw d
    rw [e1, List.length_map]
    exact Nat.le_trans (List.Sublist.length_le ((List.take_sublist _ _).filter _)) h.starts
  rw [Nat.zero_add, badDeed, can_deed (h.prog d (List.mem_of_getElem? hd)), decide_eq_false (show ¬ i = 60 by omega), decide_eq_false (show ¬ 3 < _ by omega)]
  rfl
section
variable {P : Program} {w : World} {K : PySem.W.Frag} {mg : Str → Option Value} {base : Heap}
abbrev st_require_board : Stmt := (topS 16)
abbrev nm_require_board : List Str := ["board", "memory", "orders", "program", "wrong"]
theorem sc_require_board : FnScope ["board", "memory", "orders", "program", "wrong"] ["board"] (defScope st_require_board) := ⟨rfl, rfl, rfl, by decide +kernel, rfl, by decide +kernel, by decide +kernel⟩
/-- a board that can be is let through -/
def spReq : Sp := fun vs H Q _ => ∃ (v : V) (B : Brd), vs = [v] ∧ Pd H v B.d ∧ BrdOk B ∧ ∀ H', Same H H' → Q .non H'
theorem ok_req {f dd : Addr} {fd : FuncData} (F : Fun K "require_board" "require_board" st_require_board f fd) (c_first_wrong_cell : Callee P w K mg base "first_wrong_cell" 1 1 spFwCell) (c_first_wrong_order : Callee P w K mg base "first_wrong_order" 2 2 spFwOrd)
    (c_first_wrong_deed : Callee P w K mg base "first_wrong_deed" 2 3 (spFwDeed K w dd)) (z_len : mg "len" = none) : FnOk P w K mg base CX0 3 f fd ["board"] spReq := by
  refine F.ok sc_require_board (fun vs H Q E h => ?_) (fun cdv A outer s H vs Q E hr h => ?_)
  · obtain ⟨v, B, rfl, _⟩ := h
    rfl
  · obtain ⟨v, B, rfl, hB, ok, q⟩ := h
    rw [← raw_brd] at hB
    obtain ⟨a, m, o, p, os, ps, rfl, ha, hm, ho, hos, hp, hps⟩ := RBrd.of hB
    refine ⟨_, (pss_cons (ps_asg (pv 0) (pg_tup rfl (pgs_cons (pg_name (i := 1) sc_require_board.nd rfl (Or.inl rfl)) (pgs_cons (pg_name (i := 2) sc_require_board.nd rfl (Or.inl rfl)) (pgs_cons (pg_name (i := 3) sc_require_board.nd rfl (Or.inl rfl)) pgs_nil)))))
  (pss_cons (ps_set (i := 4) sc_require_board.nd rfl (Or.inl rfl) (pe_cal c_first_wrong_cell hr (by first | decide | exact Nat.le_refl _) (pa_cons (pv 1) pa_nil)))
  (pss_cons (ps_if (pt_cmpR op_notN (pv 4) pe_non (nomark _)) (pss_one ps_never) pss_nil)
  (pss_cons (ps_set (i := 4) sc_require_board.nd rfl (Or.inl rfl) (pe_cal c_first_wrong_order hr (by first | decide | exact Nat.le_refl _) (pa_cons (pv 2) (pa_cons (pe_callB call_len_seq (by rfl) z_len (by decide +kernel) (pa_cons (pv 1) pa_nil)) pa_nil))))
  (pss_cons (ps_if (pt_cmpR op_notN (pv 4) pe_non (nomark _)) (pss_one ps_never) pss_nil)
  (pss_cons (ps_set (i := 4) sc_require_board.nd rfl (Or.inl rfl) (pe_cal c_first_wrong_deed hr (by first | decide | exact Nat.le_refl _) (pa_cons (pv 3) (pa_cons (pe_callB call_len_seq (by rfl) z_len (by decide +kernel) (pa_cons (pv 2) pa_nil)) (pa_cons (pe_callB call_len_seq (by rfl) z_len (by decide +kernel) (pa_cons (pv 1) pa_nil)) pa_nil)))))
  (pss_one (ps_if (pt_cmpR op_notN (pv 4) pe_non (nomark _)) (pss_one ps_never) pss_nil)))))))), ?_⟩
    refine ⟨_, rfl, a, _, rfl, sqT_t ha, rfl, _, _, rfl, _, _, rfl, _, _, rfl, rfl, ?_⟩
    have ml : (B.raw.mem.map V.int).length = B.mem.length := by simp [Brd.raw]
    have ol : os.length = B.ords.length := by rw [hos.len]; simp [Brd.raw]
    refine ⟨_, rfl, m, _, rfl, hm, fun H1 s1 => ?_⟩
    rw [ok_mem ok]
    refine ⟨_, rfl, rfl, _, rfl, iteF ?_⟩
    refine ⟨_, rfl, _, rfl, m, _, rfl, .inr (sqT_t (s1 _ _ hm)), o, os, B.raw.ords, _, rfl, s1 _ _ ho, hos.same s1, fun H2 s2 => ?_⟩
    rw [show fwOrd B.raw.ords ((B.raw.mem.map V.int).length : Nat) = none by rw [ml]; exact ok_ords ok]
    refine ⟨_, rfl, rfl, _, rfl, iteF ?_⟩
    have s12 := s1.trans s2
    refine ⟨_, rfl, _, rfl, o, _, rfl, .inr (sqT_t (s12 _ _ ho)), _, rfl, m, _, rfl, .inr (sqT_t (s12 _ _ hm)), p, ps, B.raw.prog, _, _, rfl, s12 _ _ hp, hps.same s12, fun d hd => ?_, fun d hd hk => ?_, fun H3 s3 => ?_⟩
    · obtain ⟨d0, _, rfl⟩ := List.mem_map.mp hd
      have : d0.raw.nums.length = d0.args.length := by simp [Deed.raw]
      rw [this]
      cases d0 <;> simp [Deed.args]
    · obtain ⟨d0, _, rfl⟩ := List.mem_map.mp hd
      obtain ⟨ks, e, _⟩ := kinds_deed d0
      rw [show d0.raw.word = d0.word from rfl, e] at hk; cases hk
    rw [show fwDeed B.raw.prog (os.length : Nat) ((B.raw.mem.map V.int).length : Nat) = none by rw [ml, ol]; exact ok_prog ok]
    exact ⟨_, rfl, rfl, _, rfl, iteF (q H3 (s12.trans s3))⟩
end
end Vt
namespace Vt
open PySem PySem.Spec PyProof.Rows L2
/-! ### what a chain of orders tells to move -/
structure Mv where
  src : Nat
  goal : Nat
  bell : Option Nat
def Mv.d (m : Mv) : D := .tup [nD m.src, nD m.goal, oD m.bell]
def Mv.vs (m : Mv) : List V := [nV m.src, nV m.goal, oV m.bell]
theorem Mv.pd {H : Hp} {m : Mv} {a : Addr} (h : H a = some (.tup m.vs)) : Pd H (.ref a) m.d := .tup h (.cons (.int _) (.cons (.int _) (.cons (pd_o _) .nil)))
theorem Mv.of {H : Hp} {m : Mv} {v : V} (h : Pd H v m.d) : ∃ a, v = .ref a ∧ H a = some (.tup m.vs) := by
  obtain ⟨s, g, l⟩ := m
  cases h with
  | tup h hs =>
    cases hs with
    | cons h1 hs => cases h1; cases hs with
      | cons h2 hs => cases h2; cases hs with
        | cons h4 hs =>
          cases hs
          refine ⟨_, rfl, ?_⟩
          cases l with
          | none => cases h4; exact h
          | some k => cases h4; exact h
theorem noL_mv (m : Mv) : m.d.noL = true := by
  obtain ⟨s, g, l⟩ := m
  cases l <;> simp [Mv.d, D.noL, noLs, nD, oD]
def mvAt (o : Ord) (at_ s : Nat) : Mv := ⟨o.src + s, o.goal + s, if s + 1 = o.many then some at_ else none⟩
def movesOf (o : Ord) (at_ : Nat) : List Mv := (List.range o.many).map (mvAt o at_)
def chain (ords : List Ord) : Nat → Option Nat → List Mv
  | _, none => []
  | 0, some _ => []
  | f + 1, some k => match ords[k]? with
    | none => []
    | some o => movesOf o k ++ chain ords f o.later
def told (ords : List Ord) (k : Nat) : List Mv := chain ords 4 (some k)
theorem movesOf_take {o : Ord} {at_ i : Nat} (h : i < o.many) : (movesOf o at_).take (i + 1) = (movesOf o at_).take i ++ [mvAt o at_ i] := by
  rw [List.take_add_one]
  congr 1
  rw [movesOf, List.getElem?_map, List.getElem?_range h]; rfl
theorem movesOf_len {o : Ord} {at_ : Nat} : (movesOf o at_).length = o.many := by simp [movesOf]
theorem chain_len (ords : List Ord) (hm : ∀ o ∈ ords, o.many ≤ 8) : ∀ f k, (chain ords f k).length ≤ 8 * f
  | 0, none => by simp [chain]
  | 0, some _ => by simp [chain]
  | f + 1, none => by simp [chain]
  | f + 1, some k => by
    rw [chain]
    split
    · simp
    · rename_i o e
      have := chain_len ords hm f o.later
      have := hm o (List.mem_of_getElem? e)
      rw [List.length_append, movesOf_len]; omega
theorem told_len {ords : List Ord} (hm : ∀ o ∈ ords, o.many ≤ 8) (k : Nat) : (told ords k).length ≤ 32 := chain_len ords hm 4 _
/-- a measure of what is left of a chain -/
def leftAt (i n : Nat) (σ : L2.St) : Nat := match σ[i]? with
  | some (some (.int k)) => n - k.toNat
  | _ => 0
def spMoves : Sp := fun vs H Q _ => ∃ (a : Addr) (os : List V) (ords : List Ord) (cells k : Nat), vs = [.ref a, nV k] ∧ H a = some (.tup os) ∧ Pds H os (ords.map Ord.d) ∧ ords.length ≤ 4 ∧ (∀ (i : Nat) (o : Ord), ords[i]? = some o → OrdOk o i ords.length cells) ∧ k < ords.length ∧
  ∀ (H' : Hp) (p : Addr) (xs : List V), Same H H' → H p = none → H' p = some (.lst xs) → Pds H' xs ((told ords k).map Mv.d) → Q (.ref p) H'
end Vt
namespace Vt
open PySem PySem.Spec PyProof.Rows L2
/-! ### dicts whose keys are nested tuples -/
mutual
def nk : D → NestedKey
  | .non => .none
  | .bl b => .num (if b = true then 1 else 0)
  | .int i => .num i
  | .str x => .text x
  | .tup ds => .tup (nks ds)
  | .lst _ => .none
def nks : List D → List NestedKey
  | [] => []
  | d :: ds => nk d :: nks ds
end
section
variable {P : Program} {w : World} {H : Hp} {h : Heap}
mutual
theorem nk_is (ok : HOk P w H h) : ∀ {d : D} {v : V} {u : Value}, d.noL = true → Pd H v d → RelV v u → NestedIs h (nk d) u
  | .non, _, _, _, .non, r => by cases (show _ = Value.none from r); exact .none
  | .bl b, _, _, _, .bl _, r => by cases (show _ = Value.bool b from r); exact .bool rfl
  | .int i, _, _, _, .int _, r => by obtain ⟨t, rfl⟩ := r; exact .int i t
  | .str x, _, _, _, .str _, r => by obtain ⟨t, rfl⟩ := r; exact .text x t
  | .tup ds, _, _, n, .tup e hs, r => by
    cases r
    obtain ⟨_, its, rv, o, h1, h2, m, h3⟩ := (show ObjOk P w H h _ (.tup _) from ok _ _ e)
    exact .tup h1 h2 h3 (by simpa using nks_are ok (by rw [D.noL] at n; exact n) hs rv)
  | .lst ds, _, _, n, .lst _ _, _ => by rw [D.noL] at n; cases n
theorem nks_are (ok : HOk P w H h) : ∀ {ds : List D} {vs : List V} {us : List Value}, noLs ds = true → Pds H vs ds → Vals vs us → NestedAll h (nks ds) us
  | [], _, _, _, .nil, .nil => .nil
  | d :: ds, _, _, n, .cons p ps, .cons r rs => by
    rw [noLs, Bool.and_eq_true] at n
    exact .cons (nk_is ok n.1 p r) (nks_are ok n.2 ps rs)
end
mutual
theorem nk_dep : ∀ d : D, (nk d).depth ≤ d.dep
  | .non => Nat.le_refl _
  | .bl _ => Nat.le_refl _
  | .int _ => Nat.le_refl _
  | .str _ => Nat.le_refl _
  | .tup ds => by rw [nk, NestedKey.depth, D.dep]; exact Nat.succ_le_succ (nks_dep ds)
  | .lst ds => Nat.zero_le _
theorem nks_dep : ∀ ds : List D, NestedKey.depthAll (nks ds) ≤ deps ds
  | [] => Nat.le_refl _
  | d :: ds => by
    rw [nks, NestedKey.depthAll, deps]
    have := nk_dep d
    have := nks_dep ds
    omega
end
end
/-- an entry: the key, its tuple's address, the value -/
abbrev NEnt : Type := D × Addr × V
abbrev NRel : List NEnt → List (NestedKey × Addr × Value) → Prop := Paired fun p q => q.1 = nk p.1 ∧ q.2.1 = p.2.1 ∧ RelV p.2.2 q.2.2
def DN (P : Program) (w : World) (d : Addr) (es : List NEnt) : HO := .ext fun h => (d == sysModules) = false ∧ es.length ≤ sizeLine ∧ ∃ xs, NRel es xs ∧
  ∃ o ea ep, h.get? d = some o ∧ o.ExactDict ∧ o.data = .dict ea ep ∧ ea.toList = xs.map (entryOfKey (nestedKind P w)) ∧ (xs.map (·.1)).Nodup
/-- the keys' tuples stand -/
def KeysAt (H : Hp) (es : List NEnt) : Prop := ∀ e ∈ es, Pd H (.ref e.2.1) e.1 ∧ e.1.noL = true ∧ e.1.dep ≤ 8
def hasN (es : List NEnt) (k : D) : Bool := es.any fun e => decide (nk e.1 = nk k)
theorem dn_ok {P : Program} {w : World} {H : Hp} {h : Heap} {d : Addr} {es : List NEnt} (x : (d == sysModules) = false ∧ es.length ≤ sizeLine ∧ ∃ xs, NRel es xs ∧
    ∃ o ea ep, h.get? d = some o ∧ o.ExactDict ∧ o.data = .dict ea ep ∧ ea.toList = xs.map (entryOfKey (nestedKind P w)) ∧ (xs.map (·.1)).Nodup) : ObjOk P w H h d (DN P w d es) := by
  refine ⟨x, ?_, fun h1 h2 z k => ?_⟩
  · obtain ⟨_, _, _, _, o, _, _, e, _⟩ := x
    exact ⟨o, e⟩
  · obtain ⟨a, b, xs, r, o, ea, ep, e, c⟩ := z
    exact ⟨a, b, xs, r, o, ea, ep, k _ e, c⟩
theorem dn_raw {P : Program} {w : World} {H : Hp} {h : Heap} {d : Addr} {es : List NEnt} (ok : HOk P w H h) (e : Rd H d (DN P w d es)) : (d == sysModules) = false ∧ es.length ≤ sizeLine ∧ ∃ xs, NRel es xs ∧
    ∃ o ea ep, h.get? d = some o ∧ o.ExactDict ∧ o.data = .dict ea ep ∧ ea.toList = xs.map (entryOfKey (nestedKind P w)) ∧ (xs.map (·.1)).Nodup := by
  have x := e.ok ok
  exact x.1
theorem dn_at {P : Program} {w : World} {H : Hp} {h : Heap} {d : Addr} {es : List NEnt} (ok : HOk P w H h) (e : Rd H d (DN P w d es)) (ka : KeysAt H es) : (d == sysModules) = false ∧ es.length ≤ sizeLine ∧ ∃ xs, NRel es xs ∧ h.DictOfH (nestedKind P w) d xs := by
  obtain ⟨a, b, xs, r, o, ea, ep, e1, e2, e3, e4, e5⟩ := dn_raw ok e
  refine ⟨a, b, xs, r, o, ea, ep, e1, e2, e3, e4, fun x hx => ?_, e5⟩
  have all : ∀ {l : List NEnt} {m : List (NestedKey × Addr × Value)}, NRel l m → KeysAt H l → ∀ x ∈ m, (nestedKind P w).is h x.1 x.2.1 := by
    intro l m q
    induction q with
    | nil => intro _ x hx; exact nomatch hx
    | @cons p q ps qs hq t ih =>
      intro ka x hx
      rcases List.mem_cons.mp hx with e | hx
      · subst e
        obtain ⟨k1, k2, k3⟩ := ka p (by simp)
        rw [hq.1, hq.2.1]
        exact ⟨nk_is ok k2 k1 rfl, Nat.le_trans (nk_dep _) k3⟩
      · exact ih (fun e he => ka e (List.mem_cons_of_mem _ he)) x hx
  exact all r ka x hx
theorem nrel_has : ∀ {es : List NEnt} {xs : List (NestedKey × Addr × Value)} {k : D}, NRel es xs → (atKey xs (nk k)).isSome = hasN es k
  | _, _, k, .nil => rfl
  | _, _, k, .cons (a := p) (b := q) hq t => by
    obtain ⟨p1, p2, p3⟩ := p
    obtain ⟨q1, q2, q3⟩ := q
    obtain ⟨e1, e2, e3⟩ := hq
    dsimp only at e1 e2 e3
    subst e1
    have ih := nrel_has (k := k) t
    unfold hasN at ih ⊢
    unfold atKey at ih ⊢
    rw [List.any_cons, List.find?_cons]
    by_cases h : nk p1 = nk k
    · simp [h]
    · simp only [h, decide_false, Bool.false_or]
      exact ih
theorem KeysAt.same {H H' : Hp} {es : List NEnt} (s : Same H H') (k : KeysAt H es) : KeysAt H' es := fun e he => ⟨(k e he).1.same s, (k e he).2⟩
theorem dn_ne {P : Program} {w : World} {d : Addr} {es : List NEnt} {o : HO} (h : ∀ φ, o ≠ .ext φ) : DN P w d es ≠ o := fun z => h _ z.symm
section
variable {X : Cx} {pins : List (Addr × Obj)} {σ : L2.St} {H : Hp} {s : Shared} {d b : Addr} {es : List NEnt} {k : D} {v : V} {u r : Value} {A : Around} {E : Value → Shared → Prop}
theorem nd_room (hu : A.units + 64 < cLine) : (nestedKind X.prog X.w).room A.in1 := by
  show A.units + 1 + 8 < cLine
  omega
theorem nd_key (I : Inv X pins σ H s) (hk : Pd H (.ref b) k) (n : k.noL = true) (d8 : k.dep ≤ 8) : (nestedKind X.prog X.w).is s.heap (nk k) b := ⟨nk_is I.hok n hk rfl, Nat.le_trans (nk_dep _) d8⟩
theorem nd_notIn {Q : Value → Shared → Prop} (hu : A.units + 64 < cLine) (I : Inv X pins σ H s) (e : Rd H d (DN X.prog X.w d es)) (ka : KeysAt H es) (hk : Pd H (.ref b) k) (n : k.noL = true) (d8 : k.dep ≤ 8)
    (h : ∀ s', Inv X pins σ H s' → Q (.bool (!hasN es k)) s') : wpAny (model X.prog X.w) A (compareOp .NotIn (.ref b) (.ref d)) Q E s := by
  obtain ⟨hd, _, xs, r, dd⟩ := dn_at I.hok e ka
  refine wpAny_notIn_heap (nd_room hu) (nd_key I hk n d8) hd dd ?_
  rw [nrel_has r]
  exact h _ (I.tok _)
theorem nd_set {Q : Unit → Shared → Prop} (hu : A.units + 64 < cLine) (I : Inv X pins σ H s) (e : H d = some (DN X.prog X.w d es)) (ka : KeysAt H es) (hk : Pd H (.ref b) k) (n : k.noL = true) (d8 : k.dep ≤ 8) (hn : hasN es k = false) (hl : es.length < sizeLine)
    (rv : RelV v r) (h : ∀ s', Inv X pins σ (upd H d (DN X.prog X.w d (es ++ [(k, b, v)]))) s' → Q () s') : wpAny (model X.prog X.w) A (setItem (.ref d) (.ref b) r) Q E s := by
  obtain ⟨hd, z, xs, rel, dd⟩ := dn_at I.hok (.inl e) ka
  have hz : xs.length ≤ sizeLine := by rw [← Paired.length rel]; exact z
  have hno : atKey xs (nk k) = none := by
    have := nrel_has (k := k) rel
    rw [hn] at this
    cases h : atKey xs (nk k) with
    | none => rfl
    | some p => rw [h] at this; cases this
  refine wpAny_setItem_heap (hsz := hz) (nd_room hu) (nd_key I hk n d8) dd fun h' dd' hs => h _ ?_
  obtain ⟨q, ea, ep, hq, h2, h3, h4, _, h5⟩ := dd'
  rw [storedH_new hno] at h4 h5
  exact d_write I (by rw [e]; exact True.intro) hs ⟨q, hq⟩ (dn_ok ⟨hd, by rw [List.length_append]; exact hl, _, Paired.snoc rel ⟨rfl, rfl, rv⟩, q, ea, ep, hq, h2, h3, h4, h5⟩)
end
/-- y not in d -/
def tNNot (P : Program) (w : World) (ty td : TE) : TE := fun σ H Q => ty σ H fun y H1 => td σ H1 fun x H2 => ∃ (d b : Addr) (es : List NEnt) (k : D), x = .ref d ∧ y = .ref b ∧ Rd H2 d (DN P w d es) ∧ KeysAt H2 es ∧ Pd H2 (.ref b) k ∧ k.noL = true ∧ k.dep ≤ 8 ∧ Q (.bl (!hasN es k)) H2
/-- d[y] = v, y a new key -/
def sNPut (P : Program) (w : World) (td ty tv : TE) : TS := fun D σ H => tv σ H fun v H1 => td σ H1 fun x H2 => ty σ H2 fun y H3 => ∃ (d b : Addr) (es : List NEnt) (k : Vt.D), x = .ref d ∧ y = .ref b ∧ H3 d = some (DN P w d es) ∧ KeysAt H3 es ∧ Pd H3 (.ref b) k ∧ k.noL = true ∧ k.dep ≤ 8 ∧ hasN es k = false ∧ es.length < sizeLine ∧
  D.nx σ (upd H3 d (DN P w d (es ++ [(k, b, v)])))
def tNNew (P : Program) (w : World) : TE := fun _ H Q => ∀ p, H p = none → Q (.ref p) (upd H p (DN P w p []))
def tNDisp (P : Program) (w : World) (tk tv : TE) : TE := fun σ H Q => ∀ p, H p = none → tk σ (upd H p (DN P w p [])) fun y H1 => tv σ H1 fun v H2 => H2 p = some (DN P w p []) ∧ ∃ (b : Addr) (k : D), y = .ref b ∧ Pd H2 (.ref b) k ∧ k.noL = true ∧ k.dep ≤ 8 ∧ Q (.ref p) (upd H2 p (DN P w p [(k, b, v)]))
/-- d.items(), each a new pair -/
def Itn (P : Program) (w : World) (d : Addr) (o : Obj) (es : List NEnt) : It :=
  ⟨fun i H => H d = some (.frz o (DN P w d es)) ∧ i < es.length, fun i H x H' => ∃ T k b v, es[i]? = some (k, b, v) ∧ x = .ref T ∧ H T = none ∧ H' = upd H T (.tup [.ref b, v]), fun i H => H d = some (.frz o (DN P w d es)) ∧ es.length ≤ i⟩
def iNItems (P : Program) (w : World) (td : TE) : TI := fun σ H R => td σ H fun x H1 => ∃ d o es, x = .ref d ∧ H1 d = some (.frz o (DN P w d es)) ∧ R (Itn P w d o es) H1
theorem nrel_get : ∀ {es : List NEnt} {xs : List (NestedKey × Addr × Value)} {i : Nat} {k : D} {b : Addr} {v : V}, NRel es xs → es[i]? = some (k, b, v) → ∃ u, xs[i]? = some (nk k, b, u) ∧ RelV v u
  | _, _, _, _, _, _, .nil, e => by simp at e
  | _, _, 0, k, b, v, .cons (b := q) hq t, e => by
    simp only [List.getElem?_cons_zero, Option.some.injEq] at e
    subst e
    obtain ⟨q1, q2, q3⟩ := q
    obtain ⟨e1, e2, e3⟩ := hq
    dsimp only at e1 e2 e3
    subst e1 e2
    exact ⟨q3, rfl, e3⟩
  | _, _, i + 1, k, b, v, .cons hq t, e => by
    obtain ⟨u, h1, h2⟩ := nrel_get t (show _ = some (k, b, v) by simpa using e)
    exact ⟨u, by simpa using h1, h2⟩
theorem dn_frz {X : Cx} {pins : List (Addr × Obj)} {σ : L2.St} {H : Hp} {s : Shared} {d : Addr} {o : Obj} {es : List NEnt} (I : Inv X pins σ H s) (h : H d = some (.frz o (DN X.prog X.w d es))) :
    (d == sysModules) = false ∧ s.heap.get? d = some o ∧ o.ExactDict ∧ ∃ (ea : Array DictEntry) (ep : Nat), o.data = .dict ea ep ∧ ea.size = es.length ∧ ∀ (i : Nat) (k : D) (b : Addr) (v : V), es[i]? = some (k, b, v) → ∃ (hi : i < ea.size) (u : Value), ea[i].key = .ref b ∧ ea[i].val = u ∧ RelV v u := by
  obtain ⟨hd, x⟩ := I.hok d _ h
  obtain ⟨⟨hs, z, xs, r, o', ea, ep, ho, hx, hdt, he, hn⟩, _, _⟩ := x
  rw [hd] at ho
  cases ho
  have hz : ea.size = xs.length := size_of_entries he
  have hl : es.length = xs.length := Paired.length r
  refine ⟨hs, hd, hx, ea, ep, hdt, by rw [hz, hl], fun i k b v hk => ?_⟩
  obtain ⟨u, hu, ru⟩ := nrel_get r hk
  have hi : i < ea.size := by rw [hz]; exact (List.getElem?_eq_some_iff.mp hu).1
  have e := entry_at he i
  rw [Array.getElem?_eq_getElem hi, hu, Option.map_some] at e
  have e' := Option.some.inj e
  exact ⟨hi, u, by rw [e']; rfl, by rw [e']; rfl, ru⟩
theorem turn_itn {P : Program} {w : World} {K : PySem.W.Frag} {d : Addr} {o : Obj} {ea : Array DictEntry} {ep : Nat} {es : List NEnt} {elts : List Expr} {kk : Nat} {tpos : Pos} (it : Addr) (hod : o.data = .dict ea ep) :
    Turn P w K (.Tuple elts kk tpos) (Itn P w d o es) [it] it (fun i h => ∃ ok ov, IsItemIter h it d i es.length ep ok ov) where
  mem := by simp
  obj := fun i h st b hb => by
    have e : b = it := by simpa using hb
    subst e
    obtain ⟨ok, ov, e⟩ := st
    exact ⟨_, e, fun v z => nomatch z⟩
  keep := fun i h h' st k => let ⟨ok, ov, e⟩ := st; ⟨ok, ov, k it (by simp) _ e⟩
  item := by
    intro X hP hw hK hc i pins s σ H E I hf st hg
    subst hP hw hK
    obtain ⟨hd, hi⟩ := hg
    obtain ⟨hs, hgd, hx, ea', ep', hdt, hsz, hent⟩ := dn_frz I hd
    obtain ⟨rfl, rfl⟩ := dict_ep hod hdt
    obtain ⟨⟨k, b, v⟩, hkv⟩ : ∃ p, es[i]? = some p := ⟨es[i], List.getElem?_eq_getElem hi⟩
    obtain ⟨hia, u, hu1, hu2, ru⟩ := hent i k b v hkv
    obtain ⟨ok, ov, he⟩ := st
    rw [← hsz] at he
    have hlt : it < s.heap.objs.size := Heap.lt_size he
    refine wpAny_pyNext_items_item_raw he ⟨o, hgd, hx, hdt⟩ hia fun h' ho hT hz hk => ?_
    rw [hu1, hu2] at ho hT
    refine ⟨_, rfl, wpAny_letOwnedTupleGo_items (s := { s with heap := h' }) ho fun h'' he' sb => ?_⟩
    have hT2 := (sb.2 _ (Nat.ne_of_gt hlt)).trans hT
    have new : ObjOk X.prog X.w (upd H s.heap.objs.size (.tup [.ref b, v])) h'' s.heap.objs.size (.tup [.ref b, v]) :=
      ⟨by show 2 ≤ sizeLine; decide, [.ref b, u], .cons rfl (.cons ru .nil), ⟨_, hT2, rfl, _, rfl⟩⟩
    have I1 : Inv X pins σ (upd H s.heap.objs.size (.tup [.ref b, v])) { s with heap := h'' } :=
      I.turnedNew (t' := s.toks) (ch := [it]) (fun b ob hb e => (sb.2 b (by simpa using hb)).trans (hk b ob (by simpa using hb) e)) hf (Nat.le_refl _) new
    refine ⟨.ref s.heap.objs.size, _, I1, rfl, ⟨_, k, b, v, hkv, rfl, I.hok.fresh (Nat.le_refl _), rfl⟩, ⟨.ref b, u, ?_⟩, fun b hb => ?_⟩
    · rw [← hsz]; exact he'
    · have e : b = it := by simpa using hb
      rw [e, upd_ne (Nat.ne_of_lt hlt)]
      exact (hf it (by simp)).1
  done := by
    intro X hP hw hK hc i pins s σ H E I hf st hg
    subst hP hw hK
    obtain ⟨hd, hi⟩ := hg
    obtain ⟨f0, f1, f2, f3, f4, f5⟩ := hf it (by simp)
    obtain ⟨hs, hgd, hx, ea', ep', hdt, hsz, hent⟩ := dn_frz I hd
    obtain ⟨rfl, rfl⟩ := dict_ep hod hdt
    obtain ⟨ok, ov, he⟩ := st
    rw [← hsz] at he
    exact wpAny_pyNext_items_end_raw (I.ok.hd hc) he ⟨o, hgd, hx, hdt⟩ (by omega) fun h' eb => ⟨rfl, I.turned (t' := s.toks) (fun b ob hb e => eb b ob hb e) f0 f1 f3 f4 f5⟩
  self := fun A i s Q E st h => let ⟨_, _, e⟩ := st; PySem.W.kcp_self e h
theorem dn_empty {P : Program} {w : World} {H : Hp} (h : Heap) (hb : sysModules < h.objs.size) : ObjOk P w H (h.push { cls := .type "dict", data := .dict #[] }) h.objs.size (DN P w h.objs.size []) :=
  dn_ok ⟨beq_eq_false_iff_ne.mpr (Ne.symm (Nat.ne_of_lt hb)), Nat.zero_le _, [], .nil, _, #[], 0, Heap.get?_push_size _ rfl, ⟨rfl, rfl, rfl⟩, rfl, rfl, List.nodup_nil⟩
theorem ndisp_pairs {prog : Program} {w : World} {K : Type} [DecidableEq K] {knd : HeapKind prog w K} {A : Around} {E : Value → Shared → Prop} {s : Shared} {env : Env} {keys : List (Option Expr)} {values : List Expr} {pos : Pos} {pairs : List (Sem Value × Sem Value)} {Q : Value → Shared → Prop} (hu : knd.room A)
    (hshape : (evalEachOpt keys env).zip ((evalEach values env).map fun v => do let x ← v; standAt pos; pure x) = pairs.map fun p => (some p.1, p.2)) (h0 : pairs ≠ []) (hlen : pairs.length ≤ 15)
    (h : wpAny (model prog w) A (evalPairs pairs) (fun vs s₁ => ∃ ps, CarriesH knd s₁.heap vs ps ∧ s₁.heap.DictOfH knd s.heap.objs.size [] ∧
      ∀ h' tk, h'.DictOfH knd s.heap.objs.size (storedAllH [] ps) → Heap.SameBut s.heap.objs.size s₁.heap h' → Q (.ref s.heap.objs.size) { s₁ with heap := h', toks := tk }) E
      { s with heap := s.heap.push { cls := .type "dict", data := .dict #[] } }) :
    wpAny (model prog w) A (eval (.Dict keys values pos) env) Q E s := by
  rw [arm_eval_Dict, hshape, dictDisplay_pairs pairs h0 (by omega)]
  exact wpAny_bind (wpAny_standAt (wpAny_bind (wpAny_subDictH (knd := knd) (Q := fun d s' => wpAny (model prog w) A (pure (Value.ref d)) Q E s') hu hlen
    (wpAny_mono h (fun vs s₁ h₁ => by obtain ⟨ps, hc, hm, hq⟩ := h₁; exact ⟨ps, hc, hm, fun h' tk a b => wpAny_pure (hq h' tk a b)⟩) fun _ _ e => e))))
section
variable {X : Cx} {o i e value k1 v1 : Expr} {pos pos' apos cpos : Pos} {td ty tv tk : TE}
theorem pc_nnot (hu : X.A.units + 64 < cLine) (hi : PE X i ty) (ho : PE X o td) : PC X .NotIn i o (tNNot X.prog X.w ty td) := by
  refine ⟨fun pins s σ H Q I h => ?_⟩
  refine thn (hi.run pins s σ H _ I h) fun iv s1 ⟨y, H1, I1, ry, q1⟩ => thn (ho.run pins s1 σ H1 _ I1 q1) fun u s2 ⟨x, H2, I2, rx, d, b, es, k, ex, ey, g, ka, hk, n, d8, q2⟩ => ?_
  subst ex ey
  obtain rfl : u = Value.ref d := rx
  obtain rfl : iv = Value.ref b := ry
  exact nd_notIn hu I2 g ka hk n d8 fun s3 I3 => ⟨.bl (!hasN es k), H2, I3, rfl, q2⟩
theorem ps_nput (hu : X.A.units + 64 < cLine) (ho : PE X o td) (hi : PE X i ty) (hv : PE X value tv) (hs : swapsWith value (some (.Subscript o i pos')) pos.line X.env = pure false) :
    PS X (.Assign [.Subscript o i pos'] value pos) (sNPut X.prog X.w td ty tv) := by
  refine ⟨fun pins s σ H D I h => ?_⟩
  refine wpAny_Assign_Subscript (thn (hv.run pins s σ H _ I h) fun r s1 ⟨v, H1, I1, rv, q1⟩ => thn (ho.run pins s1 σ H1 _ I1 q1) fun u s2 ⟨x, H2, I2, rx, q2⟩ => thn (hi.run pins s2 σ H2 _ I2 q2) fun iv s3 ⟨y, H3, I3, ry, d, b, es, k, ex, ey, g, ka, hk, n, d8, hn, hl, q3⟩ => ?_) hs
  subst ex ey
  obtain rfl : u = Value.ref d := rx
  obtain rfl : iv = Value.ref b := ry
  exact nd_set hu I3 g ka hk n d8 hn hl rv fun s4 I4 => ⟨σ, _, I4, q3⟩
theorem pe_nnew : PE X (.Dict [] [] pos) (tNNew X.prog X.w) := ⟨fun pins s σ H Q I h =>
  wpAny_Dict_empty ⟨.ref s.heap.objs.size, _, I.laid (a := s.heap.objs.size) (o := DN X.prog X.w s.heap.objs.size []) (t' := s.toks) (fun _ _ q => Heap.get?_push_of_some _ q) (Nat.le_refl _) (dn_empty s.heap I.big), rfl, h _ (I.hok.fresh (Nat.le_refl _))⟩⟩
theorem pe_ndisp (hu : X.A.units + 64 < cLine) (hk : PE X k1 tk) (hv : PE X v1 tv) : PE X (.Dict [some k1] [v1] pos) (tNDisp X.prog X.w tk tv) := by
  refine ⟨fun pins s σ H Q I q => ?_⟩
  have hn := I.hok.fresh (Nat.le_refl s.heap.objs.size)
  have I1 := I.laid (a := s.heap.objs.size) (o := DN X.prog X.w s.heap.objs.size []) (h' := s.heap.push { cls := .type "dict", data := .dict #[] }) (t' := s.toks) (fun _ _ q => Heap.get?_push_of_some _ q) (Nat.le_refl _) (dn_empty s.heap I.big)
  have pp : PPs X pos [some k1] [v1] [(tk, tv)] := pps_cons hk hv pps_nil
  refine ndisp_pairs (knd := nestedKind X.prog X.w) (pairs := pairTrees [some k1] [v1] X.env pos) (show X.A.units + 8 < cLine by omega) (zip_pairTrees [some k1] [v1] X.env pos rfl rfl) (by simp [pairTrees]) (by simp [pairTrees])
    (thn (pp.run pins _ σ _ (fun ps H2 => match ps with
      | [(y, v)] => H2 s.heap.objs.size = some (DN X.prog X.w s.heap.objs.size []) ∧ ∃ (b : Addr) (k : D), y = .ref b ∧ Pd H2 (.ref b) k ∧ k.noL = true ∧ k.dep ≤ 8 ∧ Q (.ref s.heap.objs.size) (upd H2 s.heap.objs.size (DN X.prog X.w s.heap.objs.size [(k, b, v)]))
      | _ => False) I1 (q _ hn)) fun ws s2 ⟨ps, H2, I2, rel, q2⟩ => ?_)
  match ps, q2 with
  | [(y, v)], ⟨e, b, k, ey, hk2, n, d8, q2⟩ =>
    subst ey
    cases rel with
    | @cons _ p _ ws' hp t =>
      cases t
      obtain ⟨p1, p2⟩ := p
      obtain ⟨r1, r2⟩ := hp
      cases (show p1 = Value.ref b from r1)
      obtain ⟨hd, z, xs, rl, dd⟩ := dn_at I2.hok (.inl e) (fun e he => by cases he)
      cases rl
      refine ⟨[(nk k, b, p2)], ⟨rfl, rfl, nd_key I2 hk2 n d8, True.intro⟩, dd, fun h' tk' dd' hs => ⟨.ref s.heap.objs.size, _, ?_, rfl, q2⟩⟩
      obtain ⟨q, ea, ep, hq, h2, h3, h4, h6, h5⟩ := dd'
      exact d_write I2 (by rw [e]; exact True.intro) hs ⟨q, hq⟩ (dn_ok ⟨hd, by show 1 ≤ sizeLine; decide, [(nk k, b, p2)], .cons ⟨rfl, rfl, r2⟩ .nil, q, ea, ep, hq, h2, h3, h4, h5⟩)
theorem pi_nitems {elts : List Expr} {kk : Nat} {tpos : Pos} (he : PE X e td) (hbase : attributeBase e "items" X.env (eval e X.env) = eval e X.env := by rfl) (hline : (apos.endLine == cpos.line) = true := by rfl) :
    PI X (.Tuple elts kk tpos) (.Call (.Attribute e "items" apos) [] [] cpos) (iNItems X.prog X.w td) := by
  refine ⟨fun pins s σ H R I h => ?_⟩
  refine wpAny_Call_method (T := "dict") (id := "dict.items") hbase rfl hline F.plainAttrs_dict F.slot_dict_items F.type_dict_items (thn (he.run pins s σ H _ I h) fun u s1 ⟨x, H1, I1, rx, d, o, es, ex, hd, q⟩ => ?_)
  subst ex
  obtain rfl : u = Value.ref d := rx
  obtain ⟨hs, hgd, hx, ea, ep, hdt, hsz, hent⟩ := dn_frz I1 hd
  have raw : s1.heap.DictRaw d ea ep := ⟨o, hgd, hx, hdt⟩
  refine ⟨raw.typeIs, fun b z => by cases z; exact ⟨o, hgd, hx.2.1⟩, ?_⟩
  have I2 : Inv X pins σ H1 { s1 with heap := s1.heap.push { cls := .type "dict_items", data := .fields #[.ref d] } } := I1.kept (t' := s1.toks) fun b ob q => Heap.get?_push_of_some _ q
  have fin : wpAny (model X.prog X.w) X.A (pyIter (.ref s1.heap.objs.size)) (PIE X pins σ (.Tuple elts kk tpos) R) X.xe { s1 with heap := s1.heap.push { cls := .type "dict_items", data := .fields #[.ref d] } } := by
    refine wpAny_pyIter_items_raw (d := d) ⟨_, Heap.get?_push_size _ rfl, rfl, rfl⟩ (raw.at fun ob q => Heap.get?_push_of_some _ q) (pi_one (tk := s1.toks) I2 _ (turn_itn _ hdt) ⟨.none, .none, ?_⟩ q)
    rw [hsz]
    exact Heap.get?_push_size _ rfl
  show wpAny _ _ (callWith cpos (.builtin "dict.items") [.ref d] [] []) _ X.xe s1
  exact method_meetsIn F.slot_dict_items F.entry_dict_items rfl (PySem.evalArgs_none ⟨rfl, raw.typeIs, F.args_dict_items_1 _, _, meets_dict_items_raw d hs, ⟨⟨ea, ep, raw⟩, fin⟩⟩)
theorem walk_nitems {P : Program} {w : World} {d : Addr} {ob : Obj} {es : List NEnt} : Walk (Itn P w d ob es) es.length (fun H => H d = some (.frz ob (DN P w d es))) (fun i H x H' => ∃ T k b v, es[i]? = some (k, b, v) ∧ x = .ref T ∧ H T = none ∧ H' = upd H T (.tup [.ref b, v])) :=
  ⟨fun i H hi h => ⟨h, hi⟩, fun H h => ⟨h, Nat.le_refl _⟩, fun i H x H' hi h y => y⟩
end
end Vt
namespace Vt
open PySem PySem.Spec PyProof.Rows L2
/-! ### a def of a class that says super().m(..) first: its frame -/
abbrev nfS (name qual : Str) (st : Stmt) (cda cc : Addr) : NdefX.NF := ⟨name, qual, defArgs st, defBody st, defScope st, [("__class__", cc)], cda⟩
theorem cells_S {K : PySem.W.Frag} {h base : Heap} {H : Hp} {cc D : Addr} {cl : Value} {cld : Option Addr} {csl : Array (Option Value)} (X : K.In base) (bs : ∀ b o, base.get? b = some o → h.get? b = some o ∧ H b = none) (hcell : K.lookup cc = some ⟨cl, cld, .cell (some (.ref D)), csl⟩) :
    NdefX.CellsAt [("__class__", cc)] ["__class__"] [none] h H := by
  obtain ⟨e1, e2⟩ := bs cc _ (X _ _ hcell)
  have one : ∀ y c, [(("__class__" : Str), cc)].lookup y = some c → y = "__class__" ∧ c = cc := fun y c z => by
    have z' := PySem.mem_of_lookup z
    rw [List.mem_singleton] at z'
    injection z' with a b
    exact ⟨a, b⟩
  refine ⟨rfl, fun y c z => ?_, fun x y c z1 z2 => ?_, fun i y z => ?_⟩
  · obtain ⟨_, rfl⟩ := one y c z
    exact ⟨e2, some (.ref D), ⟨_, e1, rfl⟩⟩
  · rw [(one x c z1).1, (one y c z2).1]
  · cases i with
    | zero =>
      simp only [List.getElem?_cons_zero, Option.some.injEq] at z
      subst z
      exact ⟨cc, rfl, fun v q => by cases q⟩
    | succ i => simp at z
/-- what the text must be, so that super() is the built-in one, asked in this module -/
structure SupOk (P : Program) (K : PySem.W.Frag) (mg : Str → Option Value) (sc : Scope) (cda : Addr) : Prop where
  code : ∃ ccl cdd vs ccs file tf, K.lookup cda = some ⟨ccl, cdd, .fields vs, ccs⟩ ∧ vs[2]? = some (.str file tf) ∧ ((P.main.file : Str) == file) = true
  top : (P.main.scope.names.lookup ("super" : Str)).isSome = false
  none_ : mg "super" = none
  ks : sc.names.lookup ("super" : Str) = some .globalImplicit
  kc : sc.names.lookup ("__class__" : Str) = some .free
  any : PySem.W.nsIn K cStatics "thirdparty.any" = some none
section
variable {CX : CXT} {P : Program} {w : World} {K : PySem.W.Frag} {mg : Str → Option Value} {base : Heap} {N ps : List Str} {f cda cc D C x : Addr} {name qual : Str} {st : Stmt} {A : Around} {outer : List Env} {s0 s : Shared} {H0 H : Hp} {E : XK} {pins : List (Addr × Obj)} {σ : L2.St}
  {cl oc : Value} {cld od : Option Addr} {csl osl : Array (Option Value)} {fd : FuncData} {ar : Arg} {cdD : ClassData} {ox : Obj} {odx : Option Obj}
/-- super(): the object that asks the classes behind D -/
theorem super_at {body : List Stmt} {p0 p1 : Pos} {attr : Str} {whole : Sem Value} {Q : Value → Shared → Prop} (S : SupOk P K mg (defScope st) cda) (lf : K.lookup f = some ⟨oc, od, .func fd, osl⟩) (hp : (fd.params.posonlyargs ++ fd.params.args).head? = some ar) (hka : (defScope st).names.lookup ar.arg = some .local) (hk : (defScope st).kind = .function)
    (hcell : K.lookup cc = some ⟨cl, cld, .cell (some (.ref D)), csl⟩) (hD : PySem.W.clsIn K D = some cdD) (hsub : PySem.W.mroIn K C (.ref D) = some true) (hat : (attr == ("__class__" : Str)) = false)
    (I : Inv (NdefX.ncx CX P w K mg base N (nfS name qual st cda cc) f A outer s0 H0 E) pins σ H s) (hN : N[0]? = some ar.arg) (hσ : σ[0]? = some (some (.ref x))) (J : PySem.W.InstAt s.heap x ox C odx)
    (h : ∀ so s', Inv (NdefX.ncx CX P w K mg base N (nfS name qual st cda cc) f A outer s0 H0 E) ((so, PySem.W.ks_superObj D x C) :: pins) σ H s' → (∀ b o, s.heap.get? b = some o → s'.heap.get? b = some o) → Q (.ref so) s') :
    PySem.wpAt (model P w) (NdefX.ncx CX P w K mg base N (nfS name qual st cda cc) f A outer s0 H0 E).A (.func body (NdefX.ncx CX P w K mg base N (nfS name qual st cda cc) f A outer s0 H0 E).env)
      (attributeBase (.Call (.Name "super" p0) [] [] p1) attr (NdefX.ncx CX P w K mg base N (nfS name qual st cda cc) f A outer s0 H0 E).env whole) Q (NdefX.ncx CX P w K mg base N (nfS name qual st cda cc) f A outer s0 H0 E).xe s := by
  have X := I.kIn
  obtain ⟨ccl, cdd, vs, ccs, file, tf, hcode, hvs, hfile⟩ := S.code
  obtain ⟨m, hn, hl⟩ := I.loc
  obtain ⟨u, ru, lk⟩ := hl 0 ar.arg (.ref x) hN hσ (.inl hka)
  obtain rfl : u = Value.ref x := ru
  have hv : m ar.arg = some (.ref x) := by
    rcases lk with ⟨_, z⟩ | ⟨z, _⟩
    · exact z
    · have z' : (defScope st).names.lookup ar.arg = some .cell ∨ (defScope st).names.lookup ar.arg = some .free := z
      rw [hka] at z'
      rcases z' with z' | z' <;> cases z'
  obtain ⟨oD, hD1, hD2⟩ : ∃ oD, s.heap.get? D = some oD ∧ oD.data = .cls cdD := by
    unfold PySem.W.clsIn at hD
    split at hD
    · rename_i c d cd' sl ho
      cases hD
      exact ⟨_, X _ _ ho, rfl⟩
    · cases hD
  obtain ⟨mb, hb1, hb2⟩ := I.mod.blt
  refine ks_wpAt_super_base (env := (NdefX.ncx CX P w K mg base N (nfS name qual st cda cc) f A outer s0 H0 E).env) S.ks S.kc hat rfl (X _ _ lf) rfl hp rfl (X _ _ hcode) rfl hvs hfile S.top ?_
  refine PySem.W.ks_loadName_global hk S.ks (Calls.loadGlobal_builtin (by exact I.mod.glob.keeps I.bk) S.none_ (by exact hb1.keeps I.bk) ((hb2 _ (by decide +kernel)).trans (by first | exact PySem.W.boot_super | kernel_rfl)) ⟨rfl, ?_⟩)
  refine wpAny_loadName_free hk S.kc rfl ⟨_, X _ _ hcell, rfl⟩ ?_
  refine wpAny_loadName_local hk hka hn hv ?_
  refine ks_wpAny_isType_cls hD1 hD2 ⟨rfl, ?_⟩
  obtain ⟨hp', g, d, t, os⟩ := s
  refine ks_wpAny_call_super hD1 hD2 J.at_ J.cls (fun c e => ?_) (PySem.W.looks_mroIn X hsub) (fun h' e k => ?_)
  · have := J.no
    unfold PySem.W.notCls at this
    rw [e] at this
    exact Bool.noConfusion this
  · exact h _ _ (ClX.pin_new (t' := t) I k (Nat.le_refl _) e (fun v z => nomatch z)) k
/-- what a class must be, so that super().m finds the def at f2 behind D -/
structure SupM (K : PySem.W.Frag) (C D : Addr) (m : Str) (f2 : Addr) : Prop where
  sub : PySem.W.mroIn K C (.ref D) = some true
  at_ : PySem.W.ks_superIn K C D m = some (some (.ref f2))
  ty : PySem.W.typeIn K (.ref f2) = some (.type "function")
  fn : PySem.W.fnIn K f2 = true
abbrev startS (N : List Str) (vs : List V) : L2.St := NdefX.startF N vs [none]
/-- a def of a class whose first statement is super().m(..), m a def of a class behind -/
theorem fnS_own {k k2 f2 : Nat} {sp sp2 : Sp} {fd2 : FuncData} {ps2 : List Str} {dV kV doc pm ct : Value} {an : Option Addr} {m : Str} {p0 p1 apos pos epos : Pos} {e : Expr} {es : List Expr} {rest : List Stmt}
    (lk : K.lookup f = some ⟨oc, od, .func (PySem.W.fnX name qual (defArgs st) (defBody st) (defScope st) [("__class__", cc)] dV kV doc pm an (.ref cda) ct), osl⟩) (hcd : PySem.W.codeIn K (.ref cda) qual = true) (hbd : defBody st = .Expr (.Call (.Attribute (.Call (.Name "super" p0) [] [] p1) m apos) (e :: es) [] pos) epos :: rest)
    (S : NdefX.NScope N ps ["__class__"] (defScope st)) (SO : SupOk P K mg (defScope st) cda) (hp : ((defArgs st).posonlyargs ++ (defArgs st).args).head? = some ar) (hN : N[0]? = some ar.arg) (h0 : ps[0]? = some ar.arg)
    (hcell : K.lookup cc = some ⟨cl, cld, .cell (some (.ref D)), csl⟩) (hD : PySem.W.clsIn K D = some cdD) (hm1 : (m == ("__class__" : Str)) = false)
    (F2 : FnOk P w K mg base CX0 k2 f2 fd2 ps2 sp2) (b2 : Binds K fd2 ps2 []) (hk2 : k2 ≤ k)
    (len : ∀ vs H Q E, sp vs H Q E → vs.length = ps.length)
    (hst : ∀ env, starEach (e :: es) env = (false, eval e env) :: starEach es env) (hpl : ∀ env, (backTo pos (starEach es env)).any (·.1) = false)
    (hev : ∀ env, ∃ pl : Sem Bool, eval (.Call (.Attribute (.Call (.Name "super" p0) [] [] p1) m apos) (e :: es) [] pos) env = (do
      let ov ← attributeBase (.Call (.Name "super" p0) [] [] p1) m env (eval (.Call (.Name "super" p0) [] [] p1) env)
      standAt apos.atName
      let (f, first) ← holding [ov] (getMethod ov m pl)
      callWith pos f first (backTo pos (starEach (e :: es) env)) []))
    (hsw : ∀ env, swapsWith (.Call (.Attribute (.Call (.Name "super" p0) [] [] p1) m apos) (e :: es) [] pos) none epos.line env = pure false)
    (hbody : ∀ (A : Around) (outer : List Env) (s : Shared) (H : Hp) (vs : List V) (Q : VK) (E : XK), Room k (A.deeper (NdefX.envF (nfS name qual st cda cc) f s.heap.objs.size)) → sp vs H Q E →
      ∃ (ta : TA) (t : TS), L2.PA (NdefX.ncx CX0 P w K mg base N (nfS name qual st cda cc) f A outer s H E) (e :: es) ta ∧ PSs (NdefX.ncx CX0 P w K mg base N (nfS name qual st cda cc) f A outer s H E) rest t ∧
        ∃ (x C dx : Addr) (fs : List (Str × V)), (startS N vs)[0]? = some (some (.ref x)) ∧ H x = some (.ins C dx fs) ∧ SupM K C D m f2 ∧
          ta (startS N vs) H fun ws H1 => sp2 (.ref x :: ws) H1 (fun _ H2 => t { nx := fun _ H' => Q .non H', rt := Q } (startS N vs) H2) E0) :
    FnOk P w K mg base CX0 (k + 1) f (PySem.W.fnX name qual (defArgs st) (defBody st) (defScope st) [("__class__", cc)] dV kV doc pm an (.ref cda) ct) ps sp := by
  refine ⟨len, fun A outer s H args us vs Q E hr e0 hb r hsp => ?_⟩
  have hl := len _ _ _ _ hsp
  have KX : K.In s.heap := e0.mod.kin.keeps fun b o e => (e0.bs b o e).1
  have lim : s.heap.NoLimit := e0.mod.nolimit.keeps fun b o e => (e0.bs b o e).1
  obtain ⟨ta, t, hpa, hps, x, C, dx, fs, hx0, hxi, sm, rd⟩ := hbody A outer s H vs Q E (hr.deeper _) hsp
  refine ks_codeAny_call_defAt (fd := PySem.W.fnX name qual (defArgs st) (defBody st) (defScope st) [("__class__", cc)] dV kV doc pm an (.ref cda) ct) (body := defBody st) (binds := ps.zip us) hr.depth (KX _ _ lk) rfl lim (PySem.W.codeRec_of KX hcd) rfl hb S.nocell
    (fun y hy => S.par y.1 (List.of_mem_zip hy).1) (fun h₁ hns hk => ?_) S.co S.gen S.kind
  have I := NdefX.inv_startN (CX := CX0) (E := E) (F := nfS name qual st cda cc) (f := f) (tk := s.toks + (ps.zip us).length) S hr.hd e0 hl r (cells_S e0.mod.kin e0.bs hcell) hns hk
  have hr' : Room k (A.deeper (NdefX.envF (nfS name qual st cda cc) f s.heap.objs.size)) := hr.deeper _
  have fin : ∀ (fl : Flow) (s' : Shared), SP (NdefX.ncx CX0 P w K mg base N (nfS name qual st cda cc) f A outer s H E) [] { nx := fun _ H' => Q .non H', rt := Q } fl s' → CR CX0 outer P w H s Q E (.ok (.ret (match fl with | .ret v => v | _ => .none))) s' := fun fl s' hs => by
    have fin0 : ∀ {σ' : L2.St} {H' : Hp} {v : V} {u : Value}, Inv (NdefX.ncx CX0 P w K mg base N (nfS name qual st cda cc) f A outer s H E) [] σ' H' s' → RelV v u → Q v H' → CE outer P w H s Q u s' :=
      fun {σ' H' v u} J rv q => ⟨v, H', J.os, J.bare, J.base, J.hok, rv, q⟩
    cases fl with
    | ret u =>
      obtain ⟨v, σ', H', J, rv, q⟩ := hs
      exact fin0 J rv q
    | next =>
      obtain ⟨σ', H', J, q⟩ := hs
      exact fin0 (v := V.non) (u := Value.none) J rfl q
    | brk =>
      obtain ⟨_, _, _, q⟩ := hs
      exact False.elim q
    | cont =>
      obtain ⟨_, _, _, q⟩ := hs
      exact False.elim q
  obtain ⟨pl, hev'⟩ := hev (NdefX.ncx CX0 P w K mg base N (nfS name qual st cda cc) f A outer s H E).env
  have go : PySem.wpAt (model P w) (NdefX.ncx CX0 P w K mg base N (nfS name qual st cda cc) f A outer s H E).A (.func (defBody st) (NdefX.ncx CX0 P w K mg base N (nfS name qual st cda cc) f A outer s H E).env)
      (execs (defBody st) (NdefX.ncx CX0 P w K mg base N (nfS name qual st cda cc) f A outer s H E).env) (SP (NdefX.ncx CX0 P w K mg base N (nfS name qual st cda cc) f A outer s H E) [] { nx := fun _ H' => Q .non H', rt := Q }) (NdefX.ncx CX0 P w K mg base N (nfS name qual st cda cc) f A outer s H E).xe { s with heap := h₁, toks := s.toks + (ps.zip us).length } := by
    rw [hbd]
    refine ks_wpAt_execs_cons (ks_wpAt_Expr_any (ks_wpAt_MethodCall ?_ hev') (by show ((defScope st).kind == .module && _) = false; rw [S.kind]; rfl) (hsw _))
    obtain ⟨hdx, hz, ndx, hgx, mA, hnsx, rlx, _⟩ := (show ObjOk P w H h₁ x (.ins C dx fs) from I.hok x _ hxi)
    obtain ⟨odx, hodx, _⟩ := lookIn_ns hnsx
    have J : PySem.W.InstAt h₁ x (PySem.W.instObj C dx) C (some odx) := ⟨hgx, rfl, rfl, hodx⟩
    refine super_at SO lk hp (S.par _ (List.mem_of_getElem? h0)) S.kind hcell hD sm.sub hm1 I hN hx0 J fun so s1 I1 k1 => ?_
    have X1 := I1.kIn
    have hso := ClX.pin_at I1
    have J1 := J.at_
    cases hc : PySem.W.clsIn K C with
    | none =>
      have z := sm.at_
      unfold PySem.W.ks_superIn at z
      rw [hc] at z; cases z
    | some cd =>
      have z := sm.at_
      unfold PySem.W.ks_superIn at z
      rw [hc] at z
      obtain ⟨of, hof, hofc⟩ : ∃ of, s1.heap.get? f2 = some of ∧ of.cls = .type "function" := by
        have ht' : (K.lookup f2).map (·.cls) = some (.type "function") := sm.ty
        cases q : K.lookup f2 with
        | none => rw [q] at ht'; cases ht'
        | some of => rw [q] at ht'; exact ⟨of, X1 _ _ q, Option.some.inj ht'⟩
      obtain ⟨hp1, g1, d1, t1, os1⟩ := s1
      refine ks_wpAny_getMethod_super hso (PySem.W.looks_opaque X1 SO.any) (l₀ := cd.mro) ?_ rfl X1 z hof hofc (PySem.W.ks_ne I.kIn J hc) hm1 ?_
      · exact fun A Q E s k q => wpAny_bind ((PySem.W.looks_clsIn X1 hc) A _ E s k (wpAny_pure q))
      · have I2 := ClX.met_new (g := f2) (C := x) I1
        refine ClX.callwith_cm I2 (ClX.base_none I1 (Nat.le_refl _)) sm.fn ?_ (hst _) (hpl _)
        refine thn (hpa.run pos _ _ _ _ _ I2 rd) fun ws s3 ⟨vs2, H1, I3, r3, q3⟩ => ⟨⟨ClX.pin_at I3, I3.kIn⟩, ?_⟩
        have r4 : Vals (.ref x :: vs2) (.ref x :: ws) := .cons rfl r3
        have hl2 : (Value.ref x :: ws).length = ps2.length := by rw [← r4.length]; exact F2.len _ _ _ _ q3
        refine wpAny_call (PySem.W.method_call (ClX.pin_at I3) (codeAny_mono (F2.run _ _ s3 H1 ⟨.ref x :: ws, []⟩ (.ref x :: ws) (.ref x :: vs2) _ _ (hr'.mono hk2) I3.env0 (by
          have := b2 s3 (.ref x :: ws) I3.kIn (by rw [List.append_nil]; exact hl2)
          rw [List.append_nil] at this; exact this) r4 q3) fun r s' hq => ?_))
        cases r with
        | error e => exact (show False from hq).elim
        | ok fl =>
          cases fl with
          | ret u =>
            obtain ⟨v, H', J', _, q⟩ := ClX.unpinE (ClX.unpinE (I3.after hq))
            exact wpAt_of_wpAny (hps.run [] s' _ H' _ J' q)
          | next => exact False.elim hq
          | brk => exact False.elim hq
          | cont => exact False.elim hq
  exact ks_wpAt_mono go (fun fl s' hl => fin fl s' hl) fun _ _ y => y
end
end Vt
namespace Vt
open PySem PySem.Spec PyProof.Rows L2 L2H
/-- a def called while one exception is handled: as FnH, for that one alone -/
structure FnP (P : Program) (w : World) (K : PySem.W.Frag) (mg : Str → Option Value) (base : Heap) (k : Nat) (f : Addr) (fd : FuncData) (ps : List Str) (p : Addr × Obj) (sp : Sp) : Prop where
  len : ∀ (vs : List V) (H : Hp) (Q : VK) (E : XK), sp vs H Q E → vs.length = ps.length
  run : ∀ (A : Around) (outer : List Env) (s : Shared) (H : Hp) (args : Args) (us : List Value) (vs : List V) (Q : VK) (E : XK), RoomH k A → Hot1 A p → PinOk outer H s p → Env0 P w K mg base A outer s H → BindsTo s fd args (ps.zip us) → Vals vs us → sp vs H Q E →
    codeAny (model P w) A (Code.call (Value.ref f) args) (CR CX0 outer P w H s Q E) s
theorem fn_ofP {P : Program} {w : World} {K : PySem.W.Frag} {mg : Str → Option Value} {base : Heap} {k : Nat} {f : Addr} {name qual : Str} {params : Arguments} {body : List Stmt} {scope : PySem.Scope} {dV kV doc pm cdv ct oc : Value} {an od : Option Addr} {osl : Array (Option Value)} {N ps : List Str} {sp : Sp} {p : Addr × Obj}
    (lk : K.lookup f = some ⟨oc, od, .func (PySem.W.fnOf name qual params body scope dV kV doc pm an cdv ct), osl⟩) (hcd : PySem.W.codeIn K cdv qual = true) (S : FnScope N ps scope) (len : ∀ (vs : List V) (H : Hp) (Q : VK) (E : XK), sp vs H Q E → vs.length = ps.length)
    (hbody : ∀ (A : Around) (outer : List Env) (s : Shared) (H : Hp) (vs : List V) (Q : VK) (E : XK), Hot1 A p → RoomH k (A.deeper (envOfC qual scope s.heap.objs.size f cdv)) → sp vs H Q E →
      ∃ t, PSs (cxH CX0 P w K mg base N qual scope f cdv A outer s H E p) body t ∧ t { nx := fun _ H' => Q .non H', rt := Q } (L2.start N vs) H) :
    FnP P w K mg base (k + 1) f (PySem.W.fnOf name qual params body scope dV kV doc pm an cdv ct) ps p sp := by
  refine ⟨len, fun A outer s H args us vs Q E hr hot pk e0 hb r hsp => ?_⟩
  have hl := len _ _ _ _ hsp
  have KX : K.In s.heap := e0.mod.kin.keeps fun b o e => (e0.bs b o e).1
  have lim : s.heap.NoLimit := e0.mod.nolimit.keeps fun b o e => (e0.bs b o e).1
  obtain ⟨t, hps, ht⟩ := hbody A outer s H vs Q E hot (hr.deeper _) hsp
  refine Att.call_fn KX lim lk hcd hr.depth hb (List.all_eq_true.mpr fun y hy => ?_) (fun s1 inc => ?_) S.co S.gen S.kind
  · rcases S.par y.1 (List.of_mem_zip hy).1 with h | h <;> rw [h] <;> rfl
  · have I := inv_startH (CX := CX0) (E := E) S pk e0 hl r inc
    have fin0 : ∀ {σ' : L2.St} {H' : Hp} {v : V} {u : Value} {s' : Shared}, Inv (cxH CX0 P w K mg base N qual scope f cdv A outer s H E p) [] σ' H' s' → RelV v u → Q v H' → CE outer P w H s Q u s' :=
      fun {σ' H' v u s'} J rv q => ⟨v, H', J.os, J.bare, J.base, J.hok, rv, q⟩
    refine wpAny_mono (hps.run [] s1 _ H _ I ht) (fun fl s' hs => ?_) (fun e s' h => h)
    cases fl with
    | ret u =>
      obtain ⟨v, σ', H', J, rv, q⟩ := hs
      exact fin0 J rv q
    | next =>
      obtain ⟨σ', H', J, q⟩ := hs
      exact fin0 (v := V.non) (u := Value.none) J rfl q
    | brk =>
      obtain ⟨_, _, _, q⟩ := hs
      exact False.elim q
    | cont =>
      obtain ⟨_, _, _, q⟩ := hs
      exact False.elim q
theorem run_fnP {X : Cx} {k : Nat} {f : Addr} {fd : FuncData} {ps : List Str} {sp : Sp} {p : Addr × Obj} {pins : List (Addr × Obj)} {σ : L2.St} {H : Hp} {s : Shared} {Q : VK} {us : List Value} {vs : List V} (F : FnP X.prog X.w X.K X.mg X.base k f fd ps p sp) (hr : RoomH k X.A) (hot : Hot1 X.A p) (hp : p ∈ X.pn) (b : Binds X.K fd ps []) (I : Inv X pins σ H s) (rv : Vals vs us) (q : sp vs H Q E0) :
    wpAny (model X.prog X.w) X.A (call (.ref f) us) (EP X pins σ Q) X.xe s := by
  obtain ⟨g1, g2, g3, g4, g5⟩ := I.pin p (List.mem_append.mpr (.inl hp))
  have hl : us.length = ps.length := by rw [← rv.length]; exact F.len _ _ _ _ q
  refine wpAny_call (codeAny_mono (F.run X.A X.stack s H ⟨us, []⟩ us vs Q E0 hr hot ⟨g1, g2, ?_, g5⟩ I.env0 (by
    have := b s us I.kIn (by rw [List.append_nil]; exact hl)
    rw [List.append_nil] at this; exact this) rv q) fun r s' hq => ?_)
  · rcases I.ok.stk with e | ⟨e, ef⟩
    · rw [e]; exact g4
    · rw [e]
      intro m
      have m' : p.1 ∈ X.env.locals :: frs X.outer := by
        have z : frs (X.env :: X.outer) = X.env.locals :: frs X.outer := by
          show List.filterMap (fun x => x.frame) (X.env :: X.outer) = _
          rw [List.filterMap_cons, ef]; rfl
        rw [← z]; exact m
      rcases List.mem_cons.mp m' with h | h
      · exact g3 h
      · exact g4 h
  · cases r with
    | error e => exact (show False from hq).elim
    | ok fl =>
      cases fl with
      | ret u => exact I.after hq
      | next => exact False.elim hq
      | brk => exact False.elim hq
      | cont => exact False.elim hq
/-- f(e, ..), f such a def -/
theorem pe_callP {X : Cx} {k : Nat} {f : Addr} {fd : FuncData} {ps : List Str} {sp : Sp} {p : Addr × Obj} {x : Str} {q pos : Pos} {e : Expr} {es : List Expr} {t : TA} (F : FnP X.prog X.w X.K X.mg X.base k f fd ps p sp) (hr : RoomH k X.A) (hot : Hot1 X.A p) (hp : p ∈ X.pn) (hg : Gl X x) (hm : X.mg x = some (.ref f)) (hk : PySem.W.keepIn X.K (.ref f) = true) (b : Binds X.K fd ps []) (ha : L2.PA X (e :: es) t)
    (hd : (x == ("__debug__" : Str)) = false := by decide) (he : starEach (e :: es) X.env = (false, eval e X.env) :: starEach es X.env := by rfl) (hpl : (backTo pos (starEach es X.env)).any (·.1) = false := by rfl) :
    PE X (.Call (.Name x q) (e :: es) [] pos) (tCall sp [] E0 t) := by
  refine ⟨fun pins s σ H Q I h => wpAny_Call_NameR ?_⟩
  refine thn ((pe_glob (v := .ref f) (pos := q) hg hm rfl hd).run pins s σ H (fun v H' => v = .ref f ∧ H' = H) I ⟨rfl, rfl⟩) fun u s1 ⟨v, H1, I1, rv, ev, eH⟩ => ?_
  subst ev eH
  cases (show u = Value.ref f from rv)
  refine PySem.W.callWith_K I1.kIn hk (thn (ha.run pos pins s1 σ _ _ I1 h) fun ws s2 ⟨vs2, H2, I2, r2, q2⟩ => ⟨I2.kIn, ?_⟩) he hpl
  have q3 : sp vs2 H2 Q E0 := by
    have q4 : sp (vs2 ++ []) H2 Q E0 := q2
    rw [List.append_nil] at q4; exact q4
  exact run_fnP F hr hot hp b I2 r2 q3
end Vt
namespace Vt
open PySem PySem.Spec PyProof.Rows L2 L2H
/-- a def that runs while a is handled stands as in the suite of a -/
theorem ok_suite {Y : Cx} {a : Addr} (hA : Y.A.mark (some (.ref a)) = Y.A) (h : Y.Ok) : (Y.suite a Y.pn).Ok :=
  ⟨h.mod, h.kind, h.glob, h.blt, h.above, h.inj, h.has, h.cab, (fun z => by cases z), by show (Y.A.mark (some (.ref a))).frames = _; rw [hA]; exact h.frames, h.stk, h.exf, h.bs, h.bsz, h.noex, h.exfs, h.funs, h.frf⟩
theorem inv_suite {Y : Cx} {a : Addr} {pins : List (Addr × Obj)} {σ : L2.St} {H : Hp} {s : Shared} (hA : Y.A.mark (some (.ref a)) = Y.A) (I : Inv Y pins σ H s) : Inv (Y.suite a Y.pn) pins σ H s :=
  ⟨ok_suite hA I.ok, I.os, I.bare, I.base, I.loc, I.cell, I.free, I.freeC, I.pin, I.hok, I.len⟩
theorem suite_inv {Y : Cx} {a : Addr} {pins : List (Addr × Obj)} {σ : L2.St} {H : Hp} {s : Shared} (h : Y.Ok) (I : Inv (Y.suite a Y.pn) pins σ H s) : Inv Y pins σ H s :=
  ⟨h, I.os, I.bare, I.base, I.loc, I.cell, I.free, I.freeC, I.pin, I.hok, I.len⟩
theorem callr_suite {Y : Cx} {a : Addr} {v : Value} {r : List V → Hp → VK → Prop} (hA : Y.A.mark (some (.ref a)) = Y.A) (h : CallR (Y.suite a Y.pn) v r) : CallR Y v r := by
  intro pins s σ H xs us Q I rv hr
  have w := h pins s σ H xs us Q (inv_suite hA I) rv hr
  have w' : wpAny (model Y.prog Y.w) (Y.A.mark (some (.ref a))) (call v us) (EP (Y.suite a Y.pn) pins σ Q) (fun _ _ => False) s := w
  rw [hA] at w'
  exact wpAny_mono w' (fun u s' ⟨x, H', J, q1, q2⟩ => ⟨x, H', suite_inv I.ok J, q1, q2⟩) fun _ _ z => z.elim
/-- isinstance of the exception, in such a def -/
theorem call_isP {Y : Cx} {a D : Addr} {oe : Obj} (hA : Y.A.mark (some (.ref a)) = Y.A) (hpn : Y.pn = [(a, oe)]) (C : ExcC Y.K D) (hz : Zc (.ref D) none oe) (hf : ∃ vs, oe.data = .fields vs) : CallR Y (.builtin "isinstance") (rIsE Y.K D a) := by
  refine callr_suite hA ?_
  rw [hpn]
  exact call_isE C hz hf
theorem mark_same {A : Around} {v : Value} (h : A.handled = some v) : A.mark (some v) = A := by
  unfold Around.mark
  cases A
  simp only at h
  subst h
  rfl
theorem mark_hot {A : Around} {p : Addr × Obj} {env : Env} (h : Hot1 A p) : (A.deeper env).mark (some (.ref p.1)) = A.deeper env := mark_same h.1
end Vt
namespace Vt
open PySem PySem.Spec PyProof.Rows L2
/-! ### defs that may raise, their calls -/
structure CalleeN (P : Program) (w : World) (K : PySem.W.Frag) (mg : Str → Option Value) (base : Heap) (x : Str) (k : Nat) (n : Nat) (sp : Sp) : Prop where
  ex : ∃ (f : Addr) (fd : FuncData) (ps : List Str), FnOk P w K mg base (L2N.CX P w) k f fd ps sp ∧ mg x = some (.ref f) ∧ PySem.W.keepIn K (.ref f) = true ∧ Binds K fd ps []
theorem pe_calN {X : Cx} {W : WX} {x : Str} {k j n : Nat} {sp : Sp} {p pos : Pos} {e : Expr} {es : List Expr} {t : TA} (C : CalleeN X.prog X.w X.K X.mg X.base x k n sp) (hr : Room j X.A) (hk : k ≤ j) (tk : L2N.Takes X W) (ha : L2.PA X (e :: es) t) (hg : Gl X x := by rfl)
    (hdb : (x == ("__debug__" : Str)) = false := by decide) (he : starEach (e :: es) X.env = (false, eval e X.env) :: starEach es X.env := by rfl) (hpl : (backTo pos (starEach es X.env)).any (·.1) = false := by rfl) :
    PE X (.Call (.Name x p) (e :: es) [] pos) (tCallS sp (WE W) t) := by
  have ⟨f, fd, ps, F, hm, hkp, hb⟩ := C.ex
  exact pe_callS F (hr.mono hk) hg hm hkp hb (fun σ => L2N.passAt tk σ) ha hdb he hpl
theorem takesN0 {X : Cx} : L2N.Takes X (fun _ _ _ _ => False) := fun _ _ x => by
  obtain ⟨_, _, _, _, _, _, _, _, _, _, _, _, _, _, _, _, z⟩ := x
  exact z.elim
theorem okN {P : Program} {w : World} {K : PySem.W.Frag} {mg : Str → Option Value} {base : Heap} {x qual : Str} {st : Stmt} {f : Addr} {fd : FuncData} {N ps : List Str} {k : Nat} {sp : Sp} (F : Fun K x qual st f fd) (S : FnScope N ps (defScope st)) (len : ∀ (vs : List V) (H : Hp) (Q : VK) (E : XK), sp vs H Q E → vs.length = ps.length)
    (hbody : ∀ (cdv : Value) (A : Around) (outer : List Env) (s : Shared) (H : Hp) (vs : List V) (Q : VK) (E : XK), Room k (A.deeper (envOfC qual (defScope st) s.heap.objs.size f cdv)) → sp vs H Q E →
      ∃ t, PSs (cxOf (L2N.CX P w) P w K mg base N qual (defScope st) f cdv A outer s H E) (defBody st) t ∧ t { nx := fun _ H' => Q .non H', rt := Q } (L2.start N vs) H) : FnOk P w K mg base (L2N.CX P w) (k + 1) f fd ps sp := by
  obtain ⟨oc, od, kV, doc, pm, an, cdv, ct, osl, rfl, lk, hcd⟩ := F.ex
  exact fn_of lk hcd S len fun A outer s H vs Q E hr hsp => hbody cdv A outer s H vs Q E hr hsp
/-! ### a def that is called while an exception is handled, of what it knows of that one -/
structure CalleeP (P : Program) (w : World) (K : PySem.W.Frag) (mg : Str → Option Value) (base : Heap) (x : Str) (k : Nat) (sp : Value → Option Addr → Addr → Sp) : Prop where
  ex : ∃ (f : Addr) (fd : FuncData) (ps : List Str), mg x = some (.ref f) ∧ PySem.W.keepIn K (.ref f) = true ∧ Binds K fd ps [] ∧
    ∀ (p : Addr × Obj) (cls : Value) (d : Option Addr), L2N.Zn cls d p.2 → (∃ vs, p.2.data = .fields vs) → FnP P w K mg base k f fd ps p (sp cls d p.1)
theorem pe_calP {X : Cx} {sp : Value → Option Addr → Addr → Sp} {a : Addr} {oe : Obj} {cls : Value} {d : Option Addr} {x : Str} {k j : Nat} {p pos : Pos} {e : Expr} {es : List Expr} {t : TA} (C : CalleeP X.prog X.w X.K X.mg X.base x k sp)
    (hr : L2H.RoomH j X.A) (hk : k ≤ j) (hh : X.A.handled = some (.ref a)) (hp : (a, oe) ∈ X.pn) (hz : L2N.Zn cls d oe) (hf : ∃ vs, oe.data = .fields vs) (ha : L2.PA X (e :: es) t) (hg : Gl X x := by rfl)
    (hdb : (x == ("__debug__" : Str)) = false := by decide) (he : starEach (e :: es) X.env = (false, eval e X.env) :: starEach es X.env := by rfl) (hpl : (backTo pos (starEach es X.env)).any (·.1) = false := by rfl) :
    PE X (.Call (.Name x p) (e :: es) [] pos) (tCall (sp cls d a) [] E0 t) := by
  have ⟨f, fd, ps, hm, hkp, hb, F⟩ := C.ex
  obtain ⟨vs, hv⟩ := hf
  exact pe_callP (F (a, oe) cls d hz ⟨vs, hv⟩) (hr.mono hk) ⟨hh, vs, hv, hz.2.2 vs hv⟩ hp hg hm hkp hb ha hdb he hpl
/-! ### how often a flat value stands in a list -/
def rCntF (K : PySem.W.Frag) : V → List V → Hp → VK → Prop := fun x xs H Q => ∃ (p : Addr) (ys : List V) (y : V), x = .ref p ∧ xs = [y] ∧ SqL K H p ys ∧ flatV y = true ∧ ys.all flatV = true ∧ Q (.int (ys.countP (fun z => eqV z y) : Nat)) H
theorem count_eqU {y : V} : ∀ {ys : List V} {us : List Value}, Vals ys us → ys.all flatV = true → us.countP (eqU y) = ys.countP (fun z => eqV z y)
  | _, _, .nil, _ => rfl
  | z :: ys, u :: us, .cons r t, f => by
    rw [List.all_cons, Bool.and_eq_true] at f
    rw [List.countP_cons, List.countP_cons, count_eqU t f.2, eqU_of r f.1]
theorem mt_countF {X : Cx} : MtR X "list.count" (rCntF X.K) := by
  intro pins s σ H x xs v us Q I rx rxs h
  obtain ⟨p, ys, y, rfl, rfl, hs, fy, fys, q⟩ := h
  cases rx
  obtain ⟨uy, rfl, ry⟩ := rxs.one
  obtain ⟨its, rv, ⟨⟨cls, dd, data, sl⟩, n, ho, hc, hdn, hd⟩, hlen⟩ := I.list hs
  simp only at hc hd
  subst hc hd
  refine call_meets PySem.F.slot_list_count ⟨_, ho, rfl⟩ PySem.F.entry_list_count (PySem.F.args_list_count_2 _ _)
    (SeqAt.list_countAt p its.toArray n dd sl uy (eqU y)) ⟨ho, fun u' hu' => mem_eqAt ry fy rv fys u' (by simpa using hu'), ?_⟩
  have ec : its.toArray.toList.countP (eqU y) = ys.countP (fun z => eqV z y) := count_eqU rv fys
  refine ⟨.int (ys.countP (fun z => eqV z y) : Nat), H, I.tok _, ⟨s.toks, ?_⟩, q⟩
  show Value.int ((its.toArray.toList.countP (eqU y) : Nat) : Int) s.toks = Value.int ((ys.countP (fun z => eqV z y) : Nat) : Int) s.toks
  rw [ec]
end Vt
namespace Vt
open PySem PySem.Spec PyProof.Rows L2
/-! ### a draw below a great number -/
def spTakeF : Sp := fun vs H Q _ => ∃ (b l : Addr) (m : Int), vs = [.ref b, .int m] ∧ Box H b l ∧ 0 < m ∧ m.natAbs < 2 ^ 200 ∧ ∀ H' r, Box H' b l → But [b, l] H H' → 0 ≤ r → r < m → Q (.int r) H'
section
variable {P : Program} {w : World} {K : PySem.W.Frag} {mg : Str → Option Value} {base : Heap}
theorem ok_takeF {f : Addr} {fd : FuncData} (F : Fun K "_law_take" "_law_take" st_law_take f fd) : FnOk P w K mg base CX0 1 f fd ["_law_box", "_law_many"] spTakeF := by
  refine F.ok sc_law_take (fun vs H Q E h => ?_) (fun cdv A outer s H vs Q E hr h => ?_)
  · obtain ⟨b, l, m, rfl, _⟩ := h
    rfl
  · obtain ⟨b, l, m, rfl, hB, m0, m1, q⟩ := h
    have hne := hB.ne
    obtain ⟨ns, sd, hb, hl, s0, s1, hlen⟩ := hB
    refine ⟨_, (pss_cons (ps_if (pt_cmpR (op_eqD hr.units) (pe_ix ix_lt (pv 0) pe_int (fun _ _ => rfl)) (pe_lst pa_nil) (nomark _)) (pss_cons (ps_asg (pe_op op_mod (pe_op op_mul (pe_ix ix_lt (pv 0) pe_int (fun _ _ => rfl)) pe_int) pe_int) (pg_sub (pv 0) pe_int set_list))
  (pss_one (ps_ret (pe_op op_mod (pe_op op_fdiv (pe_ix ix_lt (pv 0) pe_int (fun _ _ => rfl)) pe_int) (pv 1))))) pss_nil)
  (pss_cons (ps_set (i := 2) sc_law_take.nd rfl (Or.inl rfl) (pe_ix ix_lt (pe_ix ix_lt (pv 0) pe_int (fun _ _ => rfl)) pe_int (fun _ _ => rfl)))
  (pss_cons (ps_asg (pe_op op_fdivW (pv 2) (pv 1)) (pg_sub (pe_ix ix_lt (pv 0) pe_int (fun _ _ => rfl)) pe_int set_list))
  (pss_cut (ps_if (PW.pt (pw_or (pt_cmpR op_eq (pe_ix ix_lt (pe_ix ix_lt (pv 0) pe_int (fun _ _ => rfl)) pe_int (fun _ _ => rfl)) pe_int (nomark _)) (pw_or1 (pt_cmpR op_eq (pe_ix ix_lt (pe_ix ix_lt (pv 0) pe_int (fun _ _ => rfl)) pe_int (fun _ _ => rfl)) (pe_un un_neg pe_int) (nomark _))))) (pss_one (ps_expr (pe_bm PySem.F.plainAttrs_list PySem.F.slot_list_pop PySem.F.type_list_pop mt_popAt (pe_ix ix_lt (pv 0) pe_int (fun _ _ => rfl)) (pa_cons pe_int pa_nil)))) pss_nil)
  (pss_one (ps_ret (pe_op op_mod (pv 2) (pv 1)))))))), ?_⟩
    -- if box[0] == []
    refine ⟨_, rfl, b, _, 0, .ref l, rfl, rfl, sqA_l hb, rfl, ?_⟩
    refine ⟨Nat.zero_le _, fun p np => ?_⟩
    have sm : Same H (upd H p (.lst [])) := same_new np
    refine ⟨.list (ns.map PyData.int), .list [], .lst (sqL_l (sm _ _ hl)) (dpInts ns), .lst (sqL_l upd_same) .nil, shapedInts ns, rfl, _, rfl, ?_⟩
    have hb1 := sm _ _ hb
    have hl1 := sm _ _ hl
    have nbp : b ≠ p := ne_of_none hb np
    have nlp : l ≠ p := ne_of_none hl np
    cases ns with
    | nil =>
      refine iteT ?_
      -- box[1] = box[1] * 48271 % 2147483647
      refine ⟨_, rfl, b, _, 1, .int sd, rfl, rfl, sqA_l hb1, rfl, ?_⟩
      refine ⟨_, _, rfl, rfl, .inl ⟨by omega, by omega⟩, _, _, rfl, rfl, (by show (0 : Int) < 2147483647; decide), ?_⟩
      refine ⟨_, rfl, b, _, 1, 1, rfl, rfl, hb1, rfl, ?_⟩
      -- return box[1] // 7 % many
      refine ⟨_, rfl, b, _, 1, .int (sd * 48271 % 2147483647), rfl, rfl, sqA_l upd_same, rfl, ?_⟩
      refine ⟨_, _, rfl, rfl, ⟨by decide, by decide⟩, _, rfl, _, _, rfl, rfl, m0, ?_⟩
      have e0 : 0 ≤ sd * 48271 % 2147483647 := Int.emod_nonneg _ (by decide)
      have e1 : sd * 48271 % 2147483647 < 2147483647 := Int.emod_lt_of_pos _ (by decide)
      refine q _ _ ⟨[], _, upd_same, ?_, e0, e1, hlen⟩ ?_ ?_ ?_
      · rw [upd_ne hne.symm]; exact hl1
      · exact (Same.but sm).trans (But.set (by simp))
      · exact Int.emod_nonneg _ (by omega)
      · exact Int.emod_lt_of_pos _ m0
    | cons n r =>
      refine iteF ?_
      -- number = box[0][0]
      refine ⟨_, rfl, b, _, 0, .ref l, rfl, rfl, sqA_l hb1, rfl, l, _, 0, .int n, rfl, rfl, sqA_l hl1, at0, ?_⟩
      -- box[0][0] = number // many
      refine ⟨_, rfl, _, rfl, _, _, rfl, rfl, wide_div m0 (b := 200) (by omega) (by decide) (by decide), ?_⟩
      refine ⟨_, rfl, b, _, 0, .ref l, rfl, rfl, sqA_l hb1, rfl, l, _, 0, 0, rfl, rfl, hl1, ixN_of rfl (by simp), ?_⟩
      have nlb : l ≠ b := hne.symm
      have hb2 : (upd (upd H p (.lst [])) l (.lst ((V.int (n / m)) :: r.map V.int))) b = some (.lst [.ref l, .int sd]) := by
        rw [upd_ne hne]; exact hb1
      have bt : But [b, l] H (upd (upd H p (.lst [])) l (.lst ((V.int (n / m)) :: r.map V.int))) := (Same.but sm).trans (But.set (by simp))
      -- if box[0][0] == 0 or box[0][0] == -1
      have hr1 : r.length ≤ 63 := by simp at hlen; omega
      refine ⟨fun σ' H' => σ' = [some (.ref b), some (.int m), some (.int n)] ∧ Box H' b l ∧ But [b, l] H H', ?_, fun σ' H' hM => ?_⟩
      · have pop : ∀ D : Ends, D.nx = (fun σ' H' => σ' = [some (.ref b), some (.int m), some (.int n)] ∧ Box H' b l ∧ But [b, l] H H') →
            tDrop (tBM K "list" rPopAt (tOp (rIxLT K) (tVar 0) (tC (.int 0))) (tCons (tC (.int 0)) tNil)) D [some (.ref b), some (.int m), some (.int n)] (upd (upd H p (.lst [])) l (.lst ((V.int (n / m)) :: r.map V.int))) := fun D hD => by
          refine ⟨_, rfl, b, _, 0, .ref l, rfl, rfl, sqA_l hb2, rfl, .inl ⟨rfl, _, sqL_l upd_same⟩, ?_⟩
          refine ⟨l, _, 0, 0, .int (n / m), rfl, rfl, upd_same, by decide, by decide, seqIx_of rfl (by simp), rfl, ?_⟩
          rw [hD]
          refine ⟨rfl, ⟨r, sd, ?_, ?_, s0, s1, hr1⟩, bt.trans (But.set (by simp))⟩
          · rw [upd_ne hne]; exact hb2
          · rw [upd_same]; rfl
        refine ⟨_, rfl, b, _, 0, .ref l, rfl, rfl, sqA_l hb2, rfl, l, _, 0, .int (n / m), rfl, rfl, sqA_l upd_same, at0, rfl, _, rfl, ite2 (fun e => ?_) (fun e => ?_)⟩
        · exact iteT (pop _ rfl)
        · refine ⟨_, rfl, b, _, 0, .ref l, rfl, rfl, sqA_l hb2, rfl, l, _, 0, .int (n / m), rfl, rfl, sqA_l upd_same, at0, 1, rfl, rfl, _, rfl, ite2 (fun e => ?_) (fun e => ?_)⟩
          · exact pop _ rfl
          · exact ⟨rfl, ⟨n / m :: r, sd, hb2, upd_same, s0, s1, hlen⟩, bt⟩
      · obtain ⟨rfl, h1, h2⟩ := hM
        refine ⟨_, rfl, _, rfl, _, _, rfl, rfl, m0, ?_⟩
        exact q _ _ h1 h2 (Int.emod_nonneg _ (by omega)) (Int.emod_lt_of_pos _ m0)
end
end Vt
namespace Vt
open PySem PySem.Spec PyProof.Rows L2
/-! ### the defs as they stand behind the top -/
def Found (K : PySem.W.Frag) (x : Str) (st : Stmt) (f : Addr) : Prop := ∃ (oc : Value) (od : Option Addr) (kV doc pm : Value) (an : Option Addr) (cdv ct : Value) (osl : Array (Option Value)),
  PySem.W.nsIn K mainGlobals x = some (some (.ref f)) ∧ K.lookup f = some ⟨oc, od, .func (PySem.W.fnOf x x (defArgs st) (defBody st) (defScope st) .none kV doc pm an cdv ct), osl⟩ ∧ PySem.W.codeIn K cdv x = true ∧ PySem.W.keepIn K (.ref f) = true
theorem found_mk {K : PySem.W.Frag} {x : Str} {st : Stmt} {f : Addr} {oc : Value} {od an : Option Addr} {kV doc pm cdv ct : Value} {osl : Array (Option Value)} (a : PySem.W.nsIn K mainGlobals x = some (some (.ref f)))
    (l : K.lookup f = some ⟨oc, od, .func (PySem.W.fnOf x x (defArgs st) (defBody st) (defScope st) .none kV doc pm an cdv ct), osl⟩) (c : PySem.W.codeIn K cdv x = true) (k : PySem.W.keepIn K (.ref f) = true) : ∃ f, Found K x st f :=
  ⟨f, oc, od, kV, doc, pm, an, cdv, ct, osl, a, l, c, k⟩
theorem callee_mk {P : Program} {w : World} {K : PySem.W.Frag} {mg : Str → Option Value} {base h : Heap} {x : Str} {st : Stmt} {k n : Nat} {sp : Sp} {ps : List Str} (X : K.In h) (G : h.Ns mainGlobals mg) (hf : ∃ f, Found K x st f)
    (ok : ∀ (f : Addr) (fd : FuncData), Fun K x x st f fd → FnOk P w K mg base CX0 k f fd ps sp)
    (hb : ∀ (kV doc pm : Value) (an : Option Addr) (cdv ct : Value) (us : List Value), us.length = ps.length → bindArgs (PySem.W.fnOf x x (defArgs st) (defBody st) (defScope st) .none kV doc pm an cdv ct) ⟨us, []⟩ = pure (ps.zip us)) : Callee P w K mg base x k n sp := by
  obtain ⟨f, oc, od, kV, doc, pm, an, cdv, ct, osl, a, l, c, kp⟩ := hf
  have F := fun_mk (st := st) l c kp
  exact ⟨f, _, ps, ok f _ F, PySem.W.mg_of X G a, kp, F.binds hb⟩
/-- a tuple of the written part, as it stands -/
theorem ktup_mk {K : PySem.W.Frag} {a : Addr} {xs : List V} {od : Option Addr} {its : Array Value} {n : Nat} {sl : Array (Option Value)} (l : K.lookup a = some ⟨.type "tuple", od, .seq its n, sl⟩) (hz : its.size ≤ sizeLine) (hv : Vals xs its.toList) : KTup K a xs :=
  ⟨_, its, n, l, rfl, rfl, hz, hv⟩
theorem kinds_mk {K : PySem.W.Frag} {w : World} {mg : Str → Option Value} {dd k1 k2 k3 k4 k5 k6 k7 : Addr} {es : Array DictEntry} {n : Nat} (m : mg "DEEDS" = some (.ref dd)) (low : (dd == sysModules) = false) (l : K.lookup dd = some ⟨.type "dict", none, .dict es n, #[]⟩) (kl : PySem.W.KeysLit w.params es.toList)
    (a1 : PySem.W.nsIn K dd "set" = some (some (.ref k1))) (a2 : PySem.W.nsIn K dd "add" = some (some (.ref k2))) (a3 : PySem.W.nsIn K dd "say" = some (some (.ref k3))) (a4 : PySem.W.nsIn K dd "start" = some (some (.ref k4)))
    (a5 : PySem.W.nsIn K dd "wait" = some (some (.ref k5))) (a6 : PySem.W.nsIn K dd "clean" = some (some (.ref k6))) (a7 : PySem.W.nsIn K dd "drop" = some (some (.ref k7)))
    (t1 : KTup K k1 [.str "cell", .str "number"]) (t2 : KTup K k2 [.str "cell", .str "cell"]) (t3 : KTup K k3 [.str "cell"]) (t4 : KTup K k4 [.str "order"]) (t5 : KTup K k5 []) (t6 : KTup K k6 [.str "line"]) (t7 : KTup K k7 [.str "line"]) : Kinds K w mg dd := by
  refine ⟨m, low, ⟨es, n, l, kl⟩, fun z ks h => ?_⟩
  have kd : ∀ (x : Str) (k : Addr), PySem.W.nsIn K dd x = some (some (.ref k)) → KDct K w dd x (.ref k) := fun x k e => ⟨es, n, _, l, kl, e, rfl⟩
  unfold kindsOf at h
  split at h
  · rename_i e; subst e; cases h; exact ⟨k1, kd _ _ a1, t1⟩
  split at h
  · rename_i e; subst e; cases h; exact ⟨k2, kd _ _ a2, t2⟩
  split at h
  · rename_i e; subst e; cases h; exact ⟨k3, kd _ _ a3, t3⟩
  split at h
  · rename_i e; subst e; cases h; exact ⟨k4, kd _ _ a4, t4⟩
  split at h
  · rename_i e; subst e; cases h; exact ⟨k5, kd _ _ a5, t5⟩
  split at h
  · rename_i e; subst e; cases h; exact ⟨k6, kd _ _ a6, t6⟩
  split at h
  · rename_i e; subst e; cases h; exact ⟨k7, kd _ _ a7, t7⟩
  cases h
end Vt
namespace Vt
open PySem PySem.Spec PyProof.Rows L2
/-- a def of a class, of a text that says super(): as it stands -/
def FoundS (K : PySem.W.Frag) (C D : Addr) (x q : Str) (st : Stmt) (f cda cc : Addr) : Prop := ∃ (oc : Value) (od : Option Addr) (kV doc pm : Value) (an : Option Addr) (ct : Value) (osl : Array (Option Value)) (cl : Value) (cld : Option Addr) (csl : Array (Option Value)) (cdD : ClassData),
  PySem.W.findIn K (.ref C) x = some (some (.ref f)) ∧ K.lookup f = some ⟨oc, od, .func (PySem.W.fnX x q (defArgs st) (defBody st) (defScope st) [("__class__", cc)] .none kV doc pm an (.ref cda) ct), osl⟩ ∧ PySem.W.codeIn K (.ref cda) q = true ∧ PySem.W.isFn K (.ref f) = true ∧ K.lookup cc = some ⟨cl, cld, .cell (some (.ref D)), csl⟩ ∧ PySem.W.clsIn K D = some cdD
/-- the code record of the def, with its file -/
def CodeAt (P : Program) (K : PySem.W.Frag) (cda : Addr) : Prop := ∃ ccl cdd vs ccs file tf, K.lookup cda = some ⟨ccl, cdd, .fields vs, ccs⟩ ∧ vs[2]? = some (.str file tf) ∧ ((P.main.file : Str) == file) = true
theorem founds_mk {P : Program} {K : PySem.W.Frag} {C D : Addr} {x q : Str} {st : Stmt} {f cda cc : Addr} {oc : Value} {od an : Option Addr} {kV doc pm ct : Value} {osl : Array (Option Value)} {cl : Value} {cld : Option Addr} {csl : Array (Option Value)} {cdD : ClassData}
    {ccl : Value} {cdd : Option Addr} {vs : Array Value} {ccs : Array (Option Value)} {file : Str} {tf : Tok}
    (a : PySem.W.findIn K (.ref C) x = some (some (.ref f))) (l : K.lookup f = some ⟨oc, od, .func (PySem.W.fnX x q (defArgs st) (defBody st) (defScope st) [("__class__", cc)] .none kV doc pm an (.ref cda) ct), osl⟩) (c : PySem.W.codeIn K (.ref cda) q = true) (i : PySem.W.isFn K (.ref f) = true)
    (l2 : K.lookup cc = some ⟨cl, cld, .cell (some (.ref D)), csl⟩) (d : PySem.W.clsIn K D = some cdD) (l3 : K.lookup cda = some ⟨ccl, cdd, .fields vs, ccs⟩) (v2 : vs[2]? = some (.str file tf)) (fe : ((P.main.file : Str) == file) = true) : ∃ f cda cc, FoundS K C D x q st f cda cc ∧ CodeAt P K cda :=
  ⟨f, cda, cc, ⟨oc, od, kV, doc, pm, an, ct, osl, cl, cld, csl, cdD, a, l, c, i, l2, d⟩, ⟨ccl, cdd, vs, ccs, file, tf, l3, v2, fe⟩⟩
end Vt
namespace Vt
open PySem PySem.Spec PyProof.Rows L2
/-! ### an own exception whose __init__ says super().__init__(x) first -/
section
variable {prog : Program} {w : World} {A : Around} {h : Heap} {g : Array GenState} {d : Drawn} {t : Nat} {os : OsState} {E : Value → Shared → Prop}
theorem call_mwV {nm q : Str} {C N u e t0 : Addr} {bs bm : List Value} {hdct : Bool} {sn : List Str} {sub : List Value} {ab : Bool} {col : Option Bool} {dd : Option Addr} {k0 k1 k2 k3 k5 : Option Value} {rest : List Value} {Q : Value → Shared → Prop}
    (hC : h.get? C = some (excClassObj nm q C N bs bm hdct sn sub ab col dd k0 k1 k2 k3 k5 "ValueError.__new__")) (he : h.get? e = some (PySem.HandSPX.excO C t0)) (hu : h.get? u = some (PySem.W.kxs_mw "ValueError.__init__" e)) (hrest : rest.length ≤ sizeLine)
    (hq : ∀ h' t1, (∀ b o, b ≠ e → h.get? b = some o → h'.get? b = some o) → h'.get? e = some (PySem.HandSPX.excO C t1) → Q .none ⟨h', g, d, t, os⟩) :
    wpAny (model prog w) A (call (.ref u) rest) Q E ⟨h, g, d, t, os⟩ := by
  refine wpAny_call (codeAny_of_tree ?_)
  show wpAny _ A.in1 (callAny (.ref u) ⟨rest, []⟩) _ _ _
  simp only [callAny]
  refine wpAny_bind (wpAny_load hu ?_)
  simp only [PySem.W.kxs_mw, show (Value.type "method-wrapper" == Value.type "method" || Value.type "method-wrapper" == Value.type "builtin_function_or_method" || Value.type "method-wrapper" == Value.type "method-wrapper") = true by decide, if_true]
  refine PySem.W.KFB.if_so (by decide) ?_
  refine wpAny_bind (PySem.W.check_bound_init F.excBase_ValueError.toExcCallFacts hC he rfl ?_)
  refine wpAny_bind (wpAny_pure (wpAny_pure ?_))
  refine ⟨plainId_quiet F.excBase_ValueError.init.plain _, codeAny_builtin F.excBase_ValueError.initEntry ?_⟩
  rw [Around.under_plainId F.excBase_ValueError.init.plain _]
  refine PySem.W.exc_init_tree (cls := .ref C) (t0 := t0) (dv := none) (c2 := .none) (c3 := .none) (b4 := .bool false) he hrest fun h' k e' t' => ?_
  exact hq h' _ k e'
end
/-- the class behind is a built-in one: its __init__ -/
structure SupX (K : PySem.W.Frag) (C D : Addr) : Prop where
  sub : PySem.W.mroIn K C (.ref D) = some true
  at_ : PySem.W.ks_superIn K C D "__init__" = some (some (.builtin "ValueError.__init__"))
  ve : PySem.W.subIn K (.ref C) (.type "ValueError") = some true
section
variable {CX : CXT} {P : Program} {w : World} {K : PySem.W.Frag} {mg : Str → Option Value} {base : Heap} {N ps : List Str} {f cda cc D C x : Addr} {name qual : Str} {st : Stmt} {A : Around} {outer : List Env} {s0 s : Shared} {H0 H : Hp} {E : XK} {pins : List (Addr × Obj)} {σ : L2.St}
  {cl oc : Value} {cld od : Option Addr} {csl osl : Array (Option Value)} {fd : FuncData} {ar : Arg} {cdD : ClassData} {ox : Obj} {odx : Option Obj}
/-- a def of an own exception whose first statement is super().__init__(..) -/
theorem fnS_exc {k : Nat} {sp : Sp} {dV kV doc pm ct : Value} {an : Option Addr} {p0 p1 apos pos epos : Pos} {e : Expr} {es : List Expr} {rest : List Stmt}
    (lk : K.lookup f = some ⟨oc, od, .func (PySem.W.fnX name qual (defArgs st) (defBody st) (defScope st) [("__class__", cc)] dV kV doc pm an (.ref cda) ct), osl⟩) (hcd : PySem.W.codeIn K (.ref cda) qual = true) (hbd : defBody st = .Expr (.Call (.Attribute (.Call (.Name "super" p0) [] [] p1) "__init__" apos) (e :: es) [] pos) epos :: rest)
    (S : NdefX.NScope N ps ["__class__"] (defScope st)) (SO : SupOk P K mg (defScope st) cda) (hp : ((defArgs st).posonlyargs ++ (defArgs st).args).head? = some ar) (hN : N[0]? = some ar.arg) (h0 : ps[0]? = some ar.arg)
    (hcell : K.lookup cc = some ⟨cl, cld, .cell (some (.ref D)), csl⟩) (hD : PySem.W.clsIn K D = some cdD)
    (len : ∀ vs H Q E, sp vs H Q E → vs.length = ps.length)
    (hst : ∀ env, starEach (e :: es) env = (false, eval e env) :: starEach es env) (hpl : ∀ env, (backTo pos (starEach es env)).any (·.1) = false)
    (hev : ∀ env, ∃ pl : Sem Bool, eval (.Call (.Attribute (.Call (.Name "super" p0) [] [] p1) "__init__" apos) (e :: es) [] pos) env = (do
      let ov ← attributeBase (.Call (.Name "super" p0) [] [] p1) "__init__" env (eval (.Call (.Name "super" p0) [] [] p1) env)
      standAt apos.atName
      let (f, first) ← holding [ov] (getMethod ov "__init__" pl)
      callWith pos f first (backTo pos (starEach (e :: es) env)) []))
    (hsw : ∀ env, swapsWith (.Call (.Attribute (.Call (.Name "super" p0) [] [] p1) "__init__" apos) (e :: es) [] pos) none epos.line env = pure false)
    (hbody : ∀ (A : Around) (outer : List Env) (s : Shared) (H : Hp) (vs : List V) (Q : VK) (E : XK), Room k (A.deeper (NdefX.envF (nfS name qual st cda cc) f s.heap.objs.size)) → sp vs H Q E →
      ∃ (ta : TA) (t : TS), L2.PA (NdefX.ncx CX0 P w K mg base N (nfS name qual st cda cc) f A outer s H E) (e :: es) ta ∧ PSs (NdefX.ncx CX0 P w K mg base N (nfS name qual st cda cc) f A outer s H E) rest t ∧
        ∃ (x C : Addr), (startS N vs)[0]? = some (some (.ref x)) ∧ H x = some (exo x C none) ∧ OexC K C ∧ SupX K C D ∧
          ta (startS N vs) H fun ws H1 => ws.length ≤ 1000 ∧ H1 x = some (exo x C none) ∧ t { nx := fun _ H' => Q .non H', rt := Q } (startS N vs) H1) :
    FnOk P w K mg base CX0 (k + 1) f (PySem.W.fnX name qual (defArgs st) (defBody st) (defScope st) [("__class__", cc)] dV kV doc pm an (.ref cda) ct) ps sp := by
  refine ⟨len, fun A outer s H args us vs Q E hr e0 hb r hsp => ?_⟩
  have hl := len _ _ _ _ hsp
  have KX : K.In s.heap := e0.mod.kin.keeps fun b o e => (e0.bs b o e).1
  have lim : s.heap.NoLimit := e0.mod.nolimit.keeps fun b o e => (e0.bs b o e).1
  obtain ⟨ta, t, hpa, hps, x, C, hx0, hxi, hO, sm, rd⟩ := hbody A outer s H vs Q E (hr.deeper _) hsp
  refine ks_codeAny_call_defAt (fd := PySem.W.fnX name qual (defArgs st) (defBody st) (defScope st) [("__class__", cc)] dV kV doc pm an (.ref cda) ct) (body := defBody st) (binds := ps.zip us) hr.depth (KX _ _ lk) rfl lim (PySem.W.codeRec_of KX hcd) rfl hb S.nocell
    (fun y hy => S.par y.1 (List.of_mem_zip hy).1) (fun h₁ hns hk => ?_) S.co S.gen S.kind
  have I := NdefX.inv_startN (CX := CX0) (E := E) (F := nfS name qual st cda cc) (f := f) (tk := s.toks + (ps.zip us).length) S hr.hd e0 hl r (cells_S e0.mod.kin e0.bs hcell) hns hk
  have hr' : Room k (A.deeper (NdefX.envF (nfS name qual st cda cc) f s.heap.objs.size)) := hr.deeper _
  have fin : ∀ (fl : Flow) (s' : Shared), SP (NdefX.ncx CX0 P w K mg base N (nfS name qual st cda cc) f A outer s H E) [] { nx := fun _ H' => Q .non H', rt := Q } fl s' → CR CX0 outer P w H s Q E (.ok (.ret (match fl with | .ret v => v | _ => .none))) s' := fun fl s' hs => by
    have fin0 : ∀ {σ' : L2.St} {H' : Hp} {v : V} {u : Value}, Inv (NdefX.ncx CX0 P w K mg base N (nfS name qual st cda cc) f A outer s H E) [] σ' H' s' → RelV v u → Q v H' → CE outer P w H s Q u s' :=
      fun {σ' H' v u} J rv q => ⟨v, H', J.os, J.bare, J.base, J.hok, rv, q⟩
    cases fl with
    | ret u =>
      obtain ⟨v, σ', H', J, rv, q⟩ := hs
      exact fin0 J rv q
    | next =>
      obtain ⟨σ', H', J, q⟩ := hs
      exact fin0 (v := V.non) (u := Value.none) J rfl q
    | brk =>
      obtain ⟨_, _, _, q⟩ := hs
      exact False.elim q
    | cont =>
      obtain ⟨_, _, _, q⟩ := hs
      exact False.elim q
  obtain ⟨pl, hev'⟩ := hev (NdefX.ncx CX0 P w K mg base N (nfS name qual st cda cc) f A outer s H E).env
  have go : PySem.wpAt (model P w) (NdefX.ncx CX0 P w K mg base N (nfS name qual st cda cc) f A outer s H E).A (.func (defBody st) (NdefX.ncx CX0 P w K mg base N (nfS name qual st cda cc) f A outer s H E).env)
      (execs (defBody st) (NdefX.ncx CX0 P w K mg base N (nfS name qual st cda cc) f A outer s H E).env) (SP (NdefX.ncx CX0 P w K mg base N (nfS name qual st cda cc) f A outer s H E) [] { nx := fun _ H' => Q .non H', rt := Q }) (NdefX.ncx CX0 P w K mg base N (nfS name qual st cda cc) f A outer s H E).xe { s with heap := h₁, toks := s.toks + (ps.zip us).length } := by
    rw [hbd]
    refine ks_wpAt_execs_cons (ks_wpAt_Expr_any (ks_wpAt_MethodCall ?_ hev') (by show ((defScope st).kind == .module && _) = false; rw [S.kind]; rfl) (hsw _))
    obtain ⟨t1, hgx⟩ := exo_at I.hok hxi
    have J : PySem.W.InstAt h₁ x (PySem.HandSPX.excO C t1) C none := ⟨hgx, rfl, rfl, trivial⟩
    refine super_at SO lk hp (S.par _ (List.mem_of_getElem? h0)) S.kind hcell hD sm.sub (by decide) I hN hx0 J fun so s1 I1 k1 => ?_
    have X1 := I1.kIn
    have hso := ClX.pin_at I1
    cases hc : PySem.W.clsIn K C with
    | none =>
      have z := sm.at_
      unfold PySem.W.ks_superIn at z
      rw [hc] at z; cases z
    | some cd =>
      have z := sm.at_
      unfold PySem.W.ks_superIn at z
      rw [hc] at z
      obtain ⟨t2, hgx1⟩ := exo_at I1.hok hxi
      have J1 : PySem.W.InstAt s1.heap x (PySem.HandSPX.excO C t2) C none := ⟨hgx1, rfl, rfl, trivial⟩
      have hI : PySem.W.Looks (model P w) s1.heap (isInstance (.ref x) (.type "ValueError")) true := J1.type.andThen (PySem.W.looks_subIn X1 sm.ve)
      obtain ⟨hp1, g1, d1, t1', os1⟩ := s1
      refine PySem.W.kxs_getMethod PySem.W.kxs_ValueError hso (PySem.W.looks_opaque X1 SO.any) (l₀ := cd.mro) ?_ rfl X1 z hI (PySem.W.ks_ne I.kIn J hc) (by decide) ?_
      · exact fun A Q E s k q => wpAny_bind ((PySem.W.looks_clsIn X1 hc) A _ E s k (wpAny_pure q))
      · have I2 := ClX.pin_new (o := PySem.W.kxs_mw "ValueError.__init__" x) (t' := t1' + 1) I1 (fun b u z => Heap.get?_push_of_some _ z) (Nat.le_refl _) (Heap.get?_push_size hp1 rfl) (fun v z => nomatch z)
        have he := hst (NdefX.ncx CX0 P w K mg base N (nfS name qual st cda cc) f A outer s H E).env
        have hpl' := hpl (NdefX.ncx CX0 P w K mg base N (nfS name qual st cda cc) f A outer s H E).env
        rw [he]
        refine PySem.W.kxs_callWith (i := "ValueError.__init__") (x := x) (by show (false || (backTo pos (starEach es _)).any (·.1)) = false; rw [hpl']; rfl) (PySem.Calls.evalArgs_plain ?_)
        have w1 := hpa.run pos _ _ _ _ _ I2 rd
        rw [he] at w1
        refine thn w1 fun ws s3 ⟨vs2, H1, I3, r3, hlen, hx1, ht⟩ => ⟨ClX.pin_at I3, ?_⟩
        obtain ⟨nm, q, Nn, bs, bm, sn, sub, ab, col, dd, k0, k1', k2, k3, k5, hC, hbm⟩ := hO.cls
        obtain ⟨t3, hgx3⟩ := exo_at I3.hok hx1
        have hmw := ClX.pin_at I3
        have hus : ws.length ≤ sizeLine := by
          rw [← Paired.length r3, sizeLine_eq]
          omega
        obtain ⟨hp3, g3, d3, tk3, os3⟩ := s3
        refine call_mwV (I3.kIn _ _ hC) hgx3 hmw hus fun h' t4 k hx' => ?_
        have J3 := I3.write (t' := tk3) (x := x) (e := x) (o := exo x C none) (by rw [hx1]; exact True.intro) (.inl rfl) k ⟨_, hx'⟩ (exo_ok hx')
        have eu : upd H1 x (exo x C none) = H1 := by
          funext b
          by_cases hb : b = x
          · rw [hb, upd_same, hx1]
          · rw [upd_ne hb]
        rw [eu] at J3
        exact wpAt_of_wpAny (hps.run [] _ _ H1 _ (ClX.unpin (ClX.unpin J3)) ht)
  exact ks_wpAt_mono go (fun fl s' hl => fin fl s' hl) fun _ _ y => y
end
end Vt
namespace Vt
open PySem PySem.Spec PyProof.Rows L2
/-! ### raising an own exception with fields -/
section
variable {X : Cx} {e : Expr} {es : List Expr} {ta : TA} {p pos : Pos}
theorem mk_endN {pins : List (Addr × Obj)} {σ : L2.St} {H1 H2 : Hp} {Q : XK} {hp hp2 h2 : Heap} {g1 g2 : Array GenState} {d1 d2 : Drawn} {t1 t2 : Nat} {os1 os2 : OsState} {a C d : Addr} {fs : List (Str × V)} (T : Raises X (.ref C)) (I1 : Inv X pins σ H1 ⟨hp, g1, d1, t1, os1⟩)
    (ha : hp.objs.size ≤ a) (k : ∀ b o, hp.get? b = some o → hp2.get? b = some o) (un : Un (frs X.stack) [] (upd H1 a (exo a C none)) H2 hp2 h2) (hok : HOk X.prog X.w H2 h2) (ho : os2 = os1) (hb : AllBare g2)
    (ea : H2 a = some (exo a C (some d))) (ed : H2 d = some (exd d fs)) (hd1 : H1 d = none) (q : Q (.ref C) (some d) (upd (L2.del H2 a) d (.xd fs))) : L2N.MkP X pins σ Q (.ref a) ⟨h2, g2, d2, t2, os2⟩ := by
  obtain ⟨t0, G, J, kG, ge, hoe, na⟩ := mk_end0 (d2 := d2) (t2 := t2) I1 ha k un hok ho hb ea ed hd1
  exact ⟨a, _, _, ⟨G, g2, d2, t2, os2⟩, _, .ref C, some d, rfl, J, kG, ge, hoe, ⟨rfl, rfl, fun vs e => by cases e; rfl⟩, rfl, rfl, na, rfl, hb, T, q⟩
theorem pmk_oexN {x : Str} {C fI : Addr} {k : Nat} {fd : FuncData} {ps : List Str} {sp : Sp} {ds : List Value} {dvs : List V} (T : OexC X.K C) (iC : PySem.W.findIn X.K (.ref C) "__init__" = some (some (.ref fI))) (tI : PySem.W.typeIn X.K (.ref fI) = some (.type "function"))
    (F1 : FnOk X.prog X.w X.K X.mg X.base CX0 k fI fd ps sp) (hr : Room (k + 1) X.A) (hb : Binds X.K fd ps ds) (hd : Vals dvs ds) (hg : Gl X x) (hm : X.mg x = some (.ref C)) (ha : L2.PA X (e :: es) ta)
    (hdb : (x == ("__debug__" : Str)) = false := by decide) (he : starEach (e :: es) X.env = (false, eval e X.env) :: starEach es X.env := by rfl) (hpl : (backTo pos (starEach es X.env)).any (·.1) = false := by rfl) :
    L2N.PMk X (.Call (.Name x p) (e :: es) [] pos) (tMkO C sp dvs ta) := by
  intro pins s σ H Q I h
  obtain ⟨nm, q, N, bs, bm, sn, sub, ab, col, dd, k0, k1, k2, k3, k5, hC, hbm⟩ := T.cls
  refine wpAny_Call_Name_kw (ld_glob I hg hm ?_ hdb)
  refine PySem.W.callWith_K (h₀ := X.base) I.ok.mod.kin T.kC (thn (ha.run pos pins s σ H _ I h) fun us s1 ⟨vs, H1, I1, r1, hz, q1⟩ => ⟨I1.kIn, ?_⟩) he hpl
  show wpAny _ _ (call (.ref C) us) _ _ _
  obtain ⟨hp, g, dr, tk, os⟩ := s1
  have hsz : hp.objs.size ≤ hp.objs.size + 1 := Nat.le_succ _
  have hn : H1 (hp.objs.size + 1) = none := I1.hok.fresh hsz
  have hq := q1 (hp.objs.size + 1) hn
  have kk : ∀ b o, hp.get? b = some o → ((hp.push (PySem.W.kdv_tup us)).push (PySem.HandSPX.excO C hp.objs.size)).get? b = some o := fun b o e => Heap.get?_push_of_some _ (Heap.get?_push_of_some _ e)
  have hget : ((hp.push (PySem.W.kdv_tup us)).push (PySem.HandSPX.excO C hp.objs.size)).get? (hp.objs.size + 1) = some (PySem.HandSPX.excO C hp.objs.size) := by heap_get
  have I2 : Inv X pins σ (upd H1 (hp.objs.size + 1) (exo (hp.objs.size + 1) C none)) ⟨(hp.push (PySem.W.kdv_tup us)).push (PySem.HandSPX.excO C hp.objs.size), g, dr, tk, os⟩ :=
    I1.laid (t' := tk) (a := hp.objs.size + 1) (o := exo (hp.objs.size + 1) C none) (h' := (hp.push (PySem.W.kdv_tup us)).push (PySem.HandSPX.excO C hp.objs.size)) kk hsz (exo_ok hget)
  have r2 : Vals (V.ref (hp.objs.size + 1) :: (vs ++ dvs)) (Value.ref (hp.objs.size + 1) :: (us ++ ds)) := .cons rfl (r1.append hd)
  have hl : (Value.ref (hp.objs.size + 1) :: us ++ ds).length = ps.length := by
    have e := r2.length
    rw [F1.len _ _ _ _ hq] at e
    exact e.symm
  have hus : us.length ≤ sizeLine := by
    rw [← Paired.length r1, sizeLine_eq]
    omega
  refine wpAny_call (PySem.HandSPX.call_own F.excBase_ValueError (fun Y => PySem.HandSPX.refsVE_contains Y bm hbm) (I1.kIn _ _ hC) (PySem.W.looks_findIn I1.kIn iC) (fun self => PySem.W.bind_fn I1.kIn self tI) hus
    (codeAny_mono (F1.run _ X.stack _ _ ⟨Value.ref (hp.objs.size + 1) :: us, []⟩ (Value.ref (hp.objs.size + 1) :: (us ++ ds)) _ _ (fun _ _ _ => False) (hr.make C us []) (I2.env0.make C us []) (hb _ (Value.ref (hp.objs.size + 1) :: us) I2.kIn hl) r2 hq) fun r s' hq' => ?_))
  cases r with
  | error er => exact (show False from hq').elim
  | ok fl =>
    cases fl with
    | ret u =>
      obtain ⟨v, H2, os2, bare2, un2, hok2, rv, ev, d, fs, ea, ed, hd1, q2⟩ := hq'
      subst ev
      obtain ⟨h2, g2, d2, t2, os'⟩ := s'
      exact ⟨rv, mk_endN (raises_own T.exC T.tyC) I1 hsz kk un2 hok2 os2 bare2 ea ed hd1 q2⟩
    | next => exact False.elim hq'
    | brk => exact False.elim hq'
    | cont => exact False.elim hq'
end
/-- a class whose instances are made by its own __init__ -/
structure MakesX (P : Program) (w : World) (K : PySem.W.Frag) (mg : Str → Option Value) (base : Heap) (x : Str) (C : Addr) (k : Nat) (sp : Sp) : Prop where
  T : OexC K C
  m : mg x = some (.ref C)
  ex : ∃ (fI : Addr) (fd : FuncData) (ps : List Str), PySem.W.findIn K (.ref C) "__init__" = some (some (.ref fI)) ∧ PySem.W.typeIn K (.ref fI) = some (.type "function") ∧ FnOk P w K mg base CX0 k fI fd ps sp ∧ Binds K fd ps []
theorem pmk_mk {X : Cx} {e : Expr} {es : List Expr} {ta : TA} {p pos : Pos} {x : Str} {C : Addr} {k j : Nat} {sp : Sp} (M : MakesX X.prog X.w X.K X.mg X.base x C k sp) (hr : Room (j + 1) X.A) (hk : k ≤ j) (ha : L2.PA X (e :: es) ta) (hg : Gl X x := by rfl)
    (hdb : (x == ("__debug__" : Str)) = false := by decide) (he : starEach (e :: es) X.env = (false, eval e X.env) :: starEach es X.env := by rfl) (hpl : (backTo pos (starEach es X.env)).any (·.1) = false := by rfl) :
    L2N.PMk X (.Call (.Name x p) (e :: es) [] pos) (tMkO C sp [] ta) := by
  obtain ⟨fI, fd, ps, h1, h2, F, b⟩ := M.ex
  exact pmk_oexN M.T h1 h2 F (hr.mono (Nat.succ_le_succ hk)) b .nil hg M.m ha hdb he hpl
/-! ### the promises of the two kinds of __init__ -/
/-- its two fields -/
def fs2 (word : Str) (n : Int) : List (Str × V) := [("number", .int n), ("word", .str word)]
def spX2 (C : Addr) : Sp := fun vs H Q _ => ∃ (x : Addr) (word : Str) (n : Int), vs = [.ref x, .str word, .int n] ∧ H x = some (exo x C none) ∧ word.length ≤ 20 ∧ 0 ≤ n ∧ n < 1000 ∧
  ∀ dx, H dx = none → dx ≠ x → Q .non (upd (upd (upd H dx (exd dx [("word", .str word)])) x (exo x C (some dx))) dx (exd dx (fs2 word n)))
/-- its one field -/
def spX1 (C : Addr) (fld : Str) : Sp := fun vs H Q _ => ∃ (x : Addr) (n : Int), vs = [.ref x, .int n] ∧ H x = some (exo x C none) ∧ 0 ≤ n ∧ n < 1000 ∧
  ∀ dx, H dx = none → dx ≠ x → Q .non (upd (upd H dx (exd dx [(fld, .int n)])) x (exo x C (some dx)))
theorem rd_x2 {C : Addr} {word : Str} {n : Int} {H1 : Hp} {Q : XK} (h0 : word.length ≤ 20) (h1 : 0 ≤ n) (h2 : n < 1000) (q : ∀ d, H1 d = none → Q (.ref C) (some d) (upd H1 d (.xd (fs2 word n)))) :
    ([V.str word, V.int n] : List V).length ≤ 1000 ∧ ∀ a, H1 a = none → spX2 C (.ref a :: ([V.str word, V.int n] ++ [])) (upd H1 a (exo a C none))
      (fun v H2 => v = .non ∧ ∃ (d : Addr) (fs : List (Str × V)), H2 a = some (exo a C (some d)) ∧ H2 d = some (exd d fs) ∧ H1 d = none ∧ Q (.ref C) (some d) (upd (L2.del H2 a) d (.xd fs))) (fun _ _ _ => False) := by
  refine ⟨by show 2 ≤ 1000; decide, fun a na => ⟨a, word, n, rfl, upd_same, h0, h1, h2, fun dx hd ne => ⟨rfl, dx, fs2 word n, ?_, upd_same, ?_, ?_⟩⟩⟩
  · rw [upd_ne ne.symm, upd_same]
  · rw [upd_ne ne] at hd; exact hd
  · have e : upd (L2.del (upd (upd (upd (upd H1 a (exo a C none)) dx (exd dx [("word", .str word)])) a (exo a C (some dx))) dx (exd dx (fs2 word n))) a) dx (.xd (fs2 word n)) = upd H1 dx (.xd (fs2 word n)) := by
      funext b
      by_cases hb : b = dx
      · rw [hb, upd_same, upd_same]
      · rw [upd_ne hb, upd_ne hb]
        by_cases hb2 : b = a
        · rw [hb2, L2.del_same, na]
        · rw [L2.del_ne hb2, upd_ne hb, upd_ne hb2, upd_ne hb, upd_ne hb2]
    rw [e]
    rw [upd_ne ne] at hd
    exact q dx hd
theorem rd_x1 {C : Addr} {fld : Str} {n : Int} {H1 : Hp} {Q : XK} (h1 : 0 ≤ n) (h2 : n < 1000) (q : ∀ d, H1 d = none → Q (.ref C) (some d) (upd H1 d (.xd [(fld, .int n)]))) :
    ([V.int n] : List V).length ≤ 1000 ∧ ∀ a, H1 a = none → spX1 C fld (.ref a :: ([V.int n] ++ [])) (upd H1 a (exo a C none))
      (fun v H2 => v = .non ∧ ∃ (d : Addr) (fs : List (Str × V)), H2 a = some (exo a C (some d)) ∧ H2 d = some (exd d fs) ∧ H1 d = none ∧ Q (.ref C) (some d) (upd (L2.del H2 a) d (.xd fs))) (fun _ _ _ => False) := by
  refine ⟨by show 1 ≤ 1000; decide, fun a na => ⟨a, n, rfl, upd_same, h1, h2, fun dx hd ne => ⟨rfl, dx, [(fld, .int n)], upd_same, ?_, ?_, ?_⟩⟩⟩
  · rw [upd_ne ne, upd_same]
  · rw [upd_ne ne] at hd; exact hd
  · have e : upd (L2.del (upd (upd (upd H1 a (exo a C none)) dx (exd dx [(fld, .int n)])) a (exo a C (some dx))) a) dx (.xd [(fld, .int n)]) = upd H1 dx (.xd [(fld, .int n)]) := by
      funext b
      by_cases hb : b = dx
      · rw [hb, upd_same, upd_same]
      · rw [upd_ne hb, upd_ne hb]
        by_cases hb2 : b = a
        · rw [hb2, L2.del_same, na]
        · rw [L2.del_ne hb2, upd_ne hb2, upd_ne hb, upd_ne hb2]
    rw [e]
    rw [upd_ne ne] at hd
    exact q dx hd
/-- a number below a thousand, written, is short -/
theorem dig_short {n : Int} (h1 : 0 ≤ n) (h2 : n < 1000) : ((toString n : String) : Str).length ≤ 3 := by
  have key : ∀ m : Fin 1000, ((toString ((m.val : Nat) : Int) : String) : Str).length ≤ 3 := by decide +kernel
  have e : n = ((n.toNat : Nat) : Int) := by omega
  rw [e]
  exact key ⟨n.toNat, by omega⟩
section
variable {P : Program} {w : World} {K : PySem.W.Frag} {mg : Str → Option Value} {base : Heap}
abbrev st_BadBoard___init__ : Stmt := (inClass (topS 2) 0)
abbrev st_BadFence___init__ : Stmt := (inClass (topS 3) 0)
abbrev st_BadText___init__ : Stmt := (inClass (topS 6) 0)
theorem bb_scope : NdefX.NScope ["self", "word", "number", "__class__"] ["self", "word", "number"] ["__class__"] (defScope st_BadBoard___init__) := NdefX.nscope_by (by decide +kernel)
theorem bf_scope : NdefX.NScope ["self", "number", "__class__"] ["self", "number"] ["__class__"] (defScope st_BadFence___init__) := NdefX.nscope_by (by decide +kernel)
theorem bt_scope : NdefX.NScope ["self", "row", "__class__"] ["self", "row"] ["__class__"] (defScope st_BadText___init__) := NdefX.nscope_by (by decide +kernel)
/-- what the class must be -/
structure XCls (K : PySem.W.Frag) (C : Addr) (fs : List Str) : Prop where
  T : OexC K C
  S : SupX K C C
  no : ∀ f ∈ fs, PySem.W.findIn K (.ref C) f = some none
end
end Vt
namespace Vt
open PySem PySem.Spec PyProof.Rows L2
section
variable {P : Program} {w : World} {K : PySem.W.Frag} {mg : Str → Option Value} {base : Heap}
theorem word_short {word : Str} {n : Nat} (h : word.length ≤ n) : word.length ≤ n := h
theorem xapp_len (a b : Str) : (a ++ b).length = a.length + b.length := by
  show (a.cps ++ b.cps).size = a.cps.size + b.cps.size
  exact Array.size_append
theorem ex_len {n : Int} (h0 : 0 ≤ n) (h1 : n < 1000) : n.natAbs.log2 < 1920 := by
  have h : n.natAbs < 1000 := by omega
  by_cases z : n.natAbs = 0
  · rw [z]; decide
  · have : n.natAbs.log2 < 10 := (Nat.log2_lt z).mpr (by omega)
    omega
set_option maxHeartbeats 0 in
theorem bb_make {C f cda cc : Addr} (hm : mg "BadBoard" = some (.ref C)) (XC : XCls K C ["word", "number"]) (F : FoundS K C C "__init__" "BadBoard.__init__" st_BadBoard___init__ f cda cc) (tI : PySem.W.typeIn K (.ref f) = some (.type "function")) (hc : CodeAt P K cda)
    (top : (P.main.scope.names.lookup ("super" : Str)).isSome = false) (z_super : mg "super" = none) (any : PySem.W.nsIn K cStatics "thirdparty.any" = some none) : MakesX P w K mg base "BadBoard" C 1 (spX2 C) := by
  obtain ⟨oc, od, kV, doc, pm, an, ct, osl, cl, cld, csl, cdD, a, l, hcd, i, l2, d⟩ := F
  refine ⟨XC.T, hm, f, _, ["self", "word", "number"], a, tI, fnS_exc (k := 0) (sp := spX2 C) l hcd (hbd := by rfl) bb_scope ⟨hc, top, z_super, by decide +kernel, by decide +kernel, any⟩ (by rfl) (by rfl) (by rfl) l2 d (fun vs H Q E h => ?_) (fun _ => rfl) (fun _ => rfl) (fun _ => ⟨_, rfl⟩) (fun _ => rfl) (fun A outer s H vs Q E hr h => ?_), .all fun us hl => ?_⟩
  · obtain ⟨x, word, n, rfl, _⟩ := h
    rfl
  · obtain ⟨x, word, n, rfl, hx, hw, h0, h1, q⟩ := h
    refine ⟨_, _, pa_cons (pe_joined (.cons (pe_fmt (pv 1)) (.cons pe_str (.cons (pe_fmt (pv 2)) .nil)))) pa_nil, pss_cons (ps_ost (pv 0) (pv 1)) (pss_one (ps_ost (pv 0) (pv 2))), x, C, rfl, hx, XC.T, XC.S, ?_⟩
    have d3 := dig_short h0 h1
    refine ⟨_, rfl, .inl ⟨word, rfl, Nat.le_trans hw (by decide), word, rfl, ?_, _, rfl, ?_, _, rfl, .inr ⟨n, rfl, ex_len h0 h1, _, rfl, ?_, ?_⟩⟩⟩
    · rw [xapp_len]
      exact Nat.le_trans (Nat.add_le_add (Nat.le_refl _) hw) (by decide +kernel)
    · rw [xapp_len, xapp_len]
      exact Nat.le_trans (Nat.add_le_add (Nat.add_le_add (Nat.le_refl _) hw) (Nat.le_refl _)) (by decide +kernel)
    · rw [xapp_len, xapp_len, xapp_len]
      exact Nat.le_trans (Nat.add_le_add (Nat.add_le_add (Nat.add_le_add (Nat.le_refl _) hw) (Nat.le_refl _)) d3) (by decide +kernel)
    refine ⟨by show 1 ≤ 1000; decide, hx, ?_⟩
    refine ⟨_, rfl, _, rfl, x, C, rfl, XC.T, XC.no _ (by simp), .inl ⟨hx, fun dx hd ne => ?_⟩⟩
    refine ⟨_, rfl, _, rfl, x, C, rfl, XC.T, XC.no _ (by simp), .inr ⟨dx, _, upd_same, by rw [upd_ne ne, upd_same], by show 1 ≤ 900; decide, ?_⟩⟩
    exact q dx hd ne
  · match us, hl with
    | [_, _, _], _ => rfl
set_option maxHeartbeats 0 in
theorem bf_make {C f cda cc : Addr} (hm : mg "BadFence" = some (.ref C)) (XC : XCls K C ["number"]) (F : FoundS K C C "__init__" "BadFence.__init__" st_BadFence___init__ f cda cc) (tI : PySem.W.typeIn K (.ref f) = some (.type "function")) (hc : CodeAt P K cda)
    (top : (P.main.scope.names.lookup ("super" : Str)).isSome = false) (z_super : mg "super" = none) (any : PySem.W.nsIn K cStatics "thirdparty.any" = some none) : MakesX P w K mg base "BadFence" C 1 (spX1 C "number") := by
  obtain ⟨oc, od, kV, doc, pm, an, ct, osl, cl, cld, csl, cdD, a, l, hcd, i, l2, d⟩ := F
  refine ⟨XC.T, hm, f, _, ["self", "number"], a, tI, fnS_exc (k := 0) (sp := spX1 C "number") l hcd (hbd := by rfl) bf_scope ⟨hc, top, z_super, by decide +kernel, by decide +kernel, any⟩ (by rfl) (by rfl) (by rfl) l2 d (fun vs H Q E h => ?_) (fun _ => rfl) (fun _ => rfl) (fun _ => ⟨_, rfl⟩) (fun _ => rfl) (fun A outer s H vs Q E hr h => ?_), .all fun us hl => ?_⟩
  · obtain ⟨x, n, rfl, _⟩ := h
    rfl
  · obtain ⟨x, n, rfl, hx, h0, h1, q⟩ := h
    refine ⟨_, _, pa_cons (pe_joined (.cons pe_str (.cons (pe_fmt (pv 1)) (.cons pe_str .nil)))) pa_nil, pss_one (ps_ost (pv 0) (pv 1)), x, C, rfl, hx, XC.T, XC.S, ?_⟩
    have d3 := dig_short h0 h1
    refine ⟨_, rfl, ?_, _, rfl, .inr ⟨n, rfl, ex_len h0 h1, _, rfl, ?_, _, rfl, ?_, ?_⟩⟩
    · decide +kernel
    · rw [xapp_len]
      exact Nat.le_trans (Nat.add_le_add (Nat.le_refl _) d3) (by decide +kernel)
    · rw [xapp_len, xapp_len]
      exact Nat.le_trans (Nat.add_le_add (Nat.add_le_add (Nat.le_refl _) d3) (Nat.le_refl _)) (by decide +kernel)
    refine ⟨by show 1 ≤ 1000; decide, hx, ?_⟩
    refine ⟨_, rfl, _, rfl, x, C, rfl, XC.T, XC.no _ (by simp), .inl ⟨hx, fun dx hd ne => ?_⟩⟩
    exact q dx hd ne
  · match us, hl with
    | [_, _], _ => rfl
set_option maxHeartbeats 0 in
theorem bt_make {C f cda cc : Addr} (hm : mg "BadText" = some (.ref C)) (XC : XCls K C ["row"]) (F : FoundS K C C "__init__" "BadText.__init__" st_BadText___init__ f cda cc) (tI : PySem.W.typeIn K (.ref f) = some (.type "function")) (hc : CodeAt P K cda)
    (top : (P.main.scope.names.lookup ("super" : Str)).isSome = false) (z_super : mg "super" = none) (any : PySem.W.nsIn K cStatics "thirdparty.any" = some none) : MakesX P w K mg base "BadText" C 1 (spX1 C "row") := by
  obtain ⟨oc, od, kV, doc, pm, an, ct, osl, cl, cld, csl, cdD, a, l, hcd, i, l2, d⟩ := F
  refine ⟨XC.T, hm, f, _, ["self", "row"], a, tI, fnS_exc (k := 0) (sp := spX1 C "row") l hcd (hbd := by rfl) bt_scope ⟨hc, top, z_super, by decide +kernel, by decide +kernel, any⟩ (by rfl) (by rfl) (by rfl) l2 d (fun vs H Q E h => ?_) (fun _ => rfl) (fun _ => rfl) (fun _ => ⟨_, rfl⟩) (fun _ => rfl) (fun A outer s H vs Q E hr h => ?_), .all fun us hl => ?_⟩
  · obtain ⟨x, n, rfl, _⟩ := h
    rfl
  · obtain ⟨x, n, rfl, hx, h0, h1, q⟩ := h
    refine ⟨_, _, pa_cons (pe_joined (.cons pe_str (.cons (pe_fmt (pv 1)) (.cons pe_str .nil)))) pa_nil, pss_one (ps_ost (pv 0) (pv 1)), x, C, rfl, hx, XC.T, XC.S, ?_⟩
    have d3 := dig_short h0 h1
    refine ⟨_, rfl, ?_, _, rfl, .inr ⟨n, rfl, ex_len h0 h1, _, rfl, ?_, _, rfl, ?_, ?_⟩⟩
    · decide +kernel
    · rw [xapp_len]
      exact Nat.le_trans (Nat.add_le_add (Nat.le_refl _) d3) (by decide +kernel)
    · rw [xapp_len, xapp_len]
      exact Nat.le_trans (Nat.add_le_add (Nat.add_le_add (Nat.le_refl _) d3) (Nat.le_refl _)) (by decide +kernel)
    refine ⟨by show 1 ≤ 1000; decide, hx, ?_⟩
    refine ⟨_, rfl, _, rfl, x, C, rfl, XC.T, XC.no _ (by simp), .inl ⟨hx, fun dx hd ne => ?_⟩⟩
    exact q dx hd ne
  · match us, hl with
    | [_, _], _ => rfl
end
end Vt
namespace Vt
open PySem PySem.Spec PyProof.Rows L2 L2H
/-! ### isinstance of an exception that may have fields -/
/-- its dict, if it has one, stands -/
def DOk (d : Option Addr) (H : Hp) : Prop := ∀ dd, d = some dd → ∃ fs, H dd = some (.xd fs)
theorem DOk.same {d : Option Addr} {H H' : Hp} (h : DOk d H) (s : Same H H') : DOk d H' := fun dd e => by
  obtain ⟨fs, q⟩ := h dd e
  exact ⟨fs, s _ _ q⟩
def rIsX (K : PySem.W.Frag) (D a : Addr) (d : Option Addr) : List V → Hp → VK → Prop := fun xs H Q => ∃ (c : V) (cv : Value) (b : Bool), xs = [.ref a, c] ∧ (∀ u, RelV c u → u = cv) ∧ PySem.W.kitOne K (.ref D) cv = some b ∧ DOk d H ∧ Q (.bl b) H
theorem call_isX {X : Cx} {a D : Addr} {oe : Obj} {pn : List (Addr × Obj)} {d : Option Addr} (C : ExcC X.K D) (hz : Zc (.ref D) d oe) (hf : ∃ vs, oe.data = .fields vs) : CallR (X.suite a ((a, oe) :: pn)) (.builtin "isinstance") (rIsX X.K D a d) := by
  intro pins s σ H xs us Q I r h
  obtain ⟨c, cv, b, rfl, hcv, e, dok, q⟩ := h
  cases r with
  | cons rx rr =>
    cases rr with
    | cons rt rr =>
      cases rr
      cases rx
      have ec := hcv _ rt
      subst ec
      obtain ⟨hget, _⟩ := I.pin (a, oe) (List.mem_append.mpr (.inl List.mem_cons_self))
      obtain ⟨vs, hv⟩ := hf
      obtain ⟨cd, hc, _⟩ := PySem.W.any_some C.hd
      have hcl : (PySem.W.clsIn X.K D).isSome = true := by rw [hc]; rfl
      obtain ⟨od, J⟩ : ∃ od, PySem.W.InstAt s.heap a oe D od := by
        obtain ⟨oc, oda, odt, osl⟩ := oe
        obtain ⟨h1, h2⟩ := hz
        dsimp only at h1 h2 hv
        subst h1 h2 hv
        cases oda with
        | none => exact ⟨none, hget, rfl, rfl, trivial⟩
        | some dd =>
          obtain ⟨fs, hdd⟩ := dok dd rfl
          have hx : ObjOk X.prog X.w H s.heap dd (.xd fs) := I.hok dd _ hdd
          obtain ⟨mA, hns, hr⟩ := hx
          obtain ⟨od, ho, _⟩ := lookIn_ns hns
          exact ⟨some od, hget, rfl, rfl, ho⟩
      exact PySem.W.kia_one (PySem.W.kitx_exc hcl C.hg C.hk C.hs C.ha C.hn C.ht C.hm) I.kIn J e (fun z => nomatch z) fun tk => ⟨.bl b, H, I.kept (t' := tk) fun _ _ z => z, rfl, q⟩
theorem call_isXP {Y : Cx} {a D : Addr} {oe : Obj} {d : Option Addr} (hA : Y.A.mark (some (.ref a)) = Y.A) (hpn : Y.pn = [(a, oe)]) (C : ExcC Y.K D) (hz : Zc (.ref D) d oe) (hf : ∃ vs, oe.data = .fields vs) : CallR Y (.builtin "isinstance") (rIsX Y.K D a d) := by
  refine callr_suite hA ?_
  rw [hpn]
  exact call_isX C hz hf
end Vt
namespace Vt
open PySem PySem.Spec PyProof.Rows L2 L2H
/-! ### the asker's _law_class -/
/-- the five classes at their places -/
structure Clss (mg : Str → Option Value) (C : Nat → Addr) : Prop where
  g0 : mg "BadBoard" = some (.ref (C 0))
  g1 : mg "BadFence" = some (.ref (C 1))
  g2 : mg "NotSure" = some (.ref (C 2))
  g3 : mg "BadCount" = some (.ref (C 3))
  g4 : mg "BadText" = some (.ref (C 4))
/-- a class that isinstance knows: the j-th one -/
structure IsCls (K : PySem.W.Frag) (C : Nat → Addr) (j : Nat) : Prop where
  exc : ExcC K (C j)
  is0 : PySem.W.kitOne K (.ref (C j)) (.ref (C 0)) = some (decide (j = 0))
  is1 : PySem.W.kitOne K (.ref (C j)) (.ref (C 1)) = some (decide (j = 1))
  is2 : PySem.W.kitOne K (.ref (C j)) (.ref (C 2)) = some (decide (j = 2))
  is3 : PySem.W.kitOne K (.ref (C j)) (.ref (C 3)) = some (decide (j = 3))
  is4 : PySem.W.kitOne K (.ref (C j)) (.ref (C 4)) = some (decide (j = 4))
  isV : PySem.W.kitOne K (.ref (C j)) (.type "ValueError") = some true
def clsWords : List Str := ["BadBoard", "BadFence", "NotSure", "BadCount", "BadText"]
def clsBools (j : Nat) : List V := [.bl (decide (j = 0)), .bl (decide (j = 1)), .bl (decide (j = 2)), .bl (decide (j = 3)), .bl (decide (j = 4))]
section
variable {P : Program} {w : World} {K : PySem.W.Frag} {mg : Str → Option Value} {base : Heap}
abbrev st_law_class : Stmt := (topS 70)
abbrev nm_law_class : List Str := ["_law_e", "_law_kinds_here", "_law_words"]
theorem sc_law_class : FnScope ["_law_e", "_law_kinds_here", "_law_words"] ["_law_e"] (defScope st_law_class) := ⟨rfl, rfl, rfl, by decide +kernel, rfl, by decide +kernel, by decide +kernel⟩
/-- the handled exception is of the j-th class -/
def spClassD (K : PySem.W.Frag) (C : Nat → Addr) (cls : Value) (d : Option Addr) (a : Addr) : Sp := fun vs H Q _ => ∃ (j : Nat) (z : Str), IsCls K C j ∧ clsWords[j]? = some z ∧ cls = .ref (C j) ∧ DOk d H ∧ vs = [.ref a] ∧ ∀ (H' : Hp), Same H H' → Q (.str z) H'
theorem bools_one : ∀ j : Nat, j < 5 → (clsBools j).all flatV = true ∧ (clsBools j).countP (fun z => eqV z (.bl true)) = 1 ∧ (clsBools j)[j]? = some (.bl true) ∧ ∀ (m : Nat) (z' : V), m < j → (clsBools j)[m]? = some z' → eqV z' (.bl true) = false := by
  intro j hj
  refine ⟨rfl, ?_, ?_, fun m z' hm hz => ?_⟩
  · rcases (show j = 0 ∨ j = 1 ∨ j = 2 ∨ j = 3 ∨ j = 4 by omega) with rfl | rfl | rfl | rfl | rfl <;> decide +kernel
  · rcases (show j = 0 ∨ j = 1 ∨ j = 2 ∨ j = 3 ∨ j = 4 by omega) with rfl | rfl | rfl | rfl | rfl <;> rfl
  · have : ∃ i, z' = .bl (decide (j = i)) ∧ i = m := by
      rcases (show m = 0 ∨ m = 1 ∨ m = 2 ∨ m = 3 by omega) with rfl | rfl | rfl | rfl <;> exact ⟨_, (Option.some.inj hz).symm, rfl⟩
    obtain ⟨i, rfl, rfl⟩ := this
    rw [decide_eq_false (by omega)]
    rfl
set_option maxHeartbeats 0 in
theorem ok_classD {f : Addr} {C : Nat → Addr} (G : Clss mg C) {oc : Value} {od : Option Addr} {kV doc pm cdv ct : Value} {an : Option Addr} {osl : Array (Option Value)} (lk : K.lookup f = some ⟨oc, od, .func (PySem.W.fnOf "_law_class" "_law_class" (defArgs st_law_class) (defBody st_law_class) (defScope st_law_class) .none kV doc pm an cdv ct), osl⟩)
    (hcd : PySem.W.codeIn K cdv "_law_class" = true) (z_isinstance : mg "isinstance" = none) (z_VE : mg "ValueError" = none) (p : Addr × Obj) (cls : Value) (d : Option Addr) (hz : L2N.Zn cls d p.2) (hf : ∃ vs, p.2.data = .fields vs) :
    FnP P w K mg base 1 f (PySem.W.fnOf "_law_class" "_law_class" (defArgs st_law_class) (defBody st_law_class) (defScope st_law_class) .none kV doc pm an cdv ct) ["_law_e"] p (spClassD K C cls d p.1) := by
  refine fn_ofP lk hcd sc_law_class (fun vs H Q E h => ?_) (fun A outer s H vs Q E hot hr h => ?_)
  · obtain ⟨j, z, _, _, _, _, rfl, _⟩ := h
    rfl
  · obtain ⟨j, z, hc, hw, rfl, dok, rfl, q⟩ := h
    have hj : j < 5 := by
      have := (List.getElem?_eq_some_iff.mp hw).1
      exact this
    obtain ⟨b1, b2, b3, b4⟩ := bools_one j hj
    have hA := mark_hot (env := envOfC "_law_class" (defScope st_law_class) s.heap.objs.size f cdv) hot
    have cI : CallR (cxH CX0 P w K mg base ["_law_e", "_law_kinds_here", "_law_words"] "_law_class" (defScope st_law_class) f cdv A outer s H E p) (.builtin "isinstance") (rIsX K (C j) p.1 d) := call_isXP hA rfl hc.exc ⟨hz.1, hz.2.1⟩ hf
    refine ⟨_, (pss_cons (ps_set (i := 1) sc_law_class.nd rfl (Or.inl rfl) (pe_lst (pa_cons (pe_callB cI (by rfl) z_isinstance (by decide +kernel) (pa_cons (pv 0) (pa_cons (pe_glob (v := .ref _) rfl G.g0 rfl) pa_nil)))
        (pa_cons (pe_callB cI (by rfl) z_isinstance (by decide +kernel) (pa_cons (pv 0) (pa_cons (pe_glob (v := .ref _) rfl G.g1 rfl) pa_nil)))
        (pa_cons (pe_callB cI (by rfl) z_isinstance (by decide +kernel) (pa_cons (pv 0) (pa_cons (pe_glob (v := .ref _) rfl G.g2 rfl) pa_nil)))
        (pa_cons (pe_callB cI (by rfl) z_isinstance (by decide +kernel) (pa_cons (pv 0) (pa_cons (pe_glob (v := .ref _) rfl G.g3 rfl) pa_nil))) pa_nil))))))
      (pss_cons (ps_expr (pe_bm PySem.F.plainAttrs_list PySem.F.slot_list_append PySem.F.type_list_append mt_append (pv 1) (pa_cons (pe_callB cI (by rfl) z_isinstance (by decide +kernel) (pa_cons (pv 0) (pa_cons (pe_glob (v := .ref _) rfl G.g4 rfl) pa_nil))) pa_nil)))
      (pss_cons (ps_set (i := 2) sc_law_class.nd rfl (Or.inl rfl) (pe_lst (pa_cons pe_str (pa_cons pe_str (pa_cons pe_str (pa_cons pe_str (pa_cons pe_str pa_nil)))))))
      (pss_one (ps_ret (pe_ifExp (PW.pt (pw_and (pt_cmpR op_eq (pe_bm PySem.F.plainAttrs_list PySem.F.slot_list_count PySem.F.type_list_count mt_countF (pv 1) (pa_cons pe_bl pa_nil)) pe_int (nomark _)) (pw_and1 (pt_val (pe_callB cI (by rfl) z_isinstance (by decide +kernel) (pa_cons (pv 0) (pa_cons (pe_bltn (v := .ty "ValueError") rfl z_VE (by decide +kernel) rfl) pa_nil)))))))
        (pe_ix ix_lt (pv 2) (pe_bm PySem.F.plainAttrs_list PySem.F.slot_list_index PySem.F.type_list_index mt_index (pv 1) (pa_cons pe_bl pa_nil)) (fun _ _ => rfl)) pe_str)))))), ?_⟩
    refine ⟨_, rfl, _, .ref (C 0), _, rfl, (fun u h => h), hc.is0, dok, ?_⟩
    refine ⟨_, rfl, _, .ref (C 1), _, rfl, (fun u h => h), hc.is1, dok, ?_⟩
    refine ⟨_, rfl, _, .ref (C 2), _, rfl, (fun u h => h), hc.is2, dok, ?_⟩
    refine ⟨_, rfl, _, .ref (C 3), _, rfl, (fun u h => h), hc.is3, dok, ?_⟩
    refine ⟨by show 4 ≤ sizeLine; decide, fun L nL => ?_⟩
    refine ⟨_, rfl, .inl ⟨rfl, _, sqL_l upd_same⟩, ?_⟩
    refine ⟨_, rfl, _, .ref (C 4), _, rfl, (fun u h => h), hc.is4, dok.same (same_new nL), ?_⟩
    refine ⟨L, [.bl (decide (j = 0)), .bl (decide (j = 1)), .bl (decide (j = 2)), .bl (decide (j = 3))], _, rfl, rfl, upd_same, by show 4 < sizeLine; decide, ?_⟩
    refine ⟨by show 5 ≤ sizeLine; decide, fun M nM => ?_⟩
    have nLM : L ≠ M := fun z => by
      rw [← z, upd_same] at nM
      cases nM
    have hL : ∀ {H0 : Hp} {o : HO}, upd (upd H0 L (.lst (clsBools j))) M o L = some (.lst (clsBools j)) := fun {H0 o} => by rw [upd_ne nLM, upd_same]
    have sLM : ∀ {o : HO}, Same H (upd (upd (upd H L (.lst [.bl (decide (j = 0)), .bl (decide (j = 1)), .bl (decide (j = 2)), .bl (decide (j = 3))])) L (.lst (clsBools j))) M o) := fun {o} b u e => by
      have n1 : b ≠ L := ne_of_none e nL
      have n2 : b ≠ M := fun z => by
        rw [← z, upd_ne n1, upd_ne n1, e] at nM
        cases nM
      rw [upd_ne n2, upd_ne n1, upd_ne n1]
      exact e
    refine ⟨_, rfl, .inl ⟨rfl, _, sqL_l hL⟩, ?_⟩
    refine ⟨L, clsBools j, .bl true, rfl, rfl, sqL_l hL, rfl, b1, ?_⟩
    rw [b2]
    refine ⟨rfl, _, rfl, Eq.mpr (if_pos (decide_eq_true rfl)) ?_⟩
    refine ⟨_, rfl, _, .type "ValueError", _, rfl, (fun u h => h), hc.isV, DOk.same dok sLM, _, rfl, Eq.mpr (if_pos rfl) ?_⟩
    refine ⟨_, rfl, _, rfl, .inl ⟨rfl, _, sqL_l hL⟩, ?_⟩
    refine ⟨L, clsBools j, .bl true, j, .bl true, rfl, rfl, sqL_l hL, rfl, b1, b3, rfl, b4, ?_⟩
    refine ⟨M, clsWords.map V.str, (j : Nat), .str z, rfl, rfl, sqA_l upd_same, ?_, ?_⟩
    · exact atI_nat (by rw [List.getElem?_map, hw]; rfl)
    · exact q _ sLM
end
end Vt
namespace Vt
open PySem PySem.Spec PyProof.Rows L2 LamX
/-! ### lambdas that are kept: the object is tracked -/
/-- at f: this function -/
def lamO (f : Addr) (o : Obj) : HO := .ext fun h => h.get? f = some o
theorem lamO_ok {P : Program} {w : World} {H : Hp} {h : Heap} {f : Addr} {o : Obj} (e : h.get? f = some o) : ObjOk P w H h f (lamO f o) := ⟨e, ⟨_, e⟩, fun h1 h2 z k => k _ z⟩
theorem lamO_at {P : Program} {w : World} {H : Hp} {h : Heap} {f : Addr} {o : Obj} (hok : HOk P w H h) (e : H f = some (lamO f o)) : h.get? f = some o := by
  have x : ObjOk P w H h f (.ext fun h => h.get? f = some o) := hok f _ e
  exact x.1
theorem lamO_tbl {f : Addr} {o : Obj} (ps : Array Value) : lamO f o ≠ .tbl ps := fun z => by
  unfold lamO at z
  cases z
/-- a lambda at f, of these parameters and this body; df: it has a parameter, 0 if it is not given -/
def LamAt (q : Str) (params : Arguments) (body : Expr) (scope : Scope) (cl : List (Str × Addr)) (df : Bool) (H : Hp) (f : Addr) : Prop :=
  ∃ (c' : Addr) (pm ctv doc dV : Value), H f = some (lamO f (PySem.W.kdv_obj "<lambda>" q params (.expr body) scope cl dV doc pm c' ctv)) ∧ H c' = some (CodeO c' q) ∧ (df = true → ∃ T0, dV = .ref T0 ∧ H T0 = some (.tup [.int 0])) ∧ (df = false → dV = .none)
theorem LamAt.ext {q : Str} {params : Arguments} {body : Expr} {scope : Scope} {cl : List (Str × Addr)} {df : Bool} {H H' : Hp} {f : Addr} (h : LamAt q params body scope cl df H f) (e : ExtN H H') : LamAt q params body scope cl df H' f := by
  obtain ⟨c', pm, ctv, doc, dV, h1, h2, h3, h4⟩ := h
  refine ⟨c', pm, ctv, doc, dV, e _ _ h1 lamO_tbl, e _ _ h2 codeO_ne, fun z => ?_, h4⟩
  obtain ⟨T0, e0, e1⟩ := h3 z
  exact ⟨T0, e0, e _ _ e1 fun ps z => by cases z⟩
theorem ExtN.same {H H' : Hp} (s : Same H H') : ExtN H H' := fun b o h _ => s b o h
theorem Tabs.same {T : List (Addr × Str)} {H H' : Hp} (t : Tabs T H) (s : Same H H') : Tabs T H' := t.ext fun b o h => s b o h
theorem tupOk {P : Program} {w : World} {H : Hp} {h : Heap} {a : Addr} {u : Value} {v : V} (e : h.get? a = some { cls := .type "tuple", data := .seq [u].toArray }) (r : RelV v u) : ObjOk P w H h a (.tup [v]) :=
  ⟨by show 1 ≤ sizeLine; decide, [u], .cons r .nil, ⟨_, e, rfl, _, rfl⟩⟩
section
variable {X : Cx} {pins : List (Addr × Obj)} {σ : L2.St} {H : Hp} {s : Shared}
theorem lam_tail {T : List (Addr × Str)} {c P : Addr} {params : Arguments} {body : Expr} {scope : Scope} {pos : Pos} {fl : Nat} {dV : Value} {E : Value → Shared → Prop} {Q : Value → Shared → Prop} (I : Inv X pins σ H s) (TB : TabB X.base X.mg c P) (hcode : X.env.code = .ref c)
    (hm : (P, X.env.qual ++ "<lambda>") ∈ T) (hu : ∀ p ∈ T, p.1 = P → p.2 = X.env.qual ++ "<lambda>") (hT : Tabs T H) (hfree : ∀ y ∈ scope.names, y.2 = .free → ∃ c, X.env.cells.lookup y.1 = some c)
    (h : ∀ (f c' : Addr) (pm ctv doc : Value) (H1 : Hp) (s' : Shared), Inv X pins σ H1 s' → ExtN H H1 → Tabs T H1 →
      H1 f = some (lamO f (PySem.W.kdv_obj "<lambda>" (X.env.qual ++ "<lambda>") params (.expr body) scope (cloFrom X.env.cells scope.names []) dV doc pm c' ctv)) → H1 c' = some (CodeO c' (X.env.qual ++ "<lambda>")) → Q (.ref f) s') :
    wpAny (model X.prog X.w) X.A (makeTail "<lambda>" (X.env.qual ++ "<lambda>") params (.expr body) scope X.env dV .none none pos fl) Q E s := by
  obtain ⟨ps, hP, ht, ha⟩ := hT _ hm
  have bP : s.heap.BuiltinsAt X.mg P := TB.bm.keeps I.bk
  have hP' : s.heap.get? P = some { cls := .none, data := .fields ps } := I.hok P _ hP
  cases hc : codeAmong pos ps.toList with
  | none =>
    refine PySem.W.kdv_makeTail (mg := X.mg) (c := c) (P := P) (ps := ps) (closure_ok hfree) I.ok.glob (I.mod.glob.keeps I.bk) hcode (TB.code.keeps I.bk) hP' ht hc TB.gP bP fun c' ctv doc h' tk hx hge hlt hrec htb => ?_
    obtain ⟨c2, oc, vs, t, e2, hoc, hd, hv⟩ := hrec
    cases e2
    have hsz : s.heap.objs.size ≤ h'.objs.size := Nat.le_trans hge (Nat.le_of_lt hlt)
    have nC : H c' = none := I.hok.fresh hge
    have I1 := inv_table (t' := tk) (more := #[rawInt pos.line, rawInt pos.col, .ref c']) (h' := h') I hP (fun b o hb e => hx b o hb e) htb hge ⟨oc, vs, t, hoc, hd, hv⟩
    have I2 := I1.laid (t' := tk) (a := h'.objs.size) (o := lamO h'.objs.size (PySem.W.kdv_obj "<lambda>" (X.env.qual ++ "<lambda>") params (.expr body) scope (cloFrom X.env.cells scope.names []) dV doc ((X.mg "__name__").getD .none) c' ctv))
      (h' := h'.push (PySem.W.kdv_obj "<lambda>" (X.env.qual ++ "<lambda>") params (.expr body) scope (cloFrom X.env.cells scope.names []) dV doc ((X.mg "__name__").getD .none) c' ctv)) (fun b u e => Heap.get?_push_of_some _ e) (Nat.le_refl _) (lamO_ok (Heap.get?_push_size h' rfl))
    have hE : ExtN H (upd (upd H P (.tbl (ps ++ #[rawInt pos.line, rawInt pos.col, .ref c']))) c' (CodeO c' (X.env.qual ++ "<lambda>"))) := fun b o e n => by
      rw [upd_ne (ne_of_none e nC), upd_ne (fun z => n ps (Option.some.inj (e.symm.trans (by rw [z]; exact hP))))]
      exact e
    have nF : (upd (upd H P (.tbl (ps ++ #[rawInt pos.line, rawInt pos.col, .ref c']))) c' (CodeO c' (X.env.qual ++ "<lambda>"))) h'.objs.size = none := I1.hok.fresh (Nat.le_refl _)
    have s2 := same_new (o := lamO h'.objs.size (PySem.W.kdv_obj "<lambda>" (X.env.qual ++ "<lambda>") params (.expr body) scope (cloFrom X.env.cells scope.names []) dV doc ((X.mg "__name__").getD .none) c' ctv)) nF
    have eL : (ps ++ #[rawInt pos.line, rawInt pos.col, .ref c']).toList = ps.toList ++ [rawInt pos.line, rawInt pos.col, .ref c'] := by simp
    refine h h'.objs.size c' ((X.mg "__name__").getD .none) ctv doc _ _ I2 (hE.trans (ExtN.same s2)) (Tabs.same (fun p hp => ?_) s2) upd_same (s2 _ _ upd_same)
    by_cases hb : p.1 = P
    · rw [hu p hp hb, hb]
      refine ⟨_, by rw [upd_ne (ne_of_none hP nC), upd_same], by rw [eL]; exact PySem.TriplesOk_snoc _ _ _ _ ht, fun p' cv hcv => ?_⟩
      rw [eL] at hcv
      rcases among_app _ ht hcv with z | z
      · obtain ⟨c0, e1, e2⟩ := ha p' cv z
        exact ⟨c0, e1, hE _ _ e2 codeO_ne⟩
      · exact ⟨c', z, upd_same⟩
    · obtain ⟨ps', a1, a2, a3⟩ := hT p hp
      refine ⟨ps', by rw [upd_ne (ne_of_none a1 nC), upd_ne hb]; exact a1, a2, fun p' cv hcv => ?_⟩
      obtain ⟨c0, e1, e2⟩ := a3 p' cv hcv
      exact ⟨c0, e1, hE _ _ e2 codeO_ne⟩
  | some cv =>
    obtain ⟨c', e, hco⟩ := ha pos cv hc
    subst e
    refine PySem.W.kdv_makeTailHit (mg := X.mg) (c := c) (P := P) (ps := ps) (closure_ok hfree) I.ok.glob (I.mod.glob.keeps I.bk) hcode (TB.code.keeps I.bk) hP' ht hc bP fun ctv doc h' tk hx hsz => ?_
    have I1 : Inv X pins σ H { s with heap := h', toks := tk } := I.kept hx
    have I2 := I1.laid (t' := tk) (a := h'.objs.size) (o := lamO h'.objs.size (PySem.W.kdv_obj "<lambda>" (X.env.qual ++ "<lambda>") params (.expr body) scope (cloFrom X.env.cells scope.names []) dV doc ((X.mg "__name__").getD .none) c' ctv))
      (h' := h'.push (PySem.W.kdv_obj "<lambda>" (X.env.qual ++ "<lambda>") params (.expr body) scope (cloFrom X.env.cells scope.names []) dV doc ((X.mg "__name__").getD .none) c' ctv)) (fun b u e => Heap.get?_push_of_some _ e) (Nat.le_refl _) (lamO_ok (Heap.get?_push_size h' rfl))
    have nF : H h'.objs.size = none := I1.hok.fresh (Nat.le_refl _)
    have s2 := same_new (o := lamO h'.objs.size (PySem.W.kdv_obj "<lambda>" (X.env.qual ++ "<lambda>") params (.expr body) scope (cloFrom X.env.cells scope.names []) dV doc ((X.mg "__name__").getD .none) c' ctv)) nF
    exact h h'.objs.size c' ((X.mg "__name__").getD .none) ctv doc _ _ I2 (ExtN.same s2) (Tabs.same hT s2) upd_same (s2 _ _ hco)
end
/-- what the making of a lambda here asks -/
structure TabX (X : Cx) (T : List (Addr × Str)) (c P : Addr) : Prop where
  tb : TabB X.base X.mg c P
  code : X.env.code = .ref c
  m : (P, X.env.qual ++ "<lambda>") ∈ T
  u : ∀ p ∈ T, p.1 = P → p.2 = X.env.qual ++ "<lambda>"
/-- a lambda's names: a parameter that nobody else bears, captured ones and globals -/
structure LamD (N : List Str) (sc scope : Scope) : Prop where
  kind : scope.kind = .function
  co : scope.isCoroutine = false
  gen : scope.isGenerator = false
  cell : ∀ y ∈ scope.names, y.2 ≠ .cell
  loc : ∀ y ∈ scope.names, y.2 = .local → y.1 ∉ N
  free : ∀ y ∈ scope.names, y.2 = .free → sc.names.lookup y.1 = some .cell ∨ sc.names.lookup y.1 = some .free
def lamDB (N : List Str) (sc scope : Scope) : Bool :=
  decide (scope.kind = .function) && !scope.isCoroutine && !scope.isGenerator && scope.names.all fun y => !decide (y.2 = .cell) && (!decide (y.2 = .local) || !decide (y.1 ∈ N)) && (!decide (y.2 = .free) || decide (sc.names.lookup y.1 = some .cell) || decide (sc.names.lookup y.1 = some .free))
theorem lamD_by {N : List Str} {sc scope : Scope} (h : lamDB N sc scope = true) : LamD N sc scope := by
  unfold lamDB at h
  simp only [Bool.and_eq_true, Bool.or_eq_true, Bool.not_eq_true', decide_eq_true_eq, decide_eq_false_iff_not, List.all_eq_true] at h
  obtain ⟨⟨⟨h1, h2⟩, h3⟩, h4⟩ := h
  refine ⟨h1, h2, h3, fun y hy => (h4 y hy).1.1, fun y hy e => ?_, fun y hy e => ?_⟩
  · rcases (h4 y hy).1.2 with z | z
    · exact absurd e z
    · exact z
  · rcases (h4 y hy).2 with (z | z) | z
    · exact absurd e z
    · exact .inl z
    · exact .inr z
theorem LamD.has {X : Cx} {N : List Str} {scope : Scope} (L : LamD N X.env.scope scope) (ok : X.Ok) : ∀ y ∈ scope.names, y.2 = .free → ∃ c, X.env.cells.lookup y.1 = some c := fun y hy e => by
  rcases L.free y hy e with k | k
  · exact ok.has _ (.inl k)
  · exact ok.has _ (.inr k)
/-- a lambda is made -/
def tLamX (T : List (Addr × Str)) (q : Str) (params : Arguments) (body : Expr) (scope : Scope) (cl : List (Str × Addr)) (df : Bool) : TE := fun σ H Q => Tabs T H ∧ ∀ (f : Addr) (H1 : Hp), ExtN H H1 → Tabs T H1 → LamAt q params body scope cl df H1 f → Q (.ref f) H1
section
variable {X : Cx} {T : List (Addr × Str)} {c P : Addr} {params : Arguments} {body : Expr} {scope : Scope} {pos : Pos}
theorem pe_lam0 (G : TabX X T c P) (L : LamD X.N X.env.scope scope) (hdef : defaultsOf params X.env = ([], [])) : PE X (.Lambda params body scope pos) (tLamX T (X.env.qual ++ "<lambda>") params body scope (cloFrom X.env.cells scope.names []) false) := by
  refine ⟨fun pins s σ H Q I h => ?_⟩
  obtain ⟨hT, h⟩ := h
  refine PySem.W.kla_eval hdef ?_
  rw [makeFunction_eq]
  simp only [List.zip_nil_right, List.filterMap_nil, List.isEmpty_nil, if_true, pure_bind]
  exact lam_tail I G.tb G.code G.m G.u hT (L.has I.ok) fun f c' pm ctv doc H1 s' I1 e1 t1 hf hc => ⟨.ref f, H1, I1, rfl, h f H1 e1 t1 ⟨c', pm, ctv, doc, _, hf, hc, fun z => (by cases z), fun _ => rfl⟩⟩
theorem pe_lamD {j : Nat} {dp : Pos} (G : TabX X T c P) (L : LamD X.N X.env.scope scope) (hd : params.defaults = [.Constant (.int 0) j dp]) (hk0 : params.kw_defaults = []) : PE X (.Lambda params body scope pos) (tLamX T (X.env.qual ++ "<lambda>") params body scope (cloFrom X.env.cells scope.names []) true) := by
  refine ⟨fun pins s σ H Q I h => ?_⟩
  obtain ⟨hT, h⟩ := h
  refine PySem.W.kdv_lam (by rw [hd]; rfl) hk0 ?_
  rw [hd]
  refine PySem.W.kdv_all1 (thn ((pe_int (i := 0) (j := j) (pos := dp)).run pins s σ H (fun v H1 => v = .int 0 ∧ H1 = H) I ⟨rfl, rfl⟩) fun u s1 ⟨v, H1, I1, r1, ev, eH⟩ => PySem.W.kdv_all0 ?_)
  subst ev eH
  rw [makeFunction_eq]
  simp only [List.zip_nil_right, List.filterMap_nil, List.isEmpty_nil, List.isEmpty_cons, Bool.false_eq_true, if_false, if_true, pure_bind]
  refine wpAny_bind (wpAny_newTextTuple ?_)
  have nT0 : H1 s1.heap.objs.size = none := I1.hok.fresh (Nat.le_refl _)
  have I2 := I1.laid (t' := s1.toks) (a := s1.heap.objs.size) (o := .tup [.int 0]) (h' := s1.heap.push { cls := .type "tuple", data := .seq [u].toArray }) (fun b z e => Heap.get?_push_of_some _ e) (Nat.le_refl _) (tupOk (Heap.get?_push_size s1.heap rfl) r1)
  have s2 := same_new (o := .tup [.int 0]) nT0
  refine lam_tail I2 G.tb G.code G.m G.u (Tabs.same hT s2) (L.has I.ok) fun f c' pm ctv doc H2 s' I3 e1 t1 hf hc => ⟨.ref f, H2, I3, rfl, h f H2 ((ExtN.same s2).trans e1) t1 ⟨c', pm, ctv, doc, _, hf, hc, fun _ => ⟨_, rfl, e1 _ _ upd_same fun ps z => by cases z⟩, fun z => by cases z⟩⟩
end
end Vt
namespace Vt
open PySem PySem.Spec PyProof.Rows L2 LamX
/-! ### a lambda called -/
/-- the context of the lambda's body, entered at s from the frames outer; its exceptions are those of L2N -/
def lamCxN (X : Cx) (A : Around) (outer : List Env) (s : Shared) (H : Hp) (E : XK) (scope : Scope) (f c' : Addr) : Cx where
  prog := X.prog
  w := X.w
  K := X.K
  mg := X.mg
  base := X.base
  A := A.deeper (lamEnv X scope s.heap.objs.size f c')
  N := X.N
  s_0 := s
  H_0 := H
  env := lamEnv X scope s.heap.objs.size f c'
  outer := outer
  stack := lamEnv X scope s.heap.objs.size f c' :: outer
  ex := []
  fn := fun _ => false
  calm := true
  pn := []
  xe := fun e s' => wpAny (model X.prog X.w) (A.deeper (lamEnv X scope s.heap.objs.size f c')) (leaving (lamEnv X scope s.heap.objs.size f c') e) (fun _ s'' => L2N.CX X.prog X.w outer H s E e s'') (fun e' s'' => L2N.CX X.prog X.w outer H s E e' s'') s'
section
variable {X : Cx} {pins : List (Addr × Obj)} {σ : L2.St} {H HZ : Hp} {s s1 : Shared}
theorem lam_startN {A : Around} {outer : List Env} {E : XK} {scope : Scope} {f c' : Addr} {h₁ : Heap} {tk : Nat} {mB : Str → Option Value} (I : Inv X pins σ H s) (L : LamD X.N X.env.scope scope) (e0 : Env0 X.prog X.w X.K X.mg X.base A outer s1 HZ) (hd : A.handled = none)
    (un : Un (frs X.stack) [] H HZ s.heap s1.heap) (hns : h₁.Ns s1.heap.objs.size mB) (kp : ∀ b o, s1.heap.get? b = some o → h₁.get? b = some o) :
    Inv (lamCxN X A outer s1 HZ E scope f c') [] σ HZ { s1 with heap := h₁, toks := tk } := by
  have hfree := L.has I.ok
  have cm : ∀ {y c}, (cloFrom X.env.cells scope.names []).lookup y = some c → X.env.cells.lookup y = some c := fun {y c} e => by
    rcases cloFrom_mem (PySem.mem_of_lookup e) with hm | ⟨h1, h2⟩
    · cases hm
    · obtain ⟨c1, hc⟩ := hfree _ h1 rfl
      have hc : X.env.cells.lookup y = some c1 := hc
      have e2 : c = c1 := by
        rw [h2, hc] <;> rfl
      rw [e2]
      exact hc
  have look : ∀ {y}, scope.names.lookup y = some .free → ∃ c, (cloFrom X.env.cells scope.names []).lookup y = some c := fun {y} hl => by
    have hy : (y, NameKind.free) ∈ scope.names := PySem.mem_of_lookup hl
    exact mem_lookup (cloFrom_has (cells := X.env.cells) (acc := []) hy)
  have cellK : ∀ {c : Addr} {v : Option Value}, H c = none → s.heap.IsCell c v → h₁.IsCell c v := fun {c v} n ⟨o, ho, hd⟩ => by
    obtain ⟨sl, q⟩ := un.any ho n (by simp)
    exact ⟨_, kp _ _ q, hd⟩
  have noA : ∀ b : Addr, b ∉ (lamCxN X A outer s1 HZ E scope f c').ex := fun b z => absurd (show b ∈ ([] : List Addr) from z) (by simp)
  refine ⟨⟨e0.mod, L.kind, rfl, rfl, Nat.le_refl _, fun y z c e1 e2 => I.ok.inj y z c (cm e1) (cm e2), fun y hy => ?_, fun y c z _ => ?_, fun _ => hd, Around.frames_deeper e0.frames, .inr ⟨rfl, rfl⟩, fun b z => absurd z (noA b), e0.bs, e0.bsz, fun b _ _ => noA b,
      fun b z => absurd z (noA b), e0.funs, e0.frf⟩,
    rfl, e0.bare, Un.kept kp, ⟨_, hns, fun i y v e1 e2 e3 => ?_⟩, fun y c e => ?_, e0.hok.fresh (Nat.le_refl _), fun y c e => ?_, fun q hq => absurd (show q ∈ ([] : List (Addr × Obj)) ++ [] from hq) (by simp), e0.hok.kept kp, I.len⟩
  · have hy : scope.names.lookup y = some .cell ∨ scope.names.lookup y = some .free := hy
    rcases hy with hy | hy
    · exact absurd rfl (L.cell _ (PySem.mem_of_lookup hy))
    · exact look hy
  · have z : false = true := z
    cases z
  · have e3 : Vis scope y := e3
    have e1 : X.N[i]? = some y := e1
    rcases e3 with k | k | k
    · exact absurd (List.mem_of_getElem? e1) (L.loc _ (PySem.mem_of_lookup k) rfl)
    · exact absurd rfl (L.cell _ (PySem.mem_of_lookup k))
    · obtain ⟨m, hn, hl⟩ := I.loc
      have hvis : Vis X.env.scope y := (L.free _ (PySem.mem_of_lookup k) rfl).elim (fun k => .inr (.inl k)) (fun k => .inr (.inr k))
      obtain ⟨w', r, q⟩ := hl i y v e1 e2 hvis
      obtain ⟨c2, h2⟩ := look k
      refine ⟨w', r, .inr ⟨.inr k, c2, h2, ?_⟩⟩
      have c1 := cm h2
      rcases q with ⟨k', _⟩ | ⟨_, c3, e', z⟩
      · have k' : X.env.scope.names.lookup y = some .local := k'
        rcases L.free _ (PySem.mem_of_lookup k) rfl with k2 | k2 <;> rw [show X.env.scope.names.lookup y = _ from k2] at k' <;> cases k'
      · rw [c1] at e'
        cases e'
        exact cellK (I.freeC y _ c1) z
  · obtain ⟨w', z⟩ := I.cell y c (cm e)
    exact ⟨w', cellK (I.freeC y c (cm e)) z⟩
  · obtain ⟨v, o, ho, hd⟩ := I.cell y c (cm e)
    exact un.free c o ho (I.freeC y c (cm e)) (by simp)
/-- what a lambda's parameters say, called with nothing -/
def LamB (q : Str) (params : Arguments) (body : Expr) (scope : Scope) (cl : List (Str × Addr)) : Bool → Prop
  | false => ∀ (doc pm cv ctv : Value), bindArgs (PySem.W.kdv_fn "<lambda>" q params (.expr body) scope cl .none doc pm cv ctv) ⟨[], []⟩ = pure []
  | true => ∃ p : Str, scope.names.lookup p = some .local ∧ ∀ (dV doc pm cv ctv : Value), ∃ k : Option (Array Value) → Sem (List (Str × Value)), bindArgs (PySem.W.kdv_fn "<lambda>" q params (.expr body) scope cl dV doc pm cv ctv) ⟨[], []⟩ = seqItems? dV >>= k ∧ ∀ v, k (some #[v]) = pure [(p, v)]
theorem LamB.binds {P : Program} {w : World} {q : Str} {params : Arguments} {body : Expr} {scope : Scope} {cl : List (Str × Addr)} {df : Bool} {H : Hp} {s : Shared} {dV doc pm cv ctv : Value} (B : LamB q params body scope cl df) (hok : HOk P w H s.heap)
    (h3 : df = true → ∃ T0, dV = .ref T0 ∧ H T0 = some (.tup [.int 0])) (h4 : df = false → dV = .none) : ∃ binds : List (Str × Value), BindsTo s (PySem.W.kdv_fn "<lambda>" q params (.expr body) scope cl dV doc pm cv ctv) ⟨[], []⟩ binds ∧ ∀ y ∈ binds, scope.names.lookup y.1 = some .local := by
  cases df with
  | false =>
    have e := h4 rfl
    subst e
    exact ⟨[], .of_eq (B doc pm cv ctv), fun y hy => absurd hy (by simp)⟩
  | true =>
    obtain ⟨T0, e0, e1⟩ := h3 rfl
    subst e0
    obtain ⟨p, hp, hb⟩ := B
    obtain ⟨k, k1, k2⟩ := hb (.ref T0) doc pm cv ctv
    obtain ⟨_, its, hv, o, ho, _, n, hd⟩ := (show ObjOk P w H s.heap T0 (.tup [.int 0]) from hok T0 _ e1)
    cases hv with
    | @cons _ u _ _ r t =>
      cases t
      exact ⟨[(p, u)], BindsTo.of_defaults rfl ho hd k1 (k2 u), fun y hy => by rw [List.mem_singleton.mp hy]; exact hp⟩
end
section
variable {X : Cx} {pins : List (Addr × Obj)} {σ : L2.St} {H HZ : Hp} {s s1 : Shared}
/-- x(), in the def that got the lambda, within its try -/
theorem pe_actN {CXg : CXT} {Eg : XK} {Ng : List Str} {qg : Str} {sg : Scope} {g : Addr} {cdg : Value} {params : Arguments} {body : Expr} {scope : Scope} {df : Bool} {k i : Nat} {a : Str} {pn : List (Addr × Obj)} {xe : Value → Shared → Prop} {W : WX} {E : XK} {tb : TE} {p1 p2 : Pos}
    (I : Inv X pins σ H s) (L : LamD X.N X.env.scope scope) (B : LamB (X.env.qual ++ "<lambda>") params body scope (cloFrom X.env.cells scope.names []) df)
    (tk : L2N.Takes ((cxOf CXg X.prog X.w X.K X.mg X.base Ng qg sg g cdg X.A X.stack s H Eg).tr pn xe) W) (hr : Room (k + 1) (X.A.deeper (envOfC qg sg s.heap.objs.size g cdg)))
    (hbody : ∀ (A : Around) (outer : List Env) (s : Shared) (H : Hp) (f c' : Addr), Room k (A.deeper (lamEnv X scope s.heap.objs.size f c')) → PE (lamCxN X A outer s H E scope f c') body tb)
    (hN : Ng[i]? = some a) (hv : Vis sg a) (hd : (a == ("__debug__" : Str)) = false := by decide) (hcd : (a == ("__classdict__" : Str)) = false := by decide) :
    PE ((cxOf CXg X.prog X.w X.K X.mg X.base Ng qg sg g cdg X.A X.stack s H Eg).tr pn xe) (.Call (.Name a p1) [] [] p2)
      (fun σZ HZ Q => (∀ cls d H', E cls d H' → W cls d σZ H') ∧ ∃ f, σZ[i]? = some (some (.ref f)) ∧ LamAt (X.env.qual ++ "<lambda>") params body scope (cloFrom X.env.cells scope.names []) df HZ f ∧ tb σ HZ Q) := by
  refine ⟨fun pinsZ sZ σZ HZ Q IZ h => ?_⟩
  obtain ⟨hW, f, hs, ⟨c', pm, ctv, doc, dV, hf, hc, h3, h4⟩, ht⟩ := h
  refine wpAny_Call_Name_kw (thn ((pe_var (pos := p1) (i := i) hN hv hd hcd).run pinsZ sZ σZ HZ (fun v H1 => v = .ref f ∧ H1 = HZ) IZ ⟨.ref f, hs, rfl, rfl⟩) fun u s1 ⟨v, H1, I1, r1, q1⟩ => ?_)
  obtain ⟨ev, eH⟩ := q1
  subst ev
  rw [eH] at I1
  obtain rfl : u = Value.ref f := r1
  have of1 := lamO_at I1.hok hf
  refine PySem.W.callWith_F0 ⟨_, _, _, _, of1⟩ ?_
  have un : Un (frs X.stack) [] H HZ s.heap s1.heap := I1.base
  obtain ⟨⟨oc, vs, t, hoc, hdc, hvc⟩, _, _⟩ := I1.hok c' _ hc
  obtain ⟨binds, hb, hloc⟩ := B.binds (s := s1) (doc := doc) (pm := pm) (cv := .ref c') (ctv := ctv) I1.hok h3 h4
  have rc : codeAny (model X.prog X.w) (X.A.deeper (envOfC qg sg s.heap.objs.size g cdg)) (.call (.ref f) ⟨[], []⟩) (CR (L2N.CX X.prog X.w) (envOfC qg sg s.heap.objs.size g cdg :: X.stack) X.prog X.w HZ s1 Q E) s1 := by
    refine PySem.W.kla_callFunE hr.depth of1 rfl L.co L.gen rfl ⟨c', oc, vs, t, rfl, hoc, hdc, hvc⟩ (hb _ _ _ _ ?_)
    refine wpAny_newFunctionEnv (fun y hy => L.cell y hy) hloc (fun h₁ hns hsb => ⟨I1.nolimit.fresh _ hsb, ?_⟩) L.kind
    show codeAny _ _ (.expr body (lamEnv X scope s1.heap.objs.size f c')) _ _
    have kp : ∀ b o, s1.heap.get? b = some o → h₁.get? b = some o := fun b o e => hsb.extBut b o (Nat.ne_of_lt (Heap.lt_size e)) (Heap.get?_push_of_some _ e)
    have J : Inv (lamCxN X (X.A.deeper (envOfC qg sg s.heap.objs.size g cdg)) (envOfC qg sg s.heap.objs.size g cdg :: X.stack) s1 HZ E scope f c') [] σ HZ { s1 with heap := h₁, toks := s1.toks + binds.length } :=
      lam_startN I L I1.env0 hr.hd un hns kp
    refine PySem.W.kla_codeExpr (wpAny_mono ((hbody _ _ s1 HZ f c' (hr.deeper _)).run [] _ _ HZ Q J ht) (fun v s' hq => ?_) fun e s' hq => hq)
    obtain ⟨w', H', J', rv, q⟩ := hq
    exact ⟨w', H', J'.os, J'.bare, J'.base, J'.hok, rv, q⟩
  refine wpAny_call (codeAny_mono rc fun r s' hq => ?_)
  cases r with
  | error e => exact tk e s' (L2N.XE.of_call I1 hW hq)
  | ok fl =>
    cases fl with
    | ret u => exact I1.after hq
    | next => exact False.elim hq
    | brk => exact False.elim hq
    | cont => exact False.elim hq
end
end Vt
namespace Vt
open PySem PySem.Spec PyProof.Rows L2
/-! ### what is refused with a board: the first that is wrong in it -/
def wrongB (R : RBrd) : Option (Str × Nat) :=
  match fwCell R.mem with
  | some i => some ("memory", i)
  | none => match fwOrd R.ords R.mem.length with
    | some i => some ("orders", i)
    | none => match fwDeed R.prog R.ords.length R.mem.length with
      | some i => some ("program", i)
      | none => none
theorem wrong_ok {B : Brd} (ok : BrdOk B) : wrongB B.raw = none := by
  have h1 : B.raw.mem.length = B.mem.length := by simp [Brd.raw]
  have h2 : B.raw.ords.length = B.ords.length := by simp [Brd.raw]
  simp only [wrongB, ok_mem ok, h1, ok_ords ok, h2, ok_prog ok]
/-- a board as handed in, that the reader of deeds can read -/
structure RawOk (K : PySem.W.Frag) (w : World) (dd : Addr) (R : RBrd) : Prop where
  nums : ∀ d ∈ R.prog, d.nums.length ≤ 1000
  miss : ∀ d ∈ R.prog, kindsOf d.word = none → KMiss K w dd d.word
  small : ∀ z n, wrongB R = some (z, n) → n < 1000
theorem raw_ok {K : PySem.W.Frag} {w : World} {dd : Addr} {B : Brd} (h : B.prog.length < 1000) (h2 : B.mem.length < 1000) (h3 : B.ords.length < 1000) : (∀ d ∈ B.raw.prog, d.nums.length ≤ 1000) ∧ (∀ d ∈ B.raw.prog, kindsOf d.word = none → KMiss K w dd d.word) := by
  refine ⟨fun d hd => ?_, fun d hd hk => ?_⟩
  · obtain ⟨d0, _, rfl⟩ := List.mem_map.mp hd
    have : d0.raw.nums.length = d0.args.length := by simp [Deed.raw]
    rw [this]
    cases d0 <;> simp [Deed.args]
  · obtain ⟨d0, _, rfl⟩ := List.mem_map.mp hd
    obtain ⟨ks, e, _⟩ := kinds_deed d0
    rw [show d0.raw.word = d0.word from rfl, e] at hk; cases hk
section
variable {P : Program} {w : World} {K : PySem.W.Frag} {mg : Str → Option Value} {base : Heap}
/-- a board is let through, or refused by the first that is wrong in it -/
def spReqX (K : PySem.W.Frag) (w : World) (dd BB : Addr) : Sp := fun vs H Q E => ∃ (v : V) (R : RBrd), vs = [v] ∧ Pd H v R.d ∧ RawOk K w dd R ∧ (wrongB R = none → ∀ H', Same H H' → Q .non H') ∧
  (∀ z n, wrongB R = some (z, n) → ∀ (H' : Hp) (d : Addr), Same H H' → H' d = some (.xd (fs2 z (n : Nat))) → E (.ref BB) (some d) H')
theorem ok_reqX {f dd BB : Addr} {fd : FuncData} (F : Fun K "require_board" "require_board" st_require_board f fd) (k_BadBoard : MakesX P w K mg base "BadBoard" BB 1 (spX2 BB)) (c_first_wrong_cell : Callee P w K mg base "first_wrong_cell" 1 1 spFwCell) (c_first_wrong_order : Callee P w K mg base "first_wrong_order" 2 2 spFwOrd)
    (c_first_wrong_deed : Callee P w K mg base "first_wrong_deed" 2 3 (spFwDeed K w dd)) (z_len : mg "len" = none) : FnOk P w K mg base (L2N.CX P w) 3 f fd ["board"] (spReqX K w dd BB) := by
  refine okN F sc_require_board (fun vs H Q E h => ?_) (fun cdv A outer s H vs Q E hr h => ?_)
  · obtain ⟨v, R, rfl, _⟩ := h
    rfl
  · obtain ⟨v, R, rfl, hB, rok, q0, q1⟩ := h
    obtain ⟨a, m, o, p, os, ps, rfl, ha, hm, ho, hos, hp, hps⟩ := RBrd.of hB
    refine ⟨_, (pss_cons (ps_asg (pv 0) (pg_tup rfl (pgs_cons (pg_name (i := 1) sc_require_board.nd rfl (Or.inl rfl)) (pgs_cons (pg_name (i := 2) sc_require_board.nd rfl (Or.inl rfl)) (pgs_cons (pg_name (i := 3) sc_require_board.nd rfl (Or.inl rfl)) pgs_nil)))))
  (pss_cons (ps_set (i := 4) sc_require_board.nd rfl (Or.inl rfl) (pe_cal c_first_wrong_cell hr (by first | decide | exact Nat.le_refl _) (pa_cons (pv 1) pa_nil)))
  (pss_cons (ps_if (pt_cmpR op_notN (pv 4) pe_non (nomark _)) (pss_one (L2N.ps_raise rfl (L2N.takes_of rfl rfl rfl rfl) (pmk_mk k_BadBoard hr (by first | decide | exact Nat.le_refl _) (pa_cons pe_str (pa_cons (pv 4) pa_nil))))) pss_nil)
  (pss_cons (ps_set (i := 4) sc_require_board.nd rfl (Or.inl rfl) (pe_cal c_first_wrong_order hr (by first | decide | exact Nat.le_refl _) (pa_cons (pv 2) (pa_cons (pe_callB call_len_seq (by rfl) z_len (by decide +kernel) (pa_cons (pv 1) pa_nil)) pa_nil))))
  (pss_cons (ps_if (pt_cmpR op_notN (pv 4) pe_non (nomark _)) (pss_one (L2N.ps_raise rfl (L2N.takes_of rfl rfl rfl rfl) (pmk_mk k_BadBoard hr (by first | decide | exact Nat.le_refl _) (pa_cons pe_str (pa_cons (pv 4) pa_nil))))) pss_nil)
  (pss_cons (ps_set (i := 4) sc_require_board.nd rfl (Or.inl rfl) (pe_cal c_first_wrong_deed hr (by first | decide | exact Nat.le_refl _) (pa_cons (pv 3) (pa_cons (pe_callB call_len_seq (by rfl) z_len (by decide +kernel) (pa_cons (pv 2) pa_nil)) (pa_cons (pe_callB call_len_seq (by rfl) z_len (by decide +kernel) (pa_cons (pv 1) pa_nil)) pa_nil)))))
  (pss_one (ps_if (pt_cmpR op_notN (pv 4) pe_non (nomark _)) (pss_one (L2N.ps_raise rfl (L2N.takes_of rfl rfl rfl rfl) (pmk_mk k_BadBoard hr (by first | decide | exact Nat.le_refl _) (pa_cons pe_str (pa_cons (pv 4) pa_nil))))) pss_nil)))))))), ?_⟩
    refine ⟨_, rfl, a, _, rfl, sqT_t ha, rfl, _, _, rfl, _, _, rfl, _, _, rfl, rfl, ?_⟩
    have ml : (R.mem.map V.int).length = R.mem.length := by rw [List.length_map]
    have ol : os.length = R.ords.length := by rw [hos.len, List.length_map]
    refine ⟨_, rfl, m, _, rfl, hm, fun H1 s1 => ?_⟩
    cases e1 : fwCell R.mem with
    | some i =>
      have ew : wrongB R = some (("memory" : Str), i) := by simp only [wrongB, e1]
      refine ⟨_, rfl, rfl, _, rfl, iteT ⟨_, rfl, ?_⟩⟩
      exact rd_x2 (word := "memory") (n := (i : Nat)) (by decide) (by omega) (by have := rok.small _ _ ew; omega) (fun d hd => q1 _ _ ew _ d (s1.trans (same_new hd)) upd_same)
    | none =>
    refine ⟨_, rfl, rfl, _, rfl, iteF ?_⟩
    refine ⟨_, rfl, _, rfl, m, _, rfl, .inr (sqT_t (s1 _ _ hm)), o, os, R.ords, _, rfl, s1 _ _ ho, hos.same s1, fun H2 s2 => ?_⟩
    rw [ml]
    cases e2 : fwOrd R.ords (R.mem.length : Nat) with
    | some i =>
      have ew : wrongB R = some (("orders" : Str), i) := by simp only [wrongB, e1, e2]
      refine ⟨_, rfl, rfl, _, rfl, iteT ⟨_, rfl, ?_⟩⟩
      exact rd_x2 (word := "orders") (n := (i : Nat)) (by decide) (by omega) (by have := rok.small _ _ ew; omega) (fun d hd => q1 _ _ ew _ d ((s1.trans s2).trans (same_new hd)) upd_same)
    | none =>
    refine ⟨_, rfl, rfl, _, rfl, iteF ?_⟩
    have s12 := s1.trans s2
    refine ⟨_, rfl, _, rfl, o, _, rfl, .inr (sqT_t (s12 _ _ ho)), _, rfl, m, _, rfl, .inr (sqT_t (s12 _ _ hm)), p, ps, R.prog, _, _, rfl, s12 _ _ hp, hps.same s12, rok.nums, rok.miss, fun H3 s3 => ?_⟩
    rw [ml, ol]
    cases e3 : fwDeed R.prog (R.ords.length : Nat) (R.mem.length : Nat) with
    | some i =>
      have ew : wrongB R = some (("program" : Str), i) := by simp only [wrongB, e1, e2, e3]
      refine ⟨_, rfl, rfl, _, rfl, iteT ⟨_, rfl, ?_⟩⟩
      exact rd_x2 (word := "program") (n := (i : Nat)) (by decide) (by omega) (by have := rok.small _ _ ew; omega) (fun d hd => q1 _ _ ew _ d ((s12.trans s3).trans (same_new hd)) upd_same)
    | none =>
    exact ⟨_, rfl, rfl, _, rfl, iteF (q0 (by simp only [wrongB, e1, e2, e3]) H3 (s12.trans s3))⟩
end
end Vt
namespace Vt
open PySem PySem.Spec PyProof.Rows L2
theorem iteT' {p q : Prop} {b : Bool} (e : b = true) (h : p) : if b = true then p else q := by rw [if_pos e]; exact h
theorem iteF' {p q : Prop} {b : Bool} (e : b = false) (h : q) : if b = true then p else q := by rw [if_neg (by rw [e]; decide)]; exact h
theorem inV2 {w a b : Str} : inV (.str w) [.str a, .str b] = decide (w = a ∨ w = b) := by
  unfold inV
  simp only [List.any_cons, List.any_nil, eqV, Bool.or_false]
  rw [Bool.eq_iff_iff, Bool.or_eq_true, decide_eq_true_iff, beq_iff_eq, beq_iff_eq]
  constructor <;> (rintro (h | h) <;> simp [h])
theorem inV3 {w a b c : Str} : inV (.str w) [.str a, .str b, .str c] = decide (w = a ∨ w = b ∨ w = c) := by
  unfold inV
  simp only [List.any_cons, List.any_nil, eqV, Bool.or_false]
  rw [Bool.eq_iff_iff, Bool.or_eq_true, Bool.or_eq_true, decide_eq_true_iff, beq_iff_eq, beq_iff_eq, beq_iff_eq]
  constructor <;> (rintro (h | h | h) <;> simp [h])
end Vt
namespace Vt
open PySem PySem.Spec PyProof.Rows L2 LamX
/-! ### a cell that outlives its frame; a lambda that is called when its maker is gone -/
def cellO (c : Addr) (v : V) : HO := .ext fun h => ∃ u, RelV v u ∧ h.IsCell c (some u)
theorem cellO_ok {P : Program} {w : World} {H : Hp} {h : Heap} {c : Addr} {v : V} {u : Value} (r : RelV v u) (e : h.IsCell c (some u)) : ObjOk P w H h c (cellO c v) := by
  refine ⟨⟨u, r, e⟩, ?_, fun h1 h2 z k => ?_⟩
  · obtain ⟨o, h1, _⟩ := e
    exact ⟨o, h1⟩
  · obtain ⟨u, r, o, e1, d⟩ := z
    exact ⟨u, r, o, k _ e1, d⟩
theorem cellO_at {P : Program} {w : World} {H : Hp} {h : Heap} {c : Addr} {v : V} (hok : HOk P w H h) (e : H c = some (cellO c v)) : ∃ u, RelV v u ∧ h.IsCell c (some u) := by
  have x : ObjOk P w H h c (.ext fun h => ∃ u, RelV v u ∧ h.IsCell c (some u)) := hok c _ e
  exact x.1
section
variable {P : Program} {w : World} {H H1 : Hp} {h h1 B : Heap} {c : Addr} {v : V}
theorem HOk.delx (x : HOk P w H h) (e : H c = some (cellO c v)) : HOk P w (L2.del H c) h := fun b o q => by
  by_cases hb : b = c
  · subst hb
    rw [L2.del_same] at q
    cases q
  · rw [L2.del_ne hb] at q
    refine (x b o q).stay (fun _ _ _ z => z) (fun a z => ?_) fun a xs z => ?_
    · rw [L2.del_ne fun y => by rw [y, e] at z; unfold cellO at z; cases z]; exact z
    · rw [L2.del_ne fun y => by rw [y, e] at z; unfold cellO at z; cases z]; exact z
theorem HOk.addx (x : HOk P w H h) (n : H c = none) (new : ObjOk P w (upd H c (cellO c v)) h c (cellO c v)) : HOk P w (upd H c (cellO c v)) h := fun b u e => by
  by_cases hb : b = c
  · subst hb; rw [upd_same] at e; cases e; exact new
  · rw [upd_ne hb] at e
    exact (x b u e).stay (fun _ _ _ z => z) (fun a q => by rw [upd_ne (ne_of_none q n)]; exact q) fun a xs q => by rw [upd_ne (ne_of_none q n)]; exact q
theorem delx_ne {b : Addr} {o : HO} (q : H b = some o) (e : H c = some (cellO c v)) (n : ∀ φ, o ≠ .ext φ) : b ≠ c := fun y => by
  rw [y, e] at q
  exact n _ (Option.some.inj q).symm
theorem Un.addx {fs ex : List Addr} (u : Un fs ex (L2.del H c) H1 h h1) (e : H c = some (cellO c v)) (hn : H1 c = none) : Un fs ex H (upd H1 c (cellO c v)) h h1 where
  keep := fun b o q n => u.keep b o q (by rw [L2.del_ne (fun y => by rw [y, e] at n; cases n)]; exact n)
  slot := fun b o q n => u.slot b o q (by rw [L2.del_ne (fun y => by rw [y, e] at n; cases n)]; exact n)
  free := fun b o q n hx => by
    have hb : b ≠ c := fun y => by rw [y, e] at n; cases n
    rw [upd_ne hb]
    exact u.free b o q (by rw [L2.del_ne hb]; exact n) hx
  there := u.there
  tups := fun b xs q => by
    have hb := delx_ne q e fun φ z => by cases z
    rw [upd_ne hb]
    exact u.tups b xs (by rw [L2.del_ne hb]; exact q)
  frzs := fun b o x q => by
    have hb := delx_ne q e fun φ z => by cases z
    rw [upd_ne hb]
    exact u.frzs b o x (by rw [L2.del_ne hb]; exact q)
  tbls := fun b ps q => by
    have hb := delx_ne q e fun φ z => by cases z
    rw [upd_ne hb]
    exact u.tbls b ps (by rw [L2.del_ne hb]; exact q)
theorem UB.addx {fs : List Addr} (u : L2.UB fs (L2.del H c) H1 h B h1) (e : H c = some (cellO c v)) : L2.UB fs H (upd H1 c (cellO c v)) h B h1 where
  keep := fun b o q n => u.keep b o q (by rw [L2.del_ne (fun y => by rw [y, e] at n; cases n)]; exact n)
  slot := u.slot
  free := fun b o q n => by
    have hb : b ≠ c := fun y => by rw [y, e] at n; cases n
    rw [upd_ne hb]
    exact u.free b o q (by rw [L2.del_ne hb]; exact n)
  there := u.there
  tups := fun b xs q => by
    have hb := delx_ne q e fun φ z => by cases z
    rw [upd_ne hb]
    exact u.tups b xs (by rw [L2.del_ne hb]; exact q)
  frzs := fun b o x q => by
    have hb := delx_ne q e fun φ z => by cases z
    rw [upd_ne hb]
    exact u.frzs b o x (by rw [L2.del_ne hb]; exact q)
  tbls := fun b ps q => by
    have hb := delx_ne q e fun φ z => by cases z
    rw [upd_ne hb]
    exact u.tbls b ps (by rw [L2.del_ne hb]; exact q)
/-- behind a call that ran without the cell -/
theorem CR.readd {outer : List Env} {s s' : Shared} {Q : VK} {E : XK} {r : Result} (hok : HOk P w H s.heap) (e : H c = some (cellO c v)) (hc : c ∉ frs outer)
    (q : CR (L2N.CX P w) outer P w (L2.del H c) s (fun x H' => Q x (upd H' c (cellO c v))) (fun cls d H' => E cls d (upd H' c (cellO c v))) r s') : CR (L2N.CX P w) outer P w H s Q E r s' := by
  obtain ⟨u, ru, o, ho, hd⟩ := cellO_at hok e
  cases r with
  | ok fl =>
    cases fl with
    | ret x =>
      obtain ⟨y, H', q1, q2, q3, q4, q5, q6⟩ := q
      have n := q3.free c o ho L2.del_same (by simp)
      have k := q3.keep c o ho L2.del_same hc (by simp)
      exact ⟨y, upd H' c (cellO c v), q1, q2, Un.addx q3 e n, HOk.addx q4 n (cellO_ok ru ⟨o, k, hd⟩), q5, q6⟩
    | next => exact False.elim q
    | brk => exact False.elim q
    | cont => exact False.elim q
  | error z =>
    obtain ⟨a, B, H', cls, d, q1, q2, q3, q4, q5, q6, q7, q8⟩ := q
    have n := q4.free c o ho L2.del_same
    have k := q4.keep c o ho L2.del_same hc
    refine ⟨a, B, upd H' c (cellO c v), cls, d, q1, q2, HOk.addx q3 n (cellO_ok ru ⟨o, k, hd⟩), UB.addx q4 e, ?_, q6, q7, q8⟩
    have an : a ≠ c := fun y => by
      have := q2.2.1
      rw [y, k] at this
      cases this
    rw [upd_ne an]
    exact q5
end
/-- the names of a lambda that captures one name alone -/
structure LamK (y0 : Str) (scope : Scope) : Prop where
  kind : scope.kind = .function
  co : scope.isCoroutine = false
  gen : scope.isGenerator = false
  cell : ∀ y ∈ scope.names, y.2 ≠ .cell
  free : ∀ y ∈ scope.names, y.2 = .free → y.1 = y0
  loc : ∀ y ∈ scope.names, y.2 = .local → y.1 ≠ y0
def lamKB (y0 : Str) (scope : Scope) : Bool := decide (scope.kind = .function) && !scope.isCoroutine && !scope.isGenerator && scope.names.all fun y => !decide (y.2 = .cell) && (!decide (y.2 = .free) || decide (y.1 = y0)) && (!decide (y.2 = .local) || !decide (y.1 = y0))
theorem lamK_by {y0 : Str} {scope : Scope} (h : lamKB y0 scope = true) : LamK y0 scope := by
  unfold lamKB at h
  simp only [Bool.and_eq_true, Bool.or_eq_true, Bool.not_eq_true', decide_eq_true_eq, decide_eq_false_iff_not, List.all_eq_true] at h
  obtain ⟨⟨⟨h1, h2⟩, h3⟩, h4⟩ := h
  refine ⟨h1, h2, h3, fun y hy => (h4 y hy).1.1, fun y hy e => ?_, fun y hy e => ?_⟩
  · rcases (h4 y hy).1.2 with z | z
    · exact absurd e z
    · exact z
  · rcases (h4 y hy).2 with z | z
    · exact absurd e z
    · exact z
abbrev lamEnvC (q : Str) (cl : List (Str × Addr)) (scope : Scope) (L f c' : Addr) : Env := PySem.W.envX q scope L f (.ref c') cl
def lamCxC (P : Program) (w : World) (K : PySem.W.Frag) (mg : Str → Option Value) (base : Heap) (A : Around) (outer : List Env) (s : Shared) (H : Hp) (E : XK) (q : Str) (y0 : Str) (c : Addr) (scope : Scope) (f c' : Addr) : Cx where
  prog := P
  w := w
  K := K
  mg := mg
  base := base
  A := A.deeper (lamEnvC q [(y0, c)] scope s.heap.objs.size f c')
  N := [y0]
  s_0 := s
  H_0 := H
  env := lamEnvC q [(y0, c)] scope s.heap.objs.size f c'
  outer := outer
  stack := lamEnvC q [(y0, c)] scope s.heap.objs.size f c' :: outer
  ex := []
  fn := fun _ => false
  calm := true
  pn := []
  xe := fun e s' => wpAny (model P w) (A.deeper (lamEnvC q [(y0, c)] scope s.heap.objs.size f c')) (leaving (lamEnvC q [(y0, c)] scope s.heap.objs.size f c') e) (fun _ s'' => L2N.CX P w outer H s E e s'') (fun e' s'' => L2N.CX P w outer H s E e' s'') s'
section
variable {P : Program} {w : World} {K : PySem.W.Frag} {mg : Str → Option Value} {base : Heap}
theorem lam_startC {A : Around} {outer : List Env} {E : XK} {q y0 : Str} {c f c' : Addr} {scope : Scope} {HZ : Hp} {s1 : Shared} {h₁ : Heap} {tk : Nat} {mB : Str → Option Value} {v : V} {u : Value} (L : LamK y0 scope) (e0 : Env0 P w K mg base A outer s1 HZ) (hd : A.handled = none)
    (nc : HZ c = none) (rv : RelV v u) (hcell : s1.heap.IsCell c (some u)) (hns : h₁.Ns s1.heap.objs.size mB) (kp : ∀ b o, s1.heap.get? b = some o → h₁.get? b = some o) :
    Inv (lamCxC P w K mg base A outer s1 HZ E q y0 c scope f c') [] [some v] HZ { s1 with heap := h₁, toks := tk } := by
  have cm : ∀ {y c2}, ([(y0, c)] : List (Str × Addr)).lookup y = some c2 → y = y0 ∧ c2 = c := fun {y c2} e => by
    rw [List.lookup_cons] at e
    split at e
    · rename_i hy
      cases e
      exact ⟨beq_iff_eq.mp hy, rfl⟩
    · cases e
  have cm0 : ([(y0, c)] : List (Str × Addr)).lookup y0 = some c := by rw [List.lookup_cons, beq_self_eq_true]
  have cell1 : h₁.IsCell c (some u) := by
    obtain ⟨o, ho, hdd⟩ := hcell
    exact ⟨o, kp _ _ ho, hdd⟩
  have noA : ∀ b : Addr, b ∉ (lamCxC P w K mg base A outer s1 HZ E q y0 c scope f c').ex := fun b z => absurd (show b ∈ ([] : List Addr) from z) (by simp)
  refine ⟨⟨e0.mod, L.kind, rfl, rfl, Nat.le_refl _, fun y z c2 e1 e2 => (cm e1).1.trans (cm e2).1.symm, fun y hy => ?_, fun y c2 z _ => ?_, fun _ => hd, Around.frames_deeper e0.frames, .inr ⟨rfl, rfl⟩, fun b z => absurd z (noA b), e0.bs, e0.bsz, fun b _ _ => noA b,
      fun b z => absurd z (noA b), e0.funs, e0.frf⟩,
    rfl, e0.bare, Un.kept kp, ⟨_, hns, fun i y x e1 e2 e3 => ?_⟩, fun y c2 e => ?_, e0.hok.fresh (Nat.le_refl _), fun y c2 e => ?_, fun p hp => absurd (show p ∈ ([] : List (Addr × Obj)) ++ [] from hp) (by simp), e0.hok.kept kp, rfl⟩
  · have hy : scope.names.lookup y = some .cell ∨ scope.names.lookup y = some .free := hy
    rcases hy with hy | hy
    · exact absurd rfl (L.cell _ (PySem.mem_of_lookup hy))
    · have := L.free _ (PySem.mem_of_lookup hy) rfl
      have e : y = y0 := this
      rw [e]
      exact ⟨c, cm0⟩
  · have z : false = true := z
    cases z
  · have e1 : ([y0] : List Str)[i]? = some y := e1
    have e2 : ([some v] : List (Option V))[i]? = some (some x) := e2
    have e3 : Vis scope y := e3
    cases i with
    | succ i => simp at e1
    | zero =>
      simp only [List.getElem?_cons_zero, Option.some.injEq] at e1 e2
      subst e1 e2
      refine ⟨u, rv, ?_⟩
      rcases e3 with k | k | k
      · exact absurd rfl (L.loc _ (PySem.mem_of_lookup k) rfl)
      · exact absurd rfl (L.cell _ (PySem.mem_of_lookup k))
      · exact .inr ⟨.inr k, c, cm0, cell1⟩
  · rw [(cm e).2]
    exact ⟨_, cell1⟩
  · rw [(cm e).2]
    exact nc
/-- x(), of a lambda whose maker is gone -/
theorem pe_actC {Z : Cx} {params : Arguments} {body : Expr} {scope : Scope} {df : Bool} {k i : Nat} {a q y0 : Str} {W : WX} {tb : XK → TE} {p1 p2 : Pos} (L : LamK y0 scope) (B : ∀ c, LamB q params body scope [(y0, c)] df) (tk : L2N.Takes Z W) (hr : Room (k + 1) Z.A)
    (hbody : ∀ (A : Around) (outer : List Env) (s : Shared) (H : Hp) (E : XK) (c f c' : Addr), Room k (A.deeper (lamEnvC q [(y0, c)] scope s.heap.objs.size f c')) → PE (lamCxC Z.prog Z.w Z.K Z.mg Z.base A outer s H E q y0 c scope f c') body (tb E))
    (hN : Z.N[i]? = some a) (hv : Vis Z.env.scope a) (hd : (a == ("__debug__" : Str)) = false := by decide) (hcd : (a == ("__classdict__" : Str)) = false := by decide) :
    PE Z (.Call (.Name a p1) [] [] p2) (fun σZ HZ Q => ∃ (E : XK) (f c : Addr) (v : V), (∀ cls d H', E cls d H' → W cls d σZ H') ∧ σZ[i]? = some (some (.ref f)) ∧ LamAt q params body scope [(y0, c)] df HZ f ∧ HZ c = some (cellO c v) ∧
      tb (fun cls d H' => E cls d (upd H' c (cellO c v))) [some v] (L2.del HZ c) (fun x H' => Q x (upd H' c (cellO c v)))) := by
  refine ⟨fun pinsZ sZ σZ HZ Q IZ h => ?_⟩
  obtain ⟨E, f, c, v, hW, hs, ⟨c', pm, ctv, doc, dV, hf, hc, h3, h4⟩, hcell, ht⟩ := h
  refine wpAny_Call_Name_kw (thn ((pe_var (pos := p1) (i := i) hN hv hd hcd).run pinsZ sZ σZ HZ (fun v H1 => v = .ref f ∧ H1 = HZ) IZ ⟨.ref f, hs, rfl, rfl⟩) fun u s1 ⟨x, H1, I1, r1, q1⟩ => ?_)
  obtain ⟨ev, eH⟩ := q1
  subst ev
  rw [eH] at I1
  obtain rfl : u = Value.ref f := r1
  have of1 := lamO_at I1.hok hf
  refine PySem.W.callWith_F0 ⟨_, _, _, _, of1⟩ ?_
  obtain ⟨⟨oc, vs, t, hoc, hdc, hvc⟩, _, _⟩ := I1.hok c' _ hc
  obtain ⟨binds, hb, hloc⟩ := (B c).binds (s := s1) (doc := doc) (pm := pm) (cv := .ref c') (ctv := ctv) I1.hok h3 h4
  obtain ⟨uc, ruc, huc⟩ := cellO_at I1.hok hcell
  have ncf : c ∉ frs Z.stack := fun z => by
    have := I1.stkFree c z
    rw [hcell] at this; cases this
  have e1 := I1.env0
  have e0 : Env0 Z.prog Z.w Z.K Z.mg Z.base Z.A Z.stack s1 (L2.del HZ c) := ⟨e1.frames, e1.mod, fun b o e => ⟨(e1.bs b o e).1, by
      have := (e1.bs b o e).2
      rw [L2.del_ne (fun y => by rw [y, hcell] at this; cases this)]; exact this⟩, e1.bsz, e1.funs, fun b hb => by
      have := e1.frf b hb
      rw [L2.del_ne (fun y => by rw [y, hcell] at this; cases this)]; exact this, HOk.delx e1.hok hcell, e1.bare⟩
  have rc : codeAny (model Z.prog Z.w) Z.A (.call (.ref f) ⟨[], []⟩) (CR (L2N.CX Z.prog Z.w) Z.stack Z.prog Z.w HZ s1 Q E) s1 := by
    refine codeAny_mono (R := CR (L2N.CX Z.prog Z.w) Z.stack Z.prog Z.w (L2.del HZ c) s1 (fun x H' => Q x (upd H' c (cellO c v))) (fun cls d H' => E cls d (upd H' c (cellO c v)))) ?_ fun r s' hq => CR.readd e1.hok hcell ncf hq
    refine PySem.W.kla_callFunE hr.depth of1 rfl L.co L.gen rfl ⟨c', oc, vs, t, rfl, hoc, hdc, hvc⟩ (hb _ _ _ _ ?_)
    refine wpAny_newFunctionEnv (fun y hy => L.cell y hy) hloc (fun h₁ hns hsb => ⟨I1.nolimit.fresh _ hsb, ?_⟩) L.kind
    have kp : ∀ b o, s1.heap.get? b = some o → h₁.get? b = some o := fun b o e => hsb.extBut b o (Nat.ne_of_lt (Heap.lt_size e)) (Heap.get?_push_of_some _ e)
    have J : Inv (lamCxC Z.prog Z.w Z.K Z.mg Z.base Z.A Z.stack s1 (L2.del HZ c) (fun cls d H' => E cls d (upd H' c (cellO c v))) q y0 c scope f c') [] [some v] (L2.del HZ c) { s1 with heap := h₁, toks := s1.toks + binds.length } :=
      lam_startC L e0 hr.hd L2.del_same ruc huc hns kp
    refine PySem.W.kla_codeExpr (wpAny_mono ((hbody _ _ s1 (L2.del HZ c) _ c f c' (hr.deeper _)).run [] _ _ (L2.del HZ c) _ J ht) (fun x s' hq => ?_) fun e s' hq => hq)
    obtain ⟨w', H', J', rv, q⟩ := hq
    exact ⟨w', H', J'.os, J'.bare, J'.base, J'.hok, rv, q⟩
  refine wpAny_call (codeAny_mono rc fun r s' hq => ?_)
  cases r with
  | error e => exact tk e s' (L2N.XE.of_call I1 hW hq)
  | ok fl =>
    cases fl with
    | ret u => exact I1.after hq
    | next => exact False.elim hq
    | brk => exact False.elim hq
    | cont => exact False.elim hq
/-- a def of three assignments and a return, one of whose names is captured: its cell is left -/
theorem fn_ofC {CX : CXT} {k : Nat} {f : Addr} {name qual : Str} {params : Arguments} {a1 a2 a3 : Stmt} {e : Expr} {rpos : Pos} {scope : Scope} {dV kV doc pm cdv ct oc : Value} {an od : Option Addr} {osl : Array (Option Value)} {N ps : List Str} {sp : Sp} {y0 : Str} {i : Nat}
    (lk : K.lookup f = some ⟨oc, od, .func (PySem.W.fnOf name qual params [a1, a2, a3, .Return (some e) rpos] scope dV kV doc pm an cdv ct), osl⟩) (hcd : PySem.W.codeIn K cdv qual = true) (S : FnScope N ps scope) (len : ∀ vs H Q E, sp vs H Q E → vs.length = ps.length)
    (hy : scope.names.lookup y0 = some .cell) (hi : N[i]? = some y0)
    (hbody : ∀ (A : Around) (outer : List Env) (s : Shared) (H : Hp) (vs : List V) (Q : VK) (E : XK), Room k (A.deeper (envOfC qual scope s.heap.objs.size f cdv)) → sp vs H Q E →
      ∃ t1 t2 t3 te, PS (cxOf CX P w K mg base N qual scope f cdv A outer s H E) a1 t1 ∧ PS (cxOf CX P w K mg base N qual scope f cdv A outer s H E) a2 t2 ∧ PS (cxOf CX P w K mg base N qual scope f cdv A outer s H E) a3 t3 ∧ PE (cxOf CX P w K mg base N qual scope f cdv A outer s H E) e te ∧
        t1 ⟨fun σ1 H1 => t2 ⟨fun σ2 H2 => t3 ⟨fun σ3 H3 => te σ3 H3 fun x H4 => ∃ v0, σ3[i]? = some (some v0) ∧ ∀ c, (envOfC qual scope s.heap.objs.size f cdv).cells.lookup y0 = some c → H4 c = none → Q x (upd H4 c (cellO c v0)), fun _ _ => False, fun _ _ => False, fun _ _ => False⟩ σ2 H2, fun _ _ => False, fun _ _ => False, fun _ _ => False⟩ σ1 H1, fun _ _ => False, fun _ _ => False, fun _ _ => False⟩ (start N vs) H) :
    FnOk P w K mg base CX (k + 1) f (PySem.W.fnOf name qual params [a1, a2, a3, .Return (some e) rpos] scope dV kV doc pm an cdv ct) ps sp := by
  refine ⟨len, fun A outer s H args us vs Q E hr e0 hb r hsp => ?_⟩
  have hl := len _ _ _ _ hsp
  have KX : K.In s.heap := e0.mod.kin.keeps fun b o e => (e0.bs b o e).1
  have lim : s.heap.NoLimit := e0.mod.nolimit.keeps fun b o e => (e0.bs b o e).1
  have hkind : ∀ y ∈ ps.zip us, scope.names.lookup y.1 = some .local ∨ (scope.names.lookup y.1 = some .cell ∧ ((cellsFrom (s.heap.objs.size + 1) scope.names []).lookup y.1).isSome = true) := fun ⟨n, v⟩ hy => by
    rcases S.par n (List.of_mem_zip hy).1 with q | q
    · exact .inl q
    · exact .inr ⟨q, PySem.W.cellsFrom_some _ _ _ (.inl q)⟩
  refine codeAny_call_function hr.depth (KX _ _ lk) rfl S.co S.gen rfl (PySem.W.codeRec_of KX hcd) (hb _ _ _ _ ?_)
  refine wpAny_newFunctionEnv_cells S.kind hkind fun env he s1 x => ?_
  subst he
  refine ⟨lim.keeps x.toInCall.keep, codeAny_func ?_⟩
  obtain ⟨t1, t2, t3, te, p1, p2, p3, pe, hq⟩ := hbody A outer s H vs Q E (hr.deeper _) hsp
  have I : Inv (cxOf CX P w K mg base N qual scope f cdv A outer s H E) [] (start N vs) H s1 := inv_start S hr.hd e0 hl r x
  refine wpAny_execs_cons (wpAny_mono (p1.run [] s1 (start N vs) H _ I hq) (fun fl s' hs => ?_) fun e s' hs => hs)
  cases fl with
  | ret u => obtain ⟨_, _, _, _, _, z⟩ := hs; exact z.elim
  | brk => obtain ⟨_, _, _, z⟩ := hs; exact z.elim
  | cont => obtain ⟨_, _, _, z⟩ := hs; exact z.elim
  | next =>
  obtain ⟨σ1, H1, I1, q1⟩ := hs
  refine wpAny_execs_cons (wpAny_mono (p2.run [] s' σ1 H1 _ I1 q1) (fun fl s' hs => ?_) fun e s' hs => hs)
  cases fl with
  | ret u => obtain ⟨_, _, _, _, _, z⟩ := hs; exact z.elim
  | brk => obtain ⟨_, _, _, z⟩ := hs; exact z.elim
  | cont => obtain ⟨_, _, _, z⟩ := hs; exact z.elim
  | next =>
  obtain ⟨σ2, H2, I2, q2⟩ := hs
  refine wpAny_execs_cons (wpAny_mono (p3.run [] s' σ2 H2 _ I2 q2) (fun fl s' hs => ?_) fun e s' hs => hs)
  cases fl with
  | ret u => obtain ⟨_, _, _, _, _, z⟩ := hs; exact z.elim
  | brk => obtain ⟨_, _, _, z⟩ := hs; exact z.elim
  | cont => obtain ⟨_, _, _, z⟩ := hs; exact z.elim
  | next =>
  obtain ⟨σ3, H3, I3, q3⟩ := hs
  refine wpAny_execs_cons (wpAny_Return_some (wpAny_mono (pe.run [] s' σ3 H3 _ I3 q3) (fun u s' hs => ?_) fun e s' hs => hs))
  obtain ⟨xv, H4, J, rv, v0, hv0, q4⟩ := hs
  -- the cell
  obtain ⟨c, hc⟩ := J.ok.has y0 (.inl hy)
  have nc := J.freeC y0 c hc
  have ge : s.heap.objs.size ≤ c := J.ok.cab y0 c rfl hc
  obtain ⟨m, _, hl2⟩ := J.loc
  obtain ⟨u0, ru, look⟩ := hl2 i y0 v0 hi hv0 (.inr (.inl hy))
  have hcell : s'.heap.IsCell c (some u0) := by
    rcases look with ⟨kk, _⟩ | ⟨_, c2, e2, z⟩
    · have kk : scope.names.lookup y0 = some .local := kk
      rw [hy] at kk; cases kk
    · rw [hc] at e2
      cases e2
      exact z
  have Jb : Un (frs outer) [] H H4 s.heap s'.heap := J.base
  have bn : ∀ {b : Addr} {o : Obj}, s.heap.get? b = some o → b ≠ c := fun e z => by
    have := Heap.lt_size e
    rw [z] at this
    exact absurd (Nat.lt_of_lt_of_le this ge) (Nat.lt_irrefl _)
  have hn : ∀ {b : Addr} {o : HO}, H4 b = some o → b ≠ c := fun e => ne_of_none e nc
  refine ⟨xv, upd H4 c (cellO c v0), J.os, J.bare, ⟨Jb.keep, Jb.slot, fun b o e1 e2 e3 => by rw [upd_ne (bn e1)]; exact Jb.free b o e1 e2 e3, Jb.there, fun b xs e => ?_, fun b o x e => ?_, fun b ps e => ?_⟩, HOk.addx J.hok nc (cellO_ok ru hcell), rv, q4 c hc nc⟩
  · have := Jb.tups b xs e
    rw [upd_ne (hn this)]; exact this
  · have := Jb.frzs b o x e
    rw [upd_ne (hn this)]; exact this
  · obtain ⟨more, this⟩ := Jb.tbls b ps e
    exact ⟨more, by rw [upd_ne (hn this)]; exact this⟩
end
end Vt
namespace Vt
open PySem PySem.Spec PyProof.Rows L2
/-! ### word, *words = list -/
section
variable {prog : Program} {w : World} {A : Around} {E : Value → Shared → Prop} {s : Shared} {env : Env}
theorem star_list {l : Addr} {items : Array Value} {n i : Nat} {first mids lasts : List Value} {Q : List Value → Shared → Prop} (hl : s.heap.IsList l items) (hh : A.handled = none) (hi : i < n) (hn : n ≤ items.size + 1) (hz : items.size ≤ 16384)
    (h1 : items.toList.take i = first) (h2 : (items.toList.drop i).take (items.size + 1 - n) = mids) (h3 : (items.toList.drop i).drop (items.size + 1 - n) = lasts)
    (h : ∀ (h₂ : Heap) (tk : Nat), (∀ b o, s.heap.get? b = some o → h₂.get? b = some o) → Q (first ++ [.ref h₂.objs.size] ++ lasts) { s with heap := h₂.push { cls := .type "list", data := .seq mids.toArray }, toks := tk }) : wpAny (model prog w) A (unpackItems (.ref l) n (some i)) Q E s := by
  subst h1 h2 h3
  have hlt : l ≠ s.heap.objs.size := by obtain ⟨o, ho, _⟩ := hl; exact Nat.ne_of_lt (Heap.lt_size ho)
  have hll : l < s.heap.objs.size := by obtain ⟨o, ho, _⟩ := hl; exact Heap.lt_size ho
  unfold unpackItems
  refine wpAny_bind ?_
  unfold notIterableAtAll
  refine wpAny_bind (wpAny_specialOf hl.typeIs slot_list_iter.lookup ?_)
  refine wpAny_pure ?_
  simp only [Bool.false_eq_true, if_false]
  refine wpAny_bind (wpAny_holding (wpAny_pyIter_list hl ?_))
  refine wpAny_bind (wpAny_holding (PySem.W.kun_draw hlt i 0 _ _ ⟨_, Heap.get?_push_size _ rfl, rfl, rfl⟩ (hl.push _) (by omega) fun h₁ hit₁ hs₁ => ?_))
  have hl₁ : h₁.IsList l items := (hl.push _).extBut hs₁.extBut hlt
  rw [Nat.zero_add] at hit₁
  have hit₁' := hit₁
  obtain ⟨oi, hoi, _⟩ := hit₁'
  have hl₁' := hl₁
  obtain ⟨ol, hol, _⟩ := hl₁'
  rw [List.drop_zero]
  have hfl : (items.toList.take i).length = i := by rw [List.length_take, Array.length_toList]; omega
  rw [if_neg (show ¬ ((items.toList.take i).length < i) by rw [hfl]; omega)]
  refine wpAny_bind (wpAny_holding (PySem.W.kun_collect (s := { s with heap := h₁ }) (T := "list_iterator") (.inr (.inr (.inl rfl))) (Walks.list (A := A.in1) hh s.heap.objs.size l hlt items) (fun j u st => st.1.typeIs) (k := i) (by omega) ⟨hit₁, hl₁⟩ (Heap.lt_size hoi) (Heap.lt_size hol) (fun h₂ tk hk => ?_) (by rw [sizeLine_eq]; omega)))
  have hrl : (items.toList.drop i).length = items.size - i := by rw [List.length_drop, Array.length_toList]
  have hmid : (items.toList.drop i).length - (n - 1 - i) = items.size + 1 - n := by rw [hrl]; omega
  show wpAny _ _ (if (items.toList.drop i).length < n - 1 - i then _ else _) _ _ _
  rw [if_neg (by rw [hrl]; omega)]
  show wpAny _ _ (newList ((items.toList.drop i).take ((items.toList.drop i).length - (n - 1 - i))) >>= fun d => pure (items.toList.take i ++ [d] ++ (items.toList.drop i).drop ((items.toList.drop i).length - (n - 1 - i)))) _ _ _
  rw [hmid]
  have he : Heap.ExtBut s.heap.objs.size s.heap h₂ := fun b o hb e => hk b o hb (hs₁.extBut b o hb (Heap.get?_push_of_some _ e))
  exact wpAny_bind (wpAny_newList (s := { s with heap := h₂, toks := tk }) (wpAny_pure (h h₂ tk fun b o e => he b o (Nat.ne_of_lt (Heap.lt_size e)) e)) (by rw [List.length_take, hrl, sizeLine_eq]; omega))
end
def gStarL (K : PySem.W.Frag) (i j : Nat) : TG := fun v σ H Q => ∃ a x xs, v = .ref a ∧ SqL K H a (x :: xs) ∧ xs.length ≤ 1000 ∧ ∀ p, H p = none → Q ((σ.set i (some x)).set j (some (.ref p))) (upd H p (.lst xs))
theorem pg_starL {X : Cx} {i j : Nat} {x y : Str} {px py ps pos : Pos} {k : Nat} (hc : X.calm = true) (hN : X.N.Nodup) (hi : X.N[i]? = some x) (hj : X.N[j]? = some y) (hx : X.env.scope.names.lookup x = some .local) (hy : X.env.scope.names.lookup y = some .local) :
    PG X (.Tuple [.Name x px, .Starred (.Name y py) ps] k pos) (gStarL X.K i j) := by
  refine ⟨fun pins s σ H v u Q I r h => ?_⟩
  obtain ⟨a, z, xs, ev, hq, hl, h⟩ := h
  subst ev
  cases r
  obtain ⟨its, rvs, ⟨oo, nn, ho1, ho2, _, ho3⟩, hz⟩ := I.list hq
  have ht : s.heap.IsList a its.toArray := ⟨oo, ho1, ho2, nn, ho3⟩
  have hlen : its.length = xs.length + 1 := by rw [← rvs.length]; rfl
  cases rvs with
  | cons r0 rr =>
    rename_i u0 us
    have hus : us.length = xs.length := rr.length.symm
    rw [assign_Tuple]
    refine wpAny_bind (wpAny_standAt ?_)
    unfold unpack
    have e1 : (assignEach [.Name x px, .Starred (.Name y py) ps] X.env).length = 2 := rfl
    have e2 : (assignEach [.Name x px, .Starred (.Name y py) ps] X.env).findIdx? (·.1) = some 1 := rfl
    rw [e1, e2]
    refine wpAny_bind (wpAny_holding (star_list (first := [u0]) (mids := us) (lasts := []) ht (I.ok.hd hc) (by decide) (by simp) (by simp; omega) rfl (by simp) (by simp) fun h₂ tk hk => ?_))
    have I2 : Inv X pins σ H { s with heap := h₂, toks := tk } := I.kept hk
    have hn : H h₂.objs.size = none := I2.hok.fresh (Nat.le_refl _)
    have hz2 : xs.length ≤ sizeLine := Nat.le_trans hl (by decide)
    have I1 : Inv X pins σ (upd H h₂.objs.size (.lst xs)) { s with heap := h₂.push { cls := .type "list", data := .seq us.toArray }, toks := tk } :=
      I2.laid (t' := tk) (fun b u e => Heap.get?_push_of_some _ e) (Nat.le_refl _) ⟨hz2, us, 0, rr, Heap.get?_push_size _ rfl⟩
    show wpAny _ _ (assignInOrder [assign (.Name x px) X.env, assign (.Name y py) X.env] [u0, .ref h₂.objs.size]) _ _ _
    refine assignInOrder_cons (thn ((pg_name (pos := px) hN hi (.inl hx) (.inr hx)).run pins _ σ _ z u0 (fun σ1 H1 => σ1 = σ.set i (some z) ∧ H1 = upd H h₂.objs.size (.lst xs)) I1 r0 ⟨rfl, rfl⟩) fun _ s1 ⟨σ1, H1, I3, e3, e4⟩ => ?_)
    subst e3 e4
    refine assignInOrder_cons (thn ((pg_name (pos := py) hN hj (.inl hy) (.inr hy)).run pins _ _ _ (.ref h₂.objs.size) _ Q I3 rfl (h _ hn)) fun _ s2 q => ?_)
    exact wpAny_assignInOrder_none q
end Vt
namespace Vt
open PySem PySem.Spec PyProof.Rows L2
/-! ### data that is alike -/
mutual
def D.sm : D → Bool
  | .lst ds => decide (ds.length ≤ 100000) && smAll ds
  | .tup ds => decide (ds.length ≤ 100000) && smAll ds
  | _ => true
def smAll : List D → Bool
  | [] => true
  | d :: ds => d.sm && smAll ds
end
theorem sm_get : ∀ {ds : List D} {i : Nat} {d : D}, smAll ds = true → ds[i]? = some d → d.sm = true
  | [], _, _, _, e => by simp at e
  | x :: r, 0, d, h, e => by
    simp only [List.getElem?_cons_zero, Option.some.injEq] at e
    rw [smAll, Bool.and_eq_true] at h
    subst e; exact h.1
  | x :: r, i + 1, d, h, e => by
    rw [smAll, Bool.and_eq_true] at h
    exact sm_get (ds := r) (i := i) h.2 (by simpa using e)
theorem sm_map {α : Type} {f : α → D} (h : ∀ x, (f x).sm = true) : ∀ xs : List α, smAll (xs.map f) = true
  | [] => by rw [List.map_nil, smAll]
  | x :: r => by rw [List.map_cons, smAll, h x, sm_map h r]; rfl
theorem sm_nD (n : Nat) : (nD n).sm = true := by simp [nD, D.sm]
end Vt
namespace Vt
open PySem PySem.Spec PyProof.Rows L2
section
variable {P : Program} {w : World} {K : PySem.W.Frag} {mg : Str → Option Value} {base : Heap}
abbrev st_law_alike : Stmt := (topS 69)
abbrev nm_law_alike : List Str := ["_law_found", "_law_due", "_law_k"]
theorem sc_law_alike : FnScope ["_law_found", "_law_due", "_law_k"] ["_law_found", "_law_due"] (defScope st_law_alike) := ⟨rfl, rfl, rfl, by decide +kernel, rfl, by decide +kernel, by decide +kernel⟩
def spAlike (n : Nat) : Sp := fun vs H Q _ => ∃ (u v : V) (d : D), vs = [u, v] ∧ Pd H u d ∧ Pd H v d ∧ d.dep < n ∧ d.sm = true ∧ Q (.bl true) H
/-- the alike of tuples or lists, from their lengths on -/
theorem alike_go {f : Addr} {fd : FuncData} (F : Fun K "_law_alike" "_law_alike" st_law_alike f fd) (n : Nat) (c_law_alike : Callee P w K mg base "_law_alike" n 2 (spAlike n)) (z_len : mg "len" = none) (z_range : mg "range" = none) (z_isinstance : mg "isinstance" = none)
    (z_bool : mg "bool" = none) (z_int : mg "int" = none) (z_str : mg "str" = none) (z_tuple : mg "tuple" = none) (z_list : mg "list" = none) : FnOk P w K mg base CX0 (n + 1) f fd ["_law_found", "_law_due"] (spAlike (n + 1)) := by
  refine F.ok sc_law_alike (fun vs H Q E h => ?_) (fun cdv A outer s H vs Q E hr h => ?_)
  · obtain ⟨u, v, d, rfl, _⟩ := h
    rfl
  · obtain ⟨u, v, d, rfl, hu, hv, hd, hs, q⟩ := h
    refine ⟨_, (pss_cons (ps_if (pt_cmpR op_isN (pv 1) pe_non (nomark _)) (pss_one (ps_ret (pe_cmpR op_isN (pv 0) pe_non (nomark _)))) pss_nil)
  (pss_cons (ps_if (pt_val (pe_callB call_isi (by rfl) z_isinstance (by decide +kernel) (pa_cons (pv 1) (pa_cons (pe_bltn (v := .ty "bool") rfl z_bool (by decide +kernel) rfl) pa_nil)))) (pss_one (ps_ret (pe_and (pe_callB call_isi (by rfl) z_isinstance (by decide +kernel) (pa_cons (pv 0) (pa_cons (pe_bltn (v := .ty "bool") rfl z_bool (by decide +kernel) rfl) pa_nil))) (pe_one (pe_cmpR op_eq (pv 0) (pv 1) (nomark _)))))) pss_nil)
  (pss_cons (ps_if (pt_val (pe_callB call_isi (by rfl) z_isinstance (by decide +kernel) (pa_cons (pv 1) (pa_cons (pe_bltn (v := .ty "int") rfl z_int (by decide +kernel) rfl) pa_nil)))) (pss_one (ps_ret (pe_and (pe_callB call_isi (by rfl) z_isinstance (by decide +kernel) (pa_cons (pv 0) (pa_cons (pe_bltn (v := .ty "int") rfl z_int (by decide +kernel) rfl) pa_nil))) (pe_and (pe_not (pe_callB call_isi (by rfl) z_isinstance (by decide +kernel) (pa_cons (pv 0) (pa_cons (pe_bltn (v := .ty "bool") rfl z_bool (by decide +kernel) rfl) pa_nil)))) (pe_one (pe_cmpR op_eq (pv 0) (pv 1) (nomark _))))))) pss_nil)
  (pss_cons (ps_if (pt_val (pe_callB call_isi (by rfl) z_isinstance (by decide +kernel) (pa_cons (pv 1) (pa_cons (pe_bltn (v := .ty "str") rfl z_str (by decide +kernel) rfl) pa_nil)))) (pss_one (ps_ret (pe_and (pe_callB call_isi (by rfl) z_isinstance (by decide +kernel) (pa_cons (pv 0) (pa_cons (pe_bltn (v := .ty "str") rfl z_str (by decide +kernel) rfl) pa_nil))) (pe_one (pe_cmpR op_eq (pv 0) (pv 1) (nomark _)))))) pss_nil)
  (pss_cons (ps_if (PW.pt (pw_or (pt_cmpR op_ne (pe_callB call_isi (by rfl) z_isinstance (by decide +kernel) (pa_cons (pv 1) (pa_cons (pe_bltn (v := .ty "tuple") rfl z_tuple (by decide +kernel) rfl) pa_nil))) (pe_callB call_isi (by rfl) z_isinstance (by decide +kernel) (pa_cons (pv 0) (pa_cons (pe_bltn (v := .ty "tuple") rfl z_tuple (by decide +kernel) rfl) pa_nil))) (nomark _)) (pw_or1 (pt_cmpR op_ne (pe_callB call_isi (by rfl) z_isinstance (by decide +kernel) (pa_cons (pv 1) (pa_cons (pe_bltn (v := .ty "list") rfl z_list (by decide +kernel) rfl) pa_nil))) (pe_callB call_isi (by rfl) z_isinstance (by decide +kernel) (pa_cons (pv 0) (pa_cons (pe_bltn (v := .ty "list") rfl z_list (by decide +kernel) rfl) pa_nil))) (nomark _))))) (pss_one (ps_ret pe_bl)) pss_nil)
  (pss_cons (ps_if (pt_cmpR op_ne (pe_callB call_len_seq (by rfl) z_len (by decide +kernel) (pa_cons (pv 0) pa_nil)) (pe_callB call_len_seq (by rfl) z_len (by decide +kernel) (pa_cons (pv 1) pa_nil)) (nomark _)) (pss_one (ps_ret pe_bl)) pss_nil)
  (pss_cons (ps_for PassesOwn.never rfl (pi_range1 (by rfl) z_range (pa_cons (pe_callB call_len_seq (by rfl) z_len (by decide +kernel) (pa_cons (pv 1) pa_nil)) pa_nil)) (pg_name (i := 2) sc_law_alike.nd rfl (Or.inl rfl))
  (pss_one (ps_if (pt_not (pt_val (pe_cal c_law_alike hr (by first | decide | exact Nat.le_refl _) (pa_cons (pe_ix ix_lt (pv 0) (pv 2) (fun _ _ => rfl)) (pa_cons (pe_ix ix_lt (pv 1) (pv 2) (fun _ _ => rfl)) pa_nil))))) (pss_one (ps_ret pe_bl)) pss_nil)))
  (pss_one (ps_ret pe_bl))))))))), ?_⟩
    cases d with
    | non =>
      cases hu; cases hv
      exact ⟨_, rfl, rfl, _, rfl, iteT ⟨_, rfl, rfl, q⟩⟩
    | bl b =>
      cases hu; cases hv
      refine ⟨_, rfl, rfl, _, rfl, iteF ?_⟩
      refine ⟨_, rfl, _, _, .type "bool", _, true, rfl, .ty _, .base (.bl b), kit_ty (by decide +kernel), _, rfl, iteT ?_⟩
      refine ⟨_, rfl, _, _, .type "bool", _, true, rfl, .ty _, .base (.bl b), kit_ty (by decide +kernel), _, rfl, iteT ?_⟩
      refine ⟨_, rfl, _, rfl, rfl, ?_⟩
      rw [decide_eq_true rfl]; exact q
    | int i =>
      cases hu; cases hv
      refine ⟨_, rfl, rfl, _, rfl, iteF ?_⟩
      refine ⟨_, rfl, _, _, .type "int", _, false, rfl, .ty _, .base (.int i), kit_ty (by decide +kernel), _, rfl, iteF ?_⟩
      refine ⟨_, rfl, _, _, .type "int", _, true, rfl, .ty _, .base (.int i), kit_ty (by decide +kernel), _, rfl, iteT ?_⟩
      refine ⟨_, rfl, _, _, .type "int", _, true, rfl, .ty _, .base (.int i), kit_ty (by decide +kernel), _, rfl, iteT ?_⟩
      refine ⟨_, rfl, _, _, .type "int", _, false, rfl, .ty _, .base (.int i), kit_ty (by decide +kernel), _, rfl, _, rfl, iteT ?_⟩
      refine ⟨_, rfl, _, rfl, rfl, ?_⟩
      rw [decide_eq_true rfl]; exact q
    | str x =>
      cases hu; cases hv
      refine ⟨_, rfl, rfl, _, rfl, iteF ?_⟩
      refine ⟨_, rfl, _, _, .type "str", _, false, rfl, .ty _, .base (.str x), kit_ty (by decide +kernel), _, rfl, iteF ?_⟩
      refine ⟨_, rfl, _, _, .type "str", _, false, rfl, .ty _, .base (.str x), kit_ty (by decide +kernel), _, rfl, iteF ?_⟩
      refine ⟨_, rfl, _, _, .type "str", _, true, rfl, .ty _, .base (.str x), kit_ty (by decide +kernel), _, rfl, iteT ?_⟩
      refine ⟨_, rfl, _, _, .type "str", _, true, rfl, .ty _, .base (.str x), kit_ty (by decide +kernel), _, rfl, iteT ?_⟩
      refine ⟨_, rfl, _, rfl, rfl, ?_⟩
      rw [decide_eq_true rfl]; exact q
    | tup ds =>
      simp only [D.sm, Bool.and_eq_true, decide_eq_true_eq] at hs
      rw [D.dep] at hd
      cases hu with
      | tup ha hxs =>
        cases hv with
        | tup hb hys =>
          rename_i a xs b ys
          refine ⟨_, rfl, rfl, _, rfl, iteF ?_⟩
          refine ⟨_, rfl, _, _, .type "tuple", _, false, rfl, .ty _, .base (.tup hb), kit_ty (by decide +kernel), _, rfl, iteF ?_⟩
          refine ⟨_, rfl, _, _, .type "tuple", _, false, rfl, .ty _, .base (.tup hb), kit_ty (by decide +kernel), _, rfl, iteF ?_⟩
          refine ⟨_, rfl, _, _, .type "tuple", _, false, rfl, .ty _, .base (.tup hb), kit_ty (by decide +kernel), _, rfl, iteF ?_⟩
          refine ⟨_, rfl, _, _, .type "tuple", _, true, rfl, .ty _, .base (.tup hb), kit_ty (by decide +kernel), _, rfl, _, _, .type "tuple", _, true, rfl, .ty _, .base (.tup ha), kit_ty (by decide +kernel), rfl, _, rfl, iteF ?_⟩
          refine ⟨_, rfl, _, _, .type "tuple", _, false, rfl, .ty _, .base (.tup hb), kit_ty (by decide +kernel), _, rfl, _, _, .type "tuple", _, false, rfl, .ty _, .base (.tup ha), kit_ty (by decide +kernel), rfl, _, rfl, iteF ?_⟩
          refine ⟨_, rfl, a, _, rfl, .inr (sqT_t ha), _, rfl, b, _, rfl, .inr (sqT_t hb), rfl, _, rfl, ite2 (fun e => ?_) (fun _ => ?_)⟩
          · rw [hxs.len, hys.len] at e
            simp at e
          · refine ⟨_, rfl, b, _, rfl, .inr (sqT_t hb), _, rfl, by omega, by have := hys.len; omega, ?_⟩
            refine for_it (walk_range (lo := 0) (n := (ys.length : Int).toNat)) (fun i σ H' => ∃ y, σ = [some (.ref a), some (.ref b), y] ∧ H' = H) ⟨_, rfl, rfl⟩ (fun _ _ _ _ _ => trivial) (fun i x σ H1 H2 hi hp hy => ?_) (fun σ H1 hp => ?_)
            · obtain ⟨y, rfl, rfl⟩ := hp
              obtain ⟨rfl, rfl⟩ := hy
              have hi' : i < ys.length := by simpa using hi
              obtain ⟨d, hd1, py⟩ := hys.get' (List.getElem?_eq_getElem hi')
              obtain ⟨x, hx, px⟩ := hxs.get hd1
              have e0 : ((0 : Int) + (i : Int)) = (i : Nat) := by omega
              refine ⟨_, rfl, _, rfl, a, xs, (0 + (i : Int)), x, rfl, rfl, sqA_t ha, by rw [e0]; exact atI_nat hx, _, rfl, _, rfl, b, ys, (0 + (i : Int)), _, rfl, rfl, sqA_t hb, by rw [e0]; exact atI_nat (List.getElem?_eq_getElem hi'), ?_⟩
              refine ⟨_, _, d, rfl, px, py, by have := deps_get hd1; omega, sm_get hs.2 hd1, _, rfl, iteF ?_⟩
              exact ⟨_, rfl, rfl⟩
            · obtain ⟨y, rfl, rfl⟩ := hp
              exact q
    | lst ds =>
      simp only [D.sm, Bool.and_eq_true, decide_eq_true_eq] at hs
      rw [D.dep] at hd
      cases hu with
      | lst ha hxs =>
        cases hv with
        | lst hb hys =>
          rename_i a xs b ys
          refine ⟨_, rfl, rfl, _, rfl, iteF ?_⟩
          refine ⟨_, rfl, _, _, .type "list", _, false, rfl, .ty _, .base (.lst hb), kit_ty (by decide +kernel), _, rfl, iteF ?_⟩
          refine ⟨_, rfl, _, _, .type "list", _, false, rfl, .ty _, .base (.lst hb), kit_ty (by decide +kernel), _, rfl, iteF ?_⟩
          refine ⟨_, rfl, _, _, .type "list", _, false, rfl, .ty _, .base (.lst hb), kit_ty (by decide +kernel), _, rfl, iteF ?_⟩
          refine ⟨_, rfl, _, _, .type "list", _, false, rfl, .ty _, .base (.lst hb), kit_ty (by decide +kernel), _, rfl, _, _, .type "list", _, false, rfl, .ty _, .base (.lst ha), kit_ty (by decide +kernel), rfl, _, rfl, iteF ?_⟩
          refine ⟨_, rfl, _, _, .type "list", _, true, rfl, .ty _, .base (.lst hb), kit_ty (by decide +kernel), _, rfl, _, _, .type "list", _, true, rfl, .ty _, .base (.lst ha), kit_ty (by decide +kernel), rfl, _, rfl, iteF ?_⟩
          refine ⟨_, rfl, a, _, rfl, .inl (sqL_l ha), _, rfl, b, _, rfl, .inl (sqL_l hb), rfl, _, rfl, ite2 (fun e => ?_) (fun _ => ?_)⟩
          · rw [hxs.len, hys.len] at e
            simp at e
          · refine ⟨_, rfl, b, _, rfl, .inl (sqL_l hb), _, rfl, by omega, by have := hys.len; omega, ?_⟩
            refine for_it (walk_range (lo := 0) (n := (ys.length : Int).toNat)) (fun i σ H' => ∃ y, σ = [some (.ref a), some (.ref b), y] ∧ H' = H) ⟨_, rfl, rfl⟩ (fun _ _ _ _ _ => trivial) (fun i x σ H1 H2 hi hp hy => ?_) (fun σ H1 hp => ?_)
            · obtain ⟨y, rfl, rfl⟩ := hp
              obtain ⟨rfl, rfl⟩ := hy
              have hi' : i < ys.length := by simpa using hi
              obtain ⟨d, hd1, py⟩ := hys.get' (List.getElem?_eq_getElem hi')
              obtain ⟨x, hx, px⟩ := hxs.get hd1
              have e0 : ((0 : Int) + (i : Int)) = (i : Nat) := by omega
              refine ⟨_, rfl, _, rfl, a, xs, (0 + (i : Int)), x, rfl, rfl, sqA_l ha, by rw [e0]; exact atI_nat hx, _, rfl, _, rfl, b, ys, (0 + (i : Int)), _, rfl, rfl, sqA_l hb, by rw [e0]; exact atI_nat (List.getElem?_eq_getElem hi'), ?_⟩
              refine ⟨_, _, d, rfl, px, py, by have := deps_get hd1; omega, sm_get hs.2 hd1, _, rfl, iteF ?_⟩
              exact ⟨_, rfl, rfl⟩
            · obtain ⟨y, rfl, rfl⟩ := hp
              exact q
end
end Vt
namespace Vt
open PySem PySem.Spec PyProof.Rows L2
def kindWords : List Str := ["set", "set", "add", "say", "say", "start", "start", "wait", "clean", "drop"]
section
variable {P : Program} {w : World} {K : PySem.W.Frag} {mg : Str → Option Value} {base : Heap}
abbrev st_law_kinds : Stmt := (topS 77)
abbrev nm_law_kinds : List Str := []
theorem sc_law_kinds : FnScope [] [] (defScope st_law_kinds) := ⟨rfl, rfl, rfl, by decide +kernel, rfl, by decide +kernel, by decide +kernel⟩
def spKinds (ws : List Str) : Sp := fun vs H Q _ => vs = [] ∧ ∀ (H' : Hp) (p : Addr), Same H H' → H p = none → H' p = some (.lst (ws.map V.str)) → Q (.ref p) H'
theorem ok_kinds {f : Addr} {fd : FuncData} (F : Fun K "_law_kinds" "_law_kinds" st_law_kinds f fd) : FnOk P w K mg base CX0 1 f fd [] (spKinds kindWords) := by
  refine F.ok sc_law_kinds (fun vs H Q E h => ?_) (fun cdv A outer s H vs Q E hr h => ?_)
  · obtain ⟨rfl, _⟩ := h
    rfl
  · obtain ⟨rfl, q⟩ := h
    refine ⟨_, (pss_one (ps_ret (pe_lst (pa_cons pe_str (pa_cons pe_str (pa_cons pe_str (pa_cons pe_str (pa_cons pe_str (pa_cons pe_str (pa_cons pe_str (pa_cons pe_str (pa_cons pe_str (pa_cons pe_str pa_nil))))))))))))), ?_⟩
    exact ⟨by show 10 ≤ sizeLine; decide, fun p np => q _ p (same_new np) np upd_same⟩
end
end Vt
namespace Vt
open PySem PySem.Spec PyProof.Rows L2
section
variable {P : Program} {w : World} {K : PySem.W.Frag} {mg : Str → Option Value} {base : Heap}
abbrev st_moves_told : Stmt := (topS 23)
abbrev nm_moves_told : List Str := ["orders", "first", "moves", "at", "source", "goal", "many", "later", "step", "bell"]
theorem sc_moves_told : FnScope ["orders", "first", "moves", "at", "source", "goal", "many", "later", "step", "bell"] ["orders", "first"] (defScope st_moves_told) := ⟨rfl, rfl, rfl, by decide +kernel, rfl, by decide +kernel, by decide +kernel⟩
theorem ok_moves {f : Addr} {fd : FuncData} (F : Fun K "moves_told" "moves_told" st_moves_told f fd) (z_range : mg "range" = none) : FnOk P w K mg base CX0 1 f fd ["orders", "first"] spMoves := by
  refine F.ok sc_moves_told (fun vs H Q E h => ?_) (fun cdv A outer s H vs Q E hr h => ?_)
  · obtain ⟨a, os, ords, cells, k, rfl, _⟩ := h
    rfl
  · obtain ⟨a, os, ords, cells, k0, rfl, ha, hos, h4, hok, hk0, q⟩ := h
    refine ⟨_, (pss_cons (ps_set (i := 2) sc_moves_told.nd rfl (Or.inl rfl) (pe_lst pa_nil))
  (pss_cons (ps_set (i := 3) sc_moves_told.nd rfl (Or.inl rfl) (pv 1))
  (pss_cons (ps_while PassesOwn.never (pt_cmpR op_notN (pv 3) pe_non (nomark _))
  (pss_cons (ps_asg (pe_ix ix_lt (pv 0) (pv 3) (fun _ _ => rfl)) (pg_tup rfl (pgs_cons (pg_name (i := 4) sc_moves_told.nd rfl (Or.inl rfl)) (pgs_cons (pg_name (i := 5) sc_moves_told.nd rfl (Or.inl rfl)) (pgs_cons (pg_name (i := 6) sc_moves_told.nd rfl (Or.inl rfl)) (pgs_cons (pg_name (i := 7) sc_moves_told.nd rfl (Or.inl rfl)) pgs_nil))))))
  (pss_cons (ps_for PassesOwn.never rfl (pi_range1 (by rfl) z_range (pa_cons (pv 6) pa_nil)) (pg_name (i := 8) sc_moves_told.nd rfl (Or.inl rfl))
  (pss_cons (ps_set (i := 9) sc_moves_told.nd rfl (Or.inl rfl) (pe_ifExp (pt_cmpR op_eq (pv 8) (pe_op op_sub (pv 6) pe_int) (nomark _)) (pv 3) pe_non))
  (pss_one (ps_expr (pe_bm PySem.F.plainAttrs_list PySem.F.slot_list_append PySem.F.type_list_append mt_append (pv 2) (pa_cons (pe_tup (pa_cons (pe_op op_add (pv 4) (pv 8)) (pa_cons (pe_op op_add (pv 5) (pv 8)) (pa_cons (pv 9) pa_nil)))) pa_nil))))))
  (pss_one (ps_set (i := 3) sc_moves_told.nd rfl (Or.inl rfl) (pv 7))))))
  (pss_one (ps_ret (pv 2)))))), ?_⟩
    refine ⟨Nat.zero_le _, fun p np => ?_⟩
    refine ⟨_, rfl, ?_⟩
    have olen : os.length = ords.length := by rw [hos.len, List.length_map]
    refine while_by (fun σ H' => ∃ (y4 y5 y6 y7 y8 y9 : Option V) (at_ : Option Nat) (f : Nat) (done : List Mv) (xs : List V), σ = [some (.ref a), some (nV k0), some (.ref p), some (oV at_), y4, y5, y6, y7, y8, y9] ∧ H' p = some (.lst xs) ∧ Pds H' xs (done.map Mv.d) ∧
        done ++ chain ords f at_ = told ords k0 ∧ (∀ k, at_ = some k → k < ords.length ∧ ords.length ≤ k + f) ∧ Same H H') (fun σ _ => leftAt 3 ords.length σ)
      ⟨_, _, _, _, _, _, some k0, 4, [], [], rfl, upd_same, .nil, rfl, fun k e => by cases e; omega, same_new np⟩ (fun σ H1 hp => ?_) (fun σ H1 Q1 Q2 hq h => by obtain ⟨v, e, e2, k, e3, h⟩ := h; exact ⟨v, e, e2, k, e3, hq _ _ h⟩)
    obtain ⟨y4, y5, y6, y7, y8, y9, at_, f, done, xs, rfl, hx, hpx, hd, hat, sm⟩ := hp
    refine ⟨_, rfl, rfl, _, rfl, ?_⟩
    cases at_ with
    | none =>
      refine iteF ⟨_, rfl, ?_⟩
      have : done = told ords k0 := by rw [← hd]; cases f <;> simp [chain]
      subst this
      exact q _ p xs sm np hx hpx
    | some k =>
      refine iteT ?_
      obtain ⟨hk, hf⟩ := hat k rfl
      obtain ⟨o, ho⟩ : ∃ o, ords[k]? = some o := ⟨ords[k], List.getElem?_eq_getElem hk⟩
      have oo := hok k o ho
      obtain ⟨v, hv, hpd⟩ := (hos.same sm).get (show (ords.map Ord.d)[k]? = some o.d by rw [List.getElem?_map, ho]; rfl)
      obtain ⟨oa, rfl, hoa⟩ := Ord.of hpd
      obtain ⟨f, rfl⟩ : ∃ f', f = f' + 1 := ⟨f - 1, by omega⟩
      have hch : chain ords (f + 1) (some k) = movesOf o k ++ chain ords f o.later := by rw [chain, ho]
      rw [hch] at hd
      have dlen : done.length + o.many ≤ 32 := by
        have h1 := told_len (ords := ords) (fun o ho => by
          obtain ⟨i, hi, rfl⟩ := List.mem_iff_getElem.mp ho
          exact (hok i _ (List.getElem?_eq_getElem hi)).eight) k0
        rw [← hd, List.length_append, List.length_append, movesOf_len] at h1
        omega
      refine ⟨_, rfl, _, rfl, a, os, (k : Int), .ref oa, rfl, rfl, sqA_t (sm _ _ ha), atI_nat hv, oa, _, rfl, sqT_t hoa, rfl, _, _, rfl, _, _, rfl, _, _, rfl, _, _, rfl, rfl, ?_⟩
      -- for step in range(many)
      refine ⟨_, rfl, _, rfl, by have := oo.eight; omega, by have := oo.eight; omega, ?_⟩
      refine for_it (walk_range (lo := 0) (n := (o.many : Int).toNat)) (fun i σ H' => ∃ (y8 y9 : Option V) (xs : List V), σ = [some (.ref a), some (nV k0), some (.ref p), some (nV k), some (nV o.src), some (nV o.goal), some (nV o.many), some (oV o.later), y8, y9] ∧ H' p = some (.lst xs) ∧
          Pds H' xs ((done ++ (movesOf o k).take i).map Mv.d) ∧ Same H H')
        ⟨_, _, xs, rfl, hx, by simpa using hpx, sm⟩ (fun _ _ _ _ _ => trivial) (fun i x σ H2 H3 hi hp hy => ?_) (fun σ H2 hp => ?_)
      · obtain ⟨z8, z9, xs, rfl, hx, hpx, sm2⟩ := hp
        obtain ⟨rfl, rfl⟩ := hy
        have hi' : i < o.many := by simpa using hi
        have step : ∀ (H4 : Hp) (T : Addr), H4 = upd H3 T (.tup [.int ((o.src : Int) + (0 + (i : Int))), .int ((o.goal : Int) + (0 + (i : Int))), oV (if i + 1 = o.many then some k else none)]) → H3 T = none →
            H4 p = some (.lst xs) ∧ xs.length < sizeLine ∧ (upd H4 p (.lst (xs ++ [.ref T]))) p = some (.lst (xs ++ [.ref T])) ∧ Pds (upd H4 p (.lst (xs ++ [.ref T]))) (xs ++ [.ref T]) ((done ++ (movesOf o k).take (i + 1)).map Mv.d) ∧ Same H (upd H4 p (.lst (xs ++ [.ref T]))) := fun H4 T e nT => by
          have s3 : Same H3 H4 := by rw [e]; exact same_new nT
          have hT : H4 T = some (.tup (mvAt o k i).vs) := by
            rw [e, upd_same]
            simp [Mv.vs, mvAt, nV]
          have hx4 := s3 _ _ hx
          have pT : T ≠ p := fun z => by rw [z, hx4] at hT; cases hT
          have ls : Lsts H4 [p] := fun c hc => ⟨xs, by rw [List.mem_singleton.mp hc]; exact hx4⟩
          have sB : But [p] H4 (upd H4 p (.lst (xs ++ [.ref T]))) := But.set (by simp)
          have xlen : xs.length ≤ 100 := by
            rw [hpx.len, List.length_map, List.length_append, List.length_take]
            omega
          refine ⟨hx4, fits (by omega), upd_same, ?_, fun c u hc => ?_⟩
          · rw [movesOf_take hi', ← List.append_assoc, List.map_append]
            exact (Pds.but sB ls (noLs_map noL_mv _) (hpx.same s3)).app (.cons (Mv.pd (by rw [upd_ne pT]; exact hT)) .nil)
          · rw [upd_ne (ne_of_none hc np)]; exact s3 _ _ (sm2 _ _ hc)
        refine ⟨_, rfl, _, rfl, _, _, rfl, rfl, rfl, _, rfl, ite2 (fun e => ⟨_, rfl, ?_⟩) (fun e => ?_)⟩
        · have e1 : i + 1 = o.many := by
            have : (0 : Int) + (i : Int) = (o.many : Int) - 1 := by injection of_decide_eq_true e
            omega
          rw [if_pos e1] at step
          refine ⟨_, rfl, .inl ⟨rfl, _, sqL_l hx⟩, _, rfl, _, rfl, _, _, rfl, rfl, _, rfl, _, rfl, _, _, rfl, rfl, _, rfl, by show 3 ≤ sizeLine; decide, fun T nT => ?_⟩
          obtain ⟨g1, g2, g3, g4, g5⟩ := step _ T rfl nT
          exact ⟨p, _, _, rfl, rfl, g1, g2, _, _, _, rfl, g3, g4, g5⟩
        · have e1 : ¬ i + 1 = o.many := fun z => e (by
            have : (0 : Int) + (i : Int) = (o.many : Int) - 1 := by omega
            exact decide_eq_true (congrArg V.int this))
          rw [if_neg e1] at step
          refine ⟨_, rfl, .inl ⟨rfl, _, sqL_l hx⟩, _, rfl, _, rfl, _, _, rfl, rfl, _, rfl, _, rfl, _, _, rfl, rfl, _, rfl, by show 3 ≤ sizeLine; decide, fun T nT => ?_⟩
          obtain ⟨g1, g2, g3, g4, g5⟩ := step _ T rfl nT
          exact ⟨p, _, _, rfl, rfl, g1, g2, _, _, _, rfl, g3, g4, g5⟩
      · obtain ⟨z8, z9, xs, rfl, hx, hpx, sm2⟩ := hp
        have et : (movesOf o k).take (o.many : Int).toNat = movesOf o k := List.take_of_length_le (by rw [movesOf_len]; simp)
        rw [et] at hpx
        refine ⟨_, rfl, ⟨_, _, _, _, _, _, o.later, f, done ++ movesOf o k, xs, rfl, hx, hpx, by rw [List.append_assoc]; exact hd, fun k' e => ?_, sm2⟩, ?_⟩
        · have := oo.later k' e
          omega
        · show leftAt 3 ords.length [some (.ref a), some (nV k0), some (.ref p), some (oV o.later), _, _, _, _, _, _] < leftAt 3 ords.length [some (.ref a), some (nV k0), some (.ref p), some (oV (some k)), _, _, _, _, _, _]
          cases hl : o.later with
          | none => simp [leftAt, oV, nV]; omega
          | some k' =>
            have := oo.later k' hl
            simp [leftAt, oV, nV]; omega
end
end Vt
namespace Vt
open PySem PySem.Spec PyProof.Rows L2
/-! ### plainly -/
def rdD (p : Nat × Nat) : D := .tup [nD p.1, nD p.2]
theorem noL_rd (p : Nat × Nat) : (rdD p).noL = true := by simp [rdD, D.noL, noLs, nD]
theorem rd_pd {c n : Nat} (H : Hp) (a : Addr) (h : H a = some (.tup [nV c, nV n])) : Pd H (.ref a) (rdD (c, n)) := .tup h (.cons (.int _) (.cons (.int _) .nil))
def mvStep (p : List Nat × List (Nat × Nat)) (m : Mv) : List Nat × List (Nat × Nat) := (p.1.set m.goal (p.1.getD m.src 0), p.2 ++ [(m.src, p.1.getD m.src 0)])
structure Pst where
  mem : List Nat
  said : List Nat
  reads : List (Nat × Nat)
  fet : List (Nat × Nat)
def pstep (ords : List Ord) (s : Pst) : Deed → Pst
  | .set c n => { s with mem := s.mem.set c n }
  | .add c o => { s with reads := (s.reads ++ [(c, s.mem.getD c 0)]) ++ [(o, s.mem.getD o 0)], mem := s.mem.set c ((s.mem.getD c 0 + s.mem.getD o 0) % 10) }
  | .say c => { s with reads := s.reads ++ [(c, s.mem.getD c 0)], said := s.said ++ [s.mem.getD c 0] }
  | .start o => { s with mem := ((told ords o).foldl mvStep (s.mem, [])).1, fet := s.fet ++ ((told ords o).foldl mvStep (s.mem, [])).2 }
  | _ => s
def plain (B : Brd) : Pst := B.prog.foldl (pstep B.ords) ⟨B.mem, [], [], []⟩
theorem chain_bd {ords : List Ord} {cells : Nat} (hok : ∀ (i : Nat) (o : Ord), ords[i]? = some o → OrdOk o i ords.length cells) : ∀ f k, ∀ m ∈ chain ords f k, m.src < cells ∧ m.goal < cells
  | 0, none => by simp [chain]
  | 0, some _ => by simp [chain]
  | f + 1, none => by simp [chain]
  | f + 1, some k => by
    intro m hm
    rw [chain] at hm
    split at hm
    · simp at hm
    · rename_i o e
      rcases List.mem_append.mp hm with h | h
      · obtain ⟨s, hs, rfl⟩ := List.mem_map.mp h
        have := List.mem_range.mp hs
        have := (hok k o e).src
        have := (hok k o e).goal
        simp only [mvAt]; omega
      · exact chain_bd hok f o.later m h
theorem mv_len : ∀ (ms : List Mv) (p : List Nat × List (Nat × Nat)), (ms.foldl mvStep p).1.length = p.1.length ∧ (ms.foldl mvStep p).2.length = p.2.length + ms.length
  | [], p => ⟨rfl, rfl⟩
  | m :: r, p => by
    obtain ⟨h1, h2⟩ := mv_len r (mvStep p m)
    rw [List.foldl_cons, h1, h2]
    simp [mvStep]; omega
theorem mv_ten : ∀ (ms : List Mv) (p : List Nat × List (Nat × Nat)), (∀ n ∈ p.1, n < 10) → ∀ n ∈ (ms.foldl mvStep p).1, n < 10
  | [], p, h => h
  | m :: r, p, h => by
    rw [List.foldl_cons]
    refine mv_ten r (mvStep p m) fun n hn => ?_
    simp only [mvStep] at hn
    rcases List.mem_or_eq_of_mem_set hn with h' | h'
    · exact h n h'
    · rw [h', List.getD_eq_getElem?_getD]
      cases e : p.1[m.src]? with
      | none => simp
      | some x => simpa using h x (List.mem_of_getElem? e)
structure PInv (s : Pst) (n cells : Nat) : Prop where
  len : s.mem.length = cells
  ten : ∀ x ∈ s.mem, x < 10
  said : s.said.length ≤ n
  reads : s.reads.length ≤ 2 * n
  fet : s.fet.length ≤ 32 * n
theorem PInv.step {s : Pst} {n cells : Nat} {ords : List Ord} {d : Deed} (h : PInv s n cells) (hm : ∀ o ∈ ords, o.many ≤ 8) (hd : DeedOk d ords.length cells) : PInv (pstep ords s d) (n + 1) cells := by
  obtain ⟨h1, h2, h3, h4, h5⟩ := h
  have mset : ∀ c v, v < 10 → ∀ x ∈ s.mem.set c v, x < 10 := fun c v hv x hx => by
    rcases List.mem_or_eq_of_mem_set hx with h' | h'
    · exact h2 x h'
    · rw [h']; exact hv
  cases d with
  | set c v => exact ⟨by simpa [pstep] using h1, mset c v hd.2, by simp only [pstep]; omega, by simp only [pstep]; omega, by simp only [pstep]; omega⟩
  | add c v => exact ⟨by simpa [pstep] using h1, mset c _ (Nat.mod_lt _ (by decide)), by simp only [pstep]; omega, by simp [pstep]; omega, by simp only [pstep]; omega⟩
  | say c => exact ⟨by simpa [pstep] using h1, h2, by simp [pstep]; omega, by simp [pstep]; omega, by simp only [pstep]; omega⟩
  | start o =>
    obtain ⟨e1, e2⟩ := mv_len (told ords o) (s.mem, [])
    have e3 := told_len hm o
    refine ⟨?_, mv_ten _ _ h2, ?_, ?_, ?_⟩
    · simp only [pstep]; rw [e1]; exact h1
    · simp only [pstep]; omega
    · simp only [pstep]; omega
    · simp only [pstep, List.length_append]; rw [e2]; simp; omega
  | wait => exact ⟨h1, h2, by simp only [pstep]; omega, by simp only [pstep]; omega, by simp only [pstep]; omega⟩
  | clean l => exact ⟨h1, h2, by simp only [pstep]; omega, by simp only [pstep]; omega, by simp only [pstep]; omega⟩
  | drop l => exact ⟨h1, h2, by simp only [pstep]; omega, by simp only [pstep]; omega, by simp only [pstep]; omega⟩
section
variable {P : Program} {w : World} {K : PySem.W.Frag} {mg : Str → Option Value} {base : Heap}
abbrev st_moved_at_once : Stmt := (topS 34)
abbrev nm_moved_at_once : List Str := ["memory", "orders", "first", "fetches", "source", "goal", "bell"]
theorem sc_moved_at_once : FnScope ["memory", "orders", "first", "fetches", "source", "goal", "bell"] ["memory", "orders", "first"] (defScope st_moved_at_once) := ⟨rfl, rfl, rfl, by decide +kernel, rfl, by decide +kernel, by decide +kernel⟩
def spOnce : Sp := fun vs H Q _ => ∃ (m a : Addr) (mem : List Nat) (os : List V) (ords : List Ord) (k : Nat), vs = [.ref m, .ref a, nV k] ∧ H m = some (.lst (mem.map nV)) ∧ H a = some (.tup os) ∧ Pds H os (ords.map Ord.d) ∧ ords.length ≤ 4 ∧ (∀ (i : Nat) (o : Ord), ords[i]? = some o → OrdOk o i ords.length mem.length) ∧ k < ords.length ∧
  ∀ (H' : Hp) (p : Addr) (xs : List V), But [m] H H' → H p = none → H' m = some (.lst (((told ords k).foldl mvStep (mem, [])).1.map nV)) → H' p = some (.lst xs) → Pds H' xs (((told ords k).foldl mvStep (mem, [])).2.map rdD) → Q (.ref p) H'
theorem ok_once {f : Addr} {fd : FuncData} (F : Fun K "moved_at_once" "moved_at_once" st_moved_at_once f fd) (c_moves_told : Callee P w K mg base "moves_told" 1 2 spMoves) : FnOk P w K mg base CX0 2 f fd ["memory", "orders", "first"] spOnce := by
  refine F.ok sc_moved_at_once (fun vs H Q E h => ?_) (fun cdv A outer s H vs Q E hr h => ?_)
  · obtain ⟨m, a, mem, os, ords, k, rfl, _⟩ := h
    rfl
  · obtain ⟨m, a, mem, os, ords, k, rfl, hm, ha, hos, h4, hok, hk, q⟩ := h
    refine ⟨_, (pss_cons (ps_set (i := 3) sc_moved_at_once.nd rfl (Or.inl rfl) (pe_lst pa_nil))
  (pss_cons (ps_for PassesOwn.never rfl (pi_lt (pe_cal c_moves_told hr (by first | decide | exact Nat.le_refl _) (pa_cons (pv 1) (pa_cons (pv 2) pa_nil)))) (pg_tup rfl (pgs_cons (pg_name (i := 4) sc_moved_at_once.nd rfl (Or.inl rfl)) (pgs_cons (pg_name (i := 5) sc_moved_at_once.nd rfl (Or.inl rfl)) (pgs_cons (pg_name (i := 6) sc_moved_at_once.nd rfl (Or.inl rfl)) pgs_nil))))
  (pss_cons (ps_expr (pe_bm PySem.F.plainAttrs_list PySem.F.slot_list_append PySem.F.type_list_append mt_append (pv 3) (pa_cons (pe_tup (pa_cons (pv 4) (pa_cons (pe_ix ix_lt (pv 0) (pv 4) (fun _ _ => rfl)) pa_nil))) pa_nil)))
  (pss_one (ps_asg (pe_ix ix_lt (pv 0) (pv 4) (fun _ _ => rfl)) (pg_sub (pv 0) (pv 5) set_list)))))
  (pss_one (ps_ret (pv 3))))), ?_⟩
    refine ⟨Nat.zero_le _, fun p np => ?_⟩
    have s1 : Same H (upd H p (.lst [])) := same_new np
    have hp1 : (upd H p (.lst [])) p = some (.lst []) := upd_same
    generalize upd H p (.lst []) = H1 at s1 hp1
    have mp : m ≠ p := ne_of_none hm np
    refine ⟨_, rfl, _, rfl, a, os, ords, mem.length, k, rfl, s1 _ _ ha, hos.same s1, h4, hok, hk, fun H2 l ms s2 nl hl hms => ?_⟩
    have hp2 := s2 _ _ hp1
    have lp : l ≠ p := (ne_of_none hp1 nl).symm
    have lm : l ≠ m := (ne_of_none (s1 _ _ hm) nl).symm
    have ml : ms.length = (told ords k).length := by rw [hms.len, List.length_map]
    have t32 := told_len (ords := ords) (fun o ho => by
      obtain ⟨i, hi, rfl⟩ := List.mem_iff_getElem.mp ho
      exact (hok i _ (List.getElem?_eq_getElem hi)).eight) k
    refine ⟨l, rfl, .inl ⟨_, sqL_l hl, ?_⟩⟩
    refine for_it (walk_list (xs := ms)) (fun i σ H' => ∃ (y4 y5 y6 : Option V) (xs : List V), σ = [some (.ref m), some (.ref a), some (nV k), some (.ref p), y4, y5, y6] ∧ H' m = some (.lst ((((told ords k).take i).foldl mvStep (mem, [])).1.map nV)) ∧
        H' p = some (.lst xs) ∧ Pds H' xs ((((told ords k).take i).foldl mvStep (mem, [])).2.map rdD) ∧ H' l = some (.lst ms) ∧ Pds H' ms ((told ords k).map Mv.d) ∧ But [m] H H')
      ⟨_, _, _, [], rfl, s2 _ _ (s1 _ _ hm), hp2, .nil, hl, hms, Same.but (s1.trans s2)⟩ (fun i σ H' _ hp => by obtain ⟨_, _, _, _, _, _, _, _, e, _⟩ := hp; exact sqL_l e) (fun i x σ H3 H4 hi hp hy => ?_) (fun σ H3 hp => ?_)
    · obtain ⟨y4, y5, y6, xs, rfl, g1, g2, g3, g4, g5, g6⟩ := hp
      obtain ⟨rfl, hx⟩ := hy
      obtain ⟨dd, hdd, hpd⟩ := g5.get' hx
      rw [List.getElem?_map] at hdd
      obtain ⟨mv, hmv, rfl⟩ : ∃ mv, (told ords k)[i]? = some mv ∧ mv.d = dd := by simpa using hdd
      obtain ⟨ma, rfl, hma⟩ := Mv.of hpd
      have bd := chain_bd hok 4 (some k) mv (List.mem_of_getElem? hmv)
      have stp : ((told ords k).take (i + 1)).foldl mvStep (mem, []) = mvStep (((told ords k).take i).foldl mvStep (mem, [])) mv := by
        rw [List.take_add_one, hmv, List.foldl_append]; rfl
      obtain ⟨L1, L2'⟩ := mv_len ((told ords k).take i) (mem, [])
      generalize hrr : ((told ords k).take i).foldl mvStep (mem, []) = rr at *
      have b1 : mv.src < rr.1.length := by rw [L1]; exact bd.1
      have b2 : mv.goal < rr.1.length := by rw [L1]; exact bd.2
      refine ⟨ma, _, rfl, sqT_t hma, rfl, _, _, rfl, _, _, rfl, _, _, rfl, rfl, ?_⟩
      -- fetches.append((source, memory[source]))
      refine ⟨_, rfl, .inl ⟨rfl, _, sqL_l g2⟩, _, rfl, _, rfl, _, rfl, m, _, (mv.src : Int), nV (rr.1.getD mv.src 0), rfl, rfl, sqA_l g1, atI_nat (nat_at b1), by show 2 ≤ sizeLine; decide, fun T nT => ?_⟩
      obtain ⟨k1, k2, k3⟩ := grow g2 g3 (noLs_map noL_rd _) nT (fun H a h => rd_pd (c := mv.src) (n := rr.1.getD mv.src 0) H a h)
      have xlen : xs.length ≤ 32 := by
        rw [g3.len, List.length_map, L2']; simp; omega
      refine ⟨p, _, _, rfl, rfl, k1, fits (by omega), ?_⟩
      have g1' := But.at1 k3 g1 mp
      have g2' : (upd (upd H4 T (.tup [nV mv.src, nV (rr.1.getD mv.src 0)])) p (.lst (xs ++ [.ref T]))) p = some (.lst (xs ++ [.ref T])) := upd_same
      have g4' := But.at1 k3 g4 lp
      have g5' := But.pds1 k3 g2 (noLs_map noL_mv _) g5
      have g6' : But [m] H (upd (upd H4 T (.tup [nV mv.src, nV (rr.1.getD mv.src 0)])) p (.lst (xs ++ [.ref T]))) := fun c o hc h => k3 c o (by simp [ne_of_none h np]) (g6 c o hc h)
      generalize upd (upd H4 T (.tup [nV mv.src, nV (rr.1.getD mv.src 0)])) p (.lst (xs ++ [.ref T])) = H5 at g1' g2' g4' g5' g6' k2
      -- memory[goal] = memory[source]
      refine ⟨_, rfl, _, rfl, m, _, (mv.src : Int), nV (rr.1.getD mv.src 0), rfl, rfl, sqA_l g1', atI_nat (nat_at b1), ?_⟩
      refine ⟨_, rfl, _, rfl, m, _, _, mv.goal, rfl, rfl, g1', ixN_of rfl (by rw [List.length_map]; exact b2), ?_⟩
      have sB : But [m] H5 (upd H5 m (.lst ((rr.1.map nV).set mv.goal (nV (rr.1.getD mv.src 0))))) := But.set (by simp)
      refine ⟨_, _, _, xs ++ [.ref T], rfl, ?_, ?_, ?_, ?_, But.pds1 sB g1' (noLs_map noL_mv _) g5', g6'.trans sB⟩
      · rw [stp, upd_same, set_map rfl]; rfl
      · exact But.at1 sB g2' mp.symm
      · rw [stp]
        simp only [mvStep, List.map_append, List.map_cons, List.map_nil]
        refine But.pds1 sB g1' ?_ k2
        rw [show rr.2.map rdD ++ [rdD (mv.src, rr.1.getD mv.src 0)] = (rr.2 ++ [(mv.src, rr.1.getD mv.src 0)]).map rdD by simp]
        exact noLs_map noL_rd _
      · exact But.at1 sB g4' lm
    · obtain ⟨y4, y5, y6, xs, rfl, g1, g2, g3, g4, g5, g6⟩ := hp
      rw [ml, List.take_length] at g1 g3
      exact ⟨_, rfl, q _ p xs g6 np g1 g2 g3⟩
end
end Vt
namespace Vt
open PySem PySem.Spec PyProof.Rows L2
/-- the lists of a plain run so far -/
structure Held (H : Hp) (m s r f : Addr) (st : Pst) : Prop where
  mem : H m = some (.lst (st.mem.map nV))
  said : H s = some (.lst (st.said.map nV))
  reads : ∃ xs, H r = some (.lst xs) ∧ Pds H xs (st.reads.map rdD)
  fet : ∃ xs, H f = some (.lst xs) ∧ Pds H xs (st.fet.map rdD)
structure Apart (m s r f : Addr) : Prop where
  ms : m ≠ s
  mr : m ≠ r
  mf : m ≠ f
  sr : s ≠ r
  sf : s ≠ f
  rf : r ≠ f
section
variable {H H' : Hp} {m s r f : Addr} {st : Pst}
theorem Held.same (h : Held H m s r f st) (e : Same H H') : Held H' m s r f st := by
  obtain ⟨h1, h2, ⟨x3, h3, k3⟩, ⟨x4, h4, k4⟩⟩ := h
  exact ⟨e _ _ h1, e _ _ h2, ⟨x3, e _ _ h3, k3.same e⟩, ⟨x4, e _ _ h4, k4.same e⟩⟩
/-- the memory is written -/
theorem Held.setMem (h : Held H m s r f st) (a : Apart m s r f) {mem : List Nat} (b : But [m] H H') (e : H' m = some (.lst (mem.map nV))) : Held H' m s r f { st with mem := mem } := by
  obtain ⟨h1, h2, ⟨x3, h3, k3⟩, ⟨x4, h4, k4⟩⟩ := h
  exact ⟨e, b.at1 h2 a.ms.symm, ⟨x3, b.at1 h3 a.mr.symm, b.pds1 h1 (noLs_map noL_rd _) k3⟩, ⟨x4, b.at1 h4 a.mf.symm, b.pds1 h1 (noLs_map noL_rd _) k4⟩⟩
theorem Held.setSaid (h : Held H m s r f st) (a : Apart m s r f) {said : List Nat} (b : But [s] H H') (e : H' s = some (.lst (said.map nV))) : Held H' m s r f { st with said := said } := by
  obtain ⟨h1, h2, ⟨x3, h3, k3⟩, ⟨x4, h4, k4⟩⟩ := h
  exact ⟨b.at1 h1 a.ms, e, ⟨x3, b.at1 h3 a.sr.symm, b.pds1 h2 (noLs_map noL_rd _) k3⟩, ⟨x4, b.at1 h4 a.sf.symm, b.pds1 h2 (noLs_map noL_rd _) k4⟩⟩
theorem Held.setReads (h : Held H m s r f st) (a : Apart m s r f) {reads : List (Nat × Nat)} {ys : List V} (b : But [r] H H') (e : H' r = some (.lst ys)) (k : Pds H' ys (reads.map rdD)) : Held H' m s r f { st with reads := reads } := by
  obtain ⟨h1, h2, ⟨x3, h3, k3⟩, ⟨x4, h4, k4⟩⟩ := h
  exact ⟨b.at1 h1 a.mr, b.at1 h2 a.sr, ⟨ys, e, k⟩, ⟨x4, b.at1 h4 a.rf.symm, b.pds1 h3 (noLs_map noL_rd _) k4⟩⟩
theorem Held.setFet (h : Held H m s r f st) (a : Apart m s r f) {fet : List (Nat × Nat)} {ys : List V} (b : But [f] H H') (e : H' f = some (.lst ys)) (k : Pds H' ys (fet.map rdD)) : Held H' m s r f { st with fet := fet } := by
  obtain ⟨h1, h2, ⟨x3, h3, k3⟩, ⟨x4, h4, k4⟩⟩ := h
  exact ⟨b.at1 h1 a.mf, b.at1 h2 a.sf, ⟨x3, b.at1 h3 a.rf, b.pds1 h4 (noLs_map noL_rd _) k3⟩, ⟨ys, e, k⟩⟩
/-- a reading noted -/
theorem Held.noteRead (h : Held H m s r f st) (a : Apart m s r f) {T : Addr} {c n : Nat} (nT : H T = none) : ∃ xs, (upd H T (.tup [nV c, nV n])) r = some (.lst xs) ∧ xs.length = st.reads.length ∧
    Held (upd (upd H T (.tup [nV c, nV n])) r (.lst (xs ++ [.ref T]))) m s r f { st with reads := st.reads ++ [(c, n)] } ∧ But [r] H (upd (upd H T (.tup [nV c, nV n])) r (.lst (xs ++ [.ref T]))) := by
  have ⟨h1, h2, ⟨x3, h3, k3⟩, ⟨x4, h4, k4⟩⟩ := h
  obtain ⟨g1, g2, g3⟩ := grow h3 k3 (noLs_map noL_rd _) nT (fun H a h => rd_pd (c := c) (n := n) H a h)
  exact ⟨x3, g1, by rw [k3.len, List.length_map], h.setReads a g3 upd_same (by rw [List.map_append]; exact g2), g3⟩
end
section
variable {P : Program} {w : World} {K : PySem.W.Frag} {mg : Str → Option Value} {base : Heap}
theorem nw {a b : Str} {p : Prop} (h : decide (a = b) = false) : ¬ (a = b ∧ p) := fun q => of_decide_eq_false h q.1
theorem hd_word {H : Hp} {a : Addr} {d : Deed} (h : H a = some (.tup d.vs)) : SqT K H a (.str d.word :: d.args.map nV) := sqT_t h
abbrev st_plain_run : Stmt := (topS 33)
abbrev nm_plain_run : List Str := ["board", "cells", "orders", "program", "memory", "said", "reads", "fetches", "deed", "cell", "number", "other", "order"]
theorem sc_plain_run : FnScope ["board", "cells", "orders", "program", "memory", "said", "reads", "fetches", "deed", "cell", "number", "other", "order"] ["board"] (defScope st_plain_run) := ⟨rfl, rfl, rfl, by decide +kernel, rfl, by decide +kernel, by decide +kernel⟩
def spRun : Sp := fun vs H Q _ => ∃ (v : V) (B : Brd), vs = [v] ∧ Pd H v B.d ∧ BrdOk B ∧ ∀ (H' : Hp) (t m s r f : Addr), Same H H' → H m = none → H s = none → H r = none → H f = none → Apart m s r f → H' t = some (.tup [.ref m, .ref s, .ref r, .ref f]) → Held H' m s r f (plain B) → Q (.ref t) H'
theorem ok_run {f : Addr} {fd : FuncData} (F : Fun K "plain_run" "plain_run" st_plain_run f fd) (C : Consts K mg) (c_require_board : Callee P w K mg base "require_board" 3 1 spReq) (c_moved_at_once : Callee P w K mg base "moved_at_once" 2 3 spOnce) (z_list : mg "list" = none) :
    FnOk P w K mg base CX0 4 f fd ["board"] spRun := by
  obtain ⟨tN, mc_NUMBERS⟩ := C.numbers
  refine F.ok sc_plain_run (fun vs H Q E h => ?_) (fun cdv A outer s H vs Q E hr h => ?_)
  · obtain ⟨v, B, rfl, _⟩ := h
    rfl
  · obtain ⟨v, B, rfl, hB, ok, q⟩ := h
    refine ⟨_, (pss_cons (ps_expr (pe_cal c_require_board hr (by first | decide | exact Nat.le_refl _) (pa_cons (pv 0) pa_nil)))
  (pss_cons (ps_asg (pv 0) (pg_tup rfl (pgs_cons (pg_name (i := 1) sc_plain_run.nd rfl (Or.inl rfl)) (pgs_cons (pg_name (i := 2) sc_plain_run.nd rfl (Or.inl rfl)) (pgs_cons (pg_name (i := 3) sc_plain_run.nd rfl (Or.inl rfl)) pgs_nil)))))
  (pss_cons (ps_set (i := 4) sc_plain_run.nd rfl (Or.inl rfl) (pe_callTy call_list_of (by rfl) z_list (by decide +kernel) (pa_cons (pv 1) pa_nil)))
  (pss_cons (ps_set (i := 5) sc_plain_run.nd rfl (Or.inl rfl) (pe_lst pa_nil))
  (pss_cons (ps_set (i := 6) sc_plain_run.nd rfl (Or.inl rfl) (pe_lst pa_nil))
  (pss_cons (ps_set (i := 7) sc_plain_run.nd rfl (Or.inl rfl) (pe_lst pa_nil))
  (pss_cons (ps_for PassesOwn.never rfl (pi_lt (pv 3)) (pg_name (i := 8) sc_plain_run.nd rfl (Or.inl rfl))
  (pss_one (ps_match (pv 8)
  (pc_seq2 (i0 := 9) (i1 := 10) sc_plain_run.nd (pss_one (ps_asg (pv 10) (pg_sub (pv 4) (pv 9) set_list)))
  (pc_seq2 (i0 := 9) (i1 := 11) sc_plain_run.nd (pss_cons (ps_expr (pe_bm PySem.F.plainAttrs_list PySem.F.slot_list_append PySem.F.type_list_append mt_append (pv 6) (pa_cons (pe_tup (pa_cons (pv 9) (pa_cons (pe_ix ix_lt (pv 4) (pv 9) (fun _ _ => rfl)) pa_nil))) pa_nil)))
  (pss_cons (ps_expr (pe_bm PySem.F.plainAttrs_list PySem.F.slot_list_append PySem.F.type_list_append mt_append (pv 6) (pa_cons (pe_tup (pa_cons (pv 11) (pa_cons (pe_ix ix_lt (pv 4) (pv 11) (fun _ _ => rfl)) pa_nil))) pa_nil)))
  (pss_one (ps_asg (pe_op op_mod (pe_op op_add (pe_ix ix_lt (pv 4) (pv 9) (fun _ _ => rfl)) (pe_ix ix_lt (pv 4) (pv 11) (fun _ _ => rfl))) (pe_glob (v := .int 10) rfl mc_NUMBERS ⟨_, rfl⟩)) (pg_sub (pv 4) (pv 9) set_list)))))
  (pc_seq1 (i0 := 9) sc_plain_run.nd (pss_cons (ps_expr (pe_bm PySem.F.plainAttrs_list PySem.F.slot_list_append PySem.F.type_list_append mt_append (pv 6) (pa_cons (pe_tup (pa_cons (pv 9) (pa_cons (pe_ix ix_lt (pv 4) (pv 9) (fun _ _ => rfl)) pa_nil))) pa_nil)))
  (pss_one (ps_expr (pe_bm PySem.F.plainAttrs_list PySem.F.slot_list_append PySem.F.type_list_append mt_append (pv 5) (pa_cons (pe_ix ix_lt (pv 4) (pv 9) (fun _ _ => rfl)) pa_nil)))))
  (pc_seq1 (i0 := 12) sc_plain_run.nd (pss_one (ps_expr (pe_bm PySem.F.plainAttrs_list PySem.F.slot_list_extend PySem.F.type_list_extend mt_extend (pv 7) (pa_cons (pe_cal c_moved_at_once hr (by first | decide | exact Nat.le_refl _) (pa_cons (pv 4) (pa_cons (pv 2) (pa_cons (pv 12) pa_nil)))) pa_nil))))
  pc_nil)))))))
  (pss_one (ps_ret (pe_tup (pa_cons (pv 4) (pa_cons (pv 5) (pa_cons (pv 6) (pa_cons (pv 7) pa_nil)))))))))))))), ?_⟩
    refine ⟨_, rfl, v, B, rfl, hB, ok, fun H1 s1 => ?_⟩
    obtain ⟨a, mm, o, p, os, ps, rfl, ha, hm, ho, hos, hp, hps⟩ := Brd.of (hB.same s1)
    refine ⟨_, rfl, a, _, rfl, sqT_t ha, rfl, _, _, rfl, _, _, rfl, _, _, rfl, rfl, ?_⟩
    refine ⟨_, rfl, mm, _, rfl, .inr (sqT_t hm), fun m nm => ⟨Nat.zero_le _, fun s ns => ⟨Nat.zero_le _, fun r nr => ⟨Nat.zero_le _, fun f nf => ?_⟩⟩⟩⟩
    have e1 := same_new (o := .lst (B.mem.map nV)) nm
    have e2 := same_new (o := .lst []) ns
    have e3 := same_new (o := .lst []) nr
    have e4 := same_new (o := .lst []) nf
    have nm0 : H m = none := s1.free nm
    have ns0 : H s = none := (s1.trans e1).free ns
    have nr0 : H r = none := ((s1.trans e1).trans e2).free nr
    have nf0 : H f = none := (((s1.trans e1).trans e2).trans e3).free nf
    have am : (upd H1 m (.lst (B.mem.map nV))) m = some (.lst (B.mem.map nV)) := upd_same
    have as : (upd (upd H1 m (.lst (B.mem.map nV))) s (.lst [])) s = some (.lst []) := upd_same
    have ar : (upd (upd (upd H1 m (.lst (B.mem.map nV))) s (.lst [])) r (.lst [])) r = some (.lst []) := upd_same
    have ap : Apart m s r f := ⟨ne_of_none am ns, ne_of_none (e2 _ _ am) nr, ne_of_none (e3 _ _ (e2 _ _ am)) nf, ne_of_none as nr, ne_of_none (e3 _ _ as) nf, ne_of_none ar nf⟩
    have hd0 : Held (upd (upd (upd (upd H1 m (.lst (B.mem.map nV))) s (.lst [])) r (.lst [])) f (.lst [])) m s r f ⟨B.mem, [], [], []⟩ :=
      ⟨e4 _ _ (e3 _ _ (e2 _ _ am)), e4 _ _ (e3 _ _ as), ⟨[], e4 _ _ ar, .nil⟩, ⟨[], upd_same, .nil⟩⟩
    have sm0 : Same H1 (upd (upd (upd (upd H1 m (.lst (B.mem.map nV))) s (.lst [])) r (.lst [])) f (.lst [])) := ((e1.trans e2).trans e3).trans e4
    generalize upd (upd (upd (upd H1 m (.lst (B.mem.map nV))) s (.lst [])) r (.lst [])) f (.lst []) = H2 at hd0 sm0
    have many8 : ∀ o ∈ B.ords, o.many ≤ 8 := fun o ho => by
      obtain ⟨i, hi, rfl⟩ := List.mem_iff_getElem.mp ho
      exact (ok.ords i _ (List.getElem?_eq_getElem hi)).eight
    -- for deed in program
    refine ⟨_, rfl, p, rfl, .inr ⟨_, sqT_t (sm0 _ _ hp), ?_⟩⟩
    refine for_it (walk_tup (xs := ps)) (fun i σ H' => ∃ (y8 y9 y10 y11 y12 : Option V), σ = [some (.ref a), some (.ref mm), some (.ref o), some (.ref p), some (.ref m), some (.ref s), some (.ref r), some (.ref f), y8, y9, y10, y11, y12] ∧
        Held H' m s r f ((B.prog.take i).foldl (pstep B.ords) ⟨B.mem, [], [], []⟩) ∧ PInv ((B.prog.take i).foldl (pstep B.ords) ⟨B.mem, [], [], []⟩) i B.mem.length ∧ Same H1 H')
      ⟨_, _, _, _, _, rfl, hd0, ⟨rfl, ok.nums, Nat.zero_le _, Nat.zero_le _, Nat.zero_le _⟩, sm0⟩ (fun i σ H' _ hp' => by obtain ⟨_, _, _, _, _, _, _, _, sm⟩ := hp'; exact sqT_t (sm _ _ hp)) (fun i x σ H3 H4 hi hp' hy => ?_) (fun σ H3 hp' => ?_)
    · obtain ⟨y8, y9, y10, y11, y12, rfl, hh, pin, sm⟩ := hp'
      obtain ⟨rfl, hx⟩ := hy
      obtain ⟨dd, hdd, hpd⟩ := (hps.same sm).get' hx
      rw [List.getElem?_map] at hdd
      obtain ⟨d, hd, rfl⟩ : ∃ d, B.prog[i]? = some d ∧ d.d = dd := by simpa using hdd
      obtain ⟨da, rfl, hda⟩ := Deed.of hpd
      have dok := ok.prog d (List.mem_of_getElem? hd)
      have stp : (B.prog.take (i + 1)).foldl (pstep B.ords) ⟨B.mem, [], [], []⟩ = pstep B.ords ((B.prog.take i).foldl (pstep B.ords) ⟨B.mem, [], [], []⟩) d := by
        rw [List.take_add_one, hd, List.foldl_append]; rfl
      have pin' := pin.step many8 dok
      have hi60 : i < 60 := by have := (List.getElem?_eq_some_iff.mp hd).1; have := ok.sixty; omega
      have hfin : ∀ (H' : Hp) (y9 y10 y11 y12 : Option V), Held H' m s r f (pstep B.ords ((B.prog.take i).foldl (pstep B.ords) ⟨B.mem, [], [], []⟩) d) → Same H1 H' → ∃ (y8 z9 z10 z11 z12 : Option V), [some (.ref a), some (.ref mm), some (.ref o), some (.ref p), some (.ref m), some (.ref s), some (.ref r), some (.ref f), some (.ref da), y9, y10, y11, y12] =
          [some (.ref a), some (.ref mm), some (.ref o), some (.ref p), some (.ref m), some (.ref s), some (.ref r), some (.ref f), y8, z9, z10, z11, z12] ∧ Held H' m s r f ((B.prog.take (i + 1)).foldl (pstep B.ords) ⟨B.mem, [], [], []⟩) ∧ PInv ((B.prog.take (i + 1)).foldl (pstep B.ords) ⟨B.mem, [], [], []⟩) (i + 1) B.mem.length ∧ Same H1 H' := fun H' y9 y10 y11 y12 g e => by
        rw [stp]
        exact ⟨_, _, _, _, _, rfl, g, pin', e⟩
      clear stp pin'
      generalize (B.prog.take i).foldl (pstep B.ords) ⟨B.mem, [], [], []⟩ = st at *
      have hsq := hd_word (K := K) hda
      have nb : ∀ {c : Addr}, c = m ∨ c = s ∨ c = r ∨ c = f → H1 c = none := fun hc => by
        rcases hc with rfl | rfl | rfl | rfl
        · exact nm
        · exact e1.free ns
        · exact (e1.trans e2).free nr
        · exact ((e1.trans e2).trans e3).free nf
      obtain ⟨xr, hxr, hkr⟩ := hh.reads
      obtain ⟨xf, hxf, hkf⟩ := hh.fet
      have mlen := pin.len
      cases d with
      | set c n =>
        have hc : c < st.mem.length := by rw [mlen]; exact dok.1
        refine ⟨_, rfl, da, "set", [nV c, nV n], rfl, hsq, .inl ⟨rfl, rfl, ?_⟩⟩
        refine ⟨_, rfl, _, rfl, _, rfl, m, _, _, c, rfl, rfl, hh.mem, ixN_of rfl (by rw [List.length_map]; exact hc), ?_⟩
        have b : But [m] H4 (upd H4 m (.lst ((st.mem.map nV).set c (nV n)))) := But.set (by simp)
        exact hfin _ _ _ _ _ (hh.setMem ap b (by rw [upd_same, set_map rfl])) (But.new1 sm (nb (.inl rfl)) b)
      | add c o2 =>
        have hc : c < st.mem.length := by rw [mlen]; exact dok.1
        have ho2 : o2 < st.mem.length := by rw [mlen]; exact dok.2
        refine ⟨_, rfl, da, "add", [nV c, nV o2], rfl, hsq, .inr ⟨nw rfl, da, "add", [nV c, nV o2], rfl, hsq, .inl ⟨rfl, rfl, ?_⟩⟩⟩
        -- reads.append((cell, memory[cell]))
        refine ⟨_, rfl, .inl ⟨rfl, _, sqL_l hxr⟩, _, rfl, _, rfl, _, rfl, m, _, (c : Int), nV (st.mem.getD c 0), rfl, rfl, sqA_l hh.mem, atI_nat (nat_at hc), by show 2 ≤ sizeLine; decide, fun T nT => ?_⟩
        obtain ⟨xs1, g1, l1, hh1, b1⟩ := hh.noteRead ap (c := c) (n := st.mem.getD c 0) nT
        refine ⟨r, _, _, rfl, rfl, g1, fits (by have := pin.reads; omega), ?_⟩
        have sm1 := But.new1 sm (nb (.inr (.inr (.inl rfl)))) b1
        generalize upd (upd H4 T (.tup [nV c, nV (st.mem.getD c 0)])) r (.lst (xs1 ++ [.ref T])) = H5 at hh1 sm1
        obtain ⟨xr1, hxr1, _⟩ := hh1.reads
        -- reads.append((other, memory[other]))
        refine ⟨_, rfl, .inl ⟨rfl, _, sqL_l hxr1⟩, _, rfl, _, rfl, _, rfl, m, _, (o2 : Int), nV (st.mem.getD o2 0), rfl, rfl, sqA_l hh1.mem, atI_nat (nat_at ho2), by show 2 ≤ sizeLine; decide, fun T2 nT2 => ?_⟩
        obtain ⟨xs2, g2, l2, hh2, b2⟩ := hh1.noteRead ap (c := o2) (n := st.mem.getD o2 0) nT2
        refine ⟨r, _, _, rfl, rfl, g2, fits (by have := pin.reads; simp at l2; omega), ?_⟩
        have sm2 := But.new1 sm1 (nb (.inr (.inr (.inl rfl)))) b2
        generalize upd (upd H5 T2 (.tup [nV o2, nV (st.mem.getD o2 0)])) r (.lst (xs2 ++ [.ref T2])) = H6 at hh2 sm2
        -- memory[cell] = (memory[cell] + memory[other]) % NUMBERS
        refine ⟨_, rfl, _, rfl, m, _, (c : Int), nV (st.mem.getD c 0), rfl, rfl, sqA_l hh2.mem, atI_nat (nat_at hc), _, rfl, _, rfl, m, _, (o2 : Int), nV (st.mem.getD o2 0), rfl, rfl, sqA_l hh2.mem, atI_nat (nat_at ho2), _, _, rfl, rfl, _, _, rfl, rfl, (by show (0 : Int) < 10; decide), ?_⟩
        refine ⟨_, rfl, _, rfl, m, _, _, c, rfl, rfl, hh2.mem, ixN_of rfl (by rw [List.length_map]; exact hc), ?_⟩
        have b3 : But [m] H6 (upd H6 m (.lst ((st.mem.map nV).set c (.int (((st.mem.getD c 0 : Nat) + (st.mem.getD o2 0 : Nat) : Int) % 10))))) := But.set (by simp)
        exact hfin _ _ _ _ _ (hh2.setMem ap b3 (by rw [upd_same, set_map (n := (st.mem.getD c 0 + st.mem.getD o2 0) % 10) (congrArg V.int (by omega))])) (But.new1 sm2 (nb (.inl rfl)) b3)
      | say c =>
        have hc : c < st.mem.length := by rw [mlen]; exact dok
        refine ⟨_, rfl, da, "say", [nV c], rfl, hsq, .inr ⟨nw rfl, da, "say", [nV c], rfl, hsq, .inr ⟨nw rfl, da, "say", [nV c], rfl, hsq, .inl ⟨rfl, rfl, ?_⟩⟩⟩⟩
        refine ⟨_, rfl, .inl ⟨rfl, _, sqL_l hxr⟩, _, rfl, _, rfl, _, rfl, m, _, (c : Int), nV (st.mem.getD c 0), rfl, rfl, sqA_l hh.mem, atI_nat (nat_at hc), by show 2 ≤ sizeLine; decide, fun T nT => ?_⟩
        obtain ⟨xs1, g1, l1, hh1, b1⟩ := hh.noteRead ap (c := c) (n := st.mem.getD c 0) nT
        refine ⟨r, _, _, rfl, rfl, g1, fits (by have := pin.reads; omega), ?_⟩
        have sm1 := But.new1 sm (nb (.inr (.inr (.inl rfl)))) b1
        generalize upd (upd H4 T (.tup [nV c, nV (st.mem.getD c 0)])) r (.lst (xs1 ++ [.ref T])) = H5 at hh1 sm1
        refine ⟨_, rfl, .inl ⟨rfl, _, sqL_l hh1.said⟩, _, rfl, _, rfl, m, _, (c : Int), nV (st.mem.getD c 0), rfl, rfl, sqA_l hh1.mem, atI_nat (nat_at hc), ?_⟩
        refine ⟨s, _, _, rfl, rfl, hh1.said, by rw [List.length_map]; exact fits (show st.said.length ≤ 16000 by have := pin.said; omega), ?_⟩
        have b2 : But [s] H5 (upd H5 s (.lst (st.said.map nV ++ [nV (st.mem.getD c 0)]))) := But.set (by simp)
        exact hfin _ _ _ _ _ (hh1.setSaid ap (said := st.said ++ [st.mem.getD c 0]) b2 (by rw [upd_same, List.map_append]; rfl)) (But.new1 sm1 (nb (.inr (.inl rfl))) b2)
      | start k =>
        refine ⟨_, rfl, da, "start", [nV k], rfl, hsq, .inr ⟨nw rfl, da, "start", [nV k], rfl, hsq, .inr ⟨nw rfl, da, "start", [nV k], rfl, hsq, .inr ⟨nw rfl, da, "start", [nV k], rfl, hsq, .inl ⟨rfl, rfl, ?_⟩⟩⟩⟩⟩
        refine ⟨_, rfl, .inl ⟨rfl, _, sqL_l hxf⟩, _, rfl, _, rfl, _, rfl, m, o, st.mem, os, B.ords, k, rfl, hh.mem, sm _ _ ho, hos.same sm, ok.four, by rw [mlen]; exact ok.ords, dok, fun H5 p5 x5 b5 n5 e5 g5 k5 => ?_⟩
        have hh1 := hh.setMem ap b5 e5
        have sm1 := But.new1 sm (nb (.inl rfl)) b5
        obtain ⟨xf1, hxf1, hkf1⟩ := hh1.fet
        have hlen : xf1.length + x5.length ≤ 16000 := by
          obtain ⟨_, q2⟩ := mv_len (told B.ords k) (st.mem, [])
          have q3 := told_len many8 k
          rw [hkf1.len, k5.len, List.length_map, List.length_map, q2]
          have := pin.fet
          simp only [List.length_nil]; omega
        refine ⟨f, p5, _, _, rfl, rfl, hxf1, g5, fits' hlen, ?_⟩
        have b6 : But [f] H5 (upd H5 f (.lst (xf1 ++ x5))) := But.set (by simp)
        refine hfin _ _ _ _ _ (hh1.setFet ap (fet := st.fet ++ ((told B.ords k).foldl mvStep (st.mem, [])).2) b6 upd_same ?_) (But.new1 sm1 (nb (.inr (.inr (.inr rfl)))) b6)
        rw [List.map_append]
        exact (b6.pds1 hxf1 (noLs_map noL_rd _) hkf1).app (b6.pds1 hxf1 (noLs_map noL_rd _) k5)
      | wait =>
        refine ⟨_, rfl, da, "wait", [], rfl, hsq, .inr ⟨nw rfl, da, "wait", [], rfl, hsq, .inr ⟨nw rfl, da, "wait", [], rfl, hsq, .inr ⟨nw rfl, da, "wait", [], rfl, hsq, .inr ⟨nw rfl, ?_⟩⟩⟩⟩⟩
        exact hfin _ _ _ _ _ hh sm
      | clean l =>
        refine ⟨_, rfl, da, "clean", [nV l], rfl, hsq, .inr ⟨nw rfl, da, "clean", [nV l], rfl, hsq, .inr ⟨nw rfl, da, "clean", [nV l], rfl, hsq, .inr ⟨nw rfl, da, "clean", [nV l], rfl, hsq, .inr ⟨nw rfl, ?_⟩⟩⟩⟩⟩
        exact hfin _ _ _ _ _ hh sm
      | drop l =>
        refine ⟨_, rfl, da, "drop", [nV l], rfl, hsq, .inr ⟨nw rfl, da, "drop", [nV l], rfl, hsq, .inr ⟨nw rfl, da, "drop", [nV l], rfl, hsq, .inr ⟨nw rfl, da, "drop", [nV l], rfl, hsq, .inr ⟨nw rfl, ?_⟩⟩⟩⟩⟩
        exact hfin _ _ _ _ _ hh sm
    · obtain ⟨y8, y9, y10, y11, y12, rfl, hh, pin, sm⟩ := hp'
      have pl : ps.length = B.prog.length := by rw [hps.len, List.length_map]
      rw [pl, List.take_length] at hh
      refine ⟨_, rfl, _, rfl, _, rfl, _, rfl, by show 4 ≤ sizeLine; decide, fun t nt => ?_⟩
      exact q _ t m s r f (s1.trans (sm.trans (same_new nt))) nm0 ns0 nr0 nf0 ap upd_same (hh.same (same_new nt))
end
end Vt
namespace Vt
open PySem PySem.Spec PyProof.Rows L2
section
variable {P : Program} {w : World} {K : PySem.W.Frag} {mg : Str → Option Value} {base : Heap}
abbrev st_plain_end : Stmt := (topS 31)
abbrev nm_plain_end : List Str := ["board", "memory", "said", "reads", "fetches"]
theorem sc_plain_end : FnScope ["board", "memory", "said", "reads", "fetches"] ["board"] (defScope st_plain_end) := ⟨rfl, rfl, rfl, by decide +kernel, rfl, by decide +kernel, by decide +kernel⟩
def rdsD (xs : List (Nat × Nat)) : D := .lst (xs.map rdD)
def endD (st : Pst) : D := .tup [nsD st.said, nsD st.mem]
def sightsD (st : Pst) : D := .tup [rdsD st.reads, rdsD st.fet]
def spPlainEnd : Sp := fun vs H Q _ => ∃ (v : V) (B : Brd), vs = [v] ∧ Pd H v B.d ∧ BrdOk B ∧ ∀ (H' : Hp) (u : V), Same H H' → Pd H' u (endD (plain B)) → Q u H'
theorem ok_plain_end {f : Addr} {fd : FuncData} (F : Fun K "plain_end" "plain_end" st_plain_end f fd) (c_plain_run : Callee P w K mg base "plain_run" 4 1 spRun) (z_tuple : mg "tuple" = none) : FnOk P w K mg base CX0 5 f fd ["board"] spPlainEnd := by
  refine F.ok sc_plain_end (fun vs H Q E h => ?_) (fun cdv A outer s H vs Q E hr h => ?_)
  · obtain ⟨v, B, rfl, _⟩ := h
    rfl
  · obtain ⟨v, B, rfl, hB, ok, q⟩ := h
    refine ⟨_, (pss_cons (ps_asg (pe_cal c_plain_run hr (by first | decide | exact Nat.le_refl _) (pa_cons (pv 0) pa_nil)) (pg_tup rfl (pgs_cons (pg_name (i := 1) sc_plain_end.nd rfl (Or.inl rfl)) (pgs_cons (pg_name (i := 2) sc_plain_end.nd rfl (Or.inl rfl)) (pgs_cons (pg_name (i := 3) sc_plain_end.nd rfl (Or.inl rfl)) (pgs_cons (pg_name (i := 4) sc_plain_end.nd rfl (Or.inl rfl)) pgs_nil))))))
  (pss_one (ps_ret (pe_tup (pa_cons (pe_callTy call_tuple_of (by rfl) z_tuple (by decide +kernel) (pa_cons (pv 2) pa_nil)) (pa_cons (pe_callTy call_tuple_of (by rfl) z_tuple (by decide +kernel) (pa_cons (pv 1) pa_nil)) pa_nil)))))), ?_⟩
    refine ⟨_, rfl, v, B, rfl, hB, ok, fun H1 t m s r f s1 _ _ _ _ ap ht hh => ?_⟩
    refine ⟨t, _, rfl, sqT_t ht, rfl, _, _, rfl, _, _, rfl, _, _, rfl, _, _, rfl, rfl, ?_⟩
    refine ⟨_, rfl, s, _, rfl, .inl ⟨sqL_l hh.said, fun a na => ?_⟩⟩
    have e1 := same_new (o := .tup ((plain B).said.map nV)) na
    refine ⟨_, rfl, m, _, rfl, .inl ⟨sqL_l (e1 _ _ hh.mem), fun b nb => ?_⟩⟩
    have e2 := same_new (o := .tup ((plain B).mem.map nV)) nb
    refine ⟨by show 2 ≤ sizeLine; decide, fun c nc => ?_⟩
    have e3 := same_new (o := .tup [.ref a, .ref b]) nc
    refine q _ (.ref c) (((s1.trans e1).trans e2).trans e3) (.tup upd_same (.cons (.tup (e3 _ _ (e2 _ _ upd_same)) (pds_ns _)) (.cons (.tup (e3 _ _ upd_same) (pds_ns _)) .nil)))
abbrev st_sights : Stmt := (topS 32)
abbrev nm_sights : List Str := ["board", "memory", "said", "reads", "fetches"]
theorem sc_sights : FnScope ["board", "memory", "said", "reads", "fetches"] ["board"] (defScope st_sights) := ⟨rfl, rfl, rfl, by decide +kernel, rfl, by decide +kernel, by decide +kernel⟩
def spSights : Sp := fun vs H Q _ => ∃ (v : V) (B : Brd), vs = [v] ∧ Pd H v B.d ∧ BrdOk B ∧ ∀ (H' : Hp) (t r f : Addr) (xr xf : List V), Same H H' → H r = none → H f = none → r ≠ f → H' t = some (.tup [.ref r, .ref f]) → H' r = some (.lst xr) → H' f = some (.lst xf) → Pds H' xr ((plain B).reads.map rdD) → Pds H' xf ((plain B).fet.map rdD) → Q (.ref t) H'
theorem ok_sights {f : Addr} {fd : FuncData} (F : Fun K "sights" "sights" st_sights f fd) (c_plain_run : Callee P w K mg base "plain_run" 4 1 spRun) : FnOk P w K mg base CX0 5 f fd ["board"] spSights := by
  refine F.ok sc_sights (fun vs H Q E h => ?_) (fun cdv A outer s H vs Q E hr h => ?_)
  · obtain ⟨v, B, rfl, _⟩ := h
    rfl
  · obtain ⟨v, B, rfl, hB, ok, q⟩ := h
    refine ⟨_, (pss_cons (ps_asg (pe_cal c_plain_run hr (by first | decide | exact Nat.le_refl _) (pa_cons (pv 0) pa_nil)) (pg_tup rfl (pgs_cons (pg_name (i := 1) sc_sights.nd rfl (Or.inl rfl)) (pgs_cons (pg_name (i := 2) sc_sights.nd rfl (Or.inl rfl)) (pgs_cons (pg_name (i := 3) sc_sights.nd rfl (Or.inl rfl)) (pgs_cons (pg_name (i := 4) sc_sights.nd rfl (Or.inl rfl)) pgs_nil))))))
  (pss_one (ps_ret (pe_tup (pa_cons (pv 3) (pa_cons (pv 4) pa_nil)))))), ?_⟩
    refine ⟨_, rfl, v, B, rfl, hB, ok, fun H1 t m s r f s1 _ _ nr nf ap ht hh => ?_⟩
    obtain ⟨xr, hxr, hkr⟩ := hh.reads
    obtain ⟨xf, hxf, hkf⟩ := hh.fet
    refine ⟨t, _, rfl, sqT_t ht, rfl, _, _, rfl, _, _, rfl, _, _, rfl, _, _, rfl, rfl, ?_⟩
    refine ⟨_, rfl, _, rfl, by show 2 ≤ sizeLine; decide, fun c nc => ?_⟩
    have e1 := same_new (o := .tup [.ref r, .ref f]) nc
    exact q _ c r f xr xf (s1.trans e1) nr nf ap.rf upd_same (e1 _ _ hxr) (e1 _ _ hxf) (hkr.same e1) (hkf.same e1)
end
end Vt
namespace Vt
open PySem PySem.Spec PyProof.Rows L2
/-! ### d.update(e), both of int and text keys -/
def tDUpd (td te : TE) : TE := fun σ H Q => td σ H fun x H1 => ∃ a, x = .ref a ∧ IsD H1 a ∧ te σ H1 fun y H2 => ∃ b kvs more, y = .ref b ∧ a ≠ b ∧ H2 a = some (.dK kvs) ∧ H2 b = some (.dK more) ∧ kvs.length + more.length ≤ sizeLine ∧ Q .non (upd H2 a (.dK (mergeK kvs more)))
section
variable {X : Cx} {o e : Expr} {apos cpos : Pos} {td ty : TE}
theorem pe_dupd (ho : PE X o td) (he : PE X e ty) (m : M1 X o "update" apos e cpos) : PE X (.Call (.Attribute o "update" apos) [e] [] cpos) (tDUpd td ty) := by
  refine ⟨fun pins s σ H Q I h => ?_⟩
  refine wpAny_Call_method m.base m.few m.line PySem.F.plainAttrs_dict PySem.F.slot_dict_update PySem.F.type_dict_update (thn (ho.run pins s σ H _ I h) fun u s1 ⟨x, H1, I1, rx, a, ex, d, q1⟩ => ?_)
  subst ex
  obtain rfl : u = Value.ref a := rx
  obtain ⟨t1, t2, _⟩ := isD_at I1 d
  refine ⟨t1, t2, ?_⟩
  rw [m.trees]
  refine Calls.callWith_builtin rfl (Calls.evalArgs_plain (Calls.spliced_cons (thn (he.run pins s1 σ H1 _ I1 q1) fun iv s2 ⟨y, H2, I2, ry, b, kvs, more, ey, ne, ea, eb, hz, q2⟩ => Calls.spliced_nil ?_)))
  subst ey
  obtain rfl : iv = Value.ref b := ry
  obtain ⟨z1, hd1, vs1, rel1, dd1⟩ := dk_of I2.hok ea
  obtain ⟨z2, hd2, vs2, rel2, dd2⟩ := dk_of I2.hok eb
  refine call_meetsIn PySem.F.slot_dict_update dd1.typeIs PySem.F.entry_dict_update (PySem.F.args_dict_update_2 _ _) (meets_dict_update (mixKind X.prog X.w) a b ne hd2)
    ⟨vs1, vs2, dd1, dd2, by rw [← rel1.length, ← rel2.length]; exact hz, fun h' dd' dd2' hs => ⟨.non, _, ?_, rfl, q2⟩⟩
  have he : ∃ q, h'.get? a = some q := let ⟨q, _, _, hq, _⟩ := dd'; ⟨q, hq⟩
  exact d_write I2 (by rw [ea]; exact True.intro) hs he (dk_new (Nat.le_trans (length_mergeK more kvs) hz) hd1 (KV.merge rel2 rel1) dd')
end
end Vt
namespace Vt
open PySem PySem.Spec PyProof.Rows L2
/-! ### the machine, plainly: memory, lines held, moves left, the story -/
structure Row where
  beat : Nat
  word : Str
  place : Nat
  num : Nat
def Row.vs (r : Row) : List V := [nV r.beat, .str r.word, nV r.place, nV r.num]
def Row.d (r : Row) : D := .tup [nD r.beat, .str r.word, nD r.place, nD r.num]
theorem Row.pd {H : Hp} {r : Row} {a : Addr} (h : H a = some (.tup r.vs)) : Pd H (.ref a) r.d := .tup h (.cons (.int _) (.cons (.str _) (.cons (.int _) (.cons (.int _) .nil))))
theorem Row.of {H : Hp} {r : Row} {v : V} (h : Pd H v r.d) : ∃ a, v = .ref a ∧ H a = some (.tup r.vs) := by
  cases h with
  | tup h hs =>
    cases hs with
    | cons h1 hs => cases h1; cases hs with
      | cons h2 hs => cases h2; cases hs with
        | cons h3 hs => cases h3; cases hs with
          | cons h4 hs =>
            cases h4; cases hs
            exact ⟨_, rfl, h⟩
theorem noL_row (r : Row) : r.d.noL = true := by simp [Row.d, D.noL, noLs, nD]
structure Mst where
  mem : List Nat
  held : List (Option (List Nat))
  tou : List Bool
  left : List Mv
  at_ : Nat
  beats : Nat
  rows : List Row
  pace : List Bool
namespace Mst
def tell (M : Mst) (w : Str) (p n : Nat) : Mst := { M with rows := M.rows ++ [⟨M.beats, w, p, n⟩] }
def holds (M : Mst) (l : Nat) : Bool := match M.held[l]? with
  | some (some _) => true
  | _ => false
def cellsOf (M : Mst) (l : Nat) : List Nat := match M.held[l]? with
  | some (some cs) => cs
  | _ => []
def touched (M : Mst) (l : Nat) : Bool := M.tou.getD l false
def take (M : Mst) (l : Nat) : Mst := if M.holds l = true then M else tell { M with held := M.held.set l (some ((M.mem.drop (4 * l)).take 4)) } "take" l 0
def readN (M : Mst) (c : Nat) : Nat := ((M.take (c / 4)).cellsOf (c / 4)).getD (c % 4) 0
def read (M : Mst) (c : Nat) : Mst := (M.take (c / 4)).tell "read" c (M.readN c)
def write0 (M : Mst) (c n : Nat) : Mst := { M with held := M.held.set (c / 4) (some ((M.cellsOf (c / 4)).set (c % 4) n)), tou := M.tou.set (c / 4) true }
def write (M : Mst) (c n : Nat) : Mst := ((M.take (c / 4)).write0 c n).tell "write" c n
def clean (M : Mst) (l : Nat) : Mst := if M.touched l = true then tell { M with mem := M.mem.take (4 * l) ++ M.cellsOf l ++ M.mem.drop (4 * l + 4), tou := M.tou.set l false } "clean" l 0 else M
def drop (M : Mst) (l : Nat) : Mst := if M.holds l = true then tell { M with held := M.held.set l none, tou := M.tou.set l false } "drop" l 0 else M
def deed (ords : List Ord) (M : Mst) : Deed → Mst
  | .set c n => M.write c n
  | .add c o => ((M.read c).read o).write c ((M.readN c + (M.read c).readN o) % 10)
  | .say c => (M.read c).tell "say" c (M.readN c)
  | .start k => tell { M with left := M.left ++ told ords k } "start" k 0
  | .wait => M
  | .clean l => M.clean l
  | .drop l => M.drop l
def idle (prog : List Deed) (M : Mst) : Bool := match prog[M.at_]? with
  | none => true
  | some d => decide (d = .wait) && !M.left.isEmpty
/-- the processor's part of a beat -/
def proc (ords : List Ord) (prog : List Deed) (M : Mst) : Mst := if M.idle prog = true then M else match prog[M.at_]? with
  | none => M
  | some d => { M.deed ords d with at_ := M.at_ + 1 }
/-- the carrier's, in which it moves -/
def carry (M : Mst) : Mst := match M.left with
  | [] => M
  | mv :: r =>
    let n := M.mem.getD mv.src 0
    let M1 := (tell { M with left := r, mem := M.mem.set mv.goal n } "fetch" mv.src n).tell "put" mv.goal n
    match mv.bell with
    | none => M1
    | some b => M1.tell "bell" b 0
/-- whether a truth is used up in this beat -/
def uses (prog : List Deed) (M M1 : Mst) : Bool := !M.idle prog && !M1.left.isEmpty && !M.pace.isEmpty
def beat (ords : List Ord) (prog : List Deed) (M : Mst) : Mst :=
  let M1 := M.proc ords prog
  let M2 := if uses prog M M1 = true then (if M.pace.headD true = true then { M1 with pace := M.pace.tail }.carry else { M1 with pace := M.pace.tail }) else M1.carry
  { M2 with beats := M.beats + 1 }
def over (prog : List Deed) (M : Mst) : Bool := decide (M.at_ = prog.length) && M.left.isEmpty
def run (ords : List Ord) (prog : List Deed) : Nat → Mst → Mst
  | 0, M => M
  | f + 1, M => if M.over prog = true then M else run ords prog f (M.beat ords prog)
def finish (M : Mst) : Mst := (((M.clean 0).clean 1).clean 2).clean 3
def begin (B : Brd) (pace : List Bool) : Mst := ⟨B.mem, List.replicate (B.mem.length / 4) none, List.replicate (B.mem.length / 4) false, [], 0, 0, [], pace⟩
/-- how far it is from its end -/
def mu (prog : List Deed) (M : Mst) : Nat := (prog.length - M.at_) * 100 + M.left.length
end Mst
def gone (B : Brd) (pace : List Bool) : Mst := (Mst.run B.ords B.prog 7000 (Mst.begin B pace)).finish
/-- what holds of a machine -/
structure MOk0 (cells : Nat) (M : Mst) : Prop where
  lines : cells = 4 ∨ cells = 8 ∨ cells = 12 ∨ cells = 16
  mem : M.mem.length = cells
  held : M.held.length = cells / 4
  tou : M.tou.length = cells / 4
  four : ∀ (l : Nat) (cs : List Nat), M.held[l]? = some (some cs) → cs.length = 4
  th : ∀ (l : Nat), M.touched l = true → M.holds l = true
  left : ∀ m ∈ M.left, m.src < cells ∧ m.goal < cells
structure MOk (cells : Nat) (prog : List Deed) (M : Mst) : Prop extends MOk0 cells M where
  at_ : M.at_ ≤ prog.length
  room : M.rows.length + 12 * M.mu prog ≤ 90000
  sixty : prog.length ≤ 60
  n32 : M.left.length ≤ 32 * M.at_
end Vt
namespace Vt
open PySem PySem.Spec PyProof.Rows L2
namespace Mst
theorem holds_iff {M : Mst} {l : Nat} : M.holds l = true ↔ ∃ cs, M.held[l]? = some (some cs) := by
  unfold holds
  split
  · rename_i cs e; exact ⟨fun _ => ⟨cs, e⟩, fun _ => rfl⟩
  · rename_i h; exact ⟨fun z => (nomatch z), fun ⟨cs, e⟩ => absurd e (h cs)⟩
theorem cellsOf_of {M : Mst} {l : Nat} {cs : List Nat} (e : M.held[l]? = some (some cs)) : M.cellsOf l = cs := by
  unfold cellsOf; rw [e]
theorem holds_lt {M : Mst} {l : Nat} (h : M.holds l = true) : l < M.held.length := by
  obtain ⟨cs, e⟩ := holds_iff.mp h
  exact (List.getElem?_eq_some_iff.mp e).1
end Mst
section
variable {cells : Nat} {M : Mst} {prog : List Deed} {ords : List Ord}
open Mst
theorem MOk0.line {c : Nat} (h : MOk0 cells M) (hc : c < cells) : c / 4 < cells / 4 := by
  have := h.lines
  omega
theorem MOk0.tell {w : Str} {p n : Nat} (h : MOk0 cells M) : MOk0 cells (M.tell w p n) := ⟨h.lines, h.mem, h.held, h.tou, h.four, h.th, h.left⟩
theorem MOk0.take {l : Nat} (h : MOk0 cells M) (hl : l < cells / 4) : MOk0 cells (M.take l) := by
  unfold Mst.take
  split
  · exact h
  · rename_i hn
    refine MOk0.tell ⟨h.lines, h.mem, by rw [List.length_set]; exact h.held, h.tou, fun k cs e => ?_, fun k e => ?_, h.left⟩
    · by_cases hk : l = k
      · subst hk
        rw [List.getElem?_set_self (by rw [h.held]; exact hl)] at e
        cases e
        rw [List.length_take, List.length_drop, h.mem]
        have := h.lines
        omega
      · rw [List.getElem?_set_ne hk] at e
        exact h.four k cs e
    · obtain ⟨cs, e'⟩ := holds_iff.mp (h.th k e)
      refine holds_iff.mpr ?_
      by_cases hk : l = k
      · subst hk
        exact ⟨_, List.getElem?_set_self (by rw [h.held]; exact hl)⟩
      · exact ⟨cs, by rw [List.getElem?_set_ne hk]; exact e'⟩
theorem take_holds {l : Nat} (h : MOk0 cells M) (hl : l < cells / 4) : (M.take l).holds l = true := by
  unfold Mst.take
  split
  · assumption
  · exact holds_iff.mpr ⟨_, List.getElem?_set_self (by rw [h.held]; exact hl)⟩
theorem MOk0.read {c : Nat} (h : MOk0 cells M) (hc : c < cells) : MOk0 cells (M.read c) := (h.take (h.line hc)).tell
theorem MOk0.write0 {c n : Nat} (h : MOk0 cells M) (hc : c < cells) (hh : M.holds (c / 4) = true) : MOk0 cells (M.write0 c n) := by
  have hl := h.line hc
  obtain ⟨cs0, e0⟩ := holds_iff.mp hh
  refine ⟨h.lines, h.mem, by simp only [Mst.write0, List.length_set]; exact h.held, by simp only [Mst.write0, List.length_set]; exact h.tou, fun k cs e => ?_, fun k e => ?_, h.left⟩
  · simp only [Mst.write0] at e
    by_cases hk : c / 4 = k
    · subst hk
      rw [List.getElem?_set_self (by rw [h.held]; exact hl)] at e
      cases e
      rw [List.length_set, cellsOf_of e0]
      exact h.four _ _ e0
    · rw [List.getElem?_set_ne hk] at e
      exact h.four k cs e
  · refine holds_iff.mpr ?_
    simp only [Mst.write0]
    by_cases hk : c / 4 = k
    · subst hk
      exact ⟨_, List.getElem?_set_self (by rw [h.held]; exact hl)⟩
    · simp only [Mst.touched, Mst.write0, List.getD_eq_getElem?_getD, List.getElem?_set_ne hk] at e
      obtain ⟨cs, e'⟩ := holds_iff.mp (h.th k (by simp only [Mst.touched, List.getD_eq_getElem?_getD]; exact e))
      exact ⟨cs, by rw [List.getElem?_set_ne hk]; exact e'⟩
theorem MOk0.write {c n : Nat} (h : MOk0 cells M) (hc : c < cells) : MOk0 cells (M.write c n) :=
  ((h.take (h.line hc)).write0 hc (take_holds h (h.line hc))).tell
theorem touched_set {l k : Nat} {M : Mst} {b : Bool} : (List.getD (M.tou.set l b) k false = true) → (k = l ∧ b = true) ∨ (k ≠ l ∧ M.touched k = true) := fun e => by
  rw [List.getD_eq_getElem?_getD] at e
  by_cases hk : l = k
  · subst hk
    rcases Nat.lt_or_ge l M.tou.length with h | h
    · rw [List.getElem?_set_self h] at e
      exact .inl ⟨rfl, by simpa using e⟩
    · rw [List.getElem?_eq_none (by rw [List.length_set]; exact h)] at e
      simp at e
  · rw [List.getElem?_set_ne hk] at e
    exact .inr ⟨fun z => hk z.symm, by rw [Mst.touched, List.getD_eq_getElem?_getD]; exact e⟩
theorem MOk0.clean {l : Nat} (h : MOk0 cells M) : MOk0 cells (M.clean l) := by
  unfold Mst.clean
  split
  · rename_i ht
    have hh := h.th l ht
    obtain ⟨cs, e⟩ := holds_iff.mp hh
    have hl := holds_lt hh
    have hlen : (M.mem.take (4 * l) ++ M.cellsOf l ++ M.mem.drop (4 * l + 4)).length = cells := by
      rw [List.length_append, List.length_append, List.length_take, List.length_drop, cellsOf_of e, h.four l cs e, h.mem]
      have := h.lines
      have := h.held
      omega
    refine MOk0.tell ⟨h.lines, hlen, h.held, by rw [List.length_set]; exact h.tou, h.four, fun k e' => ?_, h.left⟩
    rcases touched_set e' with ⟨_, z⟩ | ⟨_, z⟩
    · cases z
    · exact h.th k z
  · exact h
theorem MOk0.drop {l : Nat} (h : MOk0 cells M) : MOk0 cells (M.drop l) := by
  unfold Mst.drop
  split
  · rename_i hh
    have hl := holds_lt hh
    refine MOk0.tell ⟨h.lines, h.mem, by rw [List.length_set]; exact h.held, by rw [List.length_set]; exact h.tou, fun k cs e => ?_, fun k e' => ?_, h.left⟩
    · by_cases hk : l = k
      · subst hk
        rw [List.getElem?_set_self hl] at e
        cases e
      · rw [List.getElem?_set_ne hk] at e
        exact h.four k cs e
    · rcases touched_set e' with ⟨_, z⟩ | ⟨hk, z⟩
      · cases z
      · obtain ⟨cs, e⟩ := holds_iff.mp (h.th k z)
        exact holds_iff.mpr ⟨cs, by rw [List.getElem?_set_ne (fun z => hk z.symm)]; exact e⟩
  · exact h
theorem MOk0.deed {d : Deed} (h : MOk0 cells M) (hok : ∀ (i : Nat) (o : Ord), ords[i]? = some o → OrdOk o i ords.length cells) (hd : DeedOk d ords.length cells) : MOk0 cells (M.deed ords d) := by
  cases d with
  | set c n => exact h.write hd.1
  | add c o => exact ((h.read hd.1).read hd.2).write hd.1
  | say c => exact (h.read hd).tell
  | start k =>
    refine MOk0.tell ⟨h.lines, h.mem, h.held, h.tou, h.four, h.th, fun m hm => ?_⟩
    rcases List.mem_append.mp hm with q | q
    · exact h.left m q
    · have hb : ∀ f k, ∀ m ∈ chain ords f k, m.src < cells ∧ m.goal < cells := by
        intro f
        induction f with
        | zero => intro k m hm; cases k <;> simp [chain] at hm
        | succ f ih =>
          intro k m hm
          cases k with
          | none => simp [chain] at hm
          | some k =>
            rw [chain] at hm
            split at hm
            · simp at hm
            · rename_i o e
              rcases List.mem_append.mp hm with q | q
              · obtain ⟨s, hs, rfl⟩ := List.mem_map.mp q
                have := List.mem_range.mp hs
                have := (hok k o e).src
                have := (hok k o e).goal
                simp only [mvAt]; omega
              · exact ih o.later m q
      exact hb 4 (some k) m q
  | wait => exact h
  | clean l => exact h.clean
  | drop l => exact h.drop
theorem MOk0.carry (h : MOk0 cells M) : MOk0 cells M.carry := by
  unfold Mst.carry
  split
  · exact h
  · rename_i mv r e
    have hl : ∀ m ∈ r, m.src < cells ∧ m.goal < cells := fun m hm => h.left m (by rw [e]; exact List.mem_cons_of_mem _ hm)
    have base : MOk0 cells { M with left := r, mem := M.mem.set mv.goal (M.mem.getD mv.src 0) } := ⟨h.lines, by rw [List.length_set]; exact h.mem, h.held, h.tou, h.four, h.th, hl⟩
    dsimp only
    split
    · exact base.tell.tell
    · exact base.tell.tell.tell
/-! ### how much is told, and how far the end is -/
theorem take_rows {l : Nat} : (M.take l).rows.length ≤ M.rows.length + 1 ∧ (M.take l).left = M.left ∧ (M.take l).at_ = M.at_ ∧ (M.take l).beats = M.beats ∧ (M.take l).pace = M.pace := by
  unfold Mst.take
  split
  · exact ⟨by omega, rfl, rfl, rfl, rfl⟩
  · exact ⟨by simp [Mst.tell], rfl, rfl, rfl, rfl⟩
theorem read_rows {c : Nat} : (M.read c).rows.length ≤ M.rows.length + 2 ∧ (M.read c).left = M.left ∧ (M.read c).at_ = M.at_ ∧ (M.read c).beats = M.beats ∧ (M.read c).pace = M.pace := by
  obtain ⟨h1, h2, h3, h4, h5⟩ := take_rows (M := M) (l := c / 4)
  refine ⟨?_, h2, h3, h4, h5⟩
  simp only [Mst.read, Mst.tell, List.length_append, List.length_cons, List.length_nil]; omega
theorem write_rows {c n : Nat} : (M.write c n).rows.length ≤ M.rows.length + 2 ∧ (M.write c n).left = M.left ∧ (M.write c n).at_ = M.at_ ∧ (M.write c n).beats = M.beats ∧ (M.write c n).pace = M.pace := by
  obtain ⟨h1, h2, h3, h4, h5⟩ := take_rows (M := M) (l := c / 4)
  refine ⟨?_, h2, h3, h4, h5⟩
  simp only [Mst.write, Mst.tell, Mst.write0, List.length_append, List.length_cons, List.length_nil]; omega
theorem clean_rows {l : Nat} : (M.clean l).rows.length ≤ M.rows.length + 1 ∧ (M.clean l).left = M.left ∧ (M.clean l).at_ = M.at_ ∧ (M.clean l).beats = M.beats ∧ (M.clean l).pace = M.pace := by
  unfold Mst.clean
  split
  · exact ⟨by simp [Mst.tell], rfl, rfl, rfl, rfl⟩
  · exact ⟨by omega, rfl, rfl, rfl, rfl⟩
theorem drop_rows {l : Nat} : (M.drop l).rows.length ≤ M.rows.length + 1 ∧ (M.drop l).left = M.left ∧ (M.drop l).at_ = M.at_ ∧ (M.drop l).beats = M.beats ∧ (M.drop l).pace = M.pace := by
  unfold Mst.drop
  split
  · exact ⟨by simp [Mst.tell], rfl, rfl, rfl, rfl⟩
  · exact ⟨by omega, rfl, rfl, rfl, rfl⟩
theorem deed_rows {d : Deed} (hm : ∀ o ∈ ords, o.many ≤ 8) : (M.deed ords d).rows.length ≤ M.rows.length + 6 ∧ (M.deed ords d).left.length ≤ M.left.length + 32 ∧ (M.deed ords d).at_ = M.at_ ∧ (M.deed ords d).beats = M.beats ∧ (M.deed ords d).pace = M.pace ∧ (d = .wait → M.deed ords d = M) := by
  cases d with
  | set c n =>
    obtain ⟨h1, h2, h3, h4, h5⟩ := write_rows (M := M) (c := c) (n := n)
    exact ⟨by simp only [Mst.deed]; omega, by simp only [Mst.deed]; rw [h2]; omega, h3, h4, h5, fun z => nomatch z⟩
  | add c o =>
    obtain ⟨h1, h2, h3, h4, h5⟩ := read_rows (M := M) (c := c)
    obtain ⟨g1, g2, g3, g4, g5⟩ := read_rows (M := M.read c) (c := o)
    obtain ⟨k1, k2, k3, k4, k5⟩ := write_rows (M := (M.read c).read o) (c := c) (n := (M.readN c + (M.read c).readN o) % 10)
    exact ⟨by simp only [Mst.deed]; omega, by simp only [Mst.deed]; rw [k2, g2, h2]; omega, by simp only [Mst.deed]; rw [k3, g3, h3], by simp only [Mst.deed]; rw [k4, g4, h4], by simp only [Mst.deed]; rw [k5, g5, h5], fun z => nomatch z⟩
  | say c =>
    obtain ⟨h1, h2, h3, h4, h5⟩ := read_rows (M := M) (c := c)
    exact ⟨by simp only [Mst.deed, Mst.tell, List.length_append, List.length_cons, List.length_nil]; omega, by simp only [Mst.deed, Mst.tell]; rw [h2]; omega, h3, h4, h5, fun z => nomatch z⟩
  | start k =>
    have := told_len hm k
    exact ⟨by simp [Mst.deed, Mst.tell], by simp only [Mst.deed, Mst.tell, List.length_append]; omega, rfl, rfl, rfl, fun z => nomatch z⟩
  | wait => exact ⟨by simp only [Mst.deed]; omega, by simp only [Mst.deed]; omega, rfl, rfl, rfl, fun _ => rfl⟩
  | clean l =>
    obtain ⟨h1, h2, h3, h4, h5⟩ := clean_rows (M := M) (l := l)
    exact ⟨by simp only [Mst.deed]; omega, by simp only [Mst.deed]; rw [h2]; omega, h3, h4, h5, fun z => nomatch z⟩
  | drop l =>
    obtain ⟨h1, h2, h3, h4, h5⟩ := drop_rows (M := M) (l := l)
    exact ⟨by simp only [Mst.deed]; omega, by simp only [Mst.deed]; rw [h2]; omega, h3, h4, h5, fun z => nomatch z⟩
theorem carry_rows : M.carry.rows.length ≤ M.rows.length + 3 ∧ M.carry.left = M.left.tail ∧ M.carry.at_ = M.at_ ∧ M.carry.beats = M.beats ∧ M.carry.pace = M.pace := by
  unfold Mst.carry
  split
  · rename_i e; exact ⟨by omega, by rw [e]; rfl, rfl, rfl, rfl⟩
  · rename_i mv r e
    dsimp only
    split
    · exact ⟨by simp [Mst.tell], by rw [e]; rfl, rfl, rfl, rfl⟩
    · exact ⟨by simp [Mst.tell], by rw [e]; rfl, rfl, rfl, rfl⟩
/-- what is not over goes on -/
theorem beat_ok (h : MOk cells prog M) (hno : M.over prog = false) (hok : ∀ (i : Nat) (o : Ord), ords[i]? = some o → OrdOk o i ords.length cells) (hm : ∀ o ∈ ords, o.many ≤ 8) (hp : ∀ d ∈ prog, DeedOk d ords.length cells) :
    MOk cells prog (M.beat ords prog) ∧ (M.beat ords prog).mu prog < M.mu prog := by
  -- the processor
  have key : ∀ M1, M1 = M.proc ords prog → MOk0 cells M1 ∧ M1.pace = M.pace ∧ M1.beats = M.beats ∧ M1.rows.length ≤ M.rows.length + 6 ∧
      ((M.idle prog = true ∧ M1 = M ∧ M.left ≠ []) ∨ (M.idle prog = false ∧ M1.at_ = M.at_ + 1 ∧ M.at_ < prog.length ∧ M1.left.length ≤ M.left.length + 32)) := by
    intro M1 e
    unfold Mst.proc at e
    split at e
    · rename_i hi
      refine ⟨by rw [e]; exact h.toMOk0, by rw [e], by rw [e], by rw [e]; omega, .inl ⟨hi, e, fun z => ?_⟩⟩
      unfold Mst.idle at hi
      unfold Mst.over at hno
      split at hi
      · rename_i e
        have := List.getElem?_eq_none_iff.mp e
        have := h.at_
        rw [z, decide_eq_true (show M.at_ = prog.length by omega)] at hno
        simp at hno
      · rw [z] at hi; simp at hi
    · rename_i hi
      have hi' : M.idle prog = false := by simpa using hi
      split at e
      · rename_i e0
        unfold Mst.idle at hi'
        rw [e0] at hi'; cases hi'
      · rename_i d e0
        subst e
        have hd := hp d (List.mem_of_getElem? e0)
        have h0 := h.toMOk0.deed hok hd
        obtain ⟨h1, h2, h3, h4, h5, _⟩ := deed_rows (M := M) (d := d) hm
        exact ⟨⟨h0.lines, h0.mem, h0.held, h0.tou, h0.four, h0.th, h0.left⟩, h5, h4, h1, .inr ⟨hi', rfl, (List.getElem?_eq_some_iff.mp e0).1, h2⟩⟩
  obtain ⟨k1, k2, k3, k4, k5⟩ := key _ rfl
  unfold Mst.beat
  generalize M.proc ords prog = M1 at *
  dsimp only
  -- the carrier
  have fin : ∀ M2 : Mst, MOk0 cells M2 → M2.rows.length ≤ M1.rows.length + 3 → M2.at_ = M1.at_ → (M2.left = M1.left.tail ∨ (M2.left = M1.left ∧ M.idle prog = false)) →
      MOk cells prog { M2 with beats := M.beats + 1 } ∧ Mst.mu prog { M2 with beats := M.beats + 1 } < M.mu prog := fun M2 g0 g1 g2 g3 => by
    have hroom := h.room
    have hat := h.at_
    have hn32 := h.n32
    have hmu : Mst.mu prog { M2 with beats := M.beats + 1 } < M.mu prog := by
      simp only [Mst.mu] at hroom ⊢
      rw [g2]
      rcases k5 with ⟨hi, rfl, hl⟩ | ⟨hi, ha, hlt, hl⟩
      · rcases g3 with g3 | ⟨_, g3⟩
        · rw [g3, List.length_tail]
          have : 0 < M1.left.length := List.length_pos_iff.mpr hl
          omega
        · rw [hi] at g3; cases g3
      · have : M2.left.length ≤ M1.left.length := by
          rcases g3 with g3 | ⟨g3, _⟩
          · rw [g3, List.length_tail]; omega
          · rw [g3]; omega
        rw [ha]; omega
    refine ⟨⟨⟨g0.lines, g0.mem, g0.held, g0.tou, g0.four, g0.th, g0.left⟩, ?_, ?_, h.sixty, ?_⟩, hmu⟩
    · show M2.at_ ≤ prog.length
      rw [g2]
      rcases k5 with ⟨_, rfl, _⟩ | ⟨_, ha, hlt, _⟩
      · exact hat
      · rw [ha]; omega
    · show M2.rows.length + 12 * Mst.mu prog { M2 with beats := M.beats + 1 } ≤ 90000
      omega
    · show M2.left.length ≤ 32 * M2.at_
      have : M2.left.length ≤ M1.left.length := by
        rcases g3 with g3 | ⟨g3, _⟩
        · rw [g3, List.length_tail]; omega
        · rw [g3]; omega
      rw [g2]
      rcases k5 with ⟨_, rfl, _⟩ | ⟨_, ha, hlt, hl⟩
      · omega
      · rw [ha]; omega
  split
  · rename_i hu
    have hi : M.idle prog = false := by
      simp only [Mst.uses, Bool.and_eq_true, Bool.not_eq_true'] at hu
      exact hu.1.1
    have kp : MOk0 cells { M1 with pace := M.pace.tail } := ⟨k1.lines, k1.mem, k1.held, k1.tou, k1.four, k1.th, k1.left⟩
    split
    · obtain ⟨c1, c2, c3, c4, c5⟩ := carry_rows (M := { M1 with pace := M.pace.tail })
      exact fin _ kp.carry c1 c3 (.inl c2)
    · exact fin _ kp (by show M1.rows.length ≤ _; omega) rfl (.inr ⟨rfl, hi⟩)
  · obtain ⟨c1, c2, c3, c4, c5⟩ := carry_rows (M := M1)
    exact fin _ k1.carry c1 c3 (.inl c2)
theorem begin_ok {B : Brd} (ok : BrdOk B) (pace : List Bool) : MOk B.mem.length B.prog (Mst.begin B pace) := by
  refine ⟨⟨ok.cells, rfl, by simp [Mst.begin], by simp [Mst.begin], fun l cs e => ?_, fun l e => ?_, by simp [Mst.begin]⟩, Nat.zero_le _, ?_, ok.sixty, Nat.zero_le _⟩
  · simp only [Mst.begin, List.getElem?_replicate] at e
    split at e <;> simp at e
  · simp only [Mst.begin, Mst.touched, List.getD_eq_getElem?_getD, List.getElem?_replicate] at e
    split at e <;> simp at e
  · have := ok.sixty
    simp only [Mst.begin, Mst.mu, List.length_nil]; omega
theorem begin_mu {B : Brd} (ok : BrdOk B) (pace : List Bool) : (Mst.begin B pace).mu B.prog ≤ 7000 := by
  have := ok.sixty
  simp only [Mst.begin, Mst.mu, List.length_nil]; omega
/-- a run that has come to its end -/
theorem run_over {f : Nat} (h : M.over prog = true) : Mst.run ords prog f M = M := by
  cases f with
  | zero => rfl
  | succ f => rw [Mst.run, if_pos h]
/-- a run that goes on -/
theorem run_on {f : Nat} (ha : M.at_ ≤ prog.length) (h : M.over prog = false) (hf : M.mu prog ≤ f) : ∃ f', f = f' + 1 ∧ Mst.run ords prog f M = Mst.run ords prog f' (M.beat ords prog) := by
  cases f with
  | zero =>
    exfalso
    unfold Mst.over at h
    simp only [Mst.mu] at hf
    have h1 : M.left = [] := List.length_eq_zero_iff.mp (by omega)
    rw [h1, decide_eq_true (show M.at_ = prog.length by omega)] at h
    cases h
  | succ f => exact ⟨f, rfl, by rw [Mst.run, if_neg (by rw [h]; simp)]⟩
end
end Vt
namespace Vt
open PySem PySem.Spec PyProof.Rows L2
def cleans (M : Mst) : Nat → Mst
  | 0 => M
  | n + 1 => (cleans M n).clean n
theorem cleans_ok {cells : Nat} {M : Mst} (h : MOk0 cells M) : ∀ n, MOk0 cells (cleans M n) ∧ (cleans M n).rows.length ≤ M.rows.length + n
  | 0 => ⟨h, Nat.le_refl _⟩
  | n + 1 => by
    obtain ⟨h1, h2⟩ := cleans_ok h n
    have := (clean_rows (M := cleans M n) (l := n)).1
    exact ⟨h1.clean, by show ((cleans M n).clean n).rows.length ≤ _; omega⟩
theorem cut_nat {α : Type} (xs : List V) (a b : Nat) (ha : a ≤ b) (hb : b ≤ xs.length) : cutV xs (some (a : Int)) (some (b : Int)) = (xs.drop a).take (b - a) := by
  unfold cutV
  rw [HT.sIx_nat, HT.sIx_nat, Nat.min_eq_left hb, Nat.min_eq_left (show a ≤ xs.length by omega)]
/-! ### the next deed's number changes nothing else -/
def atN (M : Mst) (a : Nat) : Mst := { M with at_ := a }
theorem take_at {M : Mst} {a l : Nat} : (atN M a).take l = atN (M.take l) a := by
  unfold Mst.take
  show (if M.holds l = true then _ else _) = _
  split <;> rfl
theorem readN_at {M : Mst} {a c : Nat} : (atN M a).readN c = M.readN c := by
  unfold Mst.readN; rw [take_at]; rfl
theorem read_at {M : Mst} {a c : Nat} : (atN M a).read c = atN (M.read c) a := by
  unfold Mst.read; rw [take_at, readN_at]; rfl
theorem write_at {M : Mst} {a c n : Nat} : (atN M a).write c n = atN (M.write c n) a := by
  unfold Mst.write; rw [take_at]; rfl
theorem clean_at {M : Mst} {a l : Nat} : (atN M a).clean l = atN (M.clean l) a := by
  unfold Mst.clean
  show (if M.touched l = true then _ else _) = _
  split <;> rfl
theorem drop_at {M : Mst} {a l : Nat} : (atN M a).drop l = atN (M.drop l) a := by
  unfold Mst.drop
  show (if M.holds l = true then _ else _) = _
  split <;> rfl
theorem proc_some {M : Mst} {ords : List Ord} {prog : List Deed} {d : Deed} (h : M.idle prog = false) (e : prog[M.at_]? = some d) : M.proc ords prog = atN (M.deed ords d) (M.at_ + 1) := by
  unfold Mst.proc
  rw [if_neg (by rw [h]; simp), e]; rfl
theorem proc_idle {M : Mst} {ords : List Ord} {prog : List Deed} (h : M.idle prog = true) : M.proc ords prog = M := by
  unfold Mst.proc
  rw [if_pos h]
end Vt
namespace Vt
open PySem PySem.Spec PyProof.Rows L2
section
variable {H H' : Hp}
mutual
theorem Pd.tups (s : ∀ a xs, H a = some (.tup xs) → H' a = some (.tup xs)) : ∀ {d : D} {v : V}, d.noL = true → Pd H v d → Pd H' v d
  | .non, _, _, .non => .non
  | .bl _, _, _, .bl b => .bl b
  | .int _, _, _, .int b => .int b
  | .str _, _, _, .str b => .str b
  | .tup ds, _, n, .tup h hs => .tup (s _ _ h) (Pds.tups s (by rw [D.noL] at n; exact n) hs)
  | .lst ds, _, n, .lst h hs => by rw [D.noL] at n; cases n
theorem Pds.tups (s : ∀ a xs, H a = some (.tup xs) → H' a = some (.tup xs)) : ∀ {ds : List D} {vs : List V}, noLs ds = true → Pds H vs ds → Pds H' vs ds
  | [], _, _, .nil => .nil
  | d :: ds, _, n, .cons h hs => by
    rw [noLs, Bool.and_eq_true] at n
    exact .cons (Pd.tups s n.1 h) (Pds.tups s n.2 hs)
end
end
theorem big {n : Nat} (h : n ≤ 1000000) : n < sizeLine := Nat.lt_of_le_of_lt h (by decide)
theorem big' {n : Nat} (h : n ≤ 1000000) : n ≤ sizeLine := Nat.le_of_lt (big h)
/-! ### the asker's machine in the heap -/
/-- where its parts stand -/
structure Ad where
  mem : Addr
  held : Addr
  tou : Addr
  left : Addr
  rows : Addr
  hk : List (Key × V)
  tk : List (Key × V)
  ha : Nat → Addr
  xs : List V
  ls : List V
def kM (A : Ad) (idle : Bool) (at_ beats : Nat) : List (Key × V) :=
  [(.inr "memory", .ref A.mem), (.inr "held", .ref A.held), (.inr "touched", .ref A.tou), (.inr "left", .ref A.left), (.inr "rows", .ref A.rows), (.inr "idle", .bl idle), (.inr "at", nV at_), (.inr "beats", nV beats), (.inr "reads", .int 0), (.inr "fetches", .int 0)]
def lk (l : Nat) : Key := .inl (l : Int)
theorem lk_inj {a b : Nat} (h : lk a = lk b) : a = b := by
  have : (a : Int) = b := Sum.inl.inj h
  omega
/-- a dict by lines -/
structure ByLine (kvs : List (Key × V)) (f : Nat → Option V) : Prop where
  val : ∀ l, valV kvs (lk l) = f l
  nd : (kvs.map (·.1)).Nodup
  low : ∀ k ∈ kvs.map (·.1), ∃ l : Nat, l < 4 ∧ k = lk l
theorem len_sub {α : Type} [DecidableEq α] : ∀ (l t : List α), l.Nodup → (∀ x ∈ l, x ∈ t) → l.length ≤ t.length
  | [], t, _, _ => Nat.zero_le _
  | x :: r, t, nd, h => by
    have hx : x ∈ t := h x (by simp)
    obtain ⟨n1, n2⟩ := List.nodup_cons.mp nd
    have := len_sub r (t.erase x) n2 fun y hy => (List.mem_erase_of_ne (fun e => n1 (by rw [← e]; exact hy))).mpr (h y (by simp [hy]))
    rw [List.length_erase_of_mem hx] at this
    have : 0 < t.length := List.length_pos_of_mem hx
    simp only [List.length_cons]; omega
theorem ByLine.len {kvs : List (Key × V)} {f : Nat → Option V} (h : ByLine kvs f) : kvs.length ≤ 4 := by
  have := len_sub (kvs.map (·.1)) [lk 0, lk 1, lk 2, lk 3] h.nd fun k hk => by
    obtain ⟨l, hl, rfl⟩ := h.low k hk
    rcases (show l = 0 ∨ l = 1 ∨ l = 2 ∨ l = 3 by omega) with rfl | rfl | rfl | rfl <;> simp
  simpa using this
theorem putK_keys {kvs : List (Key × V)} {k : Key} {v : V} : ∀ j ∈ (putK kvs k v).map (·.1), j ∈ kvs.map (·.1) ∨ j = k := by
  intro j hj
  unfold putK at hj
  split at hj
  · rw [List.map_map] at hj
    left
    have : ((fun p : Key × V => p.1) ∘ fun kv : Key × V => if kv.1 = k then (kv.1, v) else kv) = fun p => p.1 := by
      funext p; simp only [Function.comp]; split <;> rfl
    rw [this] at hj; exact hj
  · rw [List.map_append] at hj
    rcases List.mem_append.mp hj with h | h
    · exact .inl h
    · exact .inr (by simpa using h)
theorem ByLine.put {kvs : List (Key × V)} {f : Nat → Option V} {l : Nat} {v : V} (h : ByLine kvs f) (hl : l < 4) : ByLine (putK kvs (lk l) v) (fun k => if k = l then some v else f k) := by
  refine ⟨fun k => ?_, ?_, fun k hk => ?_⟩
  · rw [valV_put]
    by_cases e : k = l
    · rw [if_pos (by rw [e]), if_pos e]
    · rw [if_neg (fun z => e (lk_inj z)), if_neg e]; exact h.val k
  · cases hv : valV kvs (lk l) with
    | none => exact nd_putK v h.nd hv
    | some w =>
      unfold putK
      rw [if_pos (by rw [valV_any, hv]; rfl)]
      rw [List.map_map]
      have : ((fun p : Key × V => p.1) ∘ fun kv : Key × V => if kv.1 = lk l then (kv.1, v) else kv) = fun p => p.1 := by
        funext p; simp only [Function.comp]; split <;> rfl
      rw [this]; exact h.nd
  · rcases putK_keys k hk with q | q
    · exact h.low k q
    · exact ⟨l, hl, q⟩
theorem valV_drop {kvs : List (Key × V)} {k j : Key} (hn : (kvs.map (·.1)).Nodup) : valV (dropK kvs k) j = if j = k then none else valV kvs j := by
  induction kvs with
  | nil => simp [dropK, valV]
  | cons p r ih =>
    obtain ⟨n1, n2⟩ := List.nodup_cons.mp (show (p.1 :: r.map (·.1)).Nodup from hn)
    by_cases e : p.1 = k
    · rw [dropK_pos e, ih n2]
      by_cases ej : j = k
      · rw [if_pos ej, if_pos ej]
      · rw [if_neg ej, if_neg ej, valV_neg (fun z => ej (z.symm.trans e))]
    · rw [dropK_neg e]
      by_cases e2 : p.1 = j
      · rw [valV_pos e2, valV_pos e2, if_neg (fun z => e (e2.trans z))]
      · rw [valV_neg e2, valV_neg e2, ih n2]
theorem ByLine.dropL {kvs : List (Key × V)} {f : Nat → Option V} {l : Nat} (h : ByLine kvs f) : ByLine (dropK kvs (lk l)) (fun k => if k = l then none else f k) := by
  refine ⟨fun k => ?_, nd_dropK h.nd, fun k hk => ?_⟩
  · rw [valV_drop h.nd]
    by_cases e : k = l
    · rw [if_pos (by rw [e]), if_pos e]
    · rw [if_neg (fun z => e (lk_inj z)), if_neg e]; exact h.val k
  · obtain ⟨p, hp, rfl⟩ := List.mem_map.mp hk
    exact h.low _ (List.mem_map.mpr ⟨p, dropK_mem hp, rfl⟩)
theorem ByLine.congr {kvs : List (Key × V)} {f g : Nat → Option V} (h : ByLine kvs f) (e : ∀ l, f l = g l) : ByLine kvs g := ⟨fun l => (h.val l).trans (e l), h.nd, h.low⟩
structure LM (ow : Addr → Prop) (H : Hp) (m : Addr) (idle : Bool) (M : Mst) (A : Ad) : Prop where
  obj : H m = some (.dK (kM A idle M.at_ M.beats))
  mem : H A.mem = some (.lst (M.mem.map nV))
  held : H A.held = some (.dK A.hk)
  tou : H A.tou = some (.dK A.tk)
  left : H A.left = some (.lst A.ls)
  leftD : Pds H A.ls (M.left.map Mv.d)
  rows : H A.rows = some (.lst A.xs)
  rowsD : Pds H A.xs (M.rows.map Row.d)
  line : ∀ l, M.holds l = true → H (A.ha l) = some (.lst ((M.cellsOf l).map nV))
  hk : ByLine A.hk fun l => if M.holds l = true then some (.ref (A.ha l)) else none
  tk : ByLine A.tk fun l => if M.touched l = true then some (.bl true) else none
  inj : ∀ l k, M.holds l = true → M.holds k = true → A.ha l = A.ha k → l = k
  om : ow m
  oh : ow A.held
  ot : ow A.tou
  or : ow A.rows
  ol : ∀ l, M.holds l = true → ow (A.ha l)
  nmem : ¬ ow A.mem
  nleft : ¬ ow A.left
  mh : m ≠ A.held
  mt : m ≠ A.tou
  ht : A.held ≠ A.tou
  rl : ∀ l, M.holds l = true → A.rows ≠ A.ha l
  kind : ∀ c, ow c → (∃ xs, H c = some (.lst xs)) ∨ ∃ kvs, H c = some (.dK kvs)
/-- what is not the machine's own stands, and is not its own then -/
def Keep (ow ow' : Addr → Prop) (H H' : Hp) : Prop := ∀ c o, ¬ ow c → H c = some o → H' c = some o ∧ ¬ ow' c
theorem Keep.refl {ow : Addr → Prop} {H : Hp} : Keep ow ow H H := fun c o n h => ⟨h, n⟩
theorem Keep.trans {o1 o2 o3 : Addr → Prop} {H1 H2 H3 : Hp} (a : Keep o1 o2 H1 H2) (b : Keep o2 o3 H2 H3) : Keep o1 o3 H1 H3 := fun c o n h => by
  obtain ⟨h1, n1⟩ := a c o n h
  exact b c o n1 h1
theorem Same.keep {ow : Addr → Prop} {H H' : Hp} (s : Same H H') : Keep ow ow H H' := fun c o n h => ⟨s c o h, n⟩
theorem Keep.setOwn {ow : Addr → Prop} {H : Hp} {q : Addr} {o : HO} (hq : ow q) : Keep ow ow H (upd H q o) := fun c u n h => ⟨by rw [upd_ne (fun e => n (by rw [e]; exact hq))]; exact h, n⟩
section
variable {ow : Addr → Prop} {H H' : Hp} {m : Addr} {idle : Bool} {M : Mst} {A : Ad}
theorem LM.notTup (h : LM ow H m idle M A) {c : Addr} {xs : List V} (e : H c = some (.tup xs)) : ¬ ow c := fun n => by
  rcases h.kind c n with ⟨ys, q⟩ | ⟨ys, q⟩
  · rw [q] at e; cases e
  · rw [q] at e; cases e
theorem LM.keepPd {ow' : Addr → Prop} (h : LM ow H m idle M A) (k : Keep ow ow' H H') {d : D} {v : V} (n : d.noL = true) (p : Pd H v d) : Pd H' v d :=
  Pd.tups (fun a xs e => (k a _ (h.notTup e) e).1) n p
theorem LM.keepPds {ow' : Addr → Prop} (h : LM ow H m idle M A) (k : Keep ow ow' H H') {ds : List D} {vs : List V} (n : noLs ds = true) (p : Pds H vs ds) : Pds H' vs ds :=
  Pds.tups (fun a xs e => (k a _ (h.notTup e) e).1) n p
/-- new things stand beside it -/
theorem LM.same (h : LM ow H m idle M A) (s : Same H H') : LM ow H' m idle M A :=
  ⟨s _ _ h.obj, s _ _ h.mem, s _ _ h.held, s _ _ h.tou, s _ _ h.left, h.leftD.same s, s _ _ h.rows, h.rowsD.same s, fun l e => s _ _ (h.line l e), h.hk, h.tk, h.inj, h.om, h.oh, h.ot, h.or, h.ol, h.nmem, h.nleft, h.mh, h.mt, h.ht, h.rl,
    fun c n => (h.kind c n).elim (fun ⟨xs, e⟩ => .inl ⟨xs, s _ _ e⟩) fun ⟨xs, e⟩ => .inr ⟨xs, s _ _ e⟩⟩
theorem LM.lineNe (h : LM ow H m idle M A) {l : Nat} (e : M.holds l = true) : m ≠ A.ha l ∧ A.held ≠ A.ha l ∧ A.tou ≠ A.ha l :=
  ⟨ne_of h.obj (h.line l e) (by intro z; cases z), ne_of h.held (h.line l e) (by intro z; cases z), ne_of h.tou (h.line l e) (by intro z; cases z)⟩
theorem LM.rowsNe (h : LM ow H m idle M A) : m ≠ A.rows ∧ A.held ≠ A.rows ∧ A.tou ≠ A.rows :=
  ⟨ne_of h.obj h.rows (by intro z; cases z), ne_of h.held h.rows (by intro z; cases z), ne_of h.tou h.rows (by intro z; cases z)⟩
theorem kindUpd (h : ∀ c, ow c → (∃ xs, H c = some (.lst xs)) ∨ ∃ kvs, H c = some (.dK kvs)) {q : Addr} {o : HO} (ho : (∃ xs, o = .lst xs) ∨ ∃ kvs, o = .dK kvs) : ∀ c, ow c → (∃ xs, upd H q o c = some (.lst xs)) ∨ ∃ kvs, upd H q o c = some (.dK kvs) := fun c n => by
  by_cases e : c = q
  · subst e
    rw [upd_same]
    rcases ho with ⟨xs, rfl⟩ | ⟨xs, rfl⟩
    · exact .inl ⟨xs, rfl⟩
    · exact .inr ⟨xs, rfl⟩
  · rw [upd_ne e]; exact h c n
theorem LM.ne {q c : Addr} (hq : ow q) (hc : ¬ ow c) : c ≠ q := fun e => hc (by rw [e]; exact hq)
/-- the dict itself is written: other parts, the same lines -/
theorem LM.setObj (h : LM ow H m idle M A) {idle' : Bool} {at' beats' : Nat} {mem' left' : Addr} {mm : List Nat} {lf : List Mv} {ls : List V} (e1 : H mem' = some (.lst (mm.map nV))) (n1 : ¬ ow mem') (e2 : H left' = some (.lst ls)) (n2 : ¬ ow left') (e3 : Pds H ls (lf.map Mv.d)) {pace : List Bool} :
    LM ow (upd H m (.dK (kM { A with mem := mem', left := left', ls := ls } idle' at' beats'))) m idle' { M with mem := mm, left := lf, at_ := at', beats := beats', pace := pace } { A with mem := mem', left := left', ls := ls } := by
  have k : Keep ow ow H (upd H m (.dK (kM { A with mem := mem', left := left', ls := ls } idle' at' beats'))) := Keep.setOwn h.om
  exact ⟨upd_same, (k _ _ n1 e1).1, by rw [upd_ne h.mh.symm]; exact h.held, by rw [upd_ne h.mt.symm]; exact h.tou, (k _ _ n2 e2).1, h.keepPds k (noLs_map noL_mv _) e3, by rw [upd_ne h.rowsNe.1.symm]; exact h.rows, h.keepPds k (noLs_map noL_row _) h.rowsD,
    fun l e => by rw [upd_ne (h.lineNe e).1.symm]; exact h.line l e, h.hk, h.tk, h.inj, h.om, h.oh, h.ot, h.or, h.ol, n1, n2, h.mh, h.mt, h.ht, h.rl, kindUpd h.kind (.inr ⟨_, rfl⟩)⟩
/-- a row is told -/
theorem LM.tell (h : LM ow H m idle M A) {T : Addr} {w : Str} {p n : Nat} (nT : H T = none) : (upd H T (.tup (Row.mk M.beats w p n).vs)) A.rows = some (.lst A.xs) ∧
    LM ow (upd (upd H T (.tup (Row.mk M.beats w p n).vs)) A.rows (.lst (A.xs ++ [.ref T]))) m idle (M.tell w p n) { A with xs := A.xs ++ [.ref T] } ∧ Keep ow ow H (upd (upd H T (.tup (Row.mk M.beats w p n).vs)) A.rows (.lst (A.xs ++ [.ref T]))) := by
  have s := same_new (o := .tup (Row.mk M.beats w p n).vs) nT
  have h1 := h.same s
  have hT : (upd H T (.tup (Row.mk M.beats w p n).vs)) T = some (.tup (Row.mk M.beats w p n).vs) := upd_same
  have Tr : T ≠ A.rows := (ne_of_none h.rows nT).symm
  generalize upd H T (.tup (Row.mk M.beats w p n).vs) = H1 at *
  have k : Keep ow ow H1 (upd H1 A.rows (.lst (A.xs ++ [.ref T]))) := Keep.setOwn h.or
  refine ⟨h1.rows, ⟨by rw [upd_ne h1.rowsNe.1]; exact h1.obj, (k _ _ h.nmem h1.mem).1, by rw [upd_ne h1.rowsNe.2.1]; exact h1.held, by rw [upd_ne h1.rowsNe.2.2]; exact h1.tou, (k _ _ h.nleft h1.left).1, h1.keepPds k (noLs_map noL_mv _) h1.leftD, upd_same, ?_,
    fun l e => by rw [upd_ne (h.rl l e).symm]; exact h1.line l e, h.hk, h.tk, h.inj, h.om, h.oh, h.ot, h.or, h.ol, h.nmem, h.nleft, h.mh, h.mt, h.ht, h.rl, kindUpd h1.kind (.inl ⟨_, rfl⟩)⟩, (Same.keep s).trans k⟩
  show Pds _ _ ((M.rows ++ [Row.mk M.beats w p n]).map Row.d)
  rw [List.map_append]
  exact (h1.keepPds k (noLs_map noL_row _) h1.rowsD).app (.cons (Row.pd (by rw [upd_ne Tr]; exact hT)) .nil)
/-- a line is taken -/
theorem LM.takeL (h : LM ow H m idle M A) {l : Nat} {p : Addr} {cs : List Nat} (hl : l < 4) (hl2 : l < M.held.length) (hn : M.holds l = false) (e : H p = some (.lst (cs.map nV))) (np : ¬ ow p) (pm : p ≠ A.mem) (pl : p ≠ A.left) :
    LM (fun c => ow c ∨ c = p) (upd H A.held (.dK (putK A.hk (lk l) (.ref p)))) m idle { M with held := M.held.set l (some cs) } { A with hk := putK A.hk (lk l) (.ref p), ha := fun k => if k = l then p else A.ha k } := by
  have k : Keep ow ow H (upd H A.held (.dK (putK A.hk (lk l) (.ref p)))) := Keep.setOwn h.oh
  have hs : ∀ k, Mst.holds { M with held := M.held.set l (some cs) } k = true ↔ k = l ∨ M.holds k = true := fun k => by
    rw [Mst.holds_iff, Mst.holds_iff]
    by_cases ek : l = k
    · subst ek
      simp only [List.getElem?_set_self hl2, true_or, iff_true]
      exact ⟨cs, rfl⟩
    · simp only [List.getElem?_set_ne ek]
      exact ⟨.inr, fun z => z.elim (fun z => absurd z.symm ek) id⟩
  have cl : ∀ k, k ≠ l → Mst.cellsOf { M with held := M.held.set l (some cs) } k = M.cellsOf k := fun k ek => by
    unfold Mst.cellsOf
    rw [List.getElem?_set_ne (fun z => ek z.symm)]
  have cll : Mst.cellsOf { M with held := M.held.set l (some cs) } l = cs := Mst.cellsOf_of (List.getElem?_set_self hl2)
  have nl : ∀ k, M.holds k = true → k ≠ l := fun k hk z => by rw [z, hn] at hk; cases hk
  have ph : p ≠ A.held := LM.ne h.oh np
  refine ⟨by rw [upd_ne h.mh]; exact h.obj, (k _ _ h.nmem h.mem).1, upd_same, by rw [upd_ne h.ht.symm]; exact h.tou, (k _ _ h.nleft h.left).1, h.keepPds k (noLs_map noL_mv _) h.leftD, by rw [upd_ne h.rowsNe.2.1.symm]; exact h.rows, h.keepPds k (noLs_map noL_row _) h.rowsD,
    fun j hj => ?_, (h.hk.put hl).congr fun j => ?_, h.tk, fun j j' hj hj' ej => ?_, .inl h.om, .inl h.oh, .inl h.ot, .inl h.or, fun j hj => ?_, ?_, ?_, h.mh, h.mt, h.ht, fun j hj => ?_, fun c hc => ?_⟩
  · by_cases ej : j = l
    · subst ej
      simp only [eq_self, if_true]
      rw [upd_ne ph, cll]; exact e
    · have hj' : M.holds j = true := ((hs j).mp hj).resolve_left ej
      simp only [if_neg ej]
      rw [upd_ne (h.lineNe hj').2.1.symm, cl j ej]; exact h.line j hj'
  · by_cases ej : j = l
    · subst ej
      simp only [eq_self, if_true]
      rw [if_pos ((hs j).mpr (.inl rfl))]
    · simp only [if_neg ej]
      by_cases hj : M.holds j = true
      · rw [if_pos hj, if_pos ((hs j).mpr (.inr hj))]
      · rw [if_neg hj, if_neg (fun z => hj (((hs j).mp z).resolve_left ej))]
  · rcases (hs j).mp hj with rfl | g
    · rcases (hs j').mp hj' with rfl | g'
      · rfl
      · simp only [eq_self, if_true, if_neg (nl j' g')] at ej
        exact absurd (h.ol j' g') (by rw [← ej]; exact np)
    · rcases (hs j').mp hj' with rfl | g'
      · simp only [eq_self, if_true, if_neg (nl j g)] at ej
        exact absurd (h.ol j g) (by rw [ej]; exact np)
      · simp only [if_neg (nl j g), if_neg (nl j' g')] at ej
        exact h.inj j j' g g' ej
  · by_cases ej : j = l
    · refine .inr ?_
      show (if j = l then p else A.ha j) = p
      rw [if_pos ej]
    · simp only [if_neg ej]
      exact .inl (h.ol j (((hs j).mp hj).resolve_left ej))
  · rintro (q | q)
    · exact h.nmem q
    · exact pm q.symm
  · rintro (q | q)
    · exact h.nleft q
    · exact pl q.symm
  · by_cases ej : j = l
    · simp only [if_pos ej]; exact (LM.ne h.or np).symm
    · simp only [if_neg ej]
      exact h.rl j (((hs j).mp hj).resolve_left ej)
  · rcases hc with hc | rfl
    · exact kindUpd h.kind (.inr ⟨_, rfl⟩) c hc
    · exact .inl ⟨_, by rw [upd_ne ph]; exact e⟩
/-- a line is written -/
theorem LM.writeL (h : LM ow H m idle M A) {l : Nat} {cs : List Nat} (hl : M.holds l = true) :
    LM ow (upd H (A.ha l) (.lst (cs.map nV))) m idle { M with held := M.held.set l (some cs) } A := by
  have k : Keep ow ow H (upd H (A.ha l) (.lst (cs.map nV))) := Keep.setOwn (h.ol l hl)
  have hl2 := Mst.holds_lt hl
  have hs : ∀ k, Mst.holds { M with held := M.held.set l (some cs) } k = M.holds k := fun k => by
    by_cases ek : l = k
    · subst ek
      rw [hl]
      exact Mst.holds_iff.mpr ⟨cs, List.getElem?_set_self hl2⟩
    · unfold Mst.holds
      rw [List.getElem?_set_ne ek]
  have cll : Mst.cellsOf { M with held := M.held.set l (some cs) } l = cs := Mst.cellsOf_of (List.getElem?_set_self hl2)
  obtain ⟨a1, a2, a3⟩ := h.lineNe hl
  refine ⟨by rw [upd_ne a1]; exact h.obj, (k _ _ h.nmem h.mem).1, by rw [upd_ne a2]; exact h.held, by rw [upd_ne a3]; exact h.tou, (k _ _ h.nleft h.left).1, h.keepPds k (noLs_map noL_mv _) h.leftD, by rw [upd_ne (h.rl l hl)]; exact h.rows, h.keepPds k (noLs_map noL_row _) h.rowsD,
    fun j hj => ?_, h.hk.congr fun j => by rw [hs], h.tk, fun j j' hj hj' ej => h.inj j j' (by rw [← hs]; exact hj) (by rw [← hs]; exact hj') ej, h.om, h.oh, h.ot, h.or, fun j hj => h.ol j (by rw [← hs]; exact hj), h.nmem, h.nleft, h.mh, h.mt, h.ht, fun j hj => h.rl j (by rw [← hs]; exact hj), kindUpd h.kind (.inl ⟨_, rfl⟩)⟩
  rw [hs] at hj
  by_cases ej : j = l
  · subst ej; rw [upd_same, cll]
  · rw [upd_ne (fun z => ej (h.inj j l hj hl z)), h.line j hj]
    unfold Mst.cellsOf
    rw [List.getElem?_set_ne (fun z => ej z.symm)]
/-- a line is touched -/
theorem LM.touch (h : LM ow H m idle M A) {l : Nat} (hl : l < 4) (hl2 : l < M.tou.length) :
    LM ow (upd H A.tou (.dK (putK A.tk (lk l) (.bl true)))) m idle { M with tou := M.tou.set l true } { A with tk := putK A.tk (lk l) (.bl true) } := by
  have k : Keep ow ow H (upd H A.tou (.dK (putK A.tk (lk l) (.bl true)))) := Keep.setOwn h.ot
  refine ⟨by rw [upd_ne h.mt]; exact h.obj, (k _ _ h.nmem h.mem).1, by rw [upd_ne h.ht]; exact h.held, upd_same, (k _ _ h.nleft h.left).1, h.keepPds k (noLs_map noL_mv _) h.leftD, by rw [upd_ne h.rowsNe.2.2.symm]; exact h.rows, h.keepPds k (noLs_map noL_row _) h.rowsD,
    fun j hj => by rw [upd_ne (h.lineNe hj).2.2.symm]; exact h.line j hj, h.hk, (h.tk.put hl).congr fun j => ?_, h.inj, h.om, h.oh, h.ot, h.or, h.ol, h.nmem, h.nleft, h.mh, h.mt, h.ht, h.rl, kindUpd h.kind (.inr ⟨_, rfl⟩)⟩
  simp only [Mst.touched, List.getD_eq_getElem?_getD]
  by_cases ej : l = j
  · subst ej
    rw [if_pos rfl, List.getElem?_set_self hl2]; rfl
  · rw [if_neg (fun z => ej z.symm), List.getElem?_set_ne ej]
/-- a line is not touched any more -/
theorem LM.untouch (h : LM ow H m idle M A) {l : Nat} :
    LM ow (upd H A.tou (.dK (dropK A.tk (lk l)))) m idle { M with tou := M.tou.set l false } { A with tk := dropK A.tk (lk l) } := by
  have k : Keep ow ow H (upd H A.tou (.dK (dropK A.tk (lk l)))) := Keep.setOwn h.ot
  refine ⟨by rw [upd_ne h.mt]; exact h.obj, (k _ _ h.nmem h.mem).1, by rw [upd_ne h.ht]; exact h.held, upd_same, (k _ _ h.nleft h.left).1, h.keepPds k (noLs_map noL_mv _) h.leftD, by rw [upd_ne h.rowsNe.2.2.symm]; exact h.rows, h.keepPds k (noLs_map noL_row _) h.rowsD,
    fun j hj => by rw [upd_ne (h.lineNe hj).2.2.symm]; exact h.line j hj, h.hk, h.tk.dropL.congr fun j => ?_, h.inj, h.om, h.oh, h.ot, h.or, h.ol, h.nmem, h.nleft, h.mh, h.mt, h.ht, h.rl, kindUpd h.kind (.inr ⟨_, rfl⟩)⟩
  simp only [Mst.touched, List.getD_eq_getElem?_getD]
  by_cases ej : l = j
  · subst ej
    rw [if_pos rfl]
    rcases Nat.lt_or_ge l M.tou.length with g | g
    · rw [List.getElem?_set_self g]; rfl
    · rw [List.getElem?_eq_none (by rw [List.length_set]; exact g)]; rfl
  · rw [if_neg (fun z => ej z.symm), List.getElem?_set_ne ej]
/-- a line is not held any more -/
theorem LM.unhold (h : LM ow H m idle M A) {l : Nat} :
    LM ow (upd H A.held (.dK (dropK A.hk (lk l)))) m idle { M with held := M.held.set l none } { A with hk := dropK A.hk (lk l) } := by
  have k : Keep ow ow H (upd H A.held (.dK (dropK A.hk (lk l)))) := Keep.setOwn h.oh
  have hs : ∀ j, Mst.holds { M with held := M.held.set l none } j = true ↔ j ≠ l ∧ M.holds j = true := fun j => by
    rw [Mst.holds_iff, Mst.holds_iff]
    by_cases ek : l = j
    · subst ek
      constructor
      · rintro ⟨cs, e⟩
        simp only [List.getElem?_set] at e
        split at e <;> simp_all
      · rintro ⟨z, _⟩; exact absurd rfl z
    · simp only [List.getElem?_set_ne ek]
      exact ⟨fun z => ⟨fun q => ek q.symm, z⟩, fun z => z.2⟩
  have cl : ∀ j, j ≠ l → Mst.cellsOf { M with held := M.held.set l none } j = M.cellsOf j := fun j ek => by
    unfold Mst.cellsOf
    rw [List.getElem?_set_ne (fun z => ek z.symm)]
  refine ⟨by rw [upd_ne h.mh]; exact h.obj, (k _ _ h.nmem h.mem).1, upd_same, by rw [upd_ne h.ht.symm]; exact h.tou, (k _ _ h.nleft h.left).1, h.keepPds k (noLs_map noL_mv _) h.leftD, by rw [upd_ne h.rowsNe.2.1.symm]; exact h.rows, h.keepPds k (noLs_map noL_row _) h.rowsD,
    fun j hj => by obtain ⟨q1, q2⟩ := (hs j).mp hj; rw [upd_ne (h.lineNe q2).2.1.symm, cl j q1]; exact h.line j q2, h.hk.dropL.congr fun j => ?_, h.tk, fun j j' hj hj' ej => h.inj j j' ((hs j).mp hj).2 ((hs j').mp hj').2 ej, h.om, h.oh, h.ot, h.or, fun j hj => h.ol j ((hs j).mp hj).2, h.nmem, h.nleft, h.mh, h.mt, h.ht, fun j hj => h.rl j ((hs j).mp hj).2, kindUpd h.kind (.inr ⟨_, rfl⟩)⟩
  by_cases ej : j = l
  · rw [if_pos ej, if_neg (fun z => ((hs j).mp z).1 ej)]
  · rw [if_neg ej]
    by_cases hj : M.holds j = true
    · rw [if_pos hj, if_pos ((hs j).mpr ⟨ej, hj⟩)]
    · rw [if_neg hj, if_neg (fun z => hj ((hs j).mp z).2)]
end
end Vt
namespace Vt
open PySem PySem.Spec PyProof.Rows L2
/-! ### data compared with a written [] or a written tuple of one word -/
mutual
def D.py : D → PyData
  | .non => .none
  | .bl b => .bool b
  | .int i => .int i
  | .str x => .str x
  | .tup ds => .tuple (pys ds)
  | .lst ds => .list (pys ds)
def pys : List D → List PyData
  | [] => []
  | d :: ds => d.py :: pys ds
end
section
variable {K : PySem.W.Frag} {H : Hp}
mutual
theorem Pd.dp : ∀ {d : D} {v : V}, Pd H v d → Dp K H v d.py
  | .non, _, .non => by rw [D.py]; exact .non
  | .bl _, _, .bl b => by rw [D.py]; exact .bl b
  | .int _, _, .int b => by rw [D.py]; exact .int b
  | .str _, _, .str b => by rw [D.py]; exact .str b
  | .tup _, _, .tup h hs => by rw [D.py]; exact .tup (sqT_t h) (Pds.dp hs)
  | .lst _, _, .lst h hs => by rw [D.py]; exact .lst (sqL_l h) (Pds.dp hs)
theorem Pds.dp : ∀ {ds : List D} {vs : List V}, Pds H vs ds → DpAll K H vs (pys ds)
  | [], _, .nil => by rw [pys]; exact .nil
  | _ :: _, _, .cons h hs => by rw [pys]; exact .cons (Pd.dp h) (Pds.dp hs)
end
mutual
theorem dep_py : ∀ d : D, d.py.depth = d.dep
  | .non => by simp [D.py, PyData.depth, D.dep]
  | .bl _ => by simp [D.py, PyData.depth, D.dep]
  | .int _ => by simp [D.py, PyData.depth, D.dep]
  | .str _ => by simp [D.py, PyData.depth, D.dep]
  | .tup ds => by simp [D.py, PyData.depth, D.dep, deps_py ds]
  | .lst ds => by simp [D.py, PyData.depth, D.dep, deps_py ds]
theorem deps_py : ∀ ds : List D, PyData.depthAll (pys ds) = deps ds
  | [] => by simp [pys, PyData.depthAll, deps]
  | d :: ds => by simp [pys, PyData.depthAll, deps, dep_py d, deps_py ds]
end
theorem lay_map {α : Type} {f : α → D} (h : ∀ x, (f x).py.canLay0 = true) : ∀ xs : List α, PyData.canLayAll0 (pys (xs.map f)) = true
  | [] => by simp [pys, PyData.canLayAll0]
  | x :: r => by simp [pys, PyData.canLayAll0, h x, lay_map h r]
theorem shaped_lst {ds : List D} (h : PyData.canLayAll0 (pys ds) = true) (hd : deps ds ≤ 60) : SeqAt.shaped (.list (pys ds)) = true := by
  simp only [SeqAt.shaped, PyData.canLay0, PyData.depth, h, deps_py, Bool.true_and, decide_eq_true_eq]
  omega
theorem rd_neNil {a b : Addr} {xs : List V} {ds : List D} {Q : VK} (ha : H a = some (.lst xs)) (hp : Pds H xs ds) (hl : PyData.canLayAll0 (pys ds) = true) (hd : deps ds ≤ 60) (hb : H b = some (.lst [])) (q : Q (.bl (!ds.isEmpty)) H) : rNeD K (.ref a) (.ref b) H Q := by
  refine ⟨.list (pys ds), .list [], .lst (sqL_l ha) hp.dp, .lst (sqL_l hb) .nil, shaped_lst hl hd, rfl, ?_⟩
  have e : PyData.eqv (.list (pys ds)) (.list []) = ds.isEmpty := by
    cases ds with
    | nil => simp [pys, PyData.eqv, PyData.eqvAll]
    | cons d r => simp [pys, PyData.eqv, PyData.eqvAll]
  rw [e]; exact q
theorem rd_eqNil {a b : Addr} {xs : List V} {ds : List D} {Q : VK} (ha : H a = some (.lst xs)) (hp : Pds H xs ds) (hl : PyData.canLayAll0 (pys ds) = true) (hd : deps ds ≤ 60) (hb : H b = some (.lst [])) (q : Q (.bl ds.isEmpty) H) : rEqD K (.ref a) (.ref b) H Q := by
  refine ⟨.list (pys ds), .list [], .lst (sqL_l ha) hp.dp, .lst (sqL_l hb) .nil, shaped_lst hl hd, rfl, ?_⟩
  have e : PyData.eqv (.list (pys ds)) (.list []) = ds.isEmpty := by
    cases ds with
    | nil => simp [pys, PyData.eqv, PyData.eqvAll]
    | cons d r => simp [pys, PyData.eqv, PyData.eqvAll]
  rw [e]; exact q
theorem lay_mv (m : Mv) : m.d.py.canLay0 = true := by
  obtain ⟨s, g, b⟩ := m
  cases b <;> simp [Mv.d, D.py, pys, nD, oD, PyData.canLay0, PyData.canLayAll0]
theorem dep_mvs : ∀ ms : List Mv, deps (ms.map Mv.d) ≤ 1
  | [] => by simp [deps]
  | m :: r => by
    have := dep_mvs r
    obtain ⟨s, g, b⟩ := m
    cases b <;> (simp only [List.map_cons, deps, Mv.d, D.dep, nD, oD]; omega)
theorem lay_bl (b : Bool) : (D.bl b).py.canLay0 = true := by simp [D.py, PyData.canLay0]
theorem dep_bls : ∀ bs : List Bool, deps (bs.map D.bl) = 0
  | [] => by simp [deps]
  | b :: r => by simp [deps, D.dep, dep_bls r]
theorem pds_bls {H : Hp} : ∀ bs : List Bool, Pds H (bs.map V.bl) (bs.map D.bl)
  | [] => .nil
  | b :: r => .cons (.bl b) (pds_bls r)
/-- t == ("x",), t a tuple of a word and ints -/
theorem rd_tag {a b : Addr} {z x : Str} {zs : List Int} {Q : VK} (ha : H a = some (.tup (.str z :: zs.map V.int))) (hb : H b = some (.tup [.str x])) (oz : z.length ≤ 100 ∧ (PyData.str z).canLay0 = true) (ox : (PyData.str x).canLay0 = true) (q : Q (.bl (decide (z = x ∧ zs = []))) H) : rEqD K (.ref a) (.ref b) H Q := by
  have hint : ∀ zs : List Int, PyData.canLayAll0 (zs.map PyData.int) = true ∧ PyData.depthAll (zs.map PyData.int) = 0 := by
    intro zs
    induction zs with
    | nil => simp [PyData.canLayAll0, PyData.depthAll]
    | cons n r ih => simp [PyData.canLayAll0, PyData.canLay0, PyData.depthAll, PyData.depth, ih]
  have hsh : SeqAt.shaped (.tuple (.str z :: zs.map PyData.int)) = true := by
    simp only [SeqAt.shaped, PyData.canLay0, PyData.canLayAll0, PyData.depth, PyData.depthAll, (hint zs).1, (hint zs).2, Bool.and_true]
    have := oz.2
    simp only [PyData.canLay0] at this
    rw [this]; simp
  have hsh2 : SeqAt.shaped (.tuple [.str x]) = true := by
    simp only [SeqAt.shaped, PyData.canLay0, PyData.canLayAll0, PyData.depth, PyData.depthAll, Bool.and_true]
    simp only [PyData.canLay0] at ox
    rw [ox]; simp
  refine ⟨.tuple (.str z :: zs.map PyData.int), .tuple [.str x], .tup (sqT_t ha) (.cons (.str z) (dpInts zs)), .tup (sqT_t hb) (.cons (.str x) .nil), hsh, hsh2, ?_⟩
  have e : PyData.eqv (.tuple (.str z :: zs.map PyData.int)) (.tuple [.str x]) = decide (z = x ∧ zs = []) := by
    cases zs with
    | nil =>
      simp only [List.map_nil, PyData.eqv, PyData.eqvAll, Bool.and_true, and_true]
      rfl
    | cons n r =>
      simp [PyData.eqv, PyData.eqvAll]
  rw [e]; exact q
end
/-! ### a tuple and a tuple -/
def rCatS (K : PySem.W.Frag) : R2 := fun x y H Q => ∃ a b xs ys, x = .ref a ∧ y = .ref b ∧ H a = some (.tup xs) ∧ H b = some (.tup ys) ∧ ys ≠ [] ∧ xs.length + ys.length ≤ sizeLine ∧ ∀ p H', Same H H' → H' p = some (.tup (xs ++ ys)) → Q (.ref p) H'
theorem op_catS {X : Cx} : OpR X (binaryOp .Add) (rCatS X.K) := by
  intro pins s σ H x y v u Q I rx ry h
  obtain ⟨a, b, xs, ys, ex, ey, ha, hb, hn, hz, q⟩ := h
  refine op_catA pins s σ H x y v u Q I rx ry ⟨a, b, xs, ys, ex, ey, sqT_t ha, sqT_t hb, hz, fun e => ?_, fun _ e => absurd e hn, fun _ _ p np => ?_⟩
  · subst e
    exact q b H (Same.refl H) hb
  · exact q p _ (same_new np) upd_same
end Vt
namespace Vt
open PySem PySem.Spec PyProof.Rows L2
/-- while, by a count kept beside the state -/
theorem while_to {c : TT} {tb : TS} {D : Ends} {σ : L2.St} {H : Hp} (Pv : Nat → L2.St → Hp → Prop) (h0 : ∃ n, Pv n σ H)
    (hs : ∀ n σ H, Pv n σ H → c σ H fun b H1 => if b = true then tb { D with nx := fun σ' H' => ∃ k, k < n ∧ Pv k σ' H', ct := fun σ' H' => ∃ k, k < n ∧ Pv k σ' H', bk := D.nx } σ H1 else D.nx σ H1)
    (mono : ∀ σ H Q Q', (∀ b H1, Q b H1 → Q' b H1) → c σ H Q → c σ H Q') : tWhile c tb D σ H := by
  refine ⟨Pv, h0, ?_⟩
  intro n σ H p
  refine mono σ H _ _ (fun b H1 q => ?_) (hs n σ H p)
  cases b with
  | true => exact ⟨_, fun σ' H' z => z, q⟩
  | false => exact q
/-- another list is written, not the machine's -/
theorem LM.setOther {ow : Addr → Prop} {H : Hp} {m : Addr} {idle : Bool} {M : Mst} {A : Ad} (h : LM ow H m idle M A) {q : Addr} {xs ys : List V} (hq : H q = some (.lst xs)) (nq : ¬ ow q) (n1 : q ≠ A.mem) (n2 : q ≠ A.left) :
    LM ow (upd H q (.lst ys)) m idle M A := by
  have ne : ∀ c, ow c → c ≠ q := fun c hc e => nq (by rw [← e]; exact hc)
  have tt : ∀ a us, H a = some (.tup us) → (upd H q (.lst ys)) a = some (.tup us) := fun a us e => by
    rw [upd_ne (ne_of e hq (by intro z; cases z))]; exact e
  refine ⟨by rw [upd_ne (ne _ h.om)]; exact h.obj, by rw [upd_ne n1.symm]; exact h.mem, by rw [upd_ne (ne _ h.oh)]; exact h.held, by rw [upd_ne (ne _ h.ot)]; exact h.tou, by rw [upd_ne n2.symm]; exact h.left, Pds.tups tt (noLs_map noL_mv _) h.leftD, by rw [upd_ne (ne _ h.or)]; exact h.rows, Pds.tups tt (noLs_map noL_row _) h.rowsD,
    fun l e => by rw [upd_ne (ne _ (h.ol l e))]; exact h.line l e, h.hk, h.tk, h.inj, h.om, h.oh, h.ot, h.or, h.ol, h.nmem, h.nleft, h.mh, h.mt, h.ht, h.rl, kindUpd h.kind (.inl ⟨_, rfl⟩)⟩
def kA (l e t L r : Addr) : List (Key × V) := [(.inr "memory", .ref l), (.inr "held", .ref e), (.inr "touched", .ref t), (.inr "left", .ref L), (.inr "rows", .ref r), (.inr "idle", .bl false)]
def kB : List (Key × V) := [(.inr "at", .int 0), (.inr "beats", .int 0), (.inr "reads", .int 0), (.inr "fetches", .int 0)]
def adN (l e t L r : Addr) : Ad := ⟨l, e, t, L, r, [], [], fun _ => 0, [], []⟩
theorem kA_m {l e t L r : Addr} : mergeK [] (kA l e t L r) = kA l e t L r := rfl
theorem kB_m : mergeK [] kB = kB := rfl
theorem kAB {l e t L r : Addr} : mergeK (kA l e t L r) kB = kM (adN l e t L r) false 0 0 := rfl
theorem begin_holds {B : Brd} {pace : List Bool} {l : Nat} : (Mst.begin B pace).holds l = false := by
  cases h : (Mst.begin B pace).holds l with
  | false => rfl
  | true =>
    obtain ⟨cs, e⟩ := Mst.holds_iff.mp h
    simp only [Mst.begin, List.getElem?_replicate] at e
    split at e <;> simp at e
theorem begin_touched {B : Brd} {pace : List Bool} {l : Nat} : (Mst.begin B pace).touched l = false := by
  simp only [Mst.begin, Mst.touched, List.getD_eq_getElem?_getD, List.getElem?_replicate]
  split <;> rfl
theorem byLine0 {f : Nat → Option V} (h : ∀ l, f l = none) : ByLine [] f := ⟨fun l => by rw [h]; rfl, List.nodup_nil, fun k hk => by cases hk⟩
theorem LM.begin {H : Hp} {d l e t L r : Addr} {B : Brd} {pace : List Bool} (hd : H d = some (.dK (kM (adN l e t L r) false 0 0))) (he : H e = some (.dK [])) (ht : H t = some (.dK [])) (hL : H L = some (.lst [])) (hr : H r = some (.lst [])) (hl : H l = some (.lst (B.mem.map nV)))
    (et : e ≠ t) (ed : e ≠ d) (td : t ≠ d) (Lr : L ≠ r) (lr : l ≠ r) : LM (fun c => c = d ∨ c = e ∨ c = t ∨ c = r) H d false (Mst.begin B pace) (adN l e t L r) := by
  have nh : ∀ k, (Mst.begin B pace).holds k = true → False := fun k z => by rw [begin_holds] at z; cases z
  refine ⟨hd, hl, he, ht, hL, .nil, hr, .nil, fun k z => (nh k z).elim, byLine0 fun k => by rw [begin_holds]; rfl, byLine0 fun k => by rw [begin_touched]; rfl, fun k _ z => (nh k z).elim, .inl rfl, .inr (.inl rfl), .inr (.inr (.inl rfl)), .inr (.inr (.inr rfl)), fun k z => (nh k z).elim, ?_, ?_, ed.symm, td.symm, et, fun k z => (nh k z).elim, ?_⟩
  · rintro (h | h | h | h)
    · exact ne_of hl hd (by intro z; cases z) h
    · exact ne_of hl he (by intro z; cases z) h
    · exact ne_of hl ht (by intro z; cases z) h
    · exact lr h
  · rintro (h | h | h | h)
    · exact ne_of hL hd (by intro z; cases z) h
    · exact ne_of hL he (by intro z; cases z) h
    · exact ne_of hL ht (by intro z; cases z) h
    · exact Lr h
  · rintro c (rfl | rfl | rfl | rfl)
    · exact .inr ⟨_, hd⟩
    · exact .inr ⟨_, he⟩
    · exact .inr ⟨_, ht⟩
    · exact .inl ⟨_, hr⟩
theorem Keep.other {ow : Addr → Prop} {H H' : Hp} {p : Addr} {o : HO} (k : Keep (fun _ => False) ow H H') (n : H p = none) : Keep (fun _ => False) ow H (upd H' p o) := fun c u z h => by rw [upd_ne (ne_of_none h n)]; exact k c u z h
theorem Same.own1 {H H' : Hp} {d : Addr} {o : HO} (s : Same H H') (n : H d = none) : Same H (upd H' d o) := fun c u h => by rw [upd_ne (ne_of_none h n)]; exact s c u h
theorem proc_ok {cells : Nat} {ords : List Ord} {prog : List Deed} {M : Mst} (h : MOk cells prog M) (hok : ∀ (i : Nat) (o : Ord), ords[i]? = some o → OrdOk o i ords.length cells) (hm : ∀ o ∈ ords, o.many ≤ 8) (hp : ∀ d ∈ prog, DeedOk d ords.length cells) :
    MOk0 cells (M.proc ords prog) ∧ (M.proc ords prog).pace = M.pace ∧ (M.proc ords prog).beats = M.beats ∧ (M.proc ords prog).rows.length ≤ M.rows.length + 6 ∧ (M.proc ords prog).left.length ≤ M.left.length + 32 := by
  unfold Mst.proc
  split
  · exact ⟨h.toMOk0, rfl, rfl, by omega, by omega⟩
  · split
    · exact ⟨h.toMOk0, rfl, rfl, by omega, by omega⟩
    · rename_i d e0
      have h0 := h.toMOk0.deed hok (hp d (List.mem_of_getElem? e0))
      obtain ⟨h1, h2, h3, h4, h5, _⟩ := deed_rows (M := M) (d := d) hm
      exact ⟨⟨h0.lines, h0.mem, h0.held, h0.tou, h0.four, h0.th, h0.left⟩, h5, h4, h1, h2⟩
theorem BrdOk.eight {B : Brd} (ok : BrdOk B) : ∀ o ∈ B.ords, o.many ≤ 8 := fun o ho => by
  obtain ⟨i, hi, rfl⟩ := List.mem_iff_getElem.mp ho
  exact (ok.ords i _ (List.getElem?_eq_getElem hi)).eight
theorem beat_no {ords : List Ord} {prog : List Deed} {M : Mst} (h : Mst.uses prog M (M.proc ords prog) = false) : M.beat ords prog = { (M.proc ords prog).carry with beats := M.beats + 1 } := by
  unfold Mst.beat
  dsimp only
  rw [if_neg (by rw [h]; simp)]
theorem beat_yes {ords : List Ord} {prog : List Deed} {M : Mst} {b : Bool} {r : List Bool} (h : Mst.uses prog M (M.proc ords prog) = true) (e : M.pace = b :: r) :
    M.beat ords prog = { (if b = true then { M.proc ords prog with pace := r }.carry else { M.proc ords prog with pace := r }) with beats := M.beats + 1 } := by
  unfold Mst.beat
  dsimp only
  rw [if_pos h, e]
  rfl
/-- left != [], a list of truths -/
theorem rd_pace {K : PySem.W.Frag} {σ : L2.St} {H : Hp} {i : Nat} {p : Addr} {bs : List Bool} {Q : VK} (hσ : σ[i]? = some (some (.ref p))) (hp : H p = some (.lst (bs.map V.bl))) (q : ∀ H', Same H H' → Q (.bl (!bs.isEmpty)) H') : tOp (rNeD K) (tVar i) (tLst tNil) σ H Q := by
  refine ⟨_, hσ, Nat.zero_le _, fun T nT => ?_⟩
  have s := same_new (o := .lst []) nT
  refine rd_neNil (s _ _ hp) (pds_bls _) (lay_map lay_bl _) (by rw [dep_bls]; decide) upd_same ?_
  have := q _ s
  cases bs with
  | nil => exact this
  | cons x r => exact this
def goneM (B : Brd) (pace : List Bool) : Mst := Mst.run B.ords B.prog 7000 (Mst.begin B pace)
end Vt
namespace Vt
open PySem PySem.Spec PyProof.Rows L2
/-! ### what a run tells -/
def saidOf (rows : List Row) : List Nat := (rows.filter fun r => decide (r.word = ("say" : Str))).map Row.num
def rowsD (rows : List Row) : D := .lst (rows.map Row.d)
def tellD (G : Mst) : D := .tup [.tup ((saidOf G.rows).map nD), .tup (G.mem.map nD), nD G.beats]
theorem run_ok {B : Brd} (ok : BrdOk B) : ∀ (f : Nat) (M : Mst), MOk B.mem.length B.prog M → MOk B.mem.length B.prog (Mst.run B.ords B.prog f M)
  | 0, M, h => h
  | f + 1, M, h => by
    rw [Mst.run]
    cases ho : M.over B.prog with
    | true => exact h
    | false => exact run_ok ok f _ (beat_ok h ho ok.ords ok.eight ok.prog).1
theorem gone_ok {B : Brd} (ok : BrdOk B) (pace : List Bool) : MOk0 B.mem.length (gone B pace) ∧ (gone B pace).rows.length ≤ 90004 := by
  have h := run_ok ok 7000 _ (begin_ok ok pace)
  have g := cleans_ok h.toMOk0 4
  have := h.room
  refine ⟨g.1, ?_⟩
  have e : (gone B pace).rows.length ≤ (Mst.run B.ords B.prog 7000 (Mst.begin B pace)).rows.length + 4 := g.2
  omega
def spStory : Sp := fun vs H Q _ => ∃ (v : V) (B : Brd) (pl : Addr) (pace : List Bool), vs = [v, .ref pl] ∧ Pd H v B.d ∧ BrdOk B ∧ H pl = some (.lst (pace.map V.bl)) ∧ pace.length ≤ 1000 ∧
  ∀ (H' : Hp) (l : Addr) (xs : List V), Same H H' → H l = none → H' l = some (.lst xs) → Pds H' xs ((gone B pace).rows.map Row.d) → Q (.ref l) H'
def spEnded : Sp := fun vs H Q _ => ∃ (v : V) (B : Brd) (pl : Addr) (pace : List Bool), vs = [v, .ref pl] ∧ Pd H v B.d ∧ BrdOk B ∧ H pl = some (.lst (pace.map V.bl)) ∧ pace.length ≤ 1000 ∧
  ∀ (H' : Hp) (u : V), Same H H' → Pd H' u (tellD (gone B pace)) → Q u H'
theorem dep_rows : ∀ rs : List Row, deps (rs.map Row.d) ≤ 1
  | [] => by simp [deps]
  | r :: t => by
    have := dep_rows t
    simp only [List.map_cons, deps, Row.d, D.dep, nD]
    omega
theorem sm_row (r : Row) : r.d.sm = true := by simp [Row.d, D.sm, smAll, nD]
theorem sm_ns' {xs : List Nat} (h : xs.length ≤ 100000) : (D.tup (xs.map nD)).sm = true := by
  simp only [D.sm, List.length_map, Bool.and_eq_true, decide_eq_true_eq]
  exact ⟨h, sm_map sm_nD _⟩
theorem dep_ns' : ∀ xs : List Nat, deps (xs.map nD) = 0
  | [] => rfl
  | x :: r => by simp [deps, D.dep, nD, dep_ns' r]
theorem Keep.toSame {ow : Addr → Prop} {H H' : Hp} (k : Keep (fun _ => False) ow H H') : Same H H' := fun c o h => (k c o (by simp) h).1
/-- two lists of truths that are the same, asked whether they differ -/
theorem rd_nePace {K : PySem.W.Frag} {H : Hp} {a b : Addr} {bs : List Bool} {Q : VK} (ha : H a = some (.lst (bs.map V.bl))) (hb : H b = some (.lst (bs.map V.bl))) (q : Q (.bl false) H) : rNeD K (.ref a) (.ref b) H Q := by
  have hl := shaped_lst (ds := bs.map D.bl) (lay_map lay_bl _) (by rw [dep_bls]; decide)
  refine ⟨.list (pys (bs.map D.bl)), .list (pys (bs.map D.bl)), .lst (sqL_l ha) (pds_bls _).dp, .lst (sqL_l hb) (pds_bls _).dp, hl, hl, ?_⟩
  rw [PySem.SeqAt.eqv_refl _ (by rw [PyData.canLay0]; exact lay_map lay_bl _)]; exact q
theorem word_say (r : Row) : (decide (V.str r.word = V.str "say") = true) ↔ r.word = ("say" : Str) := by
  rw [decide_eq_true_iff]
  exact ⟨fun z => by injection z, fun z => by rw [z]⟩
theorem said_take {rows : List Row} {j : Nat} {r : Row} (h : rows[j]? = some r) : saidOf (rows.take (j + 1)) = saidOf (rows.take j) ++ (if r.word = ("say" : Str) then [r.num] else []) := by
  unfold saidOf
  rw [List.take_add_one, h]
  simp only [Option.toList_some, List.filter_append, List.map_append]
  by_cases e : r.word = ("say" : Str) <;> simp [e]
end Vt
namespace Vt
open PySem PySem.Spec PyProof.Rows L2
/-! ### the program's machine in the heap -/
/-- the program, and further fields of an instance of a class below -/
structure PX where
  v : V
  ex : List (Str × V)
  le : ex.length ≤ 100
  nm : ∀ p ∈ ex, p.1 = ("due" : Str) ∨ p.1 = ("readings" : Str)
structure PA where
  dx : Addr
  mem : Addr
  held : Addr
  tou : Addr
  left : Addr
  rows : Addr
  said : Addr
  ords : V
  prog : PX
  ha : Nat → Addr
  xs : List V
  ls : List V
def PA.all (A : PA) (m : Addr) : List Addr := [m, A.dx, A.mem, A.held, A.tou, A.left, A.rows, A.said]
def slotV (A : PA) (M : Mst) (l : Nat) : V := if M.holds l = true then .ref (A.ha l) else .non
def heldV (A : PA) (M : Mst) : List V := (List.range M.held.length).map (slotV A M)
def fsM (A : PA) (at_ beats : Nat) : List (Str × V) :=
  ([("memory", .ref A.mem), ("orders", A.ords), ("program", A.prog.v), ("deeds_done", nV at_), ("held", .ref A.held), ("touched", .ref A.tou), ("left", .ref A.left), ("beats", nV beats), ("rows", .ref A.rows), ("said", .ref A.said)] : List (Str × V)) ++ A.prog.ex
theorem fsM_len {A : PA} {a b : Nat} : (fsM A a b).length < 1000 := by
  have := A.prog.le
  show (_ :: _ :: _ :: _ :: _ :: _ :: _ :: _ :: _ :: _ :: A.prog.ex).length < 1000
  simp only [List.length_cons]; omega
def fieldNames : List Str := ["memory", "orders", "program", "deeds_done", "held", "touched", "left", "beats", "rows", "said"]
theorem fsM_no {A : PA} {a b : Nat} {x : Str} (h : (fieldNames ++ [("due" : Str), "readings"]).all (fun y => !decide (y = x)) = true) : (fsM A a b).lookup x = none := by
  have h' : ∀ y ∈ fieldNames ++ [("due" : Str), "readings"], y ≠ x := fun y hy z => by
    have := List.all_eq_true.mp h y hy
    rw [z, decide_eq_true rfl] at this; cases this
  cases e : (fsM A a b).lookup x with
  | none => rfl
  | some v =>
    exfalso
    rcases List.mem_append.mp (PySem.mem_of_lookup e) with m | m
    · have k : x ∈ fieldNames := by
        have := List.mem_map_of_mem (f := Prod.fst) m
        exact this
      exact h' x (List.mem_append_left _ k) rfl
    · rcases A.prog.nm _ m with z | z
      · exact h' "due" (by decide) z.symm
      · exact h' "readings" (by decide) z.symm
structure MC (K : PySem.W.Frag) (C : Addr) : Prop where
  cl : Cls K C
  n : ∀ f ∈ fieldNames, NoAttr K C f
structure PM (ow : Addr → Prop) (H : Hp) (C m : Addr) (M : Mst) (sd : List Nat) (A : PA) : Prop where
  obj : H m = some (.ins C A.dx (fsM A M.at_ M.beats))
  dxo : H A.dx = some (.own m)
  mem : H A.mem = some (.lst (M.mem.map nV))
  held : H A.held = some (.lst (heldV A M))
  tou : H A.tou = some (.lst (M.tou.map V.bl))
  left : H A.left = some (.lst A.ls)
  leftD : Pds H A.ls (M.left.map Mv.d)
  rows : H A.rows = some (.lst A.xs)
  rowsD : Pds H A.xs (M.rows.map Row.d)
  said : H A.said = some (.lst (sd.map nV))
  line : ∀ l, M.holds l = true → H (A.ha l) = some (.lst ((M.cellsOf l).map nV))
  inj : ∀ l k, M.holds l = true → M.holds k = true → A.ha l = A.ha k → l = k
  nd : (A.all m).Nodup
  hl : ∀ l, M.holds l = true → A.ha l ∉ A.all m
  oa : ∀ c ∈ A.all m, ow c
  ol : ∀ l, M.holds l = true → ow (A.ha l)
  kind : ∀ c, ow c → ∃ o, H c = some o ∧ ∀ xs, o ≠ .tup xs
theorem nd_dif : ∀ {l : List Addr} {i j : Nat} {a b : Addr}, l.Nodup → l[i]? = some a → l[j]? = some b → i ≠ j → b ≠ a
  | [], _, _, _, _, _, h, _, _ => by simp at h
  | x :: r, 0, 0, _, _, _, _, _, n => absurd rfl n
  | x :: r, 0, j + 1, a, b, nd, h1, h2, _ => by
    simp only [List.getElem?_cons_zero, Option.some.injEq] at h1
    simp only [List.getElem?_cons_succ] at h2
    subst h1
    exact fun e => (List.nodup_cons.mp nd).1 (by rw [← e]; exact List.mem_of_getElem? h2)
  | x :: r, i + 1, 0, a, b, nd, h1, h2, _ => by
    simp only [List.getElem?_cons_zero, Option.some.injEq] at h2
    simp only [List.getElem?_cons_succ] at h1
    subst h2
    exact fun e => (List.nodup_cons.mp nd).1 (by rw [e]; exact List.mem_of_getElem? h1)
  | x :: r, i + 1, j + 1, a, b, nd, h1, h2, n => nd_dif (List.nodup_cons.mp nd).2 (by simpa using h1) (by simpa using h2) (fun e => n (by rw [e]))
section
variable {ow : Addr → Prop} {H H' : Hp} {C m : Addr} {M : Mst} {sd : List Nat} {A : PA} {K : PySem.W.Frag}
theorem PM.notTup (h : PM ow H C m M sd A) {c : Addr} {xs : List V} (e : H c = some (.tup xs)) : ¬ ow c := fun n => by
  obtain ⟨o, e1, e2⟩ := h.kind c n
  rw [e1] at e
  exact e2 xs (Option.some.inj e)
theorem PM.fresh (h : PM ow H C m M sd A) {p : Addr} (np : H p = none) : ¬ ow p := fun n => by
  obtain ⟨o, e1, _⟩ := h.kind p n
  rw [np] at e1; cases e1
theorem PM.same (h : PM ow H C m M sd A) (s : Same H H') : PM ow H' C m M sd A :=
  ⟨s _ _ h.obj, s _ _ h.dxo, s _ _ h.mem, s _ _ h.held, s _ _ h.tou, s _ _ h.left, h.leftD.same s, s _ _ h.rows, h.rowsD.same s, s _ _ h.said, fun l e => s _ _ (h.line l e), h.inj, h.nd, h.hl, h.oa, h.ol,
    fun c n => by obtain ⟨o, e1, e2⟩ := h.kind c n; exact ⟨o, s _ _ e1, e2⟩⟩
theorem PM.fr (h : PM ow H C m M sd A) {i : Nat} {q : Addr} {o : HO} (hq : (A.all m)[i]? = some q) : (∀ (j : Nat) (c : Addr), j ≠ i → (A.all m)[j]? = some c → upd H q o c = H c) ∧ (∀ l, M.holds l = true → upd H q o (A.ha l) = H (A.ha l)) ∧ (∀ c xs, H c = some (.tup xs) → upd H q o c = some (.tup xs)) := by
  refine ⟨fun j c n e => upd_ne (nd_dif h.nd hq e (fun z => n z.symm)), fun l e => upd_ne (fun z => h.hl l e (by rw [z]; exact List.mem_of_getElem? hq)), fun c xs e => ?_⟩
  rw [upd_ne (fun z => h.notTup e (by rw [z]; exact h.oa _ (List.mem_of_getElem? hq)))]; exact e
theorem PM.kindU (h : PM ow H C m M sd A) {q : Addr} {o : HO} (no : ∀ xs, o ≠ .tup xs) : ∀ c, ow c → ∃ u, upd H q o c = some u ∧ ∀ xs, u ≠ .tup xs := fun c n => by
  by_cases e : c = q
  · subst e; exact ⟨o, upd_same, no⟩
  · rw [upd_ne e]; exact h.kind c n
theorem Keep.ofOw {q : Addr} {o : HO} (hq : ow q) : Keep ow ow H (upd H q o) := Keep.setOwn hq
theorem slot_congr {M' : Mst} {A' : PA} (e1 : M'.held.length = M.held.length) (e2 : ∀ l, slotV A' M' l = slotV A M l) : heldV A' M' = heldV A M := by
  unfold heldV
  rw [e1]
  exact List.map_congr_left fun l _ => e2 l
theorem slot_set {M' : Mst} {A' : PA} {l : Nat} {v : V} (e1 : M'.held.length = M.held.length) (e2 : ∀ k, k ≠ l → slotV A' M' k = slotV A M k) (e3 : slotV A' M' l = v) : (heldV A M).set l v = heldV A' M' := by
  refine List.ext_getElem? fun k => ?_
  unfold heldV
  rw [e1]
  by_cases ek : l = k
  · subst ek
    rcases Nat.lt_or_ge l M.held.length with c | c
    · rw [List.getElem?_set_self (by simpa using c), List.getElem?_map, List.getElem?_range c]
      simp [e3]
    · rw [List.getElem?_eq_none (by simpa using c), List.getElem?_eq_none (by simpa using c)]
  · rw [List.getElem?_set_ne ek, List.getElem?_map, List.getElem?_map]
    rcases Nat.lt_or_ge k M.held.length with c | c
    · rw [List.getElem?_range c]
      simp [e2 k (fun z => ek z.symm)]
    · rw [List.getElem?_eq_none (by simpa using c)]; rfl
theorem heldV_get {l : Nat} (hl : l < M.held.length) : (heldV A M)[l]? = some (slotV A M l) := by
  unfold heldV
  rw [List.getElem?_map, List.getElem?_range hl]; rfl
theorem heldV_len : (heldV A M).length = M.held.length := by simp [heldV]
/-! fields read -/
theorem PM.f (h : PM ow H C m M sd A) (c : MC K C) {f : Str} {v : V} {Q : VK} (hf : f ∈ fieldNames) (hl : (fsM A M.at_ M.beats).lookup f = some v) (q : Q v H) : ∃ a C' dx fs v', V.ref m = .ref a ∧ H a = some (.ins C' dx fs) ∧ Cls K C' ∧ NoAttr K C' f ∧ fs.lookup f = some v' ∧ Q v' H :=
  ⟨m, C, _, _, v, rfl, h.obj, c.cl, c.n f hf, hl, q⟩
/-! writes -/
theorem PM.tell (h : PM ow H C m M sd A) {T : Addr} {w : Str} {p n : Nat} (nT : H T = none) : (upd H T (.tup (Row.mk M.beats w p n).vs)) A.rows = some (.lst A.xs) ∧
    PM ow (upd (upd H T (.tup (Row.mk M.beats w p n).vs)) A.rows (.lst (A.xs ++ [.ref T]))) C m (M.tell w p n) sd { A with xs := A.xs ++ [.ref T] } ∧ Keep ow ow H (upd (upd H T (.tup (Row.mk M.beats w p n).vs)) A.rows (.lst (A.xs ++ [.ref T]))) := by
  have s := same_new (o := .tup (Row.mk M.beats w p n).vs) nT
  have h1 := h.same s
  have hT : (upd H T (.tup (Row.mk M.beats w p n).vs)) T = some (.tup (Row.mk M.beats w p n).vs) := upd_same
  generalize upd H T (.tup (Row.mk M.beats w p n).vs) = H1 at *
  obtain ⟨f1, f2, f3⟩ := h1.fr (i := 6) (q := A.rows) (o := .lst (A.xs ++ [.ref T])) rfl
  refine ⟨h1.rows, ⟨(f1 0 m (by decide) rfl).trans h1.obj, (f1 1 _ (by decide) rfl).trans h1.dxo, (f1 2 _ (by decide) rfl).trans h1.mem, (f1 3 _ (by decide) rfl).trans h1.held, (f1 4 _ (by decide) rfl).trans h1.tou, (f1 5 _ (by decide) rfl).trans h1.left, Pds.tups f3 (noLs_map noL_mv _) h1.leftD, upd_same, ?_,
    (f1 7 _ (by decide) rfl).trans h1.said, fun l e => (f2 l e).trans (h1.line l e), h1.inj, h1.nd, h1.hl, h1.oa, h1.ol, h1.kindU (fun xs z => by cases z)⟩, (Same.keep s).trans (Keep.ofOw (h1.oa _ (List.mem_of_getElem? (i := 6) rfl)))⟩
  show Pds _ _ ((M.rows ++ [Row.mk M.beats w p n]).map Row.d)
  rw [List.map_append]
  exact (Pds.tups f3 (noLs_map noL_row _) h1.rowsD).app (.cons (Row.pd (f3 _ _ hT)) .nil)
theorem PM.setNums (h : PM ow H C m M sd A) {a b : Nat} : PM ow (upd H m (.ins C A.dx (fsM A a b))) C m { M with at_ := a, beats := b } sd A := by
  obtain ⟨f1, f2, f3⟩ := h.fr (i := 0) (q := m) (o := .ins C A.dx (fsM A a b)) rfl
  exact ⟨upd_same, (f1 1 _ (by decide) rfl).trans h.dxo, (f1 2 _ (by decide) rfl).trans h.mem, (f1 3 _ (by decide) rfl).trans h.held, (f1 4 _ (by decide) rfl).trans h.tou, (f1 5 _ (by decide) rfl).trans h.left, Pds.tups f3 (noLs_map noL_mv _) h.leftD, (f1 6 _ (by decide) rfl).trans h.rows, Pds.tups f3 (noLs_map noL_row _) h.rowsD,
    (f1 7 _ (by decide) rfl).trans h.said, fun l e => (f2 l e).trans (h.line l e), h.inj, h.nd, h.hl, h.oa, h.ol, h.kindU (fun xs z => by cases z)⟩
theorem PM.setSaid (h : PM ow H C m M sd A) {sd' : List Nat} : PM ow (upd H A.said (.lst (sd'.map nV))) C m M sd' A := by
  obtain ⟨f1, f2, f3⟩ := h.fr (i := 7) (q := A.said) (o := .lst (sd'.map nV)) rfl
  exact ⟨(f1 0 m (by decide) rfl).trans h.obj, (f1 1 _ (by decide) rfl).trans h.dxo, (f1 2 _ (by decide) rfl).trans h.mem, (f1 3 _ (by decide) rfl).trans h.held, (f1 4 _ (by decide) rfl).trans h.tou, (f1 5 _ (by decide) rfl).trans h.left, Pds.tups f3 (noLs_map noL_mv _) h.leftD, (f1 6 _ (by decide) rfl).trans h.rows, Pds.tups f3 (noLs_map noL_row _) h.rowsD,
    upd_same, fun l e => (f2 l e).trans (h.line l e), h.inj, h.nd, h.hl, h.oa, h.ol, h.kindU (fun xs z => by cases z)⟩
theorem PM.setMem (h : PM ow H C m M sd A) {mm : List Nat} : PM ow (upd H A.mem (.lst (mm.map nV))) C m { M with mem := mm } sd A := by
  obtain ⟨f1, f2, f3⟩ := h.fr (i := 2) (q := A.mem) (o := .lst (mm.map nV)) rfl
  exact ⟨(f1 0 m (by decide) rfl).trans h.obj, (f1 1 _ (by decide) rfl).trans h.dxo, upd_same, (f1 3 _ (by decide) rfl).trans h.held, (f1 4 _ (by decide) rfl).trans h.tou, (f1 5 _ (by decide) rfl).trans h.left, Pds.tups f3 (noLs_map noL_mv _) h.leftD, (f1 6 _ (by decide) rfl).trans h.rows, Pds.tups f3 (noLs_map noL_row _) h.rowsD,
    (f1 7 _ (by decide) rfl).trans h.said, fun l e => (f2 l e).trans (h.line l e), h.inj, h.nd, h.hl, h.oa, h.ol, h.kindU (fun xs z => by cases z)⟩
theorem PM.setTou (h : PM ow H C m M sd A) {t : List Bool} : PM ow (upd H A.tou (.lst (t.map V.bl))) C m { M with tou := t } sd A := by
  obtain ⟨f1, f2, f3⟩ := h.fr (i := 4) (q := A.tou) (o := .lst (t.map V.bl)) rfl
  exact ⟨(f1 0 m (by decide) rfl).trans h.obj, (f1 1 _ (by decide) rfl).trans h.dxo, (f1 2 _ (by decide) rfl).trans h.mem, (f1 3 _ (by decide) rfl).trans h.held, upd_same, (f1 5 _ (by decide) rfl).trans h.left, Pds.tups f3 (noLs_map noL_mv _) h.leftD, (f1 6 _ (by decide) rfl).trans h.rows, Pds.tups f3 (noLs_map noL_row _) h.rowsD,
    (f1 7 _ (by decide) rfl).trans h.said, fun l e => (f2 l e).trans (h.line l e), h.inj, h.nd, h.hl, h.oa, h.ol, h.kindU (fun xs z => by cases z)⟩
theorem PM.setLeft (h : PM ow H C m M sd A) {ls : List V} {lf : List Mv} (d : Pds H ls (lf.map Mv.d)) : PM ow (upd H A.left (.lst ls)) C m { M with left := lf } sd { A with ls := ls } := by
  obtain ⟨f1, f2, f3⟩ := h.fr (i := 5) (q := A.left) (o := .lst ls) rfl
  exact ⟨(f1 0 m (by decide) rfl).trans h.obj, (f1 1 _ (by decide) rfl).trans h.dxo, (f1 2 _ (by decide) rfl).trans h.mem, (f1 3 _ (by decide) rfl).trans h.held, (f1 4 _ (by decide) rfl).trans h.tou, upd_same, Pds.tups f3 (noLs_map noL_mv _) d, (f1 6 _ (by decide) rfl).trans h.rows, Pds.tups f3 (noLs_map noL_row _) h.rowsD,
    (f1 7 _ (by decide) rfl).trans h.said, fun l e => (f2 l e).trans (h.line l e), h.inj, h.nd, h.hl, h.oa, h.ol, h.kindU (fun xs z => by cases z)⟩
theorem PM.rePace (h : PM ow H C m M sd A) {p : List Bool} : PM ow H C m { M with pace := p } sd A :=
  ⟨h.obj, h.dxo, h.mem, h.held, h.tou, h.left, h.leftD, h.rows, h.rowsD, h.said, h.line, h.inj, h.nd, h.hl, h.oa, h.ol, h.kind⟩
/-- a line is taken -/
theorem PM.takeL (h : PM ow H C m M sd A) {l : Nat} {p : Addr} {cs : List Nat} (hl2 : l < M.held.length) (e : H p = some (.lst (cs.map nV))) (np : ¬ ow p) (hn : M.holds l = false) :
    PM (fun c => ow c ∨ c = p) (upd H A.held (.lst ((heldV A M).set l (.ref p)))) C m { M with held := M.held.set l (some cs) } sd { A with ha := fun k => if k = l then p else A.ha k } := by
  obtain ⟨f1, f2, f3⟩ := h.fr (i := 3) (q := A.held) (o := .lst ((heldV A M).set l (.ref p))) rfl
  have hs : ∀ k, Mst.holds { M with held := M.held.set l (some cs) } k = true ↔ k = l ∨ M.holds k = true := fun k => by
    rw [Mst.holds_iff, Mst.holds_iff]
    by_cases ek : l = k
    · subst ek
      simp only [List.getElem?_set_self hl2, true_or, iff_true]
      exact ⟨cs, rfl⟩
    · simp only [List.getElem?_set_ne ek]
      exact ⟨.inr, fun z => z.elim (fun z => absurd z.symm ek) id⟩
  have cl : ∀ k, k ≠ l → Mst.cellsOf { M with held := M.held.set l (some cs) } k = M.cellsOf k := fun k ek => by
    unfold Mst.cellsOf
    rw [List.getElem?_set_ne (fun z => ek z.symm)]
  have cll : Mst.cellsOf { M with held := M.held.set l (some cs) } l = cs := Mst.cellsOf_of (List.getElem?_set_self hl2)
  have hb : ∀ k, k ≠ l → Mst.holds { M with held := M.held.set l (some cs) } k = M.holds k := fun k ek => by
    have := hs k
    cases h1 : Mst.holds { M with held := M.held.set l (some cs) } k <;> cases h2 : M.holds k <;> simp_all
  have nl : ∀ k, M.holds k = true → k ≠ l := fun k hk z => by rw [z, hn] at hk; cases hk
  have pall : p ∉ A.all m := fun z => np (h.oa _ z)
  have ph : p ≠ A.held := fun z => pall (by rw [z]; exact List.mem_of_getElem? (i := 3) rfl)
  refine ⟨(f1 0 m (by decide) rfl).trans h.obj, (f1 1 _ (by decide) rfl).trans h.dxo, (f1 2 _ (by decide) rfl).trans h.mem, ?_, (f1 4 _ (by decide) rfl).trans h.tou, (f1 5 _ (by decide) rfl).trans h.left, Pds.tups f3 (noLs_map noL_mv _) h.leftD, (f1 6 _ (by decide) rfl).trans h.rows, Pds.tups f3 (noLs_map noL_row _) h.rowsD,
    (f1 7 _ (by decide) rfl).trans h.said, fun j hj => ?_, fun j j' hj hj' ej => ?_, h.nd, fun j hj => ?_, fun c hc => .inl (h.oa c hc), fun j hj => ?_, fun c hc => ?_⟩
  · show upd H A.held _ A.held = _
    rw [upd_same]
    congr 2
    refine slot_set (by simp) (fun k ek => ?_) ?_
    · unfold slotV
      rw [hb k ek]
      simp only [if_neg ek]
    · unfold slotV
      rw [if_pos ((hs l).mpr (.inl rfl))]
      simp
  · by_cases ej : j = l
    · subst ej
      simp only [eq_self, if_true]
      rw [upd_ne ph, cll]; exact e
    · have hj' : M.holds j = true := ((hs j).mp hj).resolve_left ej
      simp only [if_neg ej]
      rw [f2 j hj', cl j ej]; exact h.line j hj'
  · rcases (hs j).mp hj with rfl | g
    · rcases (hs j').mp hj' with rfl | g'
      · rfl
      · simp only [eq_self, if_true, if_neg (nl j' g')] at ej
        exact absurd (h.ol j' g') (by rw [← ej]; exact np)
    · rcases (hs j').mp hj' with rfl | g'
      · simp only [eq_self, if_true, if_neg (nl j g)] at ej
        exact absurd (h.ol j g) (by rw [ej]; exact np)
      · simp only [if_neg (nl j g), if_neg (nl j' g')] at ej
        exact h.inj j j' g g' ej
  · by_cases ej : j = l
    · simp only [if_pos ej]; exact pall
    · simp only [if_neg ej]
      exact h.hl j (((hs j).mp hj).resolve_left ej)
  · by_cases ej : j = l
    · simp only [if_pos ej]; exact .inr trivial
    · simp only [if_neg ej]
      exact .inl (h.ol j (((hs j).mp hj).resolve_left ej))
  · rcases hc with hc | rfl
    · exact h.kindU (fun xs z => by cases z) c hc
    · exact ⟨_, by rw [upd_ne ph]; exact e, fun xs z => by cases z⟩
/-- a line is written -/
theorem PM.writeL (h : PM ow H C m M sd A) {l : Nat} {cs : List Nat} (hl : M.holds l = true) : PM ow (upd H (A.ha l) (.lst (cs.map nV))) C m { M with held := M.held.set l (some cs) } sd A := by
  have hl2 := Mst.holds_lt hl
  have f1 : ∀ (j : Nat) (c : Addr), (A.all m)[j]? = some c → upd H (A.ha l) (.lst (cs.map nV)) c = H c := fun j c e => upd_ne (fun z => h.hl l hl (by rw [← z]; exact List.mem_of_getElem? e))
  have f3 : ∀ c xs, H c = some (.tup xs) → upd H (A.ha l) (.lst (cs.map nV)) c = some (.tup xs) := fun c xs e => by
    rw [upd_ne (fun z => h.notTup e (by rw [z]; exact h.ol l hl))]; exact e
  have hs : ∀ k, Mst.holds { M with held := M.held.set l (some cs) } k = M.holds k := fun k => by
    by_cases ek : l = k
    · subst ek
      rw [hl]
      exact Mst.holds_iff.mpr ⟨cs, List.getElem?_set_self hl2⟩
    · unfold Mst.holds
      rw [List.getElem?_set_ne ek]
  have cll : Mst.cellsOf { M with held := M.held.set l (some cs) } l = cs := Mst.cellsOf_of (List.getElem?_set_self hl2)
  refine ⟨(f1 0 m rfl).trans h.obj, (f1 1 _ rfl).trans h.dxo, (f1 2 _ rfl).trans h.mem, ?_, (f1 4 _ rfl).trans h.tou, (f1 5 _ rfl).trans h.left, Pds.tups f3 (noLs_map noL_mv _) h.leftD, (f1 6 _ rfl).trans h.rows, Pds.tups f3 (noLs_map noL_row _) h.rowsD, (f1 7 _ rfl).trans h.said,
    fun j hj => ?_, fun j j' hj hj' ej => h.inj j j' (by rw [← hs]; exact hj) (by rw [← hs]; exact hj') ej, h.nd, fun j hj => h.hl j (by rw [← hs]; exact hj), h.oa, fun j hj => h.ol j (by rw [← hs]; exact hj), h.kindU (fun xs z => by cases z)⟩
  · rw [(f1 3 _ rfl).trans h.held]
    congr 2
    exact (slot_congr (by simp) fun k => by unfold slotV; rw [hs]).symm
  · rw [hs] at hj
    by_cases ej : j = l
    · subst ej; rw [upd_same, cll]
    · rw [upd_ne (fun z => ej (h.inj j l hj hl z)), h.line j hj]
      unfold Mst.cellsOf
      rw [List.getElem?_set_ne (fun z => ej z.symm)]
/-- a line is not held any more -/
theorem PM.unhold (h : PM ow H C m M sd A) {l : Nat} : PM ow (upd H A.held (.lst ((heldV A M).set l .non))) C m { M with held := M.held.set l none } sd A := by
  obtain ⟨f1, f2, f3⟩ := h.fr (i := 3) (q := A.held) (o := .lst ((heldV A M).set l .non)) rfl
  have hs : ∀ j, Mst.holds { M with held := M.held.set l none } j = true ↔ j ≠ l ∧ M.holds j = true := fun j => by
    rw [Mst.holds_iff, Mst.holds_iff]
    by_cases ek : l = j
    · subst ek
      constructor
      · rintro ⟨cs, e⟩
        simp only [List.getElem?_set] at e
        split at e <;> simp_all
      · rintro ⟨z, _⟩; exact absurd rfl z
    · simp only [List.getElem?_set_ne ek]
      exact ⟨fun z => ⟨fun q => ek q.symm, z⟩, fun z => z.2⟩
  have cl : ∀ j, j ≠ l → Mst.cellsOf { M with held := M.held.set l none } j = M.cellsOf j := fun j ek => by
    unfold Mst.cellsOf
    rw [List.getElem?_set_ne (fun z => ek z.symm)]
  have hb : ∀ k, k ≠ l → Mst.holds { M with held := M.held.set l none } k = M.holds k := fun k ek => by
    have := hs k
    cases h1 : Mst.holds { M with held := M.held.set l none } k <;> cases h2 : M.holds k <;> simp_all
  refine ⟨(f1 0 m (by decide) rfl).trans h.obj, (f1 1 _ (by decide) rfl).trans h.dxo, (f1 2 _ (by decide) rfl).trans h.mem, ?_, (f1 4 _ (by decide) rfl).trans h.tou, (f1 5 _ (by decide) rfl).trans h.left, Pds.tups f3 (noLs_map noL_mv _) h.leftD, (f1 6 _ (by decide) rfl).trans h.rows, Pds.tups f3 (noLs_map noL_row _) h.rowsD,
    (f1 7 _ (by decide) rfl).trans h.said, fun j hj => by obtain ⟨q1, q2⟩ := (hs j).mp hj; rw [f2 j q2, cl j q1]; exact h.line j q2, fun j j' hj hj' ej => h.inj j j' ((hs j).mp hj).2 ((hs j').mp hj').2 ej, h.nd, fun j hj => h.hl j ((hs j).mp hj).2, h.oa, fun j hj => h.ol j ((hs j).mp hj).2, h.kindU (fun xs z => by cases z)⟩
  rw [upd_same]
  congr 2
  refine slot_set (by simp) (fun k ek => ?_) ?_
  · unfold slotV; rw [hb k ek]
  · unfold slotV
    rw [if_neg (fun z => ((hs l).mp z).1 rfl)]
end
end Vt
namespace Vt
open PySem PySem.Spec PyProof.Rows L2
section
variable {P : Program} {w : World} {K : PySem.W.Frag} {mg : Str → Option Value} {base : Heap} {C : Addr}
abbrev st_Machine_tell : Stmt := (inClass (topS 25) 12)
abbrev nm_Machine_tell : List Str := ["self", "word", "place", "number"]
theorem sc_Machine_tell : FnScope ["self", "word", "place", "number"] ["self", "word", "place", "number"] (defScope st_Machine_tell) := ⟨rfl, rfl, rfl, by decide +kernel, rfl, by decide +kernel, by decide +kernel⟩
def spTell (C : Addr) : Sp := fun vs H Q _ => ∃ (ow : Addr → Prop) (m : Addr) (M : Mst) (sd : List Nat) (A : PA) (wd : Str) (p n : Nat), vs = [.ref m, .str wd, nV p, nV n] ∧ PM ow H C m M sd A ∧ M.rows.length ≤ 900000 ∧
  ∀ (H' : Hp) (A' : PA), PM ow H' C m (M.tell wd p n) sd A' → Keep ow ow H H' → A'.ords = A.ords → A'.prog = A.prog → Q .non H'
theorem ok_tell {f : Addr} {fd : FuncData} (F : Fun K "tell" "Machine.tell" st_Machine_tell f fd) (c : MC K C) : FnOk P w K mg base CX0 1 f fd ["self", "word", "place", "number"] (spTell C) := by
  refine F.ok sc_Machine_tell (fun vs H Q E h => ?_) (fun cdv A outer s H vs Q E hr h => ?_)
  · obtain ⟨ow, m, M, sd, A, wd, p, n, rfl, _⟩ := h
    rfl
  · obtain ⟨ow, m, M, sd, A, wd, p, n, rfl, hM, hl, q⟩ := h
    refine ⟨_, (pss_one (ps_expr (pe_bm PySem.F.plainAttrs_list PySem.F.slot_list_append PySem.F.type_list_append mt_append (pe_fld (pv 0) rfl) (pa_cons (pe_tup (pa_cons (pe_fld (pv 0) rfl) (pa_cons (pv 1) (pa_cons (pv 2) (pa_cons (pv 3) pa_nil))))) pa_nil)))), ?_⟩
    have xl : A.xs.length = M.rows.length := by rw [hM.rowsD.len, List.length_map]
    refine ⟨_, rfl, m, C, _, _, _, rfl, hM.obj, c.cl, c.n _ (by decide), rfl, .inl ⟨rfl, _, sqL_l hM.rows⟩, _, rfl, m, C, _, _, _, rfl, hM.obj, c.cl, c.n _ (by decide), rfl, _, rfl, _, rfl, _, rfl, by show 4 ≤ sizeLine; decide, fun T nT => ?_⟩
    obtain ⟨g1, g2, g3⟩ := hM.tell (w := wd) (p := p) (n := n) nT
    exact ⟨A.rows, A.xs, _, rfl, rfl, g1, big (by omega), q _ _ g2 g3 rfl rfl⟩
abbrev st_Machine_line_of : Stmt := (inClass (topS 25) 7)
abbrev nm_Machine_line_of : List Str := ["self", "cell", "line", "first"]
theorem sc_Machine_line_of : FnScope ["self", "cell", "line", "first"] ["self", "cell"] (defScope st_Machine_line_of) := ⟨rfl, rfl, rfl, by decide +kernel, rfl, by decide +kernel, by decide +kernel⟩
def spLineOf (C : Addr) : Sp := fun vs H Q _ => ∃ (ow : Addr → Prop) (m : Addr) (M : Mst) (sd : List Nat) (A : PA) (cells k : Nat), vs = [.ref m, nV k] ∧ PM ow H C m M sd A ∧ MOk0 cells M ∧ k < cells ∧ M.rows.length ≤ 800000 ∧
  ∀ (H' : Hp) (ow' : Addr → Prop) (A' : PA), PM ow' H' C m (M.take (k / 4)) sd A' → Keep ow ow' H H' → A'.ords = A.ords → A'.prog = A.prog → Q (.ref (A'.ha (k / 4))) H'
theorem ok_lineof {f : Addr} {fd : FuncData} (F : Fun K "line_of" "Machine.line_of" st_Machine_line_of f fd) (c : MC K C) (CC : Consts K mg) (m_tell : MCallee P w K mg base C "tell" 1 (spTell C)) : FnOk P w K mg base CX0 2 f fd ["self", "cell"] (spLineOf C) := by
  obtain ⟨tL, mc_LINE⟩ := CC.line
  refine F.ok sc_Machine_line_of (fun vs H Q E h => ?_) (fun cdv A outer s H vs Q E hr h => ?_)
  · obtain ⟨ow, m, M, sd, A, cells, k, rfl, _⟩ := h
    rfl
  · obtain ⟨ow, m, M, sd, A, cells, k, rfl, hM, ok, hk, hrow, q⟩ := h
    have hl := ok.line hk
    have c16 : cells ≤ 16 := by have := ok.lines; omega
    have lcells : 4 * (k / 4) + 4 ≤ cells := by have := ok.lines; omega
    refine ⟨_, (pss_cons (ps_set (i := 2) sc_Machine_line_of.nd rfl (Or.inl rfl) (pe_op op_fdiv (pv 1) (pe_glob (v := .int 4) rfl mc_LINE ⟨_, rfl⟩)))
  (pss_cut (ps_if (pt_cmpR op_isN (pe_ix ix_lt (pe_fld (pv 0) rfl) (pv 2) (fun _ _ => rfl)) pe_non (nomark _)) (pss_cons (ps_set (i := 3) sc_Machine_line_of.nd rfl (Or.inl rfl) (pe_op op_mul (pv 2) (pe_glob (v := .int 4) rfl mc_LINE ⟨_, rfl⟩)))
  (pss_cons (ps_asg (pe_slice sl_list (pe_fld (pv 0) rfl) (po_some (pv 3)) (po_some (pe_op op_add (pv 3) (pe_glob (v := .int 4) rfl mc_LINE ⟨_, rfl⟩)))) (pg_sub (pe_fld (pv 0) rfl) (pv 2) set_list))
  (pss_one (ps_expr (pe_mcal m_tell hr (by first | decide | exact Nat.le_refl _) (pv 0) (pa_cons pe_str (pa_cons (pv 2) (pa_cons pe_int pa_nil)))))))) pss_nil)
  (pss_one (ps_ret (pe_ix ix_lt (pe_fld (pv 0) rfl) (pv 2) (fun _ _ => rfl)))))), ?_⟩
    refine ⟨_, rfl, _, _, rfl, rfl, ⟨by decide, by decide⟩, ?_⟩
    refine chgN (y := nV (k / 4)) (congrArg V.int (by omega)) ?_
    refine ⟨fun σ' H' => ∃ (y : Option V), σ' = [some (.ref m), some (nV k), some (nV (k / 4)), y] ∧ ∃ (ow' : Addr → Prop) (A' : PA), PM ow' H' C m (M.take (k / 4)) sd A' ∧ Keep ow ow' H H' ∧ A'.ords = A.ords ∧ A'.prog = A.prog, ?_, fun σ' H' hMid => ?_⟩
    · have hlh : k / 4 < M.held.length := by rw [ok.held]; exact hl
      have g : atI (heldV A M) ((k / 4 : Nat) : Int) = some (slotV A M (k / 4)) := atI_nat (heldV_get hlh)
      refine ⟨_, rfl, m, C, _, _, _, rfl, hM.obj, c.cl, c.n _ (by decide), rfl, _, rfl, A.held, _, _, _, rfl, rfl, sqA_l hM.held, g, ?_⟩
      unfold slotV
      cases hh : M.holds (k / 4) with
      | true =>
        rw [if_pos rfl]
        refine ⟨rfl, _, rfl, iteF ?_⟩
        exact ⟨_, rfl, ow, A, by rw [Mst.take, if_pos hh]; exact hM, Keep.refl, rfl, rfl⟩
      | false =>
        rw [if_neg (by simp)]
        refine ⟨rfl, _, rfl, iteT ?_⟩
        -- first = line * LINE; self.held[line] = self.memory[first:first + LINE]
        refine ⟨_, rfl, _, _, rfl, rfl, .inl ⟨by omega, by omega⟩, ?_⟩
        refine chgN (y := nV (4 * (k / 4))) (congrArg V.int (by omega)) ?_
        refine ⟨_, rfl, m, C, _, _, _, rfl, hM.obj, c.cl, c.n _ (by decide), rfl, _, rfl, _, rfl, _, rfl, _, _, rfl, rfl, _, rfl, A.mem, _, rfl, sqL_l hM.mem, fun p np => ?_⟩
        have ecut : cutV (M.mem.map nV) (some ((4 * (k / 4) : Nat) : Int)) (some (((4 * (k / 4) : Nat) : Int) + 4)) = ((M.mem.drop (4 * (k / 4))).take 4).map nV := by
          have := cut_nat (α := V) (M.mem.map nV) (4 * (k / 4)) (4 * (k / 4) + 4) (by omega) (by rw [List.length_map, ok.mem]; omega)
          rw [show ((4 * (k / 4) + 4 : Nat) : Int) = ((4 * (k / 4) : Nat) : Int) + 4 by omega] at this
          rw [this, ← List.map_drop, ← List.map_take]
          congr 2; omega
        have s1 := same_new (o := .lst (cutV (M.mem.map nV) (some ((4 * (k / 4) : Nat) : Int)) (some (((4 * (k / 4) : Nat) : Int) + 4)))) np
        have hp : (upd H p (.lst (cutV (M.mem.map nV) (some ((4 * (k / 4) : Nat) : Int)) (some (((4 * (k / 4) : Nat) : Int) + 4))))) p = some (.lst (((M.mem.drop (4 * (k / 4))).take 4).map nV)) := by rw [upd_same, ecut]
        have hM1 := hM.same s1
        have now : ¬ ow p := hM.fresh np
        generalize upd H p (.lst (cutV (M.mem.map nV) (some ((4 * (k / 4) : Nat) : Int)) (some (((4 * (k / 4) : Nat) : Int) + 4)))) = H1 at s1 hp hM1
        refine ⟨_, rfl, m, C, _, _, _, rfl, hM1.obj, c.cl, c.n _ (by decide), rfl, _, rfl, A.held, _, _, k / 4, rfl, rfl, hM1.held, ixN_of rfl (by rw [heldV_len]; exact hlh), ?_⟩
        have hM2 := hM1.takeL hlh hp now hh
        have k2 : Keep ow (fun c => ow c ∨ c = p) H (upd H1 A.held (.lst ((heldV A M).set (k / 4) (.ref p)))) := fun c o nc hc => by
          obtain ⟨e1, _⟩ := Keep.ofOw (H := H1) (o := .lst ((heldV A M).set (k / 4) (.ref p))) (hM1.oa A.held (List.mem_of_getElem? (i := 3) rfl)) c o nc (s1 _ _ hc)
          exact ⟨e1, fun z => z.elim nc fun e => by rw [e, np] at hc; cases hc⟩
        generalize upd H1 A.held (.lst ((heldV A M).set (k / 4) (.ref p))) = H2 at hM2 k2
        refine ⟨_, rfl, m, _, _, rfl, hM2.obj, fsM_no (by decide), _, rfl, _, m, _, sd, _, "take", k / 4, 0, rfl, hM2, by show M.rows.length ≤ 900000; omega, fun H3 A3 hM3 k3 eo ep => ?_⟩
        refine ⟨_, rfl, _, A3, ?_, k2.trans k3, eo, ep⟩
        rw [Mst.take, if_neg (by rw [hh]; simp)]
        exact hM3
    · obtain ⟨y, rfl, ow', A', hM', k', eo, ep⟩ := hMid
      have hh := take_holds ok hl
      have ok' := ok.take hl
      have g : atI (heldV A' (M.take (k / 4))) ((k / 4 : Nat) : Int) = some (slotV A' (M.take (k / 4)) (k / 4)) := atI_nat (heldV_get (by rw [ok'.held]; exact hl))
      unfold slotV at g
      rw [if_pos hh] at g
      exact ⟨_, rfl, m, C, _, _, _, rfl, hM'.obj, c.cl, c.n _ (by decide), rfl, _, rfl, A'.held, _, _, _, rfl, rfl, sqA_l hM'.held, g, q H' ow' A' hM' k' eo ep⟩
abbrev st_Machine_read_cell : Stmt := (inClass (topS 25) 8)
abbrev nm_Machine_read_cell : List Str := ["self", "cell", "number"]
theorem sc_Machine_read_cell : FnScope ["self", "cell", "number"] ["self", "cell"] (defScope st_Machine_read_cell) := ⟨rfl, rfl, rfl, by decide +kernel, rfl, by decide +kernel, by decide +kernel⟩
def spReadCell (C : Addr) : Sp := fun vs H Q _ => ∃ (ow : Addr → Prop) (m : Addr) (M : Mst) (sd : List Nat) (A : PA) (cells k : Nat), vs = [.ref m, nV k] ∧ PM ow H C m M sd A ∧ MOk0 cells M ∧ k < cells ∧ M.rows.length ≤ 700000 ∧
  ∀ (H' : Hp) (ow' : Addr → Prop) (A' : PA), PM ow' H' C m (M.read k) sd A' → Keep ow ow' H H' → A'.ords = A.ords → A'.prog = A.prog → Q (nV (M.readN k)) H'
theorem ok_readcell {f : Addr} {fd : FuncData} (F : Fun K "read_cell" "Machine.read_cell" st_Machine_read_cell f fd) (c : MC K C) (CC : Consts K mg) (m_tell : MCallee P w K mg base C "tell" 1 (spTell C)) (m_line_of : MCallee P w K mg base C "line_of" 2 (spLineOf C)) : FnOk P w K mg base CX0 3 f fd ["self", "cell"] (spReadCell C) := by
  obtain ⟨tL, mc_LINE⟩ := CC.line
  refine F.ok sc_Machine_read_cell (fun vs H Q E h => ?_) (fun cdv A outer s H vs Q E hr h => ?_)
  · obtain ⟨ow, m, M, sd, A, cells, k, rfl, _⟩ := h
    rfl
  · obtain ⟨ow, m, M, sd, A, cells, k, rfl, hM, ok, hk, hrow, q⟩ := h
    have hl := ok.line hk
    refine ⟨_, (pss_cons (ps_set (i := 2) sc_Machine_read_cell.nd rfl (Or.inl rfl) (pe_ix ix_lt (pe_mcal m_line_of hr (by first | decide | exact Nat.le_refl _) (pv 0) (pa_cons (pv 1) pa_nil)) (pe_op op_mod (pv 1) (pe_glob (v := .int 4) rfl mc_LINE ⟨_, rfl⟩)) (fun _ _ => rfl)))
  (pss_cons (ps_expr (pe_mcal m_tell hr (by first | decide | exact Nat.le_refl _) (pv 0) (pa_cons pe_str (pa_cons (pv 1) (pa_cons (pv 2) pa_nil)))))
  (pss_one (ps_ret (pv 2))))), ?_⟩
    refine ⟨_, rfl, m, _, _, rfl, hM.obj, fsM_no (by decide), _, rfl, ow, m, M, sd, A, cells, k, rfl, hM, ok, hk, by omega, fun H1 ow1 A1 hM1 k1 eo1 ep1 => ?_⟩
    have ok1 := ok.take hl
    have hh := take_holds ok hl
    obtain ⟨cs, ecs⟩ := Mst.holds_iff.mp hh
    have clen : ((M.take (k / 4)).cellsOf (k / 4)).length = 4 := by rw [Mst.cellsOf_of ecs]; exact ok1.four _ _ ecs
    refine ⟨_, rfl, _, _, rfl, rfl, (by show (0 : Int) < 4; decide), A1.ha (k / 4), _, (k : Int) % 4, nV (M.readN k), rfl, rfl, sqA_l (hM1.line _ hh), ?_, ?_⟩
    · rw [show (k : Int) % 4 = ((k % 4 : Nat) : Int) by omega]
      exact atI_nat (nat_at (by rw [clen]; omega))
    have tr := (take_rows (M := M) (l := k / 4)).1
    refine ⟨_, rfl, m, _, _, rfl, hM1.obj, fsM_no (by decide), _, rfl, _, rfl, ow1, m, _, sd, A1, "read", k, M.readN k, rfl, hM1, by omega, fun H2 A2 hM2 k2 eo2 ep2 => ?_⟩
    exact ⟨_, rfl, q H2 ow1 A2 hM2 (k1.trans k2) (eo2.trans eo1) (ep2.trans ep1)⟩
abbrev st_Machine_write_cell : Stmt := (inClass (topS 25) 9)
abbrev nm_Machine_write_cell : List Str := ["self", "cell", "number"]
theorem sc_Machine_write_cell : FnScope ["self", "cell", "number"] ["self", "cell", "number"] (defScope st_Machine_write_cell) := ⟨rfl, rfl, rfl, by decide +kernel, rfl, by decide +kernel, by decide +kernel⟩
def spWriteCell (C : Addr) : Sp := fun vs H Q _ => ∃ (ow : Addr → Prop) (m : Addr) (M : Mst) (sd : List Nat) (A : PA) (cells k n : Nat), vs = [.ref m, nV k, nV n] ∧ PM ow H C m M sd A ∧ MOk0 cells M ∧ k < cells ∧ M.rows.length ≤ 700000 ∧
  ∀ (H' : Hp) (ow' : Addr → Prop) (A' : PA), PM ow' H' C m (M.write k n) sd A' → Keep ow ow' H H' → A'.ords = A.ords → A'.prog = A.prog → Q .non H'
theorem ok_writecell {f : Addr} {fd : FuncData} (F : Fun K "write_cell" "Machine.write_cell" st_Machine_write_cell f fd) (c : MC K C) (CC : Consts K mg) (m_tell : MCallee P w K mg base C "tell" 1 (spTell C)) (m_line_of : MCallee P w K mg base C "line_of" 2 (spLineOf C)) : FnOk P w K mg base CX0 3 f fd ["self", "cell", "number"] (spWriteCell C) := by
  obtain ⟨tL, mc_LINE⟩ := CC.line
  refine F.ok sc_Machine_write_cell (fun vs H Q E h => ?_) (fun cdv A outer s H vs Q E hr h => ?_)
  · obtain ⟨ow, m, M, sd, A, cells, k, n, rfl, _⟩ := h
    rfl
  · obtain ⟨ow, m, M, sd, A, cells, k, n, rfl, hM, ok, hk, hrow, q⟩ := h
    have hl := ok.line hk
    refine ⟨_, (pss_cons (ps_asg (pv 2) (pg_sub (pe_mcal m_line_of hr (by first | decide | exact Nat.le_refl _) (pv 0) (pa_cons (pv 1) pa_nil)) (pe_op op_mod (pv 1) (pe_glob (v := .int 4) rfl mc_LINE ⟨_, rfl⟩)) set_list))
  (pss_cons (ps_asg pe_bl (pg_sub (pe_fld (pv 0) rfl) (pe_op op_fdiv (pv 1) (pe_glob (v := .int 4) rfl mc_LINE ⟨_, rfl⟩)) set_list))
  (pss_one (ps_expr (pe_mcal m_tell hr (by first | decide | exact Nat.le_refl _) (pv 0) (pa_cons pe_str (pa_cons (pv 1) (pa_cons (pv 2) pa_nil)))))))), ?_⟩
    refine ⟨_, rfl, _, rfl, m, _, _, rfl, hM.obj, fsM_no (by decide), _, rfl, ow, m, M, sd, A, cells, k, rfl, hM, ok, hk, by omega, fun H1 ow1 A1 hM1 k1 eo1 ep1 => ?_⟩
    have ok1 := ok.take hl
    have hh := take_holds ok hl
    obtain ⟨cs, ecs⟩ := Mst.holds_iff.mp hh
    have clen : ((M.take (k / 4)).cellsOf (k / 4)).length = 4 := by rw [Mst.cellsOf_of ecs]; exact ok1.four _ _ ecs
    refine ⟨_, rfl, _, _, rfl, rfl, (by show (0 : Int) < 4; decide), A1.ha (k / 4), _, (k : Int) % 4, k % 4, rfl, rfl, hM1.line _ hh, ixN_of (by omega) (by rw [List.length_map, clen]; omega), ?_⟩
    rw [show (((M.take (k / 4)).cellsOf (k / 4)).map nV).set (k % 4) (nV n) = (((M.take (k / 4)).cellsOf (k / 4)).set (k % 4) n).map nV from set_map rfl]
    have hM2 := hM1.writeL (cs := ((M.take (k / 4)).cellsOf (k / 4)).set (k % 4) n) hh
    have k2 := k1.trans (Keep.ofOw (o := .lst ((((M.take (k / 4)).cellsOf (k / 4)).set (k % 4) n).map nV)) (hM1.ol _ hh))
    generalize upd H1 (A1.ha (k / 4)) (.lst ((((M.take (k / 4)).cellsOf (k / 4)).set (k % 4) n).map nV)) = H2 at hM2 k2
    -- self.touched[cell // LINE] = True
    refine ⟨_, rfl, m, C, _, _, _, rfl, hM2.obj, c.cl, c.n _ (by decide), rfl, _, rfl, _, _, rfl, rfl, ⟨by decide, by decide⟩, A1.tou, _, (k : Int) / 4, k / 4, rfl, rfl, hM2.tou, ixN_of (by omega) (by rw [List.length_map]; show k / 4 < (M.take (k / 4)).tou.length; rw [ok1.tou]; exact hl), ?_⟩
    rw [show ((M.take (k / 4)).tou.map V.bl).set (k / 4) (.bl true) = ((M.take (k / 4)).tou.set (k / 4) true).map V.bl from by rw [List.map_set]]
    have hM3 := hM2.setTou (t := (M.take (k / 4)).tou.set (k / 4) true)
    have k3 := k2.trans (Keep.ofOw (o := .lst (((M.take (k / 4)).tou.set (k / 4) true).map V.bl)) (hM2.oa A1.tou (List.mem_of_getElem? (i := 4) rfl)))
    generalize upd H2 A1.tou (.lst (((M.take (k / 4)).tou.set (k / 4) true).map V.bl)) = H3 at hM3 k3
    have tr := (take_rows (M := M) (l := k / 4)).1
    refine ⟨_, rfl, m, _, _, rfl, hM3.obj, fsM_no (by decide), _, rfl, _, rfl, ow1, m, _, sd, _, "write", k, n, rfl, hM3, by show (M.take (k / 4)).rows.length ≤ 900000; omega, fun H4 A4 hM4 k4 eo4 ep4 => ?_⟩
    exact q H4 ow1 A4 hM4 (k3.trans k4) (eo4.trans eo1) (ep4.trans ep1)
end
end Vt
namespace Vt
open PySem PySem.Spec PyProof.Rows L2
section
variable {P : Program} {w : World} {K : PySem.W.Frag} {mg : Str → Option Value} {base : Heap} {C : Addr}
abbrev st_Machine_clean_line : Stmt := (inClass (topS 25) 10)
abbrev nm_Machine_clean_line : List Str := ["self", "line", "first"]
theorem sc_Machine_clean_line : FnScope ["self", "line", "first"] ["self", "line"] (defScope st_Machine_clean_line) := ⟨rfl, rfl, rfl, by decide +kernel, rfl, by decide +kernel, by decide +kernel⟩
def spCleanLine (C : Addr) : Sp := fun vs H Q _ => ∃ (ow : Addr → Prop) (m : Addr) (M : Mst) (sd : List Nat) (A : PA) (cells l : Nat), vs = [.ref m, nV l] ∧ PM ow H C m M sd A ∧ MOk0 cells M ∧ l < cells / 4 ∧ M.rows.length ≤ 800000 ∧
  ∀ (H' : Hp) (A' : PA), PM ow H' C m (M.clean l) sd A' → Keep ow ow H H' → A'.ords = A.ords → A'.prog = A.prog → Q .non H'
theorem ok_cleanline {f : Addr} {fd : FuncData} (F : Fun K "clean_line" "Machine.clean_line" st_Machine_clean_line f fd) (c : MC K C) (CC : Consts K mg) (m_tell : MCallee P w K mg base C "tell" 1 (spTell C)) : FnOk P w K mg base CX0 2 f fd ["self", "line"] (spCleanLine C) := by
  obtain ⟨tL, mc_LINE⟩ := CC.line
  refine F.ok sc_Machine_clean_line (fun vs H Q E h => ?_) (fun cdv A outer s H vs Q E hr h => ?_)
  · obtain ⟨ow, m, M, sd, A, cells, l, rfl, _⟩ := h
    rfl
  · obtain ⟨ow, m, M, sd, A, cells, l, rfl, hM, ok, hl, hrow, q⟩ := h
    have lc : 4 * l + 4 ≤ cells := by have := ok.lines; omega
    have c16 : cells ≤ 16 := by have := ok.lines; omega
    have tl : l < M.tou.length := by rw [ok.tou]; exact hl
    refine ⟨_, (pss_one (ps_if (pt_val (pe_ix ix_lt (pe_fld (pv 0) rfl) (pv 1) (fun _ _ => rfl))) (pss_cons (ps_set (i := 2) sc_Machine_clean_line.nd rfl (Or.inl rfl) (pe_op op_mul (pv 1) (pe_glob (v := .int 4) rfl mc_LINE ⟨_, rfl⟩)))
  (pss_cons (ps_asg (pe_ix ix_lt (pe_fld (pv 0) rfl) (pv 1) (fun _ _ => rfl)) (pg_slset (pe_fld (pv 0) rfl) (po_some (pv 2)) (po_some (pe_op op_add (pv 2) (pe_glob (v := .int 4) rfl mc_LINE ⟨_, rfl⟩)))))
  (pss_cons (ps_asg pe_bl (pg_sub (pe_fld (pv 0) rfl) (pv 1) set_list))
  (pss_one (ps_expr (pe_mcal m_tell hr (by first | decide | exact Nat.le_refl _) (pv 0) (pa_cons pe_str (pa_cons (pv 1) (pa_cons pe_int pa_nil))))))))) pss_nil)), ?_⟩
    have g : atI (M.tou.map V.bl) (l : Int) = some (.bl (M.touched l)) := atI_nat (by
      rw [List.getElem?_map, List.getElem?_eq_getElem tl, Mst.touched, List.getD_eq_getElem?_getD, List.getElem?_eq_getElem tl]; rfl)
    refine ⟨_, rfl, m, C, _, _, _, rfl, hM.obj, c.cl, c.n _ (by decide), rfl, _, rfl, A.tou, _, _, _, rfl, rfl, sqA_l hM.tou, g, _, rfl, ?_⟩
    cases ht : M.touched l with
    | false => exact iteF (q H A (by rw [Mst.clean, if_neg (by rw [ht]; simp)]; exact hM) Keep.refl rfl rfl)
    | true =>
      refine iteT ?_
      have hh := ok.th l ht
      have hlh := Mst.holds_lt hh
      obtain ⟨cs, ecs⟩ := Mst.holds_iff.mp hh
      have clen : (M.cellsOf l).length = 4 := by rw [Mst.cellsOf_of ecs]; exact ok.four _ _ ecs
      have mlen : (M.mem.map nV).length = cells := by rw [List.length_map, ok.mem]
      have gh : atI (heldV A M) (l : Int) = some (slotV A M l) := atI_nat (heldV_get hlh)
      unfold slotV at gh
      rw [if_pos hh] at gh
      refine ⟨_, rfl, _, _, rfl, rfl, .inl ⟨by omega, by omega⟩, ?_⟩
      refine chgN (y := nV (4 * l)) (congrArg V.int (by omega)) ?_
      refine ⟨_, rfl, m, C, _, _, _, rfl, hM.obj, c.cl, c.n _ (by decide), rfl, _, rfl, A.held, _, _, _, rfl, rfl, sqA_l hM.held, gh, ?_⟩
      refine ⟨_, rfl, m, C, _, _, _, rfl, hM.obj, c.cl, c.n _ (by decide), rfl, _, rfl, _, rfl, _, rfl, _, _, rfl, rfl, _, rfl, A.mem, A.ha l, _, _, 4 * l, 4 * l + 4, rfl, rfl, rfl, congrArg some (by omega), hM.mem, hM.line l hh, fun z => hM.hl l hh (by rw [← z]; exact List.mem_of_getElem? (i := 2) rfl), by omega, by omega, by rw [mlen, List.length_map, clen]; exact big' (by omega), ?_⟩
      rw [show (M.mem.map nV).take (4 * l) ++ (M.cellsOf l).map nV ++ (M.mem.map nV).drop (4 * l + 4) = (M.mem.take (4 * l) ++ M.cellsOf l ++ M.mem.drop (4 * l + 4)).map nV by rw [List.map_append, List.map_append, List.map_take, List.map_drop]]
      have hM1 := hM.setMem (mm := M.mem.take (4 * l) ++ M.cellsOf l ++ M.mem.drop (4 * l + 4))
      have k1 : Keep ow ow H (upd H A.mem (.lst ((M.mem.take (4 * l) ++ M.cellsOf l ++ M.mem.drop (4 * l + 4)).map nV))) := Keep.ofOw (hM.oa A.mem (List.mem_of_getElem? (i := 2) rfl))
      generalize upd H A.mem (.lst ((M.mem.take (4 * l) ++ M.cellsOf l ++ M.mem.drop (4 * l + 4)).map nV)) = H1 at hM1 k1
      refine ⟨_, rfl, m, C, _, _, _, rfl, hM1.obj, c.cl, c.n _ (by decide), rfl, _, rfl, A.tou, _, _, l, rfl, rfl, hM1.tou, ixN_of rfl (by rw [List.length_map]; exact tl), ?_⟩
      rw [show (M.tou.map V.bl).set l (.bl false) = (M.tou.set l false).map V.bl from by rw [List.map_set]]
      have hM2 := hM1.setTou (t := M.tou.set l false)
      have k2 := k1.trans (Keep.ofOw (o := .lst ((M.tou.set l false).map V.bl)) (hM1.oa A.tou (List.mem_of_getElem? (i := 4) rfl)))
      generalize upd H1 A.tou (.lst ((M.tou.set l false).map V.bl)) = H2 at hM2 k2
      refine ⟨_, rfl, m, _, _, rfl, hM2.obj, fsM_no (by decide), _, rfl, ow, m, _, sd, _, "clean", l, 0, rfl, hM2, by show M.rows.length ≤ 900000; omega, fun H3 A3 hM3 k3 eo ep => ?_⟩
      refine q H3 A3 ?_ (k2.trans k3) eo ep
      rw [Mst.clean, if_pos ht]
      exact hM3
abbrev st_Machine_drop_line : Stmt := (inClass (topS 25) 11)
abbrev nm_Machine_drop_line : List Str := ["self", "line"]
theorem sc_Machine_drop_line : FnScope ["self", "line"] ["self", "line"] (defScope st_Machine_drop_line) := ⟨rfl, rfl, rfl, by decide +kernel, rfl, by decide +kernel, by decide +kernel⟩
def spDropLine (C : Addr) : Sp := fun vs H Q _ => ∃ (ow : Addr → Prop) (m : Addr) (M : Mst) (sd : List Nat) (A : PA) (cells l : Nat), vs = [.ref m, nV l] ∧ PM ow H C m M sd A ∧ MOk0 cells M ∧ l < cells / 4 ∧ M.rows.length ≤ 800000 ∧
  ∀ (H' : Hp) (A' : PA), PM ow H' C m (M.drop l) sd A' → Keep ow ow H H' → A'.ords = A.ords → A'.prog = A.prog → Q .non H'
theorem ok_dropline {f : Addr} {fd : FuncData} (F : Fun K "drop_line" "Machine.drop_line" st_Machine_drop_line f fd) (c : MC K C) (m_tell : MCallee P w K mg base C "tell" 1 (spTell C)) : FnOk P w K mg base CX0 2 f fd ["self", "line"] (spDropLine C) := by
  refine F.ok sc_Machine_drop_line (fun vs H Q E h => ?_) (fun cdv A outer s H vs Q E hr h => ?_)
  · obtain ⟨ow, m, M, sd, A, cells, l, rfl, _⟩ := h
    rfl
  · obtain ⟨ow, m, M, sd, A, cells, l, rfl, hM, ok, hl, hrow, q⟩ := h
    have tl : l < M.tou.length := by rw [ok.tou]; exact hl
    have hlh : l < M.held.length := by rw [ok.held]; exact hl
    refine ⟨_, (pss_one (ps_if (pt_cmpR op_notN (pe_ix ix_lt (pe_fld (pv 0) rfl) (pv 1) (fun _ _ => rfl)) pe_non (nomark _)) (pss_cons (ps_asg pe_non (pg_sub (pe_fld (pv 0) rfl) (pv 1) set_list))
  (pss_cons (ps_asg pe_bl (pg_sub (pe_fld (pv 0) rfl) (pv 1) set_list))
  (pss_one (ps_expr (pe_mcal m_tell hr (by first | decide | exact Nat.le_refl _) (pv 0) (pa_cons pe_str (pa_cons (pv 1) (pa_cons pe_int pa_nil)))))))) pss_nil)), ?_⟩
    have gh : atI (heldV A M) (l : Int) = some (slotV A M l) := atI_nat (heldV_get hlh)
    refine ⟨_, rfl, m, C, _, _, _, rfl, hM.obj, c.cl, c.n _ (by decide), rfl, _, rfl, A.held, _, _, _, rfl, rfl, sqA_l hM.held, gh, ?_⟩
    unfold slotV
    cases hh : M.holds l with
    | false =>
      rw [if_neg (by simp)]
      refine ⟨rfl, _, rfl, iteF ?_⟩
      exact q H A (by rw [Mst.drop, if_neg (by rw [hh]; simp)]; exact hM) Keep.refl rfl rfl
    | true =>
      rw [if_pos rfl]
      refine ⟨rfl, _, rfl, iteT ?_⟩
      refine ⟨_, rfl, m, C, _, _, _, rfl, hM.obj, c.cl, c.n _ (by decide), rfl, _, rfl, A.held, _, _, l, rfl, rfl, hM.held, ixN_of rfl (by rw [heldV_len]; exact hlh), ?_⟩
      have hM1 := hM.unhold (l := l)
      have k1 : Keep ow ow H (upd H A.held (.lst ((heldV A M).set l .non))) := Keep.ofOw (hM.oa A.held (List.mem_of_getElem? (i := 3) rfl))
      generalize upd H A.held (.lst ((heldV A M).set l .non)) = H1 at hM1 k1
      refine ⟨_, rfl, m, C, _, _, _, rfl, hM1.obj, c.cl, c.n _ (by decide), rfl, _, rfl, A.tou, _, _, l, rfl, rfl, hM1.tou, ixN_of rfl (by rw [List.length_map]; exact tl), ?_⟩
      rw [show (M.tou.map V.bl).set l (.bl false) = (M.tou.set l false).map V.bl from by rw [List.map_set]]
      have hM2 := hM1.setTou (t := M.tou.set l false)
      have k2 := k1.trans (Keep.ofOw (o := .lst ((M.tou.set l false).map V.bl)) (hM1.oa A.tou (List.mem_of_getElem? (i := 4) rfl)))
      generalize upd H1 A.tou (.lst ((M.tou.set l false).map V.bl)) = H2 at hM2 k2
      refine ⟨_, rfl, m, _, _, rfl, hM2.obj, fsM_no (by decide), _, rfl, ow, m, _, sd, _, "drop", l, 0, rfl, hM2, by show M.rows.length ≤ 900000; omega, fun H3 A3 hM3 k3 eo ep => ?_⟩
      refine q H3 A3 ?_ (k2.trans k3) eo ep
      rw [Mst.drop, if_pos hh]
      exact hM3
abbrev st_Machine_move_one : Stmt := (inClass (topS 25) 4)
abbrev nm_Machine_move_one : List Str := ["self", "source", "goal", "bell", "number"]
theorem sc_Machine_move_one : FnScope ["self", "source", "goal", "bell", "number"] ["self"] (defScope st_Machine_move_one) := ⟨rfl, rfl, rfl, by decide +kernel, rfl, by decide +kernel, by decide +kernel⟩
def spMoveOne (C : Addr) : Sp := fun vs H Q _ => ∃ (ow : Addr → Prop) (m : Addr) (M : Mst) (sd : List Nat) (A : PA) (cells : Nat), vs = [.ref m] ∧ PM ow H C m M sd A ∧ MOk0 cells M ∧ M.left ≠ [] ∧ M.rows.length ≤ 700000 ∧ M.left.length ≤ 5000 ∧
  ∀ (H' : Hp) (A' : PA), PM ow H' C m M.carry sd A' → Keep ow ow H H' → A'.ords = A.ords → A'.prog = A.prog → Q .non H'
theorem ok_moveone {f : Addr} {fd : FuncData} (F : Fun K "move_one" "Machine.move_one" st_Machine_move_one f fd) (c : MC K C) (m_tell : MCallee P w K mg base C "tell" 1 (spTell C)) : FnOk P w K mg base CX0 2 f fd ["self"] (spMoveOne C) := by
  refine F.ok sc_Machine_move_one (fun vs H Q E h => ?_) (fun cdv A outer s H vs Q E hr h => ?_)
  · obtain ⟨ow, m, M, sd, A, cells, rfl, _⟩ := h
    rfl
  · obtain ⟨ow, m, M, sd, A, cells, rfl, hM, ok, hne, hrow, hleft, q⟩ := h
    refine ⟨_, (pss_cons (ps_asg (pe_bm PySem.F.plainAttrs_list PySem.F.slot_list_pop PySem.F.type_list_pop mt_popAt (pe_fld (pv 0) rfl) (pa_cons pe_int pa_nil)) (pg_tup rfl (pgs_cons (pg_name (i := 1) sc_Machine_move_one.nd rfl (Or.inl rfl)) (pgs_cons (pg_name (i := 2) sc_Machine_move_one.nd rfl (Or.inl rfl)) (pgs_cons (pg_name (i := 3) sc_Machine_move_one.nd rfl (Or.inl rfl)) pgs_nil)))))
  (pss_cons (ps_set (i := 4) sc_Machine_move_one.nd rfl (Or.inl rfl) (pe_ix ix_lt (pe_fld (pv 0) rfl) (pv 1) (fun _ _ => rfl)))
  (pss_cons (ps_expr (pe_mcal m_tell hr (by first | decide | exact Nat.le_refl _) (pv 0) (pa_cons pe_str (pa_cons (pv 1) (pa_cons (pv 4) pa_nil)))))
  (pss_cons (ps_asg (pv 4) (pg_sub (pe_fld (pv 0) rfl) (pv 2) set_list))
  (pss_cons (ps_expr (pe_mcal m_tell hr (by first | decide | exact Nat.le_refl _) (pv 0) (pa_cons pe_str (pa_cons (pv 2) (pa_cons (pv 4) pa_nil)))))
  (pss_one (ps_if (pt_cmpR op_notN (pv 3) pe_non (nomark _)) (pss_one (ps_expr (pe_mcal m_tell hr (by first | decide | exact Nat.le_refl _) (pv 0) (pa_cons pe_str (pa_cons (pv 3) (pa_cons pe_int pa_nil)))))) pss_nil))))))), ?_⟩
    cases hlf : M.left with
    | nil => exact absurd hlf hne
    | cons mv r =>
      obtain ⟨hsrc, hgoal⟩ := ok.left mv (by rw [hlf]; simp)
      have hls := hM.leftD
      rw [hlf, List.map_cons] at hls
      obtain ⟨x0, xr, hx⟩ : ∃ x0 xr, A.ls = x0 :: xr := by
        cases e : A.ls with
        | nil => rw [e] at hls; cases hls
        | cons x0 xr => exact ⟨x0, xr, rfl⟩
      have hl0 := hM.left
      rw [hx] at hls hl0
      have h1 : Pd H x0 mv.d := by cases hls with | cons h _ => exact h
      have h2 : Pds H xr (r.map Mv.d) := by cases hls with | cons _ h => exact h
      obtain ⟨ma, rfl, hma⟩ := Mv.of h1
      have nma : ma ≠ A.left := ne_of hma hl0 (by intro z; cases z)
      refine ⟨_, rfl, m, C, _, _, _, rfl, hM.obj, c.cl, c.n _ (by decide), rfl, .inl ⟨rfl, _, sqL_l hl0⟩, A.left, _, 0, 0, .ref ma, rfl, rfl, hl0, by decide, by decide, seqIx_of rfl (by simp), rfl, ?_⟩
      have hM1 := hM.setLeft (lf := r) (ls := xr) h2
      have k1 : Keep ow ow H (upd H A.left (.lst xr)) := Keep.ofOw (hM.oa A.left (List.mem_of_getElem? (i := 5) rfl))
      have hma1 : (upd H A.left (.lst xr)) ma = some (.tup mv.vs) := by rw [upd_ne nma]; exact hma
      show gTup _ 3 _ _ _ (upd H A.left (.lst xr)) _
      generalize upd H A.left (.lst xr) = H1 at hM1 k1 hma1
      refine ⟨ma, _, rfl, sqT_t hma1, rfl, _, _, rfl, _, _, rfl, _, _, rfl, rfl, ?_⟩
      have hs2 : mv.src < M.mem.length := by rw [ok.mem]; exact hsrc
      have hg2 : mv.goal < M.mem.length := by rw [ok.mem]; exact hgoal
      refine ⟨_, rfl, m, C, _, _, _, rfl, hM1.obj, c.cl, c.n _ (by decide), rfl, _, rfl, A.mem, _, (mv.src : Int), nV (M.mem.getD mv.src 0), rfl, rfl, sqA_l hM1.mem, atI_nat (nat_at hs2), ?_⟩
      refine ⟨_, rfl, m, _, _, rfl, hM1.obj, fsM_no (by decide), _, rfl, _, rfl, ow, m, _, sd, _, "fetch", mv.src, M.mem.getD mv.src 0, rfl, hM1, by show M.rows.length ≤ 900000; omega, fun H2 A2 hM2 k2 eo2 ep2 => ?_⟩
      refine ⟨_, rfl, _, rfl, m, C, _, _, _, rfl, hM2.obj, c.cl, c.n _ (by decide), rfl, _, rfl, A2.mem, _, (mv.goal : Int), mv.goal, rfl, rfl, hM2.mem, ixN_of rfl (by rw [List.length_map]; exact hg2), ?_⟩
      rw [show ((Mst.tell { M with left := r } "fetch" mv.src (M.mem.getD mv.src 0)).mem.map nV).set mv.goal (nV (M.mem.getD mv.src 0)) = (M.mem.set mv.goal (M.mem.getD mv.src 0)).map nV from set_map rfl]
      have hM3 := hM2.setMem (mm := M.mem.set mv.goal (M.mem.getD mv.src 0))
      have k3 := (k1.trans k2).trans (Keep.ofOw (o := .lst ((M.mem.set mv.goal (M.mem.getD mv.src 0)).map nV)) (hM2.oa A2.mem (List.mem_of_getElem? (i := 2) rfl)))
      generalize upd H2 A2.mem (.lst ((M.mem.set mv.goal (M.mem.getD mv.src 0)).map nV)) = H3 at hM3 k3
      refine ⟨_, rfl, m, _, _, rfl, hM3.obj, fsM_no (by decide), _, rfl, _, rfl, ow, m, _, sd, _, "put", mv.goal, M.mem.getD mv.src 0, rfl, hM3, by simp only [Mst.tell, List.length_append, List.length_cons, List.length_nil]; omega, fun H4 A4 hM4 k4 eo4 ep4 => ?_⟩
      have k14 := k3.trans k4
      cases hb : mv.bell with
      | none =>
        refine ⟨_, rfl, rfl, _, rfl, iteF ?_⟩
        refine q H4 A4 ?_ k14 (eo4.trans eo2) (ep4.trans ep2)
        rw [Mst.carry, hlf]
        dsimp only
        rw [hb]
        exact hM4
      | some b =>
        refine ⟨_, rfl, rfl, _, rfl, iteT ?_⟩
        refine ⟨_, rfl, m, _, _, rfl, hM4.obj, fsM_no (by decide), _, rfl, ow, m, _, sd, A4, "bell", b, 0, rfl, hM4, by simp only [Mst.tell, List.length_append, List.length_cons, List.length_nil]; omega, fun H5 A5 hM5 k5 eo5 ep5 => ?_⟩
        refine q H5 A5 ?_ (k14.trans k5) (eo5.trans (eo4.trans eo2)) (ep5.trans (ep4.trans ep2))
        rw [Mst.carry, hlf]
        dsimp only
        rw [hb]
        exact hM5
end
end Vt
namespace Vt
open PySem PySem.Spec PyProof.Rows L2
theorem hd_w {K : PySem.W.Frag} {H : Hp} {a : Addr} {d : Deed} (h : H a = some (.tup d.vs)) : SqT K H a (.str d.word :: d.args.map nV) := sqT_t h
theorem nwd {a b : Str} {n k : Nat} (h : decide (a = b) = false) : ¬ (a = b ∧ n = k) := fun z => of_decide_eq_false h z.1
/-! ### what is said in a story -/
theorem said_app (rs : List Row) (r : Row) : saidOf (rs ++ [r]) = saidOf rs ++ (if r.word = ("say" : Str) then [r.num] else []) := by
  unfold saidOf
  simp only [List.filter_append, List.map_append]
  by_cases e : r.word = ("say" : Str) <;> simp [e]
theorem said_tell {M : Mst} {w : Str} {p n : Nat} (h : decide (w = ("say" : Str)) = false) : saidOf (M.tell w p n).rows = saidOf M.rows := by
  show saidOf (M.rows ++ [⟨M.beats, w, p, n⟩]) = _
  rw [said_app, if_neg (of_decide_eq_false h), List.append_nil]
theorem said_takeL {M : Mst} {l : Nat} : saidOf (M.take l).rows = saidOf M.rows := by
  unfold Mst.take
  split
  · rfl
  · exact said_tell (by decide)
theorem said_read {M : Mst} {k : Nat} : saidOf (M.read k).rows = saidOf M.rows := (said_tell (by decide)).trans said_takeL
theorem said_write {M : Mst} {k n : Nat} : saidOf (M.write k n).rows = saidOf M.rows := (said_tell (by decide)).trans said_takeL
theorem said_clean {M : Mst} {l : Nat} : saidOf (M.clean l).rows = saidOf M.rows := by
  unfold Mst.clean
  split
  · exact said_tell (by decide)
  · rfl
theorem said_drop {M : Mst} {l : Nat} : saidOf (M.drop l).rows = saidOf M.rows := by
  unfold Mst.drop
  split
  · exact said_tell (by decide)
  · rfl
theorem said_carry {M : Mst} : saidOf M.carry.rows = saidOf M.rows := by
  unfold Mst.carry
  split
  · rfl
  · dsimp only
    split
    · exact (said_tell (by decide)).trans (said_tell (by decide))
    · exact (said_tell (by decide)).trans ((said_tell (by decide)).trans (said_tell (by decide)))
/-- the orders and the program that a machine holds -/
def PB (H : Hp) (A : PA) (B : Brd) : Prop := Pd H A.ords (.tup (B.ords.map Ord.d)) ∧ Pd H A.prog.v (.tup (B.prog.map Deed.d))
theorem PB.keep {ow ow' : Addr → Prop} {H H' : Hp} {C m : Addr} {M : Mst} {sd : List Nat} {A A' : PA} {B : Brd} (h : PB H A B) (hM : PM ow H C m M sd A) (k : Keep ow ow' H H') (eo : A'.ords = A.ords) (ep : A'.prog = A.prog) : PB H' A' B := by
  have t : ∀ a xs, H a = some (.tup xs) → H' a = some (.tup xs) := fun a xs e => (k a _ (hM.notTup e) e).1
  refine ⟨?_, ?_⟩
  · rw [eo]; exact Pd.tups t (by rw [D.noL]; exact noLs_map noL_ord _) h.1
  · rw [ep]; exact Pd.tups t (by rw [D.noL]; exact noLs_map noL_deed _) h.2
theorem PB.same {H H' : Hp} {A : PA} {B : Brd} (h : PB H A B) (s : Same H H') : PB H' A B := ⟨h.1.same s, h.2.same s⟩
theorem Pd.tupOf {H : Hp} {v : V} {ds : List D} (h : Pd H v (.tup ds)) : ∃ a xs, v = .ref a ∧ H a = some (.tup xs) ∧ Pds H xs ds := by
  cases h with
  | tup h hs => exact ⟨_, _, rfl, h, hs⟩
section
variable {P : Program} {w : World} {K : PySem.W.Frag} {mg : Str → Option Value} {base : Heap} {C : Addr}
abbrev st_Machine_end_beat : Stmt := (inClass (topS 25) 5)
abbrev nm_Machine_end_beat : List Str := ["self"]
theorem sc_Machine_end_beat : FnScope ["self"] ["self"] (defScope st_Machine_end_beat) := ⟨rfl, rfl, rfl, by decide +kernel, rfl, by decide +kernel, by decide +kernel⟩
def spEndBeat (C : Addr) : Sp := fun vs H Q _ => ∃ (ow : Addr → Prop) (m : Addr) (M : Mst) (sd : List Nat) (A : PA), vs = [.ref m] ∧ PM ow H C m M sd A ∧
  ∀ (H' : Hp), PM ow H' C m { M with beats := M.beats + 1 } sd A → Keep ow ow H H' → Q .non H'
theorem ok_endbeat {f : Addr} {fd : FuncData} (F : Fun K "end_beat" "Machine.end_beat" st_Machine_end_beat f fd) (c : MC K C) : FnOk P w K mg base CX0 1 f fd ["self"] (spEndBeat C) := by
  refine F.ok sc_Machine_end_beat (fun vs H Q E h => ?_) (fun cdv A outer s H vs Q E hr h => ?_)
  · obtain ⟨ow, m, M, sd, A, rfl, _⟩ := h
    rfl
  · obtain ⟨ow, m, M, sd, A, rfl, hM, q⟩ := h
    refine ⟨_, (pss_one (ps_fldaug (pv 0) pe_int in_add)), ?_⟩
    refine ⟨_, rfl, m, C, _, _, _, rfl, hM.obj, c.cl, c.n _ (by decide), rfl, _, _, rfl, rfl, A.dx, _, hM.obj, fsM_len, ?_⟩
    exact q _ (hM.setNums (a := M.at_) (b := M.beats + 1)) (Keep.ofOw (hM.oa m (List.mem_of_getElem? (i := 0) rfl)))
abbrev st_Machine_is_over : Stmt := (inClass (topS 25) 1)
abbrev nm_Machine_is_over : List Str := ["self"]
theorem sc_Machine_is_over : FnScope ["self"] ["self"] (defScope st_Machine_is_over) := ⟨rfl, rfl, rfl, by decide +kernel, rfl, by decide +kernel, by decide +kernel⟩
def spIsOver (C : Addr) : Sp := fun vs H Q _ => ∃ (ow : Addr → Prop) (m : Addr) (M : Mst) (sd : List Nat) (A : PA) (B : Brd), vs = [.ref m] ∧ PM ow H C m M sd A ∧ PB H A B ∧ Q (.bl (M.over B.prog)) H
theorem ls_empty {ow : Addr → Prop} {H : Hp} {m : Addr} {M : Mst} {sd : List Nat} {A : PA} (hM : PM ow H C m M sd A) : A.ls.isEmpty = M.left.isEmpty := by
  have := hM.leftD.len
  rw [List.length_map] at this
  cases h1 : A.ls <;> cases h2 : M.left <;> rw [h1, h2] at this <;> simp_all
theorem ok_isover {f : Addr} {fd : FuncData} (F : Fun K "is_over" "Machine.is_over" st_Machine_is_over f fd) (c : MC K C) (z_len : mg "len" = none) : FnOk P w K mg base CX0 1 f fd ["self"] (spIsOver C) := by
  refine F.ok sc_Machine_is_over (fun vs H Q E h => ?_) (fun cdv A outer s H vs Q E hr h => ?_)
  · obtain ⟨ow, m, M, sd, A, B, rfl, _⟩ := h
    rfl
  · obtain ⟨ow, m, M, sd, A, B, rfl, hM, hPB, q⟩ := h
    obtain ⟨p, ps, ep, hp, hps⟩ := Pd.tupOf hPB.2
    have pl : ps.length = B.prog.length := by rw [hps.len, List.length_map]
    refine ⟨_, (pss_one (ps_ret (pe_and (pe_cmpR op_eq (pe_fld (pv 0) rfl) (pe_callB call_len_seq (by rfl) z_len (by decide +kernel) (pa_cons (pe_fld (pv 0) rfl) pa_nil)) (nomark _)) (pe_one (pe_notT (pe_fld (pv 0) rfl)))))), ?_⟩
    refine ⟨_, rfl, m, C, _, _, _, rfl, hM.obj, c.cl, c.n _ (by decide), rfl, _, rfl, m, C, _, _, _, rfl, hM.obj, c.cl, c.n _ (by decide), rfl, p, ps, by rw [ep], .inr (sqT_t hp), rfl, _, rfl, ?_⟩
    have e : decide (nV M.at_ = V.int (ps.length : Int)) = decide (M.at_ = B.prog.length) := by
      rw [pl]
      exact decide_eq_decide.mpr ⟨fun z => by have := V.int.inj z; omega, fun z => by rw [z]; rfl⟩
    rw [e]
    unfold Mst.over at q
    cases ho : decide (M.at_ = B.prog.length) with
    | false =>
      rw [ho] at q
      exact iteF q
    | true =>
      rw [ho] at q
      refine iteT ⟨_, rfl, m, C, _, _, _, rfl, hM.obj, c.cl, c.n _ (by decide), rfl, _, .inl ⟨A.ls, sqL_l hM.left, rfl⟩, ?_⟩
      rw [ls_empty hM, Bool.not_not]
      exact q
abbrev st_Machine_clean_all : Stmt := (inClass (topS 25) 6)
abbrev nm_Machine_clean_all : List Str := ["self", "line"]
theorem sc_Machine_clean_all : FnScope ["self", "line"] ["self"] (defScope st_Machine_clean_all) := ⟨rfl, rfl, rfl, by decide +kernel, rfl, by decide +kernel, by decide +kernel⟩
def spCleanAll (C : Addr) : Sp := fun vs H Q _ => ∃ (ow : Addr → Prop) (m : Addr) (M : Mst) (sd : List Nat) (A : PA) (cells : Nat), vs = [.ref m] ∧ PM ow H C m M sd A ∧ MOk0 cells M ∧ M.rows.length ≤ 700000 ∧
  ∀ (H' : Hp) (A' : PA), PM ow H' C m M.finish sd A' → Keep ow ow H H' → A'.ords = A.ords → A'.prog = A.prog → Q .non H'
theorem clean_out {cells : Nat} {M : Mst} {l : Nat} (ok : MOk0 cells M) (h : cells / 4 ≤ l) : M.clean l = M := by
  unfold Mst.clean
  rw [if_neg]
  unfold Mst.touched
  rw [List.getD_eq_getElem?_getD, List.getElem?_eq_none (by rw [ok.tou]; exact h)]
  decide
theorem cleans_fin {cells : Nat} {M : Mst} (ok : MOk0 cells M) : cleans M (cells / 4) = M.finish := by
  have h4 : M.finish = cleans M 4 := rfl
  rw [h4]
  rcases ok.lines with e | e | e | e
  · have e' : cells / 4 = 1 := by omega
    rw [e']
    have o1 := (cleans_ok ok 1).1
    have s1 : cleans M 2 = cleans M 1 := clean_out (l := 1) o1 (by omega)
    have s2 : cleans M 3 = cleans M 2 := by show (cleans M 2).clean 2 = _; rw [s1]; exact clean_out (l := 2) o1 (by omega)
    have s3 : cleans M 4 = cleans M 3 := by show (cleans M 3).clean 3 = _; rw [s2, s1]; exact clean_out (l := 3) o1 (by omega)
    rw [s3, s2, s1]
  · have e' : cells / 4 = 2 := by omega
    rw [e']
    have o1 := (cleans_ok ok 2).1
    have s2 : cleans M 3 = cleans M 2 := clean_out (l := 2) o1 (by omega)
    have s3 : cleans M 4 = cleans M 3 := by show (cleans M 3).clean 3 = _; rw [s2]; exact clean_out (l := 3) o1 (by omega)
    rw [s3, s2]
  · have e' : cells / 4 = 3 := by omega
    rw [e']
    exact (clean_out (l := 3) (cleans_ok ok 3).1 (by omega)).symm
  · have e' : cells / 4 = 4 := by omega
    rw [e']
theorem ok_cleanall {f : Addr} {fd : FuncData} (F : Fun K "clean_all" "Machine.clean_all" st_Machine_clean_all f fd) (c : MC K C) (m_clean_line : MCallee P w K mg base C "clean_line" 2 (spCleanLine C)) (z_len : mg "len" = none) (z_range : mg "range" = none) : FnOk P w K mg base CX0 3 f fd ["self"] (spCleanAll C) := by
  refine F.ok sc_Machine_clean_all (fun vs H Q E h => ?_) (fun cdv A outer s H vs Q E hr h => ?_)
  · obtain ⟨ow, m, M, sd, A, cells, rfl, _⟩ := h
    rfl
  · obtain ⟨ow, m, M, sd, A, cells, rfl, hM, ok, hrow, q⟩ := h
    have c16 : cells ≤ 16 := by have := ok.lines; omega
    have hlen : (heldV A M).length = cells / 4 := by rw [heldV_len, ok.held]
    refine ⟨_, (pss_one (ps_for PassesOwn.never rfl (pi_range1 (by rfl) z_range (pa_cons (pe_callB call_len_seq (by rfl) z_len (by decide +kernel) (pa_cons (pe_fld (pv 0) rfl) pa_nil)) pa_nil)) (pg_name (i := 1) sc_Machine_clean_all.nd rfl (Or.inl rfl))
  (pss_one (ps_expr (pe_mcal m_clean_line hr (by first | decide | exact Nat.le_refl _) (pv 0) (pa_cons (pv 1) pa_nil)))))), ?_⟩
    refine ⟨_, rfl, m, C, _, _, _, rfl, hM.obj, c.cl, c.n _ (by decide), rfl, A.held, _, rfl, .inl (sqL_l hM.held), ((heldV A M).length : Int), rfl, by omega, by omega, ?_⟩
    rw [hlen]
    refine for_it (walk_range (lo := 0) (n := ((cells / 4 : Nat) : Int).toNat)) (fun i σ H' => ∃ (y : Option V) (A' : PA), σ = [some (.ref m), y] ∧ PM ow H' C m (cleans M i) sd A' ∧ Keep ow ow H H' ∧ A'.ords = A.ords ∧ A'.prog = A.prog)
      ⟨_, A, rfl, hM, Keep.refl, rfl, rfl⟩ (fun _ _ _ _ _ => trivial) (fun i x σ H1 H2 hi hp hy => ?_) (fun σ H1 hp => ?_)
    · obtain ⟨y, A1, rfl, hM1, k1, eo1, ep1⟩ := hp
      obtain ⟨rfl, rfl⟩ := hy
      obtain ⟨o1, o2⟩ := cleans_ok ok i
      have i4 : i < cells / 4 := by rw [Int.toNat_natCast] at hi; exact hi
      refine ⟨_, rfl, m, _, _, rfl, hM1.obj, fsM_no (by decide), _, rfl, ow, m, cleans M i, sd, A1, cells, i, by simp [nV], hM1, o1, i4, by omega, fun H3 A3 hM3 k3 eo3 ep3 => ?_⟩
      exact ⟨_, A3, rfl, hM3, k1.trans k3, eo3.trans eo1, ep3.trans ep1⟩
    · obtain ⟨y, A1, rfl, hM1, k1, eo1, ep1⟩ := hp
      refine q H1 A1 ?_ k1 eo1 ep1
      rw [← cleans_fin ok]
      rw [Int.toNat_natCast] at hM1
      exact hM1
end
end Vt
namespace Vt
open PySem PySem.Spec PyProof.Rows L2
section
variable {P : Program} {w : World} {K : PySem.W.Frag} {mg : Str → Option Value} {base : Heap} {C : Addr}
abbrev st_Machine_do_deed : Stmt := (inClass (topS 25) 3)
abbrev nm_Machine_do_deed : List Str := ["self", "deed", "cell", "number", "other", "seen", "order", "line"]
theorem sc_Machine_do_deed : FnScope ["self", "deed", "cell", "number", "other", "seen", "order", "line"] ["self", "deed"] (defScope st_Machine_do_deed) := ⟨rfl, rfl, rfl, by decide +kernel, rfl, by decide +kernel, by decide +kernel⟩
def spDoDeed (C : Addr) : Sp := fun vs H Q _ => ∃ (ow : Addr → Prop) (m da : Addr) (M : Mst) (A : PA) (B : Brd) (d : Deed), vs = [.ref m, .ref da] ∧ PM ow H C m M (saidOf M.rows) A ∧ PB H A B ∧ BrdOk B ∧ MOk0 B.mem.length M ∧ H da = some (.tup d.vs) ∧ DeedOk d B.ords.length B.mem.length ∧ M.rows.length ≤ 600000 ∧ M.left.length ≤ 2000 ∧
  ∀ (H' : Hp) (ow' : Addr → Prop) (A' : PA), PM ow' H' C m (M.deed B.ords d) (saidOf (M.deed B.ords d).rows) A' → Keep ow ow' H H' → A'.ords = A.ords → A'.prog = A.prog → Q .non H'
theorem ok_dodeed {f : Addr} {fd : FuncData} (F : Fun K "do_deed" "Machine.do_deed" st_Machine_do_deed f fd) (c : MC K C) (CC : Consts K mg) (m_tell : MCallee P w K mg base C "tell" 1 (spTell C)) (m_read_cell : MCallee P w K mg base C "read_cell" 3 (spReadCell C)) (m_write_cell : MCallee P w K mg base C "write_cell" 3 (spWriteCell C))
    (m_clean_line : MCallee P w K mg base C "clean_line" 2 (spCleanLine C)) (m_drop_line : MCallee P w K mg base C "drop_line" 2 (spDropLine C)) (c_moves_told : Callee P w K mg base "moves_told" 1 2 spMoves) : FnOk P w K mg base CX0 4 f fd ["self", "deed"] (spDoDeed C) := by
  obtain ⟨tN, mc_NUMBERS⟩ := CC.numbers
  refine F.ok sc_Machine_do_deed (fun vs H Q E h => ?_) (fun cdv A outer s H vs Q E hr h => ?_)
  · obtain ⟨ow, m, da, M, A, B, d, rfl, _⟩ := h
    rfl
  · obtain ⟨ow, m, da, M, A, B, d, rfl, hM, hPB, ok, mok, hda, dok, hrow, hleft, q⟩ := h
    refine ⟨_, (pss_one (ps_match (pv 1)
  (pc_seq2 (i0 := 2) (i1 := 3) sc_Machine_do_deed.nd (pss_one (ps_expr (pe_mcal m_write_cell hr (by first | decide | exact Nat.le_refl _) (pv 0) (pa_cons (pv 2) (pa_cons (pv 3) pa_nil)))))
  (pc_seq2 (i0 := 2) (i1 := 4) sc_Machine_do_deed.nd (pss_cons (ps_set (i := 5) sc_Machine_do_deed.nd rfl (Or.inl rfl) (pe_mcal m_read_cell hr (by first | decide | exact Nat.le_refl _) (pv 0) (pa_cons (pv 2) pa_nil)))
  (pss_one (ps_expr (pe_mcal m_write_cell hr (by first | decide | exact Nat.le_refl _) (pv 0) (pa_cons (pv 2) (pa_cons (pe_op op_mod (pe_op op_add (pv 5) (pe_mcal m_read_cell hr (by first | decide | exact Nat.le_refl _) (pv 0) (pa_cons (pv 4) pa_nil))) (pe_glob (v := .int 10) rfl mc_NUMBERS ⟨_, rfl⟩)) pa_nil))))))
  (pc_seq1 (i0 := 2) sc_Machine_do_deed.nd (pss_cons (ps_set (i := 5) sc_Machine_do_deed.nd rfl (Or.inl rfl) (pe_mcal m_read_cell hr (by first | decide | exact Nat.le_refl _) (pv 0) (pa_cons (pv 2) pa_nil)))
  (pss_cons (ps_expr (pe_bm PySem.F.plainAttrs_list PySem.F.slot_list_append PySem.F.type_list_append mt_append (pe_fld (pv 0) rfl) (pa_cons (pv 5) pa_nil)))
  (pss_one (ps_expr (pe_mcal m_tell hr (by first | decide | exact Nat.le_refl _) (pv 0) (pa_cons pe_str (pa_cons (pv 2) (pa_cons (pv 5) pa_nil))))))))
  (pc_seq1 (i0 := 6) sc_Machine_do_deed.nd (pss_cons (ps_expr (pe_mcal m_tell hr (by first | decide | exact Nat.le_refl _) (pv 0) (pa_cons pe_str (pa_cons (pv 6) (pa_cons pe_int pa_nil)))))
  (pss_one (ps_expr (pe_bm PySem.F.plainAttrs_list PySem.F.slot_list_extend PySem.F.type_list_extend mt_extend (pe_fld (pv 0) rfl) (pa_cons (pe_cal c_moves_told hr (by first | decide | exact Nat.le_refl _) (pa_cons (pe_fld (pv 0) rfl) (pa_cons (pv 6) pa_nil))) pa_nil)))))
  (pc_seq1 (i0 := 7) sc_Machine_do_deed.nd (pss_one (ps_expr (pe_mcal m_clean_line hr (by first | decide | exact Nat.le_refl _) (pv 0) (pa_cons (pv 7) pa_nil))))
  (pc_seq1 (i0 := 7) sc_Machine_do_deed.nd (pss_one (ps_expr (pe_mcal m_drop_line hr (by first | decide | exact Nat.le_refl _) (pv 0) (pa_cons (pv 7) pa_nil))))
  pc_nil)))))))), ?_⟩
    have hsq := hd_w (K := K) hda
    cases d with
    | set k n =>
      refine ⟨_, rfl, da, "set", [nV k, nV n], rfl, hsq, .inl ⟨rfl, rfl, ?_⟩⟩
      refine ⟨_, rfl, m, _, _, rfl, hM.obj, fsM_no (by decide), _, rfl, _, rfl, ow, m, M, _, A, B.mem.length, k, n, rfl, hM, mok, dok.1, by omega, fun H1 ow1 A1 hM1 k1 eo1 ep1 => ?_⟩
      exact q H1 ow1 A1 (by rw [show saidOf (M.deed B.ords (.set k n)).rows = saidOf M.rows from said_write]; exact hM1) k1 eo1 ep1
    | add k o =>
      refine ⟨_, rfl, da, "add", [nV k, nV o], rfl, hsq, .inr ⟨nwd rfl, da, "add", [nV k, nV o], rfl, hsq, .inl ⟨rfl, rfl, ?_⟩⟩⟩
      refine ⟨_, rfl, m, _, _, rfl, hM.obj, fsM_no (by decide), _, rfl, ow, m, M, _, A, B.mem.length, k, rfl, hM, mok, dok.1, by omega, fun H1 ow1 A1 hM1 k1 eo1 ep1 => ?_⟩
      have rr := (read_rows (M := M) (c := k)).1
      have ok1 := mok.read dok.1
      refine ⟨_, rfl, m, _, _, rfl, hM1.obj, fsM_no (by decide), _, rfl, _, rfl, _, rfl, m, _, _, rfl, hM1.obj, fsM_no (by decide), _, rfl, ow1, m, _, _, A1, B.mem.length, o, rfl, hM1, ok1, dok.2, by omega, fun H2 ow2 A2 hM2 k2 eo2 ep2 => ?_⟩
      have rr2 := (read_rows (M := M.read k) (c := o)).1
      have ok2 := ok1.read dok.2
      refine ⟨_, _, rfl, rfl, _, _, rfl, rfl, (by show (0 : Int) < 10; decide), ow2, m, _, _, A2, B.mem.length, k, (M.readN k + (M.read k).readN o) % 10, ?_, hM2, ok2, dok.1, by omega, fun H3 ow3 A3 hM3 k3 eo3 ep3 => ?_⟩
      · show [V.ref m, nV k, V.int _] = [V.ref m, nV k, V.int _]
        congr 3
      · exact q H3 ow3 A3 (by rw [show saidOf (M.deed B.ords (.add k o)).rows = saidOf M.rows from said_write.trans (said_read.trans said_read)]; exact hM3) ((k1.trans k2).trans k3) (eo3.trans (eo2.trans eo1)) (ep3.trans (ep2.trans ep1))
    | say k =>
      refine ⟨_, rfl, da, "say", [nV k], rfl, hsq, .inr ⟨nwd rfl, da, "say", [nV k], rfl, hsq, .inr ⟨nwd rfl, da, "say", [nV k], rfl, hsq, .inl ⟨rfl, rfl, ?_⟩⟩⟩⟩
      refine ⟨_, rfl, m, _, _, rfl, hM.obj, fsM_no (by decide), _, rfl, ow, m, M, _, A, B.mem.length, k, rfl, hM, mok, dok, by omega, fun H1 ow1 A1 hM1 k1 eo1 ep1 => ?_⟩
      have rr := (read_rows (M := M) (c := k)).1
      have sl : (saidOf M.rows).length ≤ M.rows.length := by
        unfold saidOf
        rw [List.length_map]
        exact List.length_filter_le _ _
      refine ⟨_, rfl, m, C, _, _, _, rfl, hM1.obj, c.cl, c.n _ (by decide), rfl, .inl ⟨rfl, _, sqL_l hM1.said⟩, _, rfl, A1.said, _, _, rfl, rfl, hM1.said, by rw [List.length_map]; exact big (by omega), ?_⟩
      rw [show (saidOf M.rows).map nV ++ [nV (M.readN k)] = (saidOf M.rows ++ [M.readN k]).map nV from by rw [List.map_append]; rfl]
      have hM2 := hM1.setSaid (sd' := saidOf M.rows ++ [M.readN k])
      have k2 := k1.trans (Keep.ofOw (o := .lst ((saidOf M.rows ++ [M.readN k]).map nV)) (hM1.oa A1.said (List.mem_of_getElem? (i := 7) rfl)))
      generalize upd H1 A1.said (.lst ((saidOf M.rows ++ [M.readN k]).map nV)) = H2 at hM2 k2
      refine ⟨_, rfl, m, _, _, rfl, hM2.obj, fsM_no (by decide), _, rfl, _, rfl, ow1, m, _, _, A1, "say", k, M.readN k, rfl, hM2, by omega, fun H3 A3 hM3 k3 eo3 ep3 => ?_⟩
      refine q H3 ow1 A3 ?_ (k2.trans k3) (eo3.trans eo1) (ep3.trans ep1)
      have e : saidOf (M.deed B.ords (.say k)).rows = saidOf M.rows ++ [M.readN k] := by
        show saidOf ((M.read k).rows ++ [⟨(M.read k).beats, "say", k, M.readN k⟩]) = _
        rw [said_app, if_pos rfl, said_read]
      rw [e]
      exact hM3
    | start k =>
      refine ⟨_, rfl, da, "start", [nV k], rfl, hsq, .inr ⟨nwd rfl, da, "start", [nV k], rfl, hsq, .inr ⟨nwd rfl, da, "start", [nV k], rfl, hsq, .inr ⟨nwd rfl, da, "start", [nV k], rfl, hsq, .inl ⟨rfl, rfl, ?_⟩⟩⟩⟩⟩
      refine ⟨_, rfl, m, _, _, rfl, hM.obj, fsM_no (by decide), _, rfl, ow, m, M, _, A, "start", k, 0, rfl, hM, by omega, fun H1 A1 hM1 k1 eo1 ep1 => ?_⟩
      have hPB1 := hPB.keep hM k1 eo1 ep1
      obtain ⟨o, os, eo, ho, hos⟩ := Pd.tupOf hPB1.1
      refine ⟨_, rfl, m, C, _, _, _, rfl, hM1.obj, c.cl, c.n _ (by decide), rfl, .inl ⟨rfl, _, sqL_l hM1.left⟩, _, rfl, m, C, _, _, _, rfl, hM1.obj, c.cl, c.n _ (by decide), rfl, _, rfl, o, os, B.ords, B.mem.length, k, by rw [eo]; rfl, ho, hos, ok.four, ok.ords, dok, fun H2 l ms s2 nl hl hms => ?_⟩
      have hM2 := hM1.same s2
      have ll : A1.ls.length = M.left.length := by have := hM1.leftD.len; rw [List.length_map] at this; exact this
      have ml : ms.length ≤ 32 := by rw [hms.len, List.length_map]; exact told_len ok.eight k
      refine ⟨A1.left, l, _, _, rfl, rfl, hM2.left, hl, big' (by omega), ?_⟩
      refine q _ ow { A1 with ls := A1.ls ++ ms } ?_ ((k1.trans (Same.keep s2)).trans (Keep.ofOw (o := .lst (A1.ls ++ ms)) (hM2.oa A1.left (List.mem_of_getElem? (i := 5) rfl)))) eo1 ep1
      rw [show saidOf (M.deed B.ords (.start k)).rows = saidOf M.rows from said_tell (M := { M with left := M.left ++ told B.ords k }) (by decide)]
      exact hM2.setLeft (lf := M.left ++ told B.ords k) (ls := A1.ls ++ ms) (by rw [List.map_append]; exact hM2.leftD.app hms)
    | wait =>
      refine ⟨_, rfl, da, "wait", [], rfl, hsq, .inr ⟨nwd rfl, da, "wait", [], rfl, hsq, .inr ⟨nwd rfl, da, "wait", [], rfl, hsq, .inr ⟨nwd rfl, da, "wait", [], rfl, hsq, .inr ⟨nwd rfl, da, "wait", [], rfl, hsq, .inr ⟨nwd rfl, da, "wait", [], rfl, hsq, .inr ⟨nwd rfl, ?_⟩⟩⟩⟩⟩⟩⟩
      exact q H ow A hM Keep.refl rfl rfl
    | clean l =>
      refine ⟨_, rfl, da, "clean", [nV l], rfl, hsq, .inr ⟨nwd rfl, da, "clean", [nV l], rfl, hsq, .inr ⟨nwd rfl, da, "clean", [nV l], rfl, hsq, .inr ⟨nwd rfl, da, "clean", [nV l], rfl, hsq, .inr ⟨nwd rfl, da, "clean", [nV l], rfl, hsq, .inl ⟨rfl, rfl, ?_⟩⟩⟩⟩⟩⟩
      refine ⟨_, rfl, m, _, _, rfl, hM.obj, fsM_no (by decide), _, rfl, ow, m, M, _, A, B.mem.length, l, rfl, hM, mok, dok, by omega, fun H1 A1 hM1 k1 eo1 ep1 => ?_⟩
      exact q H1 ow A1 (by rw [show saidOf (M.deed B.ords (.clean l)).rows = saidOf M.rows from said_clean]; exact hM1) k1 eo1 ep1
    | drop l =>
      refine ⟨_, rfl, da, "drop", [nV l], rfl, hsq, .inr ⟨nwd rfl, da, "drop", [nV l], rfl, hsq, .inr ⟨nwd rfl, da, "drop", [nV l], rfl, hsq, .inr ⟨nwd rfl, da, "drop", [nV l], rfl, hsq, .inr ⟨nwd rfl, da, "drop", [nV l], rfl, hsq, .inr ⟨nwd rfl, da, "drop", [nV l], rfl, hsq, .inl ⟨rfl, rfl, ?_⟩⟩⟩⟩⟩⟩⟩
      refine ⟨_, rfl, m, _, _, rfl, hM.obj, fsM_no (by decide), _, rfl, ow, m, M, _, A, B.mem.length, l, rfl, hM, mok, dok, by omega, fun H1 A1 hM1 k1 eo1 ep1 => ?_⟩
      exact q H1 ow A1 (by rw [show saidOf (M.deed B.ords (.drop l)).rows = saidOf M.rows from said_drop]; exact hM1) k1 eo1 ep1
abbrev st_Machine_do_next_deed : Stmt := (inClass (topS 25) 2)
abbrev nm_Machine_do_next_deed : List Str := ["self", "deed"]
theorem sc_Machine_do_next_deed : FnScope ["self", "deed"] ["self"] (defScope st_Machine_do_next_deed) := ⟨rfl, rfl, rfl, by decide +kernel, rfl, by decide +kernel, by decide +kernel⟩
def spNext (C : Addr) : Sp := fun vs H Q _ => ∃ (ow : Addr → Prop) (m : Addr) (M : Mst) (A : PA) (B : Brd), vs = [.ref m] ∧ PM ow H C m M (saidOf M.rows) A ∧ PB H A B ∧ BrdOk B ∧ MOk B.mem.length B.prog M ∧
  ∀ (H' : Hp) (ow' : Addr → Prop) (A' : PA), PM ow' H' C m (M.proc B.ords B.prog) (saidOf (M.proc B.ords B.prog).rows) A' → Keep ow ow' H H' → A'.ords = A.ords → A'.prog = A.prog → Q (.bl (!M.idle B.prog)) H'
theorem ok_next {f : Addr} {fd : FuncData} (F : Fun K "do_next_deed" "Machine.do_next_deed" st_Machine_do_next_deed f fd) (c : MC K C) (m_do_deed : MCallee P w K mg base C "do_deed" 4 (spDoDeed C)) (z_len : mg "len" = none) : FnOk P w K mg base CX0 5 f fd ["self"] (spNext C) := by
  refine F.ok sc_Machine_do_next_deed (fun vs H Q E h => ?_) (fun cdv A outer s H vs Q E hr h => ?_)
  · obtain ⟨ow, m, M, A, B, rfl, _⟩ := h
    rfl
  · obtain ⟨ow, m, M, A, B, rfl, hM, hPB, ok, mok, q⟩ := h
    obtain ⟨p, ps, ep, hp, hps⟩ := Pd.tupOf hPB.2
    have pl : ps.length = B.prog.length := by rw [hps.len, List.length_map]
    refine ⟨_, (pss_cons (ps_if (pt_cmpR op_eq (pe_fld (pv 0) rfl) (pe_callB call_len_seq (by rfl) z_len (by decide +kernel) (pa_cons (pe_fld (pv 0) rfl) pa_nil)) (nomark _)) (pss_one (ps_ret pe_bl)) pss_nil)
  (pss_cons (ps_set (i := 1) sc_Machine_do_next_deed.nd rfl (Or.inl rfl) (pe_ix ix_lt (pe_fld (pv 0) rfl) (pe_fld (pv 0) rfl) (fun _ _ => rfl)))
  (pss_cons (ps_if (PW.pt (pw_and (pt_cmpR op_eq (pe_ix ix_lt (pv 1) pe_int (fun _ _ => rfl)) pe_str (nomark _)) (pw_and1 (pt_truth (pe_fld (pv 0) rfl) (fun _ => rfl))))) (pss_one (ps_ret pe_bl)) pss_nil)
  (pss_cons (ps_expr (pe_mcal m_do_deed hr (by first | decide | exact Nat.le_refl _) (pv 0) (pa_cons (pv 1) pa_nil)))
  (pss_cons (ps_fldaug (pv 0) pe_int in_add)
  (pss_one (ps_ret pe_bl))))))), ?_⟩
    refine ⟨_, rfl, m, C, _, _, _, rfl, hM.obj, c.cl, c.n _ (by decide), rfl, _, rfl, m, C, _, _, _, rfl, hM.obj, c.cl, c.n _ (by decide), rfl, p, ps, by rw [ep], .inr (sqT_t hp), rfl, _, rfl, ?_⟩
    have e : decide (nV M.at_ = V.int (ps.length : Int)) = decide (M.at_ = B.prog.length) := by
      rw [pl]
      exact decide_eq_decide.mpr ⟨fun z => by have := V.int.inj z; omega, fun z => by rw [z]; rfl⟩
    rw [e]
    by_cases hat : M.at_ = B.prog.length
    · rw [decide_eq_true hat]
      have hid : M.idle B.prog = true := by
        unfold Mst.idle
        rw [List.getElem?_eq_none (by omega)]
      rw [hid, proc_idle hid] at q
      exact iteT (q H ow A hM Keep.refl rfl rfl)
    · rw [decide_eq_false hat]
      have hlt : M.at_ < B.prog.length := by have := mok.at_; omega
      have hd : B.prog[M.at_]? = some B.prog[M.at_] := List.getElem?_eq_getElem hlt
      generalize B.prog[M.at_] = d at hd
      have dok := ok.prog d (List.mem_of_getElem? hd)
      obtain ⟨x, hx, px⟩ := hps.get (show (B.prog.map Deed.d)[M.at_]? = some d.d by rw [List.getElem?_map, hd]; rfl)
      obtain ⟨da, rfl, hda⟩ := Deed.of px
      refine iteF ⟨_, rfl, m, C, _, _, _, rfl, hM.obj, c.cl, c.n _ (by decide), rfl, _, rfl, m, C, _, _, _, rfl, hM.obj, c.cl, c.n _ (by decide), rfl, p, ps, (M.at_ : Int), .ref da, ep, rfl, sqA_t hp, atI_nat hx, ?_⟩
      have hidle : M.idle B.prog = (decide (d = .wait) && !M.left.isEmpty) := by
        unfold Mst.idle
        rw [hd]
      have ll := ls_empty hM
      have go : M.idle B.prog = false → tSeq (tDrop (tMeth C "do_deed" (spDoDeed C) [] E0 (tVar 0) (tCons (tVar 1) tNil))) (tSeq (sFldAug K (tVar 0) (tC (.int 1)) rAdd "deeds_done") (tRet (tC (.bl true)))) { nx := fun _ H' => Q V.non H', rt := Q } [some (.ref m), some (.ref da)] H := fun hid => by
        rw [hid, proc_some (ords := B.ords) hid hd] at q
        refine ⟨_, rfl, m, _, _, rfl, hM.obj, fsM_no (by decide), _, rfl, ow, m, da, M, A, B, d, rfl, hM, hPB, ok, mok.toMOk0, hda, dok, by have := mok.room; omega, by have := mok.n32; have := mok.at_; have := mok.sixty; omega, fun H1 ow1 A1 hM1 k1 eo1 ep1 => ?_⟩
        have e1 : (M.deed B.ords d).at_ = M.at_ := (deed_rows ok.eight).2.2.1
        refine ⟨_, rfl, m, C, _, _, _, rfl, hM1.obj, c.cl, c.n _ (by decide), rfl, _, _, rfl, rfl, A1.dx, _, hM1.obj, fsM_len, ?_⟩
        have hM2 := hM1.setNums (a := (M.deed B.ords d).at_ + 1) (b := (M.deed B.ords d).beats)
        refine q _ ow1 A1 ?_ (k1.trans (Keep.ofOw (hM1.oa m (List.mem_of_getElem? (i := 0) rfl)))) eo1 ep1
        have e2 : atN (M.deed B.ords d) (M.at_ + 1) = { M.deed B.ords d with at_ := (M.deed B.ords d).at_ + 1, beats := (M.deed B.ords d).beats } := by rw [e1]; rfl
        rw [e2]
        exact hM2
      refine rd_word rfl hda ?_
      have hww : decide (d.word = "wait") = decide (d = .wait) := decide_eq_decide.mpr ⟨fun z => by cases d <;> first | rfl | exact absurd z (of_decide_eq_false rfl), fun z => by rw [z]; rfl⟩
      rw [hww]
      cases hw : decide (d = .wait) with
      | false =>
        rw [hw] at hidle
        exact iteF (iteF (go hidle))
      | true =>
        rw [hw] at hidle
        refine iteT ⟨_, rfl, m, C, _, _, _, rfl, hM.obj, c.cl, c.n _ (by decide), rfl, _, .inl ⟨A.ls, sqL_l hM.left, rfl⟩, ?_⟩
        rw [ll]
        cases he : M.left.isEmpty with
        | true =>
          rw [he] at hidle
          exact iteF (go hidle)
        | false =>
          rw [he] at hidle
          rw [show M.idle B.prog = true from hidle, proc_idle hidle] at q
          exact iteT (q H ow A hM Keep.refl rfl rfl)
end
end Vt
namespace Vt
open PySem PySem.Spec PyProof.Rows L2
section
variable {P : Program} {w : World} {K : PySem.W.Frag} {mg : Str → Option Value} {base : Heap} {C : Addr}
def spInit (C : Addr) : Sp := fun vs H Q _ => ∃ (m dx : Addr) (v : V) (B : Brd), vs = [.ref m, v] ∧ H m = some (.ins C dx []) ∧ H dx = some (.own m) ∧ Pd H v B.d ∧ BrdOk B ∧
  ∀ (H' : Hp) (ow : Addr → Prop) (A : PA), (∀ pace, PM ow H' C m (Mst.begin B pace) [] A) → A.prog.ex = [] → PB H' A B → (∀ c o, c ≠ m → c ≠ dx → H c = some o → H' c = some o ∧ ¬ ow c) → Q .non H'
abbrev st_run : Stmt := (topS 29)
abbrev nm_run : List Str := ["board", "pace", "machine", "used", "did", "moves"]
theorem sc_run : FnScope ["board", "pace", "machine", "used", "did", "moves"] ["board", "pace"] (defScope st_run) := ⟨rfl, rfl, rfl, by decide +kernel, rfl, by decide +kernel, by decide +kernel⟩
def spRunM (C : Addr) : Sp := fun vs H Q _ => ∃ (v : V) (B : Brd) (pl : Addr) (pace : List Bool), vs = [v, .ref pl] ∧ Pd H v B.d ∧ BrdOk B ∧ H pl = some (.lst (pace.map V.bl)) ∧ pace.length ≤ 1000 ∧
  ∀ (H' : Hp) (ow : Addr → Prop) (m : Addr) (A : PA), PM ow H' C m (gone B pace) (saidOf (gone B pace).rows) A → Keep (fun _ => False) ow H H' → Q (.ref m) H'
theorem said_finish {M : Mst} : saidOf M.finish.rows = saidOf M.rows := by
  unfold Mst.finish
  rw [said_clean, said_clean, said_clean, said_clean]
theorem ok_runM {f : Addr} {fd : FuncData} (F : Fun K "run" "run" st_run f fd) (c : MC K C) (c_require_board : Callee P w K mg base "require_board" 3 1 spReq) (k_Machine : Maker P w K mg base "Machine" C 1 (spInit C)) (m_is_over : MCallee P w K mg base C "is_over" 1 (spIsOver C)) (m_do_next_deed : MCallee P w K mg base C "do_next_deed" 5 (spNext C))
    (m_move_one : MCallee P w K mg base C "move_one" 2 (spMoveOne C)) (m_end_beat : MCallee P w K mg base C "end_beat" 1 (spEndBeat C)) (m_clean_all : MCallee P w K mg base C "clean_all" 3 (spCleanAll C)) (z_len : mg "len" = none) : FnOk P w K mg base CX0 6 f fd ["board", "pace"] (spRunM C) := by
  refine F.ok sc_run (fun vs H Q E h => ?_) (fun cdv A outer s H vs Q E hr h => ?_)
  · obtain ⟨v, B, pl, pace, rfl, _⟩ := h
    rfl
  · obtain ⟨v, B, pl, pace, rfl, hB, ok, hpl, plen, q⟩ := h
    refine ⟨_, (pss_cons (ps_expr (pe_cal c_require_board hr (by first | decide | exact Nat.le_refl _) (pa_cons (pv 0) pa_nil)))
  (pss_cons (ps_set (i := 2) sc_run.nd rfl (Or.inl rfl) (pe_mkc k_Machine hr (by first | decide | exact Nat.le_refl _) (pa_cons (pv 0) pa_nil)))
  (pss_cons (ps_set (i := 3) sc_run.nd rfl (Or.inl rfl) pe_int)
  (pss_cons (ps_while PassesOwn.never (pt_not (pt_val (pe_mcal0 m_is_over hr (by first | decide | exact Nat.le_refl _) (pv 2))))
  (pss_cons (ps_set (i := 4) sc_run.nd rfl (Or.inl rfl) (pe_mcal0 m_do_next_deed hr (by first | decide | exact Nat.le_refl _) (pv 2)))
  (pss_cons (ps_set (i := 5) sc_run.nd rfl (Or.inl rfl) pe_bl)
  (pss_cut (ps_if (PW.pt (pw_and (pt_val (pv 4)) (pw_and (pt_truth (pe_fld (pv 2) rfl) (fun _ => rfl)) (pw_and1 (pt_cmpR op_lt (pv 3) (pe_callB call_len_seq (by rfl) z_len (by decide +kernel) (pa_cons (pv 1) pa_nil)) (nomark _)))))) (pss_cons (ps_set (i := 5) sc_run.nd rfl (Or.inl rfl) (pe_ix ix_lt (pv 1) (pv 3) (fun _ _ => rfl)))
  (pss_one (ps_aug (i := 3) sc_run.nd rfl (Or.inl rfl) pe_int ip_add))) pss_nil)
  (pss_cut (ps_if (PW.pt (pw_and (pt_val (pv 5)) (pw_and1 (pt_truth (pe_fld (pv 2) rfl) (fun _ => rfl))))) (pss_one (ps_expr (pe_mcal0 m_move_one hr (by first | decide | exact Nat.le_refl _) (pv 2)))) pss_nil)
  (pss_one (ps_expr (pe_mcal0 m_end_beat hr (by first | decide | exact Nat.le_refl _) (pv 2)))))))))
  (pss_cons (ps_expr (pe_mcal0 m_clean_all hr (by first | decide | exact Nat.le_refl _) (pv 2)))
  (pss_one (ps_ret (pv 2)))))))), ?_⟩
    refine ⟨_, rfl, v, B, rfl, hB, ok, fun H1 s1 => ?_⟩
    refine ⟨_, rfl, fun m dx nm ndx dm => ?_⟩
    have sA : Same H1 (upd (upd H1 dx (.own m)) m (.ins C dx [])) := fun b o e => by rw [upd_ne (ne_of_none e nm), upd_ne (ne_of_none e ndx)]; exact e
    refine ⟨m, dx, v, B, rfl, upd_same, by rw [upd_ne dm, upd_same], (hB.same s1).same sA, ok, fun H2 ow A2 hM2 _ hPB2 k2 => ⟨rfl, ?_⟩⟩
    have K2 : Keep (fun _ => False) ow H H2 := fun b o _ e => k2 b o (ne_of_none (s1 _ _ e) nm) (ne_of_none (s1 _ _ e) ndx) (sA _ _ (s1 _ _ e))
    refine while_to (fun n σ H' => ∃ (y4 y5 : Option V) (ow : Addr → Prop) (M : Mst) (A : PA) (f used : Nat), σ = [some v, some (.ref pl), some (.ref m), some (nV used), y4, y5] ∧ n = M.mu B.prog ∧ PM ow H' C m M (saidOf M.rows) A ∧ PB H' A B ∧ MOk B.mem.length B.prog M ∧
        Mst.run B.ords B.prog f M = goneM B pace ∧ M.mu B.prog ≤ f ∧ M.pace = pace.drop used ∧ used ≤ pace.length ∧ Keep (fun _ => False) ow H H')
      ⟨_, _, _, ow, Mst.begin B pace, A2, 7000, 0, rfl, rfl, hM2 pace, hPB2, begin_ok ok pace, rfl, begin_mu ok pace, rfl, Nat.zero_le _, K2⟩ (fun n σ H3 hp => ?_) (fun σ H1 Q1 Q2 hq h => ?_)
    · obtain ⟨y4, y5, ow3, M, A3, f, used, rfl, rfl, hM, hPB, mok, hrun, hmu, hpace, hused, K3⟩ := hp
      refine ⟨_, rfl, m, _, _, rfl, hM.obj, fsM_no (by decide), ow3, m, M, _, A3, B, rfl, hM, hPB, _, rfl, ?_⟩
      have rows3 : M.rows.length ≤ 90000 := by have := mok.room; omega
      cases ho : M.over B.prog with
      | true =>
        refine iteF ?_
        refine ⟨_, rfl, m, _, _, rfl, hM.obj, fsM_no (by decide), ow3, m, M, _, A3, B.mem.length, rfl, hM, mok.toMOk0, by omega, fun H4 A4 hM4 k4 _ _ => ?_⟩
        have e : gone B pace = M.finish := by
          show (goneM B pace).finish = _
          rw [← hrun, run_over ho]
        refine ⟨_, rfl, q H4 ow3 m A4 ?_ (K3.trans k4)⟩
        rw [e, said_finish]
        exact hM4
      | false =>
        refine iteT ?_
        refine ⟨_, rfl, m, _, _, rfl, hM.obj, fsM_no (by decide), ow3, m, M, A3, B, rfl, hM, hPB, ok, mok, fun H5 ow5 A5 hM5 k5 eo5 ep5 => ?_⟩
        have K5 := K3.trans k5
        have hPB5 := hPB.keep hM k5 eo5 ep5
        obtain ⟨p1, p2, p3, p4, p5⟩ := proc_ok mok ok.ords ok.eight ok.prog
        have hbn := beat_no (ords := B.ords) (prog := B.prog) (M := M)
        have hby : ∀ b r, _ → _ → _ := fun b r => beat_yes (ords := B.ords) (prog := B.prog) (M := M) (b := b) (r := r)
        obtain ⟨b1, b2⟩ := beat_ok mok ho ok.ords ok.eight ok.prog
        obtain ⟨f', rfl, hrun'⟩ := run_on (ords := B.ords) mok.at_ ho hmu
        have hle : M.left.length ≤ 32 * 60 := by have := mok.n32; have := mok.at_; have := mok.sixty; omega
        unfold Mst.uses at hbn hby
        have hpl5 := (K5 pl _ (by simp) hpl).1
        have plm : (pace.drop used).isEmpty = decide (pace.length ≤ used) := by
          cases h : pace.drop used with
          | nil => rw [decide_eq_true (List.drop_eq_nil_iff.mp h)]; rfl
          | cons x r => rw [decide_eq_false (fun z => by rw [List.drop_eq_nil_iff.mpr z] at h; cases h)]; rfl
        generalize hM1 : M.proc B.ords B.prog = M1 at *
        have ll5 := ls_empty hM5
        refine ⟨fun σ' H' => ∃ (mv : Bool) (M2 : Mst) (used' : Nat), σ' = [some v, some (.ref pl), some (.ref m), some (nV used'), some (.bl (!M.idle B.prog)), some (.bl mv)] ∧ PM ow5 H' C m M2 (saidOf M2.rows) A5 ∧ PB H' A5 B ∧ Keep (fun _ => False) ow5 H H' ∧ MOk0 B.mem.length M2 ∧
          M2.rows.length ≤ 700000 ∧ M2.left.length ≤ 5000 ∧ M2.pace = pace.drop used' ∧ used' ≤ pace.length ∧ M2.beats = M.beats ∧ M.beat B.ords B.prog = { (if mv = true then M2.carry else M2) with beats := M.beats + 1 }, ?_, fun σ' H' hmid => ?_⟩
        · have stay : (!M.idle B.prog && !M1.left.isEmpty && !M.pace.isEmpty) = false → ∃ (mv : Bool) (M2 : Mst) (used' : Nat), [some v, some (.ref pl), some (.ref m), some (nV used), some (.bl (!M.idle B.prog)), some (.bl true)] = [some v, some (.ref pl), some (.ref m), some (nV used'), some (.bl (!M.idle B.prog)), some (.bl mv)] ∧ PM ow5 H5 C m M2 (saidOf M2.rows) A5 ∧ PB H5 A5 B ∧ Keep (fun _ => False) ow5 H H5 ∧ MOk0 B.mem.length M2 ∧
              M2.rows.length ≤ 700000 ∧ M2.left.length ≤ 5000 ∧ M2.pace = pace.drop used' ∧ used' ≤ pace.length ∧ M2.beats = M.beats ∧ M.beat B.ords B.prog = { (if mv = true then M2.carry else M2) with beats := M.beats + 1 } := fun hu =>
            ⟨true, M1, used, rfl, hM5, hPB5, K5, p1, by omega, by omega, by rw [p2]; exact hpace, hused, p3, by rw [if_pos rfl]; exact hbn hu⟩
          refine ⟨_, rfl, _, rfl, ?_⟩
          cases hi : M.idle B.prog with
          | true =>
            rw [hi] at stay
            exact iteF (iteF (stay rfl))
          | false =>
            rw [hi] at stay hby
            refine iteT ⟨_, rfl, m, C, _, _, _, rfl, hM5.obj, c.cl, c.n _ (by decide), rfl, _, .inl ⟨A5.ls, sqL_l hM5.left, rfl⟩, ?_⟩
            rw [ll5]
            cases hl : M1.left.isEmpty with
            | true =>
              rw [hl] at stay
              exact iteF (iteF (stay rfl))
            | false =>
              rw [hl] at stay hby
              refine iteT ⟨_, rfl, _, rfl, pl, _, rfl, .inl (sqL_l hpl5), _, _, rfl, rfl, _, rfl, ?_⟩
              rw [List.length_map]
              rw [hpace, plm] at stay
              by_cases hlt : used < pace.length
              · rw [decide_eq_true (show (used : Int) < (pace.length : Int) by omega)]
                have hget : pace.drop used = pace[used] :: pace.drop (used + 1) := List.drop_eq_getElem_cons hlt
                refine iteT ⟨_, rfl, _, rfl, pl, _, (used : Int), .bl pace[used], rfl, rfl, sqA_l hpl5, atI_nat (by rw [List.getElem?_map, List.getElem?_eq_getElem hlt]; rfl), ?_⟩
                refine ⟨_, rfl, _, _, rfl, rfl, ?_⟩
                refine ⟨pace[used], { M1 with pace := pace.drop (used + 1) }, used + 1, rfl, hM5.rePace, hPB5, K5, ⟨p1.lines, p1.mem, p1.held, p1.tou, p1.four, p1.th, p1.left⟩, by show M1.rows.length ≤ _; omega, by show M1.left.length ≤ _; omega, rfl, by omega, p3, ?_⟩
                exact hby _ _ (by rw [hpace, hget]; rfl) (by rw [hpace]; exact hget)
              · rw [decide_eq_false (show ¬ (used : Int) < (pace.length : Int) by omega)]
                rw [decide_eq_true (show pace.length ≤ used by omega)] at stay
                exact iteF (stay rfl)
        obtain ⟨mv, M2, used', rfl, hM6, hPB6, K6, ok6, r6, l6, pc6, us6, be6, hbeat⟩ := hmid
        refine ⟨fun σ' H' => ∃ (X : Mst) (A7 : PA), σ' = [some v, some (.ref pl), some (.ref m), some (nV used'), some (.bl (!M.idle B.prog)), some (.bl mv)] ∧ PM ow5 H' C m X (saidOf X.rows) A7 ∧ PB H' A7 B ∧ Keep (fun _ => False) ow5 H H' ∧ X.pace = pace.drop used' ∧ X.beats = M.beats ∧ M.beat B.ords B.prog = { X with beats := M.beats + 1 }, ?_, fun σ'' H'' hmid => ?_⟩
        · refine ⟨_, rfl, _, rfl, ?_⟩
          cases mv with
          | false => exact iteF (iteF ⟨M2, A5, rfl, hM6, hPB6, K6, pc6, be6, by rw [hbeat]; rfl⟩)
          | true =>
            refine iteT ⟨_, rfl, m, C, _, _, _, rfl, hM6.obj, c.cl, c.n _ (by decide), rfl, _, .inl ⟨A5.ls, sqL_l hM6.left, rfl⟩, ?_⟩
            rw [ls_empty hM6]
            cases hl : M2.left with
            | nil =>
              have ec : M2.carry = M2 := by unfold Mst.carry; rw [hl]
              exact iteF ⟨M2, A5, rfl, hM6, hPB6, K6, pc6, be6, by rw [hbeat, if_pos rfl, ec]⟩
            | cons x r =>
              obtain ⟨c1, c2, c3, c4, c5⟩ := carry_rows (M := M2)
              refine iteT ⟨_, rfl, m, _, _, rfl, hM6.obj, fsM_no (by decide), ow5, m, M2, _, A5, B.mem.length, rfl, hM6, ok6, by rw [hl]; simp, r6, l6, fun H8 A8 hM8 k8 eo8 ep8 => ?_⟩
              exact ⟨M2.carry, A8, rfl, by rw [said_carry]; exact hM8, hPB6.keep hM6 k8 eo8 ep8, K6.trans k8, by rw [c5]; exact pc6, by rw [c4]; exact be6, by rw [hbeat, if_pos rfl]⟩
        obtain ⟨X, A7, rfl, hM7, hPB7, K7, pc7, be7, hbeat7⟩ := hmid
        refine ⟨_, rfl, m, _, _, rfl, hM7.obj, fsM_no (by decide), ow5, m, X, _, A7, rfl, hM7, fun H8 hM8 k8 => ?_⟩
        have e8 : M.beat B.ords B.prog = { X with beats := X.beats + 1 } := by rw [hbeat7, be7]
        have re : (M.beat B.ords B.prog).rows = X.rows := by rw [e8]
        have pe : (M.beat B.ords B.prog).pace = X.pace := by rw [e8]
        refine ⟨_, b2, _, _, ow5, M.beat B.ords B.prog, A7, f', used', rfl, rfl, ?_, hPB7.keep hM7 k8 rfl rfl, b1, by rw [← hrun']; exact hrun, by omega, by rw [pe]; exact pc7, us6, K7.trans k8⟩
        rw [re, e8]
        exact hM8
    · obtain ⟨v0, e1, a0, dx0, fs0, e2, e3, e4, ow, m', M, sd, A', B', e5, hM', hPB', c0, e6, h⟩ := h
      exact ⟨v0, e1, a0, dx0, fs0, e2, e3, e4, ow, m', M, sd, A', B', e5, hM', hPB', c0, e6, hq _ _ h⟩
end
end Vt
namespace Vt
open PySem PySem.Spec PyProof.Rows L2
/-- addresses that differ, and stand -/
def Frs (H : Hp) (l : List Addr) : Prop := l.Nodup ∧ ∀ y ∈ l, ∃ o, H y = some o
theorem Frs.new {H : Hp} {l : List Addr} {p : Addr} {o : HO} (h : Frs H l) (n : H p = none) : Frs (upd H p o) (l ++ [p]) := by
  refine ⟨List.nodup_append.mpr ⟨h.1, by simp, fun a ha b hb e => ?_⟩, fun y hy => ?_⟩
  · rw [List.mem_singleton.mp hb] at e
    obtain ⟨u, hu⟩ := h.2 a ha
    rw [e, n] at hu; cases hu
  · by_cases e : y = p
    · exact ⟨o, by rw [e]; exact upd_same⟩
    · rw [upd_ne e]
      rcases List.mem_append.mp hy with q | q
      · exact h.2 y q
      · exact absurd (List.mem_singleton.mp q) e
theorem Frs.set {H : Hp} {l : List Addr} {p : Addr} {o : HO} (h : Frs H l) : Frs (upd H p o) l :=
  ⟨h.1, fun y hy => by
    by_cases e : y = p
    · exact ⟨o, by rw [e]; exact upd_same⟩
    · rw [upd_ne e]; exact h.2 y hy⟩
section
variable {P : Program} {w : World} {K : PySem.W.Frag} {mg : Str → Option Value} {base : Heap} {C : Addr}
abbrev st_Machine___init__ : Stmt := (inClass (topS 25) 0)
abbrev nm_Machine___init__ : List Str := ["self", "board", "memory", "orders", "program"]
theorem sc_Machine___init__ : FnScope ["self", "board", "memory", "orders", "program"] ["self", "board"] (defScope st_Machine___init__) := ⟨rfl, rfl, rfl, by decide +kernel, rfl, by decide +kernel, by decide +kernel⟩
theorem ok_init {f : Addr} {fd : FuncData} (F : Fun K "__init__" "Machine.__init__" st_Machine___init__ f fd) (c : MC K C) (CC : Consts K mg) (z_list : mg "list" = none) (z_len : mg "len" = none) : FnOk P w K mg base CX0 1 f fd ["self", "board"] (spInit C) := by
  obtain ⟨tL, mc_LINE⟩ := CC.line
  refine F.ok sc_Machine___init__ (fun vs H Q E h => ?_) (fun cdv A outer s H vs Q E hr h => ?_)
  · obtain ⟨m, dx, v, B, rfl, _⟩ := h
    rfl
  · obtain ⟨m, dx, v, B, rfl, hm0, hdx, hB, ok, q⟩ := h
    obtain ⟨a, mm, o, p, os, ps, rfl, ha, hm, ho, hos, hp, hps⟩ := Brd.of hB
    have mdx : m ≠ dx := ne_of hm0 hdx (by intro z; cases z)
    have fr0 : Frs H [m, dx] := ⟨by simp [mdx], fun y hy => by
      rcases List.mem_cons.mp hy with rfl | hy
      · exact ⟨_, hm0⟩
      · rw [List.mem_singleton.mp hy]; exact ⟨_, hdx⟩⟩
    have c16 : B.mem.length ≤ 16 := by have := ok.cells; omega
    refine ⟨_, (pss_cons (ps_asg (pv 1) (pg_tup rfl (pgs_cons (pg_name (i := 2) sc_Machine___init__.nd rfl (Or.inl rfl)) (pgs_cons (pg_name (i := 3) sc_Machine___init__.nd rfl (Or.inl rfl)) (pgs_cons (pg_name (i := 4) sc_Machine___init__.nd rfl (Or.inl rfl)) pgs_nil)))))
  (pss_cons (ps_fld (pv 0) (pe_callTy call_list_of (by rfl) z_list (by decide +kernel) (pa_cons (pv 2) pa_nil)) rfl)
  (pss_cons (ps_fld (pv 0) (pv 3) rfl)
  (pss_cons (ps_fld (pv 0) (pv 4) rfl)
  (pss_cons (ps_fld (pv 0) pe_int rfl)
  (pss_cons (ps_fld (pv 0) (pe_op op_rep (pe_lst (pa_cons pe_non pa_nil)) (pe_op op_fdiv (pe_callB call_len_seq (by rfl) z_len (by decide +kernel) (pa_cons (pv 2) pa_nil)) (pe_glob (v := .int 4) rfl mc_LINE ⟨_, rfl⟩))) rfl)
  (pss_cons (ps_fld (pv 0) (pe_op op_rep (pe_lst (pa_cons pe_bl pa_nil)) (pe_op op_fdiv (pe_callB call_len_seq (by rfl) z_len (by decide +kernel) (pa_cons (pv 2) pa_nil)) (pe_glob (v := .int 4) rfl mc_LINE ⟨_, rfl⟩))) rfl)
  (pss_cons (ps_fld (pv 0) (pe_lst pa_nil) rfl)
  (pss_cons (ps_fld (pv 0) pe_int rfl)
  (pss_cons (ps_fld (pv 0) (pe_lst pa_nil) rfl)
  (pss_one (ps_fld (pv 0) (pe_lst pa_nil) rfl)))))))))))), ?_⟩
    refine ⟨_, rfl, a, _, rfl, sqT_t ha, rfl, _, _, rfl, _, _, rfl, _, _, rfl, rfl, ?_⟩
    refine ⟨_, rfl, mm, _, rfl, .inr (sqT_t hm), fun l nl => ?_⟩
    have s_1 := same_new (o := .lst (B.mem.map nV)) nl
    have c_1 : (upd H l (.lst (B.mem.map nV))) l = some (.lst (B.mem.map nV)) := upd_same
    have fr_1 : Frs (upd H l (.lst (B.mem.map nV))) _ := Frs.new fr0 nl
    have b_1 : But [m] H (upd H l (.lst (B.mem.map nV))) := But.trans But.refl (Same.but s_1)
    generalize upd H l (.lst (B.mem.map nV)) = H1 at s_1 c_1 fr_1 b_1
    have hm_1 := s_1 _ _ hm0
    have hmm_1 := s_1 _ _ hm
    refine ⟨_, rfl, m, C, dx, [], rfl, hm_1, c.cl, c.n _ (by decide), by show 0 < 1000; decide, ?_⟩
    have hm_2 : (upd H1 m (.ins C dx (putF "memory" (.ref l) []))) m = some (.ins C dx [("memory", (.ref l))]) := upd_same
    have w_2 : ∀ y u, y ≠ m → H1 y = some u → (upd H1 m (.ins C dx (putF "memory" (.ref l) []))) y = some u := fun y u ne e => by rw [upd_ne ne]; exact e
    have fr_2 : Frs (upd H1 m (.ins C dx (putF "memory" (.ref l) []))) _ := Frs.set fr_1
    have b_2 : But [m] H (upd H1 m (.ins C dx (putF "memory" (.ref l) []))) := But.trans b_1 (But.set (by simp))
    generalize upd H1 m (.ins C dx (putF "memory" (.ref l) [])) = H2 at hm_2 w_2 fr_2 b_2
    have hmm_2 := w_2 _ _ (ne_of hmm_1 hm_1 (by intro z; cases z)) hmm_1
    have hl_2 := w_2 _ _ (ne_of c_1 hm_1 (by intro z; cases z)) c_1
    refine ⟨_, rfl, _, rfl, m, C, dx, [("memory", (.ref l))], rfl, hm_2, c.cl, c.n _ (by decide), by show 1 < 1000; decide, ?_⟩
    have hm_3 : (upd H2 m (.ins C dx (putF "orders" (.ref o) [("memory", (.ref l))]))) m = some (.ins C dx [("memory", (.ref l)), ("orders", (.ref o))]) := upd_same
    have w_3 : ∀ y u, y ≠ m → H2 y = some u → (upd H2 m (.ins C dx (putF "orders" (.ref o) [("memory", (.ref l))]))) y = some u := fun y u ne e => by rw [upd_ne ne]; exact e
    have fr_3 : Frs (upd H2 m (.ins C dx (putF "orders" (.ref o) [("memory", (.ref l))]))) _ := Frs.set fr_2
    have b_3 : But [m] H (upd H2 m (.ins C dx (putF "orders" (.ref o) [("memory", (.ref l))]))) := But.trans b_2 (But.set (by simp))
    generalize upd H2 m (.ins C dx (putF "orders" (.ref o) [("memory", (.ref l))])) = H3 at hm_3 w_3 fr_3 b_3
    have hmm_3 := w_3 _ _ (ne_of hmm_2 hm_2 (by intro z; cases z)) hmm_2
    have hl_3 := w_3 _ _ (ne_of hl_2 hm_2 (by intro z; cases z)) hl_2
    refine ⟨_, rfl, _, rfl, m, C, dx, [("memory", (.ref l)), ("orders", (.ref o))], rfl, hm_3, c.cl, c.n _ (by decide), by show 2 < 1000; decide, ?_⟩
    have hm_4 : (upd H3 m (.ins C dx (putF "program" (.ref p) [("memory", (.ref l)), ("orders", (.ref o))]))) m = some (.ins C dx [("memory", (.ref l)), ("orders", (.ref o)), ("program", (.ref p))]) := upd_same
    have w_4 : ∀ y u, y ≠ m → H3 y = some u → (upd H3 m (.ins C dx (putF "program" (.ref p) [("memory", (.ref l)), ("orders", (.ref o))]))) y = some u := fun y u ne e => by rw [upd_ne ne]; exact e
    have fr_4 : Frs (upd H3 m (.ins C dx (putF "program" (.ref p) [("memory", (.ref l)), ("orders", (.ref o))]))) _ := Frs.set fr_3
    have b_4 : But [m] H (upd H3 m (.ins C dx (putF "program" (.ref p) [("memory", (.ref l)), ("orders", (.ref o))]))) := But.trans b_3 (But.set (by simp))
    generalize upd H3 m (.ins C dx (putF "program" (.ref p) [("memory", (.ref l)), ("orders", (.ref o))])) = H4 at hm_4 w_4 fr_4 b_4
    have hmm_4 := w_4 _ _ (ne_of hmm_3 hm_3 (by intro z; cases z)) hmm_3
    have hl_4 := w_4 _ _ (ne_of hl_3 hm_3 (by intro z; cases z)) hl_3
    refine ⟨_, rfl, m, C, dx, [("memory", (.ref l)), ("orders", (.ref o)), ("program", (.ref p))], rfl, hm_4, c.cl, c.n _ (by decide), by show 3 < 1000; decide, ?_⟩
    have hm_5 : (upd H4 m (.ins C dx (putF "deeds_done" (.int 0) [("memory", (.ref l)), ("orders", (.ref o)), ("program", (.ref p))]))) m = some (.ins C dx [("memory", (.ref l)), ("orders", (.ref o)), ("program", (.ref p)), ("deeds_done", (.int 0))]) := upd_same
    have w_5 : ∀ y u, y ≠ m → H4 y = some u → (upd H4 m (.ins C dx (putF "deeds_done" (.int 0) [("memory", (.ref l)), ("orders", (.ref o)), ("program", (.ref p))]))) y = some u := fun y u ne e => by rw [upd_ne ne]; exact e
    have fr_5 : Frs (upd H4 m (.ins C dx (putF "deeds_done" (.int 0) [("memory", (.ref l)), ("orders", (.ref o)), ("program", (.ref p))]))) _ := Frs.set fr_4
    have b_5 : But [m] H (upd H4 m (.ins C dx (putF "deeds_done" (.int 0) [("memory", (.ref l)), ("orders", (.ref o)), ("program", (.ref p))]))) := But.trans b_4 (But.set (by simp))
    generalize upd H4 m (.ins C dx (putF "deeds_done" (.int 0) [("memory", (.ref l)), ("orders", (.ref o)), ("program", (.ref p))])) = H5 at hm_5 w_5 fr_5 b_5
    have hmm_5 := w_5 _ _ (ne_of hmm_4 hm_4 (by intro z; cases z)) hmm_4
    have hl_5 := w_5 _ _ (ne_of hl_4 hm_4 (by intro z; cases z)) hl_4
    refine ⟨by show 1 ≤ sizeLine; decide, fun T1 nT1 => ?_⟩
    have s_6 := same_new (o := .lst [.non]) nT1
    have c_6 : (upd H5 T1 (.lst [.non])) T1 = some (.lst [.non]) := upd_same
    have fr_6 : Frs (upd H5 T1 (.lst [.non])) _ := Frs.set fr_5
    have b_6 : But [m] H (upd H5 T1 (.lst [.non])) := But.trans b_5 (Same.but s_6)
    generalize upd H5 T1 (.lst [.non]) = H6 at s_6 c_6 fr_6 b_6
    have hm_6 := s_6 _ _ hm_5
    have hmm_6 := s_6 _ _ hmm_5
    have hl_6 := s_6 _ _ hl_5
    refine ⟨_, rfl, mm, _, rfl, .inr (sqT_t hmm_6), _, _, rfl, rfl, ⟨by decide, by decide⟩, T1, _, [.non], rfl, rfl, c_6, by rw [List.length_map]; omega, by rw [List.length_map]; omega, by rw [List.length_map]; exact big' (by simp only [List.length_cons, List.length_nil]; omega), fun p1 np1 => ?_⟩
    have s_7 := same_new (o := .lst (List.replicate (((B.mem.map nV).length : Int) / 4).toNat [.non]).flatten) np1
    have c_7 : (upd H6 p1 (.lst (List.replicate (((B.mem.map nV).length : Int) / 4).toNat [.non]).flatten)) p1 = some (.lst (List.replicate (((B.mem.map nV).length : Int) / 4).toNat [.non]).flatten) := upd_same
    have fr_7 : Frs (upd H6 p1 (.lst (List.replicate (((B.mem.map nV).length : Int) / 4).toNat [.non]).flatten)) _ := Frs.new fr_6 np1
    have b_7 : But [m] H (upd H6 p1 (.lst (List.replicate (((B.mem.map nV).length : Int) / 4).toNat [.non]).flatten)) := But.trans b_6 (Same.but s_7)
    generalize upd H6 p1 (.lst (List.replicate (((B.mem.map nV).length : Int) / 4).toNat [.non]).flatten) = H7 at s_7 c_7 fr_7 b_7
    have hm_7 := s_7 _ _ hm_6
    have hmm_7 := s_7 _ _ hmm_6
    have hl_7 := s_7 _ _ hl_6
    refine ⟨_, rfl, m, C, dx, [("memory", (.ref l)), ("orders", (.ref o)), ("program", (.ref p)), ("deeds_done", (.int 0))], rfl, hm_7, c.cl, c.n _ (by decide), by show 4 < 1000; decide, ?_⟩
    have hm_8 : (upd H7 m (.ins C dx (putF "held" (.ref p1) [("memory", (.ref l)), ("orders", (.ref o)), ("program", (.ref p)), ("deeds_done", (.int 0))]))) m = some (.ins C dx [("memory", (.ref l)), ("orders", (.ref o)), ("program", (.ref p)), ("deeds_done", (.int 0)), ("held", (.ref p1))]) := upd_same
    have w_8 : ∀ y u, y ≠ m → H7 y = some u → (upd H7 m (.ins C dx (putF "held" (.ref p1) [("memory", (.ref l)), ("orders", (.ref o)), ("program", (.ref p)), ("deeds_done", (.int 0))]))) y = some u := fun y u ne e => by rw [upd_ne ne]; exact e
    have fr_8 : Frs (upd H7 m (.ins C dx (putF "held" (.ref p1) [("memory", (.ref l)), ("orders", (.ref o)), ("program", (.ref p)), ("deeds_done", (.int 0))]))) _ := Frs.set fr_7
    have b_8 : But [m] H (upd H7 m (.ins C dx (putF "held" (.ref p1) [("memory", (.ref l)), ("orders", (.ref o)), ("program", (.ref p)), ("deeds_done", (.int 0))]))) := But.trans b_7 (But.set (by simp))
    generalize upd H7 m (.ins C dx (putF "held" (.ref p1) [("memory", (.ref l)), ("orders", (.ref o)), ("program", (.ref p)), ("deeds_done", (.int 0))])) = H8 at hm_8 w_8 fr_8 b_8
    have hmm_8 := w_8 _ _ (ne_of hmm_7 hm_7 (by intro z; cases z)) hmm_7
    have hl_8 := w_8 _ _ (ne_of hl_7 hm_7 (by intro z; cases z)) hl_7
    have hp1_8 := w_8 _ _ (ne_of c_7 hm_7 (by intro z; cases z)) c_7
    refine ⟨by show 1 ≤ sizeLine; decide, fun T2 nT2 => ?_⟩
    have s_9 := same_new (o := .lst [.bl false]) nT2
    have c_9 : (upd H8 T2 (.lst [.bl false])) T2 = some (.lst [.bl false]) := upd_same
    have fr_9 : Frs (upd H8 T2 (.lst [.bl false])) _ := Frs.set fr_8
    have b_9 : But [m] H (upd H8 T2 (.lst [.bl false])) := But.trans b_8 (Same.but s_9)
    generalize upd H8 T2 (.lst [.bl false]) = H9 at s_9 c_9 fr_9 b_9
    have hm_9 := s_9 _ _ hm_8
    have hmm_9 := s_9 _ _ hmm_8
    have hl_9 := s_9 _ _ hl_8
    have hp1_9 := s_9 _ _ hp1_8
    refine ⟨_, rfl, mm, _, rfl, .inr (sqT_t hmm_9), _, _, rfl, rfl, ⟨by decide, by decide⟩, T2, _, [.bl false], rfl, rfl, c_9, by rw [List.length_map]; omega, by rw [List.length_map]; omega, by rw [List.length_map]; exact big' (by simp only [List.length_cons, List.length_nil]; omega), fun p2 np2 => ?_⟩
    have s_10 := same_new (o := .lst (List.replicate (((B.mem.map nV).length : Int) / 4).toNat [.bl false]).flatten) np2
    have c_10 : (upd H9 p2 (.lst (List.replicate (((B.mem.map nV).length : Int) / 4).toNat [.bl false]).flatten)) p2 = some (.lst (List.replicate (((B.mem.map nV).length : Int) / 4).toNat [.bl false]).flatten) := upd_same
    have fr_10 : Frs (upd H9 p2 (.lst (List.replicate (((B.mem.map nV).length : Int) / 4).toNat [.bl false]).flatten)) _ := Frs.new fr_9 np2
    have b_10 : But [m] H (upd H9 p2 (.lst (List.replicate (((B.mem.map nV).length : Int) / 4).toNat [.bl false]).flatten)) := But.trans b_9 (Same.but s_10)
    generalize upd H9 p2 (.lst (List.replicate (((B.mem.map nV).length : Int) / 4).toNat [.bl false]).flatten) = H10 at s_10 c_10 fr_10 b_10
    have hm_10 := s_10 _ _ hm_9
    have hmm_10 := s_10 _ _ hmm_9
    have hl_10 := s_10 _ _ hl_9
    have hp1_10 := s_10 _ _ hp1_9
    refine ⟨_, rfl, m, C, dx, [("memory", (.ref l)), ("orders", (.ref o)), ("program", (.ref p)), ("deeds_done", (.int 0)), ("held", (.ref p1))], rfl, hm_10, c.cl, c.n _ (by decide), by show 5 < 1000; decide, ?_⟩
    have hm_11 : (upd H10 m (.ins C dx (putF "touched" (.ref p2) [("memory", (.ref l)), ("orders", (.ref o)), ("program", (.ref p)), ("deeds_done", (.int 0)), ("held", (.ref p1))]))) m = some (.ins C dx [("memory", (.ref l)), ("orders", (.ref o)), ("program", (.ref p)), ("deeds_done", (.int 0)), ("held", (.ref p1)), ("touched", (.ref p2))]) := upd_same
    have w_11 : ∀ y u, y ≠ m → H10 y = some u → (upd H10 m (.ins C dx (putF "touched" (.ref p2) [("memory", (.ref l)), ("orders", (.ref o)), ("program", (.ref p)), ("deeds_done", (.int 0)), ("held", (.ref p1))]))) y = some u := fun y u ne e => by rw [upd_ne ne]; exact e
    have fr_11 : Frs (upd H10 m (.ins C dx (putF "touched" (.ref p2) [("memory", (.ref l)), ("orders", (.ref o)), ("program", (.ref p)), ("deeds_done", (.int 0)), ("held", (.ref p1))]))) _ := Frs.set fr_10
    have b_11 : But [m] H (upd H10 m (.ins C dx (putF "touched" (.ref p2) [("memory", (.ref l)), ("orders", (.ref o)), ("program", (.ref p)), ("deeds_done", (.int 0)), ("held", (.ref p1))]))) := But.trans b_10 (But.set (by simp))
    generalize upd H10 m (.ins C dx (putF "touched" (.ref p2) [("memory", (.ref l)), ("orders", (.ref o)), ("program", (.ref p)), ("deeds_done", (.int 0)), ("held", (.ref p1))])) = H11 at hm_11 w_11 fr_11 b_11
    have hmm_11 := w_11 _ _ (ne_of hmm_10 hm_10 (by intro z; cases z)) hmm_10
    have hl_11 := w_11 _ _ (ne_of hl_10 hm_10 (by intro z; cases z)) hl_10
    have hp1_11 := w_11 _ _ (ne_of hp1_10 hm_10 (by intro z; cases z)) hp1_10
    have hp2_11 := w_11 _ _ (ne_of c_10 hm_10 (by intro z; cases z)) c_10
    refine ⟨Nat.zero_le _, fun L3 nL3 => ?_⟩
    have s_12 := same_new (o := .lst []) nL3
    have c_12 : (upd H11 L3 (.lst [])) L3 = some (.lst []) := upd_same
    have fr_12 : Frs (upd H11 L3 (.lst [])) _ := Frs.new fr_11 nL3
    have b_12 : But [m] H (upd H11 L3 (.lst [])) := But.trans b_11 (Same.but s_12)
    generalize upd H11 L3 (.lst []) = H12 at s_12 c_12 fr_12 b_12
    have hm_12 := s_12 _ _ hm_11
    have hmm_12 := s_12 _ _ hmm_11
    have hl_12 := s_12 _ _ hl_11
    have hp1_12 := s_12 _ _ hp1_11
    have hp2_12 := s_12 _ _ hp2_11
    refine ⟨_, rfl, m, C, dx, [("memory", (.ref l)), ("orders", (.ref o)), ("program", (.ref p)), ("deeds_done", (.int 0)), ("held", (.ref p1)), ("touched", (.ref p2))], rfl, hm_12, c.cl, c.n _ (by decide), by show 6 < 1000; decide, ?_⟩
    have hm_13 : (upd H12 m (.ins C dx (putF "left" (.ref L3) [("memory", (.ref l)), ("orders", (.ref o)), ("program", (.ref p)), ("deeds_done", (.int 0)), ("held", (.ref p1)), ("touched", (.ref p2))]))) m = some (.ins C dx [("memory", (.ref l)), ("orders", (.ref o)), ("program", (.ref p)), ("deeds_done", (.int 0)), ("held", (.ref p1)), ("touched", (.ref p2)), ("left", (.ref L3))]) := upd_same
    have w_13 : ∀ y u, y ≠ m → H12 y = some u → (upd H12 m (.ins C dx (putF "left" (.ref L3) [("memory", (.ref l)), ("orders", (.ref o)), ("program", (.ref p)), ("deeds_done", (.int 0)), ("held", (.ref p1)), ("touched", (.ref p2))]))) y = some u := fun y u ne e => by rw [upd_ne ne]; exact e
    have fr_13 : Frs (upd H12 m (.ins C dx (putF "left" (.ref L3) [("memory", (.ref l)), ("orders", (.ref o)), ("program", (.ref p)), ("deeds_done", (.int 0)), ("held", (.ref p1)), ("touched", (.ref p2))]))) _ := Frs.set fr_12
    have b_13 : But [m] H (upd H12 m (.ins C dx (putF "left" (.ref L3) [("memory", (.ref l)), ("orders", (.ref o)), ("program", (.ref p)), ("deeds_done", (.int 0)), ("held", (.ref p1)), ("touched", (.ref p2))]))) := But.trans b_12 (But.set (by simp))
    generalize upd H12 m (.ins C dx (putF "left" (.ref L3) [("memory", (.ref l)), ("orders", (.ref o)), ("program", (.ref p)), ("deeds_done", (.int 0)), ("held", (.ref p1)), ("touched", (.ref p2))])) = H13 at hm_13 w_13 fr_13 b_13
    have hmm_13 := w_13 _ _ (ne_of hmm_12 hm_12 (by intro z; cases z)) hmm_12
    have hl_13 := w_13 _ _ (ne_of hl_12 hm_12 (by intro z; cases z)) hl_12
    have hp1_13 := w_13 _ _ (ne_of hp1_12 hm_12 (by intro z; cases z)) hp1_12
    have hp2_13 := w_13 _ _ (ne_of hp2_12 hm_12 (by intro z; cases z)) hp2_12
    have hL_13 := w_13 _ _ (ne_of c_12 hm_12 (by intro z; cases z)) c_12
    refine ⟨_, rfl, m, C, dx, [("memory", (.ref l)), ("orders", (.ref o)), ("program", (.ref p)), ("deeds_done", (.int 0)), ("held", (.ref p1)), ("touched", (.ref p2)), ("left", (.ref L3))], rfl, hm_13, c.cl, c.n _ (by decide), by show 7 < 1000; decide, ?_⟩
    have hm_14 : (upd H13 m (.ins C dx (putF "beats" (.int 0) [("memory", (.ref l)), ("orders", (.ref o)), ("program", (.ref p)), ("deeds_done", (.int 0)), ("held", (.ref p1)), ("touched", (.ref p2)), ("left", (.ref L3))]))) m = some (.ins C dx [("memory", (.ref l)), ("orders", (.ref o)), ("program", (.ref p)), ("deeds_done", (.int 0)), ("held", (.ref p1)), ("touched", (.ref p2)), ("left", (.ref L3)), ("beats", (.int 0))]) := upd_same
    have w_14 : ∀ y u, y ≠ m → H13 y = some u → (upd H13 m (.ins C dx (putF "beats" (.int 0) [("memory", (.ref l)), ("orders", (.ref o)), ("program", (.ref p)), ("deeds_done", (.int 0)), ("held", (.ref p1)), ("touched", (.ref p2)), ("left", (.ref L3))]))) y = some u := fun y u ne e => by rw [upd_ne ne]; exact e
    have fr_14 : Frs (upd H13 m (.ins C dx (putF "beats" (.int 0) [("memory", (.ref l)), ("orders", (.ref o)), ("program", (.ref p)), ("deeds_done", (.int 0)), ("held", (.ref p1)), ("touched", (.ref p2)), ("left", (.ref L3))]))) _ := Frs.set fr_13
    have b_14 : But [m] H (upd H13 m (.ins C dx (putF "beats" (.int 0) [("memory", (.ref l)), ("orders", (.ref o)), ("program", (.ref p)), ("deeds_done", (.int 0)), ("held", (.ref p1)), ("touched", (.ref p2)), ("left", (.ref L3))]))) := But.trans b_13 (But.set (by simp))
    generalize upd H13 m (.ins C dx (putF "beats" (.int 0) [("memory", (.ref l)), ("orders", (.ref o)), ("program", (.ref p)), ("deeds_done", (.int 0)), ("held", (.ref p1)), ("touched", (.ref p2)), ("left", (.ref L3))])) = H14 at hm_14 w_14 fr_14 b_14
    have hmm_14 := w_14 _ _ (ne_of hmm_13 hm_13 (by intro z; cases z)) hmm_13
    have hl_14 := w_14 _ _ (ne_of hl_13 hm_13 (by intro z; cases z)) hl_13
    have hp1_14 := w_14 _ _ (ne_of hp1_13 hm_13 (by intro z; cases z)) hp1_13
    have hp2_14 := w_14 _ _ (ne_of hp2_13 hm_13 (by intro z; cases z)) hp2_13
    have hL_14 := w_14 _ _ (ne_of hL_13 hm_13 (by intro z; cases z)) hL_13
    refine ⟨Nat.zero_le _, fun L4 nL4 => ?_⟩
    have s_15 := same_new (o := .lst []) nL4
    have c_15 : (upd H14 L4 (.lst [])) L4 = some (.lst []) := upd_same
    have fr_15 : Frs (upd H14 L4 (.lst [])) _ := Frs.new fr_14 nL4
    have b_15 : But [m] H (upd H14 L4 (.lst [])) := But.trans b_14 (Same.but s_15)
    generalize upd H14 L4 (.lst []) = H15 at s_15 c_15 fr_15 b_15
    have hm_15 := s_15 _ _ hm_14
    have hmm_15 := s_15 _ _ hmm_14
    have hl_15 := s_15 _ _ hl_14
    have hp1_15 := s_15 _ _ hp1_14
    have hp2_15 := s_15 _ _ hp2_14
    have hL_15 := s_15 _ _ hL_14
    refine ⟨_, rfl, m, C, dx, [("memory", (.ref l)), ("orders", (.ref o)), ("program", (.ref p)), ("deeds_done", (.int 0)), ("held", (.ref p1)), ("touched", (.ref p2)), ("left", (.ref L3)), ("beats", (.int 0))], rfl, hm_15, c.cl, c.n _ (by decide), by show 8 < 1000; decide, ?_⟩
    have hm_16 : (upd H15 m (.ins C dx (putF "rows" (.ref L4) [("memory", (.ref l)), ("orders", (.ref o)), ("program", (.ref p)), ("deeds_done", (.int 0)), ("held", (.ref p1)), ("touched", (.ref p2)), ("left", (.ref L3)), ("beats", (.int 0))]))) m = some (.ins C dx [("memory", (.ref l)), ("orders", (.ref o)), ("program", (.ref p)), ("deeds_done", (.int 0)), ("held", (.ref p1)), ("touched", (.ref p2)), ("left", (.ref L3)), ("beats", (.int 0)), ("rows", (.ref L4))]) := upd_same
    have w_16 : ∀ y u, y ≠ m → H15 y = some u → (upd H15 m (.ins C dx (putF "rows" (.ref L4) [("memory", (.ref l)), ("orders", (.ref o)), ("program", (.ref p)), ("deeds_done", (.int 0)), ("held", (.ref p1)), ("touched", (.ref p2)), ("left", (.ref L3)), ("beats", (.int 0))]))) y = some u := fun y u ne e => by rw [upd_ne ne]; exact e
    have fr_16 : Frs (upd H15 m (.ins C dx (putF "rows" (.ref L4) [("memory", (.ref l)), ("orders", (.ref o)), ("program", (.ref p)), ("deeds_done", (.int 0)), ("held", (.ref p1)), ("touched", (.ref p2)), ("left", (.ref L3)), ("beats", (.int 0))]))) _ := Frs.set fr_15
    have b_16 : But [m] H (upd H15 m (.ins C dx (putF "rows" (.ref L4) [("memory", (.ref l)), ("orders", (.ref o)), ("program", (.ref p)), ("deeds_done", (.int 0)), ("held", (.ref p1)), ("touched", (.ref p2)), ("left", (.ref L3)), ("beats", (.int 0))]))) := But.trans b_15 (But.set (by simp))
    generalize upd H15 m (.ins C dx (putF "rows" (.ref L4) [("memory", (.ref l)), ("orders", (.ref o)), ("program", (.ref p)), ("deeds_done", (.int 0)), ("held", (.ref p1)), ("touched", (.ref p2)), ("left", (.ref L3)), ("beats", (.int 0))])) = H16 at hm_16 w_16 fr_16 b_16
    have hmm_16 := w_16 _ _ (ne_of hmm_15 hm_15 (by intro z; cases z)) hmm_15
    have hl_16 := w_16 _ _ (ne_of hl_15 hm_15 (by intro z; cases z)) hl_15
    have hp1_16 := w_16 _ _ (ne_of hp1_15 hm_15 (by intro z; cases z)) hp1_15
    have hp2_16 := w_16 _ _ (ne_of hp2_15 hm_15 (by intro z; cases z)) hp2_15
    have hL_16 := w_16 _ _ (ne_of hL_15 hm_15 (by intro z; cases z)) hL_15
    have hR_16 := w_16 _ _ (ne_of c_15 hm_15 (by intro z; cases z)) c_15
    refine ⟨Nat.zero_le _, fun L5 nL5 => ?_⟩
    have s_17 := same_new (o := .lst []) nL5
    have c_17 : (upd H16 L5 (.lst [])) L5 = some (.lst []) := upd_same
    have fr_17 : Frs (upd H16 L5 (.lst [])) _ := Frs.new fr_16 nL5
    have b_17 : But [m] H (upd H16 L5 (.lst [])) := But.trans b_16 (Same.but s_17)
    generalize upd H16 L5 (.lst []) = H17 at s_17 c_17 fr_17 b_17
    have hm_17 := s_17 _ _ hm_16
    have hmm_17 := s_17 _ _ hmm_16
    have hl_17 := s_17 _ _ hl_16
    have hp1_17 := s_17 _ _ hp1_16
    have hp2_17 := s_17 _ _ hp2_16
    have hL_17 := s_17 _ _ hL_16
    have hR_17 := s_17 _ _ hR_16
    refine ⟨_, rfl, m, C, dx, [("memory", (.ref l)), ("orders", (.ref o)), ("program", (.ref p)), ("deeds_done", (.int 0)), ("held", (.ref p1)), ("touched", (.ref p2)), ("left", (.ref L3)), ("beats", (.int 0)), ("rows", (.ref L4))], rfl, hm_17, c.cl, c.n _ (by decide), by show 9 < 1000; decide, ?_⟩
    have hm_18 : (upd H17 m (.ins C dx (putF "said" (.ref L5) [("memory", (.ref l)), ("orders", (.ref o)), ("program", (.ref p)), ("deeds_done", (.int 0)), ("held", (.ref p1)), ("touched", (.ref p2)), ("left", (.ref L3)), ("beats", (.int 0)), ("rows", (.ref L4))]))) m = some (.ins C dx [("memory", (.ref l)), ("orders", (.ref o)), ("program", (.ref p)), ("deeds_done", (.int 0)), ("held", (.ref p1)), ("touched", (.ref p2)), ("left", (.ref L3)), ("beats", (.int 0)), ("rows", (.ref L4)), ("said", (.ref L5))]) := upd_same
    have w_18 : ∀ y u, y ≠ m → H17 y = some u → (upd H17 m (.ins C dx (putF "said" (.ref L5) [("memory", (.ref l)), ("orders", (.ref o)), ("program", (.ref p)), ("deeds_done", (.int 0)), ("held", (.ref p1)), ("touched", (.ref p2)), ("left", (.ref L3)), ("beats", (.int 0)), ("rows", (.ref L4))]))) y = some u := fun y u ne e => by rw [upd_ne ne]; exact e
    have fr_18 : Frs (upd H17 m (.ins C dx (putF "said" (.ref L5) [("memory", (.ref l)), ("orders", (.ref o)), ("program", (.ref p)), ("deeds_done", (.int 0)), ("held", (.ref p1)), ("touched", (.ref p2)), ("left", (.ref L3)), ("beats", (.int 0)), ("rows", (.ref L4))]))) _ := Frs.set fr_17
    have b_18 : But [m] H (upd H17 m (.ins C dx (putF "said" (.ref L5) [("memory", (.ref l)), ("orders", (.ref o)), ("program", (.ref p)), ("deeds_done", (.int 0)), ("held", (.ref p1)), ("touched", (.ref p2)), ("left", (.ref L3)), ("beats", (.int 0)), ("rows", (.ref L4))]))) := But.trans b_17 (But.set (by simp))
    generalize upd H17 m (.ins C dx (putF "said" (.ref L5) [("memory", (.ref l)), ("orders", (.ref o)), ("program", (.ref p)), ("deeds_done", (.int 0)), ("held", (.ref p1)), ("touched", (.ref p2)), ("left", (.ref L3)), ("beats", (.int 0)), ("rows", (.ref L4))])) = H18 at hm_18 w_18 fr_18 b_18
    have hmm_18 := w_18 _ _ (ne_of hmm_17 hm_17 (by intro z; cases z)) hmm_17
    have hl_18 := w_18 _ _ (ne_of hl_17 hm_17 (by intro z; cases z)) hl_17
    have hp1_18 := w_18 _ _ (ne_of hp1_17 hm_17 (by intro z; cases z)) hp1_17
    have hp2_18 := w_18 _ _ (ne_of hp2_17 hm_17 (by intro z; cases z)) hp2_17
    have hL_18 := w_18 _ _ (ne_of hL_17 hm_17 (by intro z; cases z)) hL_17
    have hR_18 := w_18 _ _ (ne_of hR_17 hm_17 (by intro z; cases z)) hR_17
    have hS_18 := w_18 _ _ (ne_of c_17 hm_17 (by intro z; cases z)) c_17
    have n4 : (((B.mem.map nV).length : Int) / 4).toNat = B.mem.length / 4 := by rw [List.length_map]; omega
    have hh1 : H18 p1 = some (.lst (List.replicate (B.mem.length / 4) V.non)) := by rw [hp1_18, n4, List.flatten_replicate_singleton]
    have hh2 : H18 p2 = some (.lst ((List.replicate (B.mem.length / 4) false).map V.bl)) := by rw [hp2_18, n4, List.flatten_replicate_singleton, List.map_replicate]
    have hdx2 : H18 dx = some (.own m) := b_18 dx _ (by simp [mdx.symm]) hdx
    have tt : ∀ y us, H y = some (.tup us) → H18 y = some (.tup us) := fun y us e => b_18 y _ (by simp [ne_of e hm0 (by intro z; cases z)]) e
    have nh : ∀ pace k, (Mst.begin B pace).holds k = true → False := fun pace k z => by rw [begin_holds] at z; cases z
    refine q H18 (fun y => y ∈ [m, dx, l, p1, p2, L3, L4, L5]) ⟨dx, l, p1, p2, L3, L4, L5, .ref o, ⟨.ref p, [], by decide, fun _ h => by cases h⟩, fun _ => 0, [], []⟩ (fun pace => ?_) rfl ⟨.tup (tt _ _ ho) (Pds.tups tt (noLs_map noL_ord _) hos), .tup (tt _ _ hp) (Pds.tups tt (noLs_map noL_deed _) hps)⟩ (fun y u ym yd e => ⟨b_18 y u (by simp [ym]) e, fun z => ?_⟩)
    · refine ⟨hm_18, hdx2, hl_18, ?_, hh2, hL_18, .nil, hR_18, .nil, hS_18, fun k z => (nh pace k z).elim, fun k _ z => (nh pace k z).elim, fr_18.1, fun k z => (nh pace k z).elim, fun y hy => hy, fun k z => (nh pace k z).elim, fun y hy => ?_⟩
      · show H18 p1 = _
        rw [hh1]
        congr 2
        unfold heldV
        refine (List.eq_replicate_iff.mpr ⟨by simp [Mst.begin], fun x hx => ?_⟩).symm
        obtain ⟨k, _, rfl⟩ := List.mem_map.mp hx
        unfold slotV
        rw [begin_holds]; rfl
      · simp only [List.mem_cons, List.not_mem_nil, or_false] at hy
        rcases hy with rfl | rfl | rfl | rfl | rfl | rfl | rfl | rfl
        · exact ⟨_, hm_18, fun xs z => by cases z⟩
        · exact ⟨_, hdx2, fun xs z => by cases z⟩
        · exact ⟨_, hl_18, fun xs z => by cases z⟩
        · exact ⟨_, hh1, fun xs z => by cases z⟩
        · exact ⟨_, hh2, fun xs z => by cases z⟩
        · exact ⟨_, hL_18, fun xs z => by cases z⟩
        · exact ⟨_, hR_18, fun xs z => by cases z⟩
        · exact ⟨_, hS_18, fun xs z => by cases z⟩
    · -- an address that stood before is none of them
      simp only [List.mem_cons, List.not_mem_nil, or_false] at z
      have nn : ∀ (Hx : Hp) (x : Addr), But [m] H Hx → Hx x = none → x ≠ y := fun Hx x bx nx e2 => by
        subst e2
        rw [bx x u (by simp [ym]) e] at nx; cases nx
      rcases z with z | z | z | z | z | z | z | z
      · exact ym z
      · exact yd z
      · exact nn H l But.refl nl z.symm
      · exact nn H6 p1 b_6 np1 z.symm
      · exact nn H9 p2 b_9 np2 z.symm
      · exact nn H11 L3 b_11 nL3 z.symm
      · exact nn H14 L4 b_14 nL4 z.symm
      · exact nn H16 L5 b_16 nL5 z.symm
end
end Vt
namespace Vt
open PySem PySem.Spec PyProof.Rows L2
section
variable {P : Program} {w : World} {K : PySem.W.Frag} {mg : Str → Option Value} {base : Heap} {C : Addr}
abbrev st_story : Stmt := (topS 27)
abbrev nm_story : List Str := ["board", "pace"]
theorem sc_story : FnScope ["board", "pace"] ["board", "pace"] (defScope st_story) := ⟨rfl, rfl, rfl, by decide +kernel, rfl, by decide +kernel, by decide +kernel⟩
theorem ok_story {f : Addr} {fd : FuncData} (F : Fun K "story" "story" st_story f fd) (c : MC K C) (c_run : Callee P w K mg base "run" 6 2 (spRunM C)) : FnOk P w K mg base CX0 7 f fd ["board", "pace"] spStory := by
  refine F.ok sc_story (fun vs H Q E h => ?_) (fun cdv A outer s H vs Q E hr h => ?_)
  · obtain ⟨v, B, pl, pace, rfl, _⟩ := h
    rfl
  · obtain ⟨v, B, pl, pace, rfl, hB, ok, hpl, plen, q⟩ := h
    refine ⟨_, (pss_one (ps_ret (pe_fld (pe_cal c_run hr (by first | decide | exact Nat.le_refl _) (pa_cons (pv 0) (pa_cons (pv 1) pa_nil))) rfl))), ?_⟩
    refine ⟨_, rfl, _, rfl, v, B, pl, pace, rfl, hB, ok, hpl, plen, fun H1 ow m A1 hM k => ?_⟩
    have nr : H A1.rows = none := by
      cases h : H A1.rows with
      | none => rfl
      | some o => exact absurd (hM.oa A1.rows (List.mem_of_getElem? (i := 6) rfl)) (k _ o (by simp) h).2
    exact ⟨m, C, _, _, _, rfl, hM.obj, c.cl, c.n _ (by decide), rfl, q H1 A1.rows A1.xs (Keep.toSame k) nr hM.rows hM.rowsD⟩
abbrev st_ended : Stmt := (topS 28)
abbrev nm_ended : List Str := ["board", "pace", "machine"]
theorem sc_ended : FnScope ["board", "pace", "machine"] ["board", "pace"] (defScope st_ended) := ⟨rfl, rfl, rfl, by decide +kernel, rfl, by decide +kernel, by decide +kernel⟩
theorem ok_ended {f : Addr} {fd : FuncData} (F : Fun K "ended" "ended" st_ended f fd) (c : MC K C) (c_run : Callee P w K mg base "run" 6 2 (spRunM C)) (z_tuple : mg "tuple" = none) : FnOk P w K mg base CX0 7 f fd ["board", "pace"] spEnded := by
  refine F.ok sc_ended (fun vs H Q E h => ?_) (fun cdv A outer s H vs Q E hr h => ?_)
  · obtain ⟨v, B, pl, pace, rfl, _⟩ := h
    rfl
  · obtain ⟨v, B, pl, pace, rfl, hB, ok, hpl, plen, q⟩ := h
    refine ⟨_, (pss_cons (ps_set (i := 2) sc_ended.nd rfl (Or.inl rfl) (pe_cal c_run hr (by first | decide | exact Nat.le_refl _) (pa_cons (pv 0) (pa_cons (pv 1) pa_nil))))
  (pss_one (ps_ret (pe_tup (pa_cons (pe_callTy call_tuple_of (by rfl) z_tuple (by decide +kernel) (pa_cons (pe_fld (pv 2) rfl) pa_nil)) (pa_cons (pe_callTy call_tuple_of (by rfl) z_tuple (by decide +kernel) (pa_cons (pe_fld (pv 2) rfl) pa_nil)) (pa_cons (pe_fld (pv 2) rfl) pa_nil))))))), ?_⟩
    refine ⟨_, rfl, _, rfl, v, B, pl, pace, rfl, hB, ok, hpl, plen, fun H1 ow m A1 hM k => ?_⟩
    refine ⟨_, rfl, m, C, _, _, _, rfl, hM.obj, c.cl, c.n _ (by decide), rfl, A1.said, _, rfl, .inl ⟨sqL_l hM.said, fun ta nta => ?_⟩⟩
    have t1 := same_new (o := .tup ((saidOf (gone B pace).rows).map nV)) nta
    have hM1 := hM.same t1
    refine ⟨_, rfl, m, C, _, _, _, rfl, hM1.obj, c.cl, c.n _ (by decide), rfl, A1.mem, _, rfl, .inl ⟨sqL_l hM1.mem, fun tb ntb => ?_⟩⟩
    have t2 := same_new (o := .tup ((gone B pace).mem.map nV)) ntb
    have hM2 := hM1.same t2
    refine ⟨_, rfl, m, C, _, _, _, rfl, hM2.obj, c.cl, c.n _ (by decide), rfl, by show 3 ≤ sizeLine; decide, fun tc ntc => ?_⟩
    have t3 := same_new (o := .tup [.ref ta, .ref tb, nV (gone B pace).beats]) ntc
    exact q _ (.ref tc) ((Keep.toSame k).trans ((t1.trans t2).trans t3)) (.tup upd_same (.cons (.tup (t3 _ _ (t2 _ _ upd_same)) (pds_ns _)) (.cons (.tup (t3 _ _ upd_same) (pds_ns _)) (.cons (.int _) .nil))))
end
end Vt
namespace Vt
open PySem PySem.Spec PyProof.Rows L2
def FoundM (K : PySem.W.Frag) (C : Addr) (x q : Str) (st : Stmt) (f : Addr) : Prop := ∃ (oc : Value) (od : Option Addr) (kV doc pm : Value) (an : Option Addr) (cdv ct : Value) (osl : Array (Option Value)),
  PySem.W.findIn K (.ref C) x = some (some (.ref f)) ∧ K.lookup f = some ⟨oc, od, .func (PySem.W.fnOf x q (defArgs st) (defBody st) (defScope st) .none kV doc pm an cdv ct), osl⟩ ∧ PySem.W.codeIn K cdv q = true ∧ PySem.W.keepIn K (.ref f) = true ∧ PySem.W.isFn K (.ref f) = true
theorem foundm_mk {K : PySem.W.Frag} {C : Addr} {x q : Str} {st : Stmt} {f : Addr} {oc : Value} {od an : Option Addr} {kV doc pm cdv ct : Value} {osl : Array (Option Value)} (a : PySem.W.findIn K (.ref C) x = some (some (.ref f)))
    (l : K.lookup f = some ⟨oc, od, .func (PySem.W.fnOf x q (defArgs st) (defBody st) (defScope st) .none kV doc pm an cdv ct), osl⟩) (c : PySem.W.codeIn K cdv q = true) (k : PySem.W.keepIn K (.ref f) = true) (i : PySem.W.isFn K (.ref f) = true) : ∃ f, FoundM K C x q st f :=
  ⟨f, oc, od, kV, doc, pm, an, cdv, ct, osl, a, l, c, k, i⟩
theorem mcallee_mk {P : Program} {w : World} {K : PySem.W.Frag} {mg : Str → Option Value} {base : Heap} {C : Addr} {x q : Str} {st : Stmt} {k : Nat} {sp : Sp} {ps : List Str} (cl : Cls K C) (hf : ∃ f, FoundM K C x q st f)
    (ok : ∀ (f : Addr) (fd : FuncData), Fun K x q st f fd → FnOk P w K mg base CX0 k f fd ps sp)
    (hb : ∀ (kV doc pm : Value) (an : Option Addr) (cdv ct : Value) (us : List Value), us.length = ps.length → bindArgs (PySem.W.fnOf x q (defArgs st) (defBody st) (defScope st) .none kV doc pm an cdv ct) ⟨us, []⟩ = pure (ps.zip us)) : MCallee P w K mg base C x k sp := by
  obtain ⟨f, oc, od, kV, doc, pm, an, cdv, ct, osl, a, l, c, kp, i⟩ := hf
  have F := fun_mk (st := st) l c kp
  exact ⟨f, _, ps, cl, ⟨a, i, kp⟩, ok f _ F, F.binds hb⟩
theorem maker_mk {P : Program} {w : World} {K : PySem.W.Frag} {mg : Str → Option Value} {base : Heap} {C : Addr} {x q : Str} {st : Stmt} {k : Nat} {sp : Sp} {ps : List Str} (hm : mg x = some (.ref C)) (mk : PySem.W.makesIn K C = true) (kc : PySem.W.keepIn K (.ref C) = true) (hf : ∃ f, FoundM K C "__init__" q st f)
    (ok : ∀ (f : Addr) (fd : FuncData), Fun K "__init__" q st f fd → FnOk P w K mg base CX0 k f fd ps sp)
    (hb : ∀ (kV doc pm : Value) (an : Option Addr) (cdv ct : Value) (us : List Value), us.length = ps.length → bindArgs (PySem.W.fnOf "__init__" q (defArgs st) (defBody st) (defScope st) .none kV doc pm an cdv ct) ⟨us, []⟩ = pure (ps.zip us)) : Maker P w K mg base x C k sp := by
  obtain ⟨f, oc, od, kV, doc, pm, an, cdv, ct, osl, a, l, c, kp, i⟩ := hf
  have F := fun_mk (st := st) l c kp
  exact ⟨f, _, ps, ⟨mk, a, i, kc⟩, ok f _ F, hm, F.binds hb⟩
end Vt
namespace Vt
open PySem PySem.Spec PyProof.Rows L2
theorem sl_tupk {X : Cx} (K : PySem.W.Frag) (h : X.K = K := by rfl) : SlR X (rSlT K) := by
  subst h
  exact sl_tup
/-! ### boards as texts -/
def nT (n : Nat) : Str := Str.ofString (toString (n : Int))
def oT : Option Nat → Str
  | none => "-"
  | some n => nT n
def Small (os : List (Option Nat)) : Prop := ∀ o ∈ os, ∀ n, o = some n → n < 17
def rowT (w : Str) (os : List (Option Nat)) : Str := Txt.join " " (w :: os.map oT)
def Ord.nums (o : Ord) : List (Option Nat) := [some o.src, some o.goal, some o.many, o.later]
def ordRow (o : Ord) : Str := rowT "order" o.nums
def deedRow (d : Deed) : Str := rowT d.word (d.args.map some)
def rowsT (B : Brd) : List Str := rowT "memory" (B.mem.map some) :: (B.ords.map ordRow ++ B.prog.map deedRow)
def textT (B : Brd) : Str := Txt.join "\n" (rowsT B)
def plainW (z : Str) : Bool := (TL.tl z).all fun c => decide (33 ≤ c) && decide (c < 128)
theorem num_plain : ∀ n : Nat, n < 17 → plainW (nT n) = true := by decide +kernel
theorem num_len : ∀ n : Nat, n < 17 → (nT n).length ≤ 2 ∧ 0 < (nT n).length := by decide +kernel
theorem num_int : ∀ n : Nat, n < 17 → intText? (nT n) = some (n : Int) := by decide +kernel
theorem num_digit : ∀ n : Nat, n < 17 → Txt.isdigit (nT n) = true ∧ Txt.isascii (nT n) = true := by decide +kernel
theorem num_dash : ∀ n : Nat, n < 17 → decide (nT n = ("-" : Str)) = false := by decide +kernel
theorem num_head : ∀ n : Nat, n < 17 → ∃ c, (nT n).cps.toList[0]? = some c ∧ (decide (nT n = ("0" : Str)) = true ∨ decide ((⟨#[c]⟩ : Str) = ("0" : Str)) = false) := by
  intro n hn
  have h : ∀ n : Nat, n < 17 → ((nT n).cps.toList.headD 0 = 48 → decide (nT n = ("0" : Str)) = true) := by decide +kernel
  cases e : (nT n).cps.toList with
  | nil =>
    have := (num_len n hn).2
    rw [TL.len_tl] at this
    simp [e] at this
  | cons c r =>
    refine ⟨c, rfl, ?_⟩
    by_cases hc : c = 48
    · have := h n hn
      rw [e] at this
      exact .inl (this hc)
    · refine .inr (decide_eq_false fun z => hc ?_)
      have e0 : ("0" : Str) = ⟨#[48]⟩ := by decide +kernel
      rw [e0] at z
      injection z with z
      simpa using z
theorem oT_plain {os : List (Option Nat)} (h : Small os) : ∀ p ∈ os.map oT, plainW p = true := fun p hp => by
  obtain ⟨o, ho, rfl⟩ := List.mem_map.mp hp
  cases o with
  | none => decide +kernel
  | some n => exact num_plain n (h _ ho n rfl)
theorem oT_len {os : List (Option Nat)} (h : Small os) : ∀ p ∈ os.map oT, p.length ≤ 2 := fun p hp => by
  obtain ⟨o, ho, rfl⟩ := List.mem_map.mp hp
  cases o with
  | none => decide +kernel
  | some n => exact (num_len n (h _ ho n rfl)).1
theorem plain_no {z : Str} (h : plainW z = true) {c : Nat} (hc : c < 33) : ¬ c ∈ TL.tl z := fun m => by
  have := List.all_eq_true.mp h c m
  simp at this; omega
theorem word_plain (d : Deed) : plainW d.word = true ∧ d.word.length ≤ 6 := by
  have h : ∀ w ∈ (["set", "add", "say", "start", "wait", "clean", "drop"] : List Str), plainW w = true ∧ w.length ≤ 6 := by decide +kernel
  refine h _ ?_
  cases d <;> simp [Deed.word]
theorem split_row {w : Str} {os : List (Option Nat)} (hw : plainW w = true) (h : Small os) : Txt.split (rowT w os) " " = w :: os.map oT := by
  refine TL.split_join (y := " ") (s := 32) (S := []) (by decide +kernel) (by decide +kernel) (by simp) fun p hp => ?_
  rcases List.mem_cons.mp hp with rfl | hp
  · exact plain_no hw (by decide)
  · exact plain_no (oT_plain h p hp) (by decide)
theorem join_one (y p : Str) : Txt.join y [p] = p := rfl
theorem join_two (y p q : Str) (r : List Str) : Txt.join y (p :: q :: r) = Txt.join y ((p ++ y ++ q) :: r) := rfl
theorem join_snoc (y : Str) : ∀ (ps : List Str) (p q : Str), Txt.join y (p :: (ps ++ [q])) = Txt.join y (p :: ps) ++ y ++ q
  | [], p, q => rfl
  | a :: r, p, q => by
    rw [List.cons_append, join_two, join_two, join_snoc y r]
theorem app_len (a b : Str) : (a ++ b).length = a.length + b.length := by
  show (Str.append a b).cps.size = a.cps.size + b.cps.size
  simp [Str.append]
theorem tl_app (a b : Str) : TL.tl (a ++ b) = TL.tl a ++ TL.tl b := by
  show (Str.append a b).cps.toList = a.cps.toList ++ b.cps.toList
  simp [Str.append]
theorem join_len (y : Str) (k : Nat) : ∀ (ps : List Str) (p : Str), (∀ q ∈ ps, q.length ≤ k) → (Txt.join y (p :: ps)).length ≤ p.length + ps.length * (k + y.length)
  | [], p, _ => by rw [join_one]; simp
  | a :: r, p, h => by
    rw [join_two]
    have h1 := join_len y k r (p ++ y ++ a) fun q hq => h q (List.mem_cons_of_mem _ hq)
    have h2 := h a (List.mem_cons_self ..)
    rw [app_len, app_len] at h1
    have e : (a :: r).length * (k + y.length) = r.length * (k + y.length) + (k + y.length) := by rw [List.length_cons, Nat.succ_mul]
    omega
theorem join_mem (y : Str) (c : Nat) (hy : ¬ c ∈ TL.tl y) : ∀ (ps : List Str) (p : Str), ¬ c ∈ TL.tl p → (∀ q ∈ ps, ¬ c ∈ TL.tl q) → ¬ c ∈ TL.tl (Txt.join y (p :: ps))
  | [], p, hp, _ => by rw [join_one]; exact hp
  | a :: r, p, hp, h => by
    rw [join_two]
    refine join_mem y c hy r _ ?_ fun q hq => h q (List.mem_cons_of_mem _ hq)
    rw [tl_app, tl_app]
    intro m
    rcases List.mem_append.mp m with m | m
    · rcases List.mem_append.mp m with m | m
      · exact hp m
      · exact hy m
    · exact h a (List.mem_cons_self ..) m
theorem row_line {w : Str} {os : List (Option Nat)} (hw : plainW w = true) (h : Small os) : ¬ 10 ∈ TL.tl (rowT w os) :=
  join_mem " " 10 (by decide +kernel) _ _ (plain_no hw (by decide)) fun q hq => plain_no (oT_plain h q hq) (by decide)
theorem row_len {w : Str} {os : List (Option Nat)} (hw : w.length ≤ 6) (h : Small os) : (rowT w os).length ≤ 6 + 3 * os.length := by
  have := join_len " " 2 (os.map oT) w (oT_len h)
  rw [List.length_map, show (" " : Str).length = 1 by decide +kernel] at this
  unfold rowT; omega
theorem row_snoc {w : Str} {os : List (Option Nat)} {o : Option Nat} : rowT w (os ++ [o]) = rowT w os ++ " " ++ oT o := by
  unfold rowT
  rw [List.map_append]; exact join_snoc _ _ _ _
/-- boards' numbers are small -/
theorem mem_small {B : Brd} (ok : BrdOk B) : Small (B.mem.map some) := fun o ho n e => by
  obtain ⟨m, hm, rfl⟩ := List.mem_map.mp ho
  cases e
  have := ok.nums _ hm; omega
theorem ord_small {B : Brd} (ok : BrdOk B) {i : Nat} {o : Ord} (h : B.ords[i]? = some o) : Small o.nums := fun x hx n e => by
  have k := ok.ords i o h
  have c : B.mem.length ≤ 16 := by
    rcases ok.cells with h | h | h | h <;> omega
  have f := ok.four
  obtain ⟨k1, k2, k3, k4, k5⟩ := k
  simp only [Ord.nums, List.mem_cons, List.not_mem_nil, or_false] at hx
  rcases hx with rfl | rfl | rfl | rfl
  · cases e; omega
  · cases e; omega
  · cases e; omega
  · have := k5 n e; omega
theorem deed_small {B : Brd} (ok : BrdOk B) {d : Deed} (h : d ∈ B.prog) : Small (d.args.map some) := fun x hx n e => by
  have k := ok.prog d h
  have c : B.mem.length ≤ 16 := by rcases ok.cells with h | h | h | h <;> omega
  have f := ok.four
  obtain ⟨m, hm, rfl⟩ := List.mem_map.mp hx
  cases e
  cases d <;> simp only [Deed.args, List.mem_cons, List.not_mem_nil, or_false] at hm <;> simp only [DeedOk] at k
  all_goals first | omega | (rcases hm with rfl | rfl <;> omega)
theorem rows_all {B : Brd} (ok : BrdOk B) : ∀ r ∈ rowsT B, ¬ 10 ∈ TL.tl r ∧ r.length ≤ 54 := fun r hr => by
  have c : B.mem.length ≤ 16 := by
    rcases ok.cells with h | h | h | h <;> omega
  unfold rowsT at hr
  rcases List.mem_cons.mp hr with rfl | hr
  · have h := mem_small ok
    have l := row_len (w := "memory") (by decide +kernel) h
    rw [List.length_map] at l
    exact ⟨row_line (by decide +kernel) h, by omega⟩
  · rcases List.mem_append.mp hr with hr | hr
    · obtain ⟨o, ho, rfl⟩ := List.mem_map.mp hr
      obtain ⟨i, hi⟩ := List.mem_iff_getElem?.mp ho
      have h := ord_small ok hi
      have l := row_len (w := "order") (by decide +kernel) h
      simp only [Ord.nums, List.length_cons, List.length_nil] at l
      exact ⟨row_line (by decide +kernel) h, by unfold ordRow Ord.nums; omega⟩
    · obtain ⟨d, hd, rfl⟩ := List.mem_map.mp hr
      have h := deed_small ok hd
      obtain ⟨w1, w2⟩ := word_plain d
      have l := row_len w2 h
      have a : d.args.length ≤ 2 := by cases d <;> simp [Deed.args]
      rw [List.length_map] at l
      exact ⟨row_line w1 h, by unfold deedRow; omega⟩
theorem split_text {B : Brd} (ok : BrdOk B) : Txt.split (textT B) "\n" = rowsT B :=
  TL.split_join (y := "\n") (s := 10) (S := []) (by decide +kernel) (by decide +kernel) (by simp [rowsT]) fun p hp => (rows_all ok p hp).1
theorem rows_len {B : Brd} (ok : BrdOk B) : (rowsT B).length ≤ 65 := by
  have := ok.four
  have := ok.sixty
  simp only [rowsT, List.length_cons, List.length_append, List.length_map]; omega
theorem text_len {B : Brd} (ok : BrdOk B) : (textT B).length ≤ 4000 := by
  have h := join_len "\n" 54 (B.ords.map ordRow ++ B.prog.map deedRow) (rowT "memory" (B.mem.map some)) fun q hq => (rows_all ok q (List.mem_cons_of_mem _ hq)).2
  have h2 := (rows_all ok (rowT "memory" (B.mem.map some)) (List.mem_cons_self ..)).2
  have h3 := rows_len ok
  rw [show ("\n" : Str).length = 1 by decide +kernel] at h
  unfold textT rowsT
  simp only [rowsT, List.length_cons] at h3
  omega
theorem sum_le (k : Nat) : ∀ ps : List Str, (∀ q ∈ ps, q.length ≤ k) → (ps.map (·.length)).sum ≤ ps.length * k
  | [], _ => by simp
  | a :: r, h => by
    have h1 := sum_le k r fun q hq => h q (List.mem_cons_of_mem _ hq)
    have h2 := h a (List.mem_cons_self ..)
    simp only [List.map_cons, List.sum_cons, List.length_cons, Nat.succ_mul]
    omega
end Vt
namespace Vt
open PySem PySem.Spec PyProof.Rows L2
section
variable {P : Program} {w : World} {K : PySem.W.Frag} {mg : Str → Option Value} {base : Heap}
theorem nT_log {n : Nat} (h : n < 17) : ((n : Int)).natAbs.log2 < 1920 := by
  have : ∀ n : Nat, n < 17 → ((n : Int)).natAbs.log2 < 1920 := by decide +kernel
  exact this n h
abbrev st_row_of : Stmt := (topS 65)
abbrev nm_row_of : List Str := ["word", "numbers", "words", "number"]
theorem sc_row_of : FnScope ["word", "numbers", "words", "number"] ["word", "numbers"] (defScope st_row_of) := ⟨rfl, rfl, rfl, by decide +kernel, rfl, by decide +kernel, by decide +kernel⟩
def spRowOf : Sp := fun vs H Q _ => ∃ (z : Str) (a : Addr) (os : List (Option Nat)), vs = [.str z, .ref a] ∧ H a = some (.tup (os.map oV)) ∧ Small os ∧ os.length ≤ 100 ∧ z.length ≤ 6 ∧ ∀ H', Same H H' → Q (.str (rowT z os)) H'
theorem ok_rowof {f : Addr} {fd : FuncData} (F : Fun K "row_of" "row_of" st_row_of f fd) (z_str : mg "str" = none) : FnOk P w K mg base CX0 1 f fd ["word", "numbers"] spRowOf := by
  refine F.ok sc_row_of (fun vs H Q E h => ?_) (fun cdv A outer s H vs Q E hr h => ?_)
  · obtain ⟨z, a, os, rfl, _⟩ := h
    rfl
  · obtain ⟨z, a, os, rfl, ha, sm, hl, hz, q⟩ := h
    refine ⟨_, (pss_cons (ps_set (i := 2) sc_row_of.nd rfl (Or.inl rfl) (pe_lst (pa_cons (pv 0) pa_nil)))
  (pss_cons (ps_for PassesOwn.never rfl (pi_lt (pv 1)) (pg_name (i := 3) sc_row_of.nd rfl (Or.inl rfl))
  (pss_one (ps_expr (pe_bm PySem.F.plainAttrs_list PySem.F.slot_list_append PySem.F.type_list_append mt_append (pv 2) (pa_cons (pe_ifExp (pt_cmpR op_isN (pv 3) pe_non (nomark _)) pe_str (pe_callTy call_str_int (by rfl) z_str (by decide +kernel) (pa_cons (pv 3) pa_nil))) pa_nil)))))
  (pss_one (ps_ret (pe_join pe_str (pv 2)))))), ?_⟩
    refine ⟨_, rfl, by show 1 ≤ sizeLine; decide, fun W nW => ?_⟩
    have s1 := same_new (o := .lst [.str z]) nW
    refine ⟨_, rfl, a, rfl, .inr ⟨_, sqT_t (s1 _ _ ha), ?_⟩⟩
    refine for_it (walk_tup (xs := os.map oV)) (fun i σ H' => ∃ y3 : Option V, σ = [some (.str z), some (.ref a), some (.ref W), y3] ∧ H' W = some (.lst ((z :: (os.take i).map oT).map V.str)) ∧ Same H H')
      ⟨_, rfl, upd_same, s1⟩ (fun i σ H' _ hp => by obtain ⟨_, _, _, sm⟩ := hp; exact sqT_t (sm _ _ ha)) (fun i x σ H2 H3 hi hp hy => ?_) (fun σ H2 hp => ?_)
    · obtain ⟨y3, rfl, hW, s2⟩ := hp
      obtain ⟨rfl, hx⟩ := hy
      rw [List.getElem?_map] at hx
      obtain ⟨o, ho, rfl⟩ : ∃ o, os[i]? = some o ∧ oV o = x := by simpa using hx
      have hm : o ∈ os := List.mem_of_getElem? ho
      have tk : os.take (i + 1) = os.take i ++ [o] := by rw [List.take_add_one, ho]; rfl
      have len : ((z :: (os.take i).map oT).map V.str).length < sizeLine := fits (by
        have := List.length_take_le' i os
        simp only [List.length_map, List.length_cons]; omega)
      have fin : ∃ y3 : Option V, [some (.str z), some (.ref a), some (.ref W), some (oV o)] = [some (.str z), some (.ref a), some (.ref W), y3] ∧ (upd H3 W (.lst ((z :: (os.take i).map oT).map V.str ++ [.str (oT o)]))) W = some (.lst ((z :: (os.take (i + 1)).map oT).map V.str)) ∧ Same H (upd H3 W (.lst ((z :: (os.take i).map oT).map V.str ++ [.str (oT o)]))) :=
        ⟨_, rfl, by rw [upd_same, tk]; simp, fun b u e => by rw [upd_ne (ne_of_none e nW)]; exact s2 _ _ e⟩
      refine ⟨_, rfl, .inl ⟨rfl, _, sqL_l hW⟩, _, rfl, rfl, _, rfl, ?_⟩
      cases o with
      | none => exact iteT ⟨W, _, _, rfl, rfl, hW, len, fin⟩
      | some n => exact iteF ⟨_, rfl, _, rfl, nT_log (sm _ hm n rfl), W, _, _, rfl, rfl, hW, len, fin⟩
    · obtain ⟨y3, rfl, hW, s2⟩ := hp
      rw [List.length_map, List.take_length] at hW
      have h1 := sum_le 6 (z :: os.map oT) (fun q hq => by
        rcases List.mem_cons.mp hq with rfl | hq
        · exact hz
        · have := oT_len sm q hq; omega)
      rw [List.length_cons, List.length_map] at h1
      refine ⟨⟨_, rfl⟩, _, rfl, " ", W, z :: os.map oT, rfl, rfl, .inl (sqL_l hW), ?_, q _ s2⟩
      rw [List.length_cons, List.length_map, show (" " : Str).length = 1 by decide +kernel]
      omega
abbrev st_written : Stmt := (topS 64)
abbrev nm_written : List Str := ["board", "memory", "orders", "program", "rows", "order", "deed"]
theorem sc_written : FnScope ["board", "memory", "orders", "program", "rows", "order", "deed"] ["board"] (defScope st_written) := ⟨rfl, rfl, rfl, by decide +kernel, rfl, by decide +kernel, by decide +kernel⟩
def spWritten : Sp := fun vs H Q _ => ∃ (v : V) (B : Brd), vs = [v] ∧ Pd H v B.d ∧ BrdOk B ∧ ∀ H', Same H H' → Q (.str (textT B)) H'
theorem ok_written {f : Addr} {fd : FuncData} (F : Fun K "written" "written" st_written f fd) (c_require_board : Callee P w K mg base "require_board" 3 1 spReq) (c_row_of : Callee P w K mg base "row_of" 1 2 spRowOf) : FnOk P w K mg base CX0 4 f fd ["board"] spWritten := by
  refine F.ok sc_written (fun vs H Q E h => ?_) (fun cdv A outer s H vs Q E hr h => ?_)
  · obtain ⟨v, B, rfl, _⟩ := h
    rfl
  · obtain ⟨v, B, rfl, hB, ok, q⟩ := h
    refine ⟨_, (pss_cons (ps_expr (pe_cal c_require_board hr (by first | decide | exact Nat.le_refl _) (pa_cons (pv 0) pa_nil)))
  (pss_cons (ps_asg (pv 0) (pg_tup rfl (pgs_cons (pg_name (i := 1) sc_written.nd rfl (Or.inl rfl)) (pgs_cons (pg_name (i := 2) sc_written.nd rfl (Or.inl rfl)) (pgs_cons (pg_name (i := 3) sc_written.nd rfl (Or.inl rfl)) pgs_nil)))))
  (pss_cons (ps_set (i := 4) sc_written.nd rfl (Or.inl rfl) (pe_lst (pa_cons (pe_cal c_row_of hr (by first | decide | exact Nat.le_refl _) (pa_cons pe_str (pa_cons (pv 1) pa_nil))) pa_nil)))
  (pss_cons (ps_expr (pe_bm PySem.F.plainAttrs_list PySem.F.slot_list_extend PySem.F.type_list_extend mt_extend (pv 4) (pa_cons (pe_lc (own := [("order", 5)]) rfl sc_written.nd (pi_lt (pv 2)) (blkOk_by (own := [("order", 5)]) (N := nm_written) (sc := defScope (topS 64)) (by decide +kernel)) (fun _ _ _ _ _ => (pg_name (i := 5) sc_written.nd rfl (Or.inl rfl))) (fun _ _ _ _ _ => pts_nil) (fun _ _ _ _ _ => (pe_cal c_row_of hr (by first | decide | exact Nat.le_refl _) (pa_cons pe_str (pa_cons (pv 5) pa_nil))))) pa_nil)))
  (pss_cons (ps_expr (pe_bm PySem.F.plainAttrs_list PySem.F.slot_list_extend PySem.F.type_list_extend mt_extend (pv 4) (pa_cons (pe_lc (own := [("deed", 6)]) rfl sc_written.nd (pi_lt (pv 3)) (blkOk_by (own := [("deed", 6)]) (N := nm_written) (sc := defScope (topS 64)) (by decide +kernel)) (fun _ _ _ _ _ => (pg_name (i := 6) sc_written.nd rfl (Or.inl rfl))) (fun _ _ _ _ _ => pts_nil) (fun _ _ _ _ _ => (pe_cal c_row_of hr (by first | decide | exact Nat.le_refl _) (pa_cons (pe_ix (ix_ltk K) (pv 6) pe_int (fun _ _ => rfl)) (pa_cons (pe_slice (sl_tupk K) (pv 6) (po_some pe_int) po_none) pa_nil))))) pa_nil)))
  (pss_one (ps_ret (pe_join pe_str (pv 4))))))))), ?_⟩
    refine ⟨_, rfl, v, B, rfl, hB, ok, fun H1 s1 => ?_⟩
    obtain ⟨a, mm, o, p, os, ps, rfl, ha, hm, ho, hos, hp', hps⟩ := Brd.of (hB.same s1)
    refine ⟨_, rfl, a, _, rfl, sqT_t ha, rfl, _, _, rfl, _, _, rfl, _, _, rfl, rfl, ?_⟩
    have c16 : B.mem.length ≤ 16 := by rcases ok.cells with h | h | h | h <;> omega
    -- rows = [row_of("memory", memory)]
    refine ⟨_, rfl, "memory", mm, B.mem.map some, rfl, ?_, mem_small ok, by rw [List.length_map]; omega, by decide +kernel, fun H2 s2 => ?_⟩
    · rw [hm, List.map_map]; rfl
    refine ⟨by show 1 ≤ sizeLine; decide, fun W nW => ?_⟩
    have s3 : Same H1 (upd H2 W (.lst [.str (rowT "memory" (B.mem.map some))])) := s2.trans (same_new nW)
    have hW3 : (upd H2 W (.lst [.str (rowT "memory" (B.mem.map some))])) W = some (.lst [.str (rowT "memory" (B.mem.map some))]) := upd_same
    have nW1 : H1 W = none := by
      cases z : H1 W with
      | none => rfl
      | some u => rw [s2 _ _ z] at nW; cases nW
    generalize upd H2 W (.lst [.str (rowT "memory" (B.mem.map some))]) = H3 at s3 hW3
    have olen : os.length = B.ords.length := by rw [hos.len, List.length_map]
    have plen : ps.length = B.prog.length := by rw [hps.len, List.length_map]
    -- rows.extend([row_of("order", order) ..])
    refine ⟨_, rfl, .inl ⟨rfl, _, sqL_l hW3⟩, _, rfl, o, rfl, .inr ⟨_, sqT_t (s3 _ _ ho), fun D nD => ?_⟩⟩
    have DW : D ≠ W := fun z => by rw [z, hW3] at nD; cases nD
    refine lc_it (walk_tup (xs := os)) (fun j H' => H' D = some (.lst (((B.ords.take j).map ordRow).map V.str)) ∧ Same H3 H')
      ⟨upd_same, same_new nD⟩ (fun j H' _ hp => sqT_t (hp.2 _ _ (s3 _ _ ho))) (fun j x H4 H5 hj hp hy => ?_) (fun H4 hp => ?_)
    · obtain ⟨hD, s4⟩ := hp
      obtain ⟨rfl, hx⟩ := hy
      obtain ⟨dd, hdd, hpd⟩ := hos.get' hx
      rw [List.getElem?_map] at hdd
      obtain ⟨o0, ho0, rfl⟩ : ∃ o0, B.ords[j]? = some o0 ∧ o0.d = dd := by simpa using hdd
      obtain ⟨oa, rfl, hoa⟩ := Ord.of hpd
      have tk : B.ords.take (j + 1) = B.ords.take j ++ [o0] := by rw [List.take_add_one, ho0]; rfl
      refine ⟨rfl, iteT (B := True) ⟨_, rfl, "order", oa, o0.nums, rfl, s4 _ _ (s3 _ _ hoa), ord_small ok ho0, by simp [Ord.nums], by decide +kernel, fun H6 s6 => ?_⟩⟩
      refine ⟨_, s6 _ _ hD, fits ?_, ?_, fun b u e => ?_⟩
      · have := List.length_take_le' j B.ords
        have := ok.four
        simp only [List.length_map]; omega
      · rw [upd_same, tk]; simp [ordRow]
      · rw [upd_ne (ne_of_none e nD)]; exact s6 _ _ (s4 _ _ e)
    obtain ⟨hD, s4⟩ := hp
    rw [olen, List.take_length] at hD
    have hW4 := s4 _ _ hW3
    refine ⟨W, D, _, _, rfl, rfl, hW4, hD, fits' ?_, ?_⟩
    · have := ok.four
      simp only [List.length_map, List.length_cons, List.length_nil]; omega
    have s5 : Same H1 (upd H4 W (.lst ([.str (rowT "memory" (B.mem.map some))] ++ (B.ords.map ordRow).map V.str))) := fun b u e => by rw [upd_ne (ne_of_none e nW1)]; exact s4 _ _ (s3 _ _ e)
    have hW5 : (upd H4 W (.lst ([.str (rowT "memory" (B.mem.map some))] ++ (B.ords.map ordRow).map V.str))) W = some (.lst ([.str (rowT "memory" (B.mem.map some))] ++ (B.ords.map ordRow).map V.str)) := upd_same
    generalize upd H4 W (.lst ([.str (rowT "memory" (B.mem.map some))] ++ (B.ords.map ordRow).map V.str)) = H5 at s5 hW5
    -- rows.extend([row_of(deed[0], deed[1:]) ..])
    refine ⟨_, rfl, .inl ⟨rfl, _, sqL_l hW5⟩, _, rfl, p, rfl, .inr ⟨_, sqT_t (s5 _ _ hp'), fun D2 nD2 => ?_⟩⟩
    refine lc_it (walk_tup (xs := ps)) (fun j H' => H' D2 = some (.lst (((B.prog.take j).map deedRow).map V.str)) ∧ Same H5 H')
      ⟨upd_same, same_new nD2⟩ (fun j H' _ hp => sqT_t (hp.2 _ _ (s5 _ _ hp'))) (fun j x H6 H7 hj hp hy => ?_) (fun H6 hp => ?_)
    · obtain ⟨hD, s6⟩ := hp
      obtain ⟨rfl, hx⟩ := hy
      obtain ⟨dd, hdd, hpd⟩ := hps.get' hx
      rw [List.getElem?_map] at hdd
      obtain ⟨d0, hd0, rfl⟩ : ∃ d0, B.prog[j]? = some d0 ∧ d0.d = dd := by simpa using hdd
      obtain ⟨da, rfl, hda⟩ := Deed.of hpd
      have tk : B.prog.take (j + 1) = B.prog.take j ++ [d0] := by rw [List.take_add_one, hd0]; rfl
      have hda7 := s6 _ _ (s5 _ _ hda)
      have al : d0.args.length ≤ 2 := by cases d0 <;> simp [Deed.args]
      refine ⟨rfl, iteT (B := True) ⟨_, rfl, da, _, 0, .str d0.word, rfl, rfl, sqA_t hda7, at0, ?_⟩⟩
      refine ⟨_, rfl, 1, rfl, da, _, rfl, sqT_t hda7, (fun z => absurd z.1 (by simp [HT.sIx, Deed.vs])), fun T nT => ?_⟩
      have cut : cutV d0.vs (some 1) none = d0.args.map nV := by
        cases d0 <;> rfl
      have s7 := same_new (o := .tup (cutV d0.vs (some 1) none)) nT
      refine ⟨d0.word, T, d0.args.map some, rfl, ?_, deed_small ok (List.mem_of_getElem? hd0), by rw [List.length_map]; omega, (word_plain d0).2, fun H8 s8 => ?_⟩
      · rw [upd_same, cut, List.map_map]; rfl
      refine ⟨_, s8 _ _ (s7 _ _ hD), fits ?_, ?_, fun b u e => ?_⟩
      · have := List.length_take_le' j B.prog
        have := ok.sixty
        simp only [List.length_map]; omega
      · rw [upd_same, tk]; simp [deedRow]
      · rw [upd_ne (ne_of_none e nD2)]; exact s8 _ _ (s7 _ _ (s6 _ _ e))
    obtain ⟨hD2, s6⟩ := hp
    rw [plen, List.take_length] at hD2
    have rl := rows_len ok
    refine ⟨W, D2, _, _, rfl, rfl, s6 _ _ hW5, hD2, fits' ?_, ?_⟩
    · simp only [rowsT, List.length_cons, List.length_append, List.length_map] at rl
      simp only [List.length_map, List.length_cons, List.length_append, List.length_nil]; omega
    have e9 : [V.str (rowT "memory" (B.mem.map some))] ++ (B.ords.map ordRow).map V.str ++ (B.prog.map deedRow).map V.str = (rowsT B).map V.str := by simp [rowsT]
    rw [e9]
    have h1 := sum_le 54 (rowsT B) fun q hq => (rows_all ok q hq).2
    refine ⟨⟨_, rfl⟩, _, rfl, "\n", W, rowsT B, rfl, rfl, .inl (sqL_l upd_same), ?_, q _ fun b u e => ?_⟩
    · rw [show ("\n" : Str).length = 1 by decide +kernel]; omega
    · rw [upd_ne (ne_of_none (s1 _ _ e) nW1)]; exact s6 _ _ (s5 _ _ (s1 _ _ e))
end
end Vt
namespace Vt
open PySem PySem.Spec PyProof.Rows L2
/-! ### what a board that cannot be is handed to -/
def EBrd (BB : Addr) (E : XK) (H : Hp) (z : Str) (n : Nat) : Prop := ∀ (H' : Hp) (d : Addr), Same H H' → H' d = some (.xd (fs2 z (n : Nat))) → E (.ref BB) (some d) H'
theorem EBrd.same {BB : Addr} {E : XK} {H H1 : Hp} {z : Str} {n : Nat} (h : EBrd BB E H z n) (s : Same H H1) : EBrd BB E H1 z n := fun H' d s' e => h H' d (s.trans s') e
def BadB (K : PySem.W.Frag) (w : World) (dd BB : Addr) (E : XK) (H : Hp) (v : V) : Prop := ∃ (R : RBrd) (z : Str) (k : Nat), Pd H v R.d ∧ RawOk K w dd R ∧ wrongB R = some (z, k) ∧ EBrd BB E H z k
theorem BadB.same {K : PySem.W.Frag} {w : World} {dd BB : Addr} {E : XK} {H H1 : Hp} {v : V} (h : BadB K w dd BB E H v) (s : Same H H1) : BadB K w dd BB E H1 v := by
  obtain ⟨R, z, k, h1, h2, h3, h4⟩ := h
  exact ⟨R, z, k, h1.same s, h2, h3, h4.same s⟩
def spB1 (K : PySem.W.Frag) (w : World) (dd BB : Addr) : Sp := fun vs H _ E => ∃ v, vs = [v] ∧ BadB K w dd BB E H v
def spB2 (K : PySem.W.Frag) (w : World) (dd BB : Addr) : Sp := fun vs H _ E => ∃ v y, vs = [v, y] ∧ BadB K w dd BB E H v
def spBI (K : PySem.W.Frag) (w : World) (dd BB : Addr) : Sp := fun vs H _ E => ∃ x v, vs = [x, v] ∧ BadB K w dd BB E H v
theorem passesN {X : Cx} {E : XK} (tk : L2N.Takes X (fun c d _ H => E c d H)) : Passes (L2N.CX X.prog X.w) X E := fun pins σ H s e s' I c => L2N.passAt tk σ pins H s e s' I c
structure MakerN (P : Program) (w : World) (K : PySem.W.Frag) (mg : Str → Option Value) (base : Heap) (x : Str) (C : Addr) (k : Nat) (sp : Sp) : Prop where
  ex : ∃ (f : Addr) (fd : FuncData) (ps : List Str), Mk K C f ∧ FnOk P w K mg base (L2N.CX P w) k f fd ps sp ∧ mg x = some (.ref C) ∧ Binds K fd ps []
theorem pe_mkN {X : Cx} {x : Str} {k j : Nat} {C : Addr} {sp : Sp} {E : XK} {p pos : Pos} {e : Expr} {es : List Expr} {t : TA} (c : MakerN X.prog X.w X.K X.mg X.base x C k sp) (hr : Room j X.A) (hk : k + 1 ≤ j) (tk : L2N.Takes X (fun c d _ H => E c d H)) (ha : L2.PA X (e :: es) t) (hg : Gl X x := by rfl)
    (hdb : (x == ("__debug__" : Str)) = false := by decide) (he : starEach (e :: es) X.env = (false, eval e X.env) :: starEach es X.env := by rfl) (hpl : (backTo pos (starEach es X.env)).any (·.1) = false := by rfl) :
    PE X (.Call (.Name x p) (e :: es) [] pos) (tMake C sp [] E t) := by
  obtain ⟨f, fd, ps, M, F, hm, b⟩ := c.ex
  exact pe_make M F (hr.mono hk) hg hm b .nil (passesN tk) ha hdb he hpl
section
variable {P : Program} {w : World} {K : PySem.W.Frag} {mg : Str → Option Value} {base : Heap}
theorem req_bad {dd BB : Addr} {H : Hp} {Q : VK} {E : XK} {v : V} (h : BadB K w dd BB E H v) : spReqX K w dd BB [v] H Q E := by
  obtain ⟨R, z, k, h1, h2, h3, h4⟩ := h
  refine ⟨v, R, rfl, h1, h2, fun e => (by rw [h3] at e; cases e), fun z' n' e => ?_⟩
  rw [h3] at e
  cases e
  exact h4
theorem ok_runB {f dd BB : Addr} {fd : FuncData} (F : Fun K "run" "run" st_run f fd) (c_require_board : CalleeN P w K mg base "require_board" 3 1 (spReqX K w dd BB)) : FnOk P w K mg base (L2N.CX P w) 4 f fd ["board", "pace"] (spB2 K w dd BB) := by
  refine okN F sc_run (fun vs H Q E h => ?_) (fun cdv A outer s H vs Q E hr h => ?_)
  · obtain ⟨v, y, rfl, h⟩ := h
    rfl
  · obtain ⟨v, y, rfl, h⟩ := h
    refine ⟨_, (pss_cons (ps_expr (pe_calN c_require_board hr (by first | decide | exact Nat.le_refl _) (L2N.takes_of rfl rfl rfl rfl) (pa_cons (pv 0) pa_nil)))
  pss_never), _, rfl, ?_⟩
    obtain ⟨R, z, k, h1, h2, h3, h4⟩ := h
    refine ⟨v, R, rfl, h1, h2, fun e => (by rw [h3] at e; cases e), fun z' n' e => ?_⟩
    rw [h3] at e
    cases e
    exact h4
theorem ok_prunB {f dd BB : Addr} {fd : FuncData} (F : Fun K "plain_run" "plain_run" st_plain_run f fd) (c_require_board : CalleeN P w K mg base "require_board" 3 1 (spReqX K w dd BB)) : FnOk P w K mg base (L2N.CX P w) 4 f fd ["board"] (spB1 K w dd BB) := by
  refine okN F sc_plain_run (fun vs H Q E h => ?_) (fun cdv A outer s H vs Q E hr h => ?_)
  · obtain ⟨v, rfl, h⟩ := h
    rfl
  · obtain ⟨v, rfl, h⟩ := h
    refine ⟨_, (pss_cons (ps_expr (pe_calN c_require_board hr (by first | decide | exact Nat.le_refl _) (L2N.takes_of rfl rfl rfl rfl) (pa_cons (pv 0) pa_nil)))
  pss_never), _, rfl, ?_⟩
    obtain ⟨R, z, k, h1, h2, h3, h4⟩ := h
    refine ⟨v, R, rfl, h1, h2, fun e => (by rw [h3] at e; cases e), fun z' n' e => ?_⟩
    rw [h3] at e
    cases e
    exact h4
abbrev st_fenced : Stmt := (topS 50)
abbrev nm_fenced : List Str := ["board", "fences", "shut"]
theorem sc_fenced : FnScope ["board", "fences", "shut"] ["board", "fences"] (defScope st_fenced) := ⟨rfl, rfl, rfl, by decide +kernel, rfl, by decide +kernel, by decide +kernel⟩
theorem ok_fencedB {f dd BB : Addr} {fd : FuncData} (F : Fun K "fenced" "fenced" st_fenced f fd) (c_require_board : CalleeN P w K mg base "require_board" 3 1 (spReqX K w dd BB)) : FnOk P w K mg base (L2N.CX P w) 4 f fd ["board", "fences"] (spB2 K w dd BB) := by
  refine okN F sc_fenced (fun vs H Q E h => ?_) (fun cdv A outer s H vs Q E hr h => ?_)
  · obtain ⟨v, y, rfl, h⟩ := h
    rfl
  · obtain ⟨v, y, rfl, h⟩ := h
    refine ⟨_, (pss_cons (ps_expr (pe_calN c_require_board hr (by first | decide | exact Nat.le_refl _) (L2N.takes_of rfl rfl rfl rfl) (pa_cons (pv 0) pa_nil)))
  pss_never), _, rfl, ?_⟩
    obtain ⟨R, z, k, h1, h2, h3, h4⟩ := h
    refine ⟨v, R, rfl, h1, h2, fun e => (by rw [h3] at e; cases e), fun z' n' e => ?_⟩
    rw [h3] at e
    cases e
    exact h4
abbrev st_fully : Stmt := (topS 51)
abbrev nm_fully : List Str := ["board", "memory", "orders", "program", "line_count", "fences", "at", "deed", "line"]
theorem sc_fully : FnScope ["board", "memory", "orders", "program", "line_count", "fences", "at", "deed", "line"] ["board"] (defScope st_fully) := ⟨rfl, rfl, rfl, by decide +kernel, rfl, by decide +kernel, by decide +kernel⟩
theorem ok_fullyB {f dd BB : Addr} {fd : FuncData} (F : Fun K "fully" "fully" st_fully f fd) (c_require_board : CalleeN P w K mg base "require_board" 3 1 (spReqX K w dd BB)) : FnOk P w K mg base (L2N.CX P w) 4 f fd ["board"] (spB1 K w dd BB) := by
  refine okN F sc_fully (fun vs H Q E h => ?_) (fun cdv A outer s H vs Q E hr h => ?_)
  · obtain ⟨v, rfl, h⟩ := h
    rfl
  · obtain ⟨v, rfl, h⟩ := h
    refine ⟨_, (pss_cons (ps_expr (pe_calN c_require_board hr (by first | decide | exact Nat.le_refl _) (L2N.takes_of rfl rfl rfl rfl) (pa_cons (pv 0) pa_nil)))
  pss_never), _, rfl, ?_⟩
    obtain ⟨R, z, k, h1, h2, h3, h4⟩ := h
    refine ⟨v, R, rfl, h1, h2, fun e => (by rw [h3] at e; cases e), fun z' n' e => ?_⟩
    rw [h3] at e
    cases e
    exact h4
abbrev st_fewest : Stmt := (topS 53)
abbrev nm_fewest : List Str := ["board", "most", "many", "fences"]
theorem sc_fewest : FnScope ["board", "most", "many", "fences"] ["board", "most"] (defScope st_fewest) := ⟨rfl, rfl, rfl, by decide +kernel, rfl, by decide +kernel, by decide +kernel⟩
theorem ok_fewestB {f dd BB : Addr} {fd : FuncData} (F : Fun K "fewest" "fewest" st_fewest f fd) (c_require_board : CalleeN P w K mg base "require_board" 3 1 (spReqX K w dd BB)) : FnOk P w K mg base (L2N.CX P w) 4 f fd ["board", "most"] (spB2 K w dd BB) := by
  refine okN F sc_fewest (fun vs H Q E h => ?_) (fun cdv A outer s H vs Q E hr h => ?_)
  · obtain ⟨v, y, rfl, h⟩ := h
    rfl
  · obtain ⟨v, y, rfl, h⟩ := h
    refine ⟨_, (pss_cons (ps_expr (pe_calN c_require_board hr (by first | decide | exact Nat.le_refl _) (L2N.takes_of rfl rfl rfl rfl) (pa_cons (pv 0) pa_nil)))
  pss_never), _, rfl, ?_⟩
    obtain ⟨R, z, k, h1, h2, h3, h4⟩ := h
    refine ⟨v, R, rfl, h1, h2, fun e => (by rw [h3] at e; cases e), fun z' n' e => ?_⟩
    rw [h3] at e
    cases e
    exact h4
theorem ok_writtenB {f dd BB : Addr} {fd : FuncData} (F : Fun K "written" "written" st_written f fd) (c_require_board : CalleeN P w K mg base "require_board" 3 1 (spReqX K w dd BB)) : FnOk P w K mg base (L2N.CX P w) 4 f fd ["board"] (spB1 K w dd BB) := by
  refine okN F sc_written (fun vs H Q E h => ?_) (fun cdv A outer s H vs Q E hr h => ?_)
  · obtain ⟨v, rfl, h⟩ := h
    rfl
  · obtain ⟨v, rfl, h⟩ := h
    refine ⟨_, (pss_cons (ps_expr (pe_calN c_require_board hr (by first | decide | exact Nat.le_refl _) (L2N.takes_of rfl rfl rfl rfl) (pa_cons (pv 0) pa_nil)))
  pss_never), _, rfl, ?_⟩
    obtain ⟨R, z, k, h1, h2, h3, h4⟩ := h
    refine ⟨v, R, rfl, h1, h2, fun e => (by rw [h3] at e; cases e), fun z' n' e => ?_⟩
    rw [h3] at e
    cases e
    exact h4
theorem ok_endedB {f dd BB : Addr} {fd : FuncData} (F : Fun K "ended" "ended" st_ended f fd) (c_run : CalleeN P w K mg base "run" 4 2 (spB2 K w dd BB)) : FnOk P w K mg base (L2N.CX P w) 5 f fd ["board", "pace"] (spB2 K w dd BB) := by
  refine okN F sc_ended (fun vs H Q E h => ?_) (fun cdv A outer s H vs Q E hr h => ?_)
  · obtain ⟨v, y, rfl, h⟩ := h
    rfl
  · obtain ⟨v, y, rfl, h⟩ := h
    refine ⟨_, (pss_cons (ps_set (i := 2) sc_ended.nd rfl (Or.inl rfl) (pe_calN c_run hr (by first | decide | exact Nat.le_refl _) (L2N.takes_of rfl rfl rfl rfl) (pa_cons (pv 0) (pa_cons (pv 1) pa_nil))))
  pss_never), _, rfl, _, rfl, v, y, rfl, h⟩
theorem ok_storyB {f dd BB : Addr} {fd : FuncData} (F : Fun K "story" "story" st_story f fd) (c_run : CalleeN P w K mg base "run" 4 2 (spB2 K w dd BB)) : FnOk P w K mg base (L2N.CX P w) 5 f fd ["board", "pace"] (spB2 K w dd BB) := by
  refine okN F sc_story (fun vs H Q E h => ?_) (fun cdv A outer s H vs Q E hr h => ?_)
  · obtain ⟨v, y, rfl, h⟩ := h
    rfl
  · obtain ⟨v, y, rfl, h⟩ := h
    refine ⟨_, (pss_cons (ps_ret (pe_fld (pe_calN c_run hr (by first | decide | exact Nat.le_refl _) (L2N.takes_of rfl rfl rfl rfl) (pa_cons (pv 0) (pa_cons (pv 1) pa_nil))) rfl))
  pss_never), _, rfl, _, rfl, v, y, rfl, h⟩
abbrev st_amiss : Stmt := (topS 60)
abbrev nm_amiss : List Str := ["board", "pace", "machine", "memory", "said", "reads", "fetches", "rows", "cell", "number"]
theorem sc_amiss : FnScope ["board", "pace", "machine", "memory", "said", "reads", "fetches", "rows", "cell", "number"] ["board", "pace"] (defScope st_amiss) := ⟨rfl, rfl, rfl, by decide +kernel, rfl, by decide +kernel, by decide +kernel⟩
theorem ok_amissB {f dd BB : Addr} {fd : FuncData} (F : Fun K "amiss" "amiss" st_amiss f fd) (c_run : CalleeN P w K mg base "run" 4 2 (spB2 K w dd BB)) : FnOk P w K mg base (L2N.CX P w) 5 f fd ["board", "pace"] (spB2 K w dd BB) := by
  refine okN F sc_amiss (fun vs H Q E h => ?_) (fun cdv A outer s H vs Q E hr h => ?_)
  · obtain ⟨v, y, rfl, h⟩ := h
    rfl
  · obtain ⟨v, y, rfl, h⟩ := h
    refine ⟨_, (pss_cons (ps_set (i := 2) sc_amiss.nd rfl (Or.inl rfl) (pe_calN c_run hr (by first | decide | exact Nat.le_refl _) (L2N.takes_of rfl rfl rfl rfl) (pa_cons (pv 0) (pa_cons (pv 1) pa_nil))))
  pss_never), _, rfl, _, rfl, v, y, rfl, h⟩
theorem ok_plain_endB {f dd BB : Addr} {fd : FuncData} (F : Fun K "plain_end" "plain_end" st_plain_end f fd) (c_plain_run : CalleeN P w K mg base "plain_run" 4 1 (spB1 K w dd BB)) : FnOk P w K mg base (L2N.CX P w) 5 f fd ["board"] (spB1 K w dd BB) := by
  refine okN F sc_plain_end (fun vs H Q E h => ?_) (fun cdv A outer s H vs Q E hr h => ?_)
  · obtain ⟨v, rfl, h⟩ := h
    rfl
  · obtain ⟨v, rfl, h⟩ := h
    refine ⟨_, (pss_cons (ps_asg (pe_calN c_plain_run hr (by first | decide | exact Nat.le_refl _) (L2N.takes_of rfl rfl rfl rfl) (pa_cons (pv 0) pa_nil)) (pg_tup rfl (pgs_cons (pg_name (i := 1) sc_plain_end.nd rfl (Or.inl rfl)) (pgs_cons (pg_name (i := 2) sc_plain_end.nd rfl (Or.inl rfl)) (pgs_cons (pg_name (i := 3) sc_plain_end.nd rfl (Or.inl rfl)) (pgs_cons (pg_name (i := 4) sc_plain_end.nd rfl (Or.inl rfl)) pgs_nil))))))
  pss_never), _, rfl, v, rfl, h⟩
theorem ok_sightsB {f dd BB : Addr} {fd : FuncData} (F : Fun K "sights" "sights" st_sights f fd) (c_plain_run : CalleeN P w K mg base "plain_run" 4 1 (spB1 K w dd BB)) : FnOk P w K mg base (L2N.CX P w) 5 f fd ["board"] (spB1 K w dd BB) := by
  refine okN F sc_sights (fun vs H Q E h => ?_) (fun cdv A outer s H vs Q E hr h => ?_)
  · obtain ⟨v, rfl, h⟩ := h
    rfl
  · obtain ⟨v, rfl, h⟩ := h
    refine ⟨_, (pss_cons (ps_asg (pe_calN c_plain_run hr (by first | decide | exact Nat.le_refl _) (L2N.takes_of rfl rfl rfl rfl) (pa_cons (pv 0) pa_nil)) (pg_tup rfl (pgs_cons (pg_name (i := 1) sc_sights.nd rfl (Or.inl rfl)) (pgs_cons (pg_name (i := 2) sc_sights.nd rfl (Or.inl rfl)) (pgs_cons (pg_name (i := 3) sc_sights.nd rfl (Or.inl rfl)) (pgs_cons (pg_name (i := 4) sc_sights.nd rfl (Or.inl rfl)) pgs_nil))))))
  pss_never), _, rfl, v, rfl, h⟩
abbrev st_Script___init__ : Stmt := (inClass (topS 37) 0)
abbrev nm_Script___init__ : List Str := ["self", "board", "memory", "orders", "program", "end", "said", "reads", "fetches", "walk", "deed", "source", "goal", "bell", "seen"]
theorem sc_Script___init__ : FnScope ["self", "board", "memory", "orders", "program", "end", "said", "reads", "fetches", "walk", "deed", "source", "goal", "bell", "seen"] ["self", "board"] (defScope st_Script___init__) := ⟨rfl, rfl, rfl, by decide +kernel, rfl, by decide +kernel, by decide +kernel⟩
theorem ok_sinitB {f dd BB : Addr} {fd : FuncData} (F : Fun K "__init__" "Script.__init__" st_Script___init__ f fd) (c_plain_run : CalleeN P w K mg base "plain_run" 4 1 (spB1 K w dd BB)) : FnOk P w K mg base (L2N.CX P w) 5 f fd ["self", "board"] (spBI K w dd BB) := by
  refine okN F sc_Script___init__ (fun vs H Q E h => ?_) (fun cdv A outer s H vs Q E hr h => ?_)
  · obtain ⟨x, v, rfl, h⟩ := h
    rfl
  · obtain ⟨x, v, rfl, h⟩ := h
    refine ⟨_, (pss_cons (ps_asg (pv 1) (pg_tup rfl (pgs_cons (pg_name (i := 2) sc_Script___init__.nd rfl (Or.inl rfl)) (pgs_cons (pg_name (i := 3) sc_Script___init__.nd rfl (Or.inl rfl)) (pgs_cons (pg_name (i := 4) sc_Script___init__.nd rfl (Or.inl rfl)) pgs_nil)))))
  (pss_cons (ps_asg (pe_calN c_plain_run hr (by first | decide | exact Nat.le_refl _) (L2N.takes_of rfl rfl rfl rfl) (pa_cons (pv 1) pa_nil)) (pg_tup rfl (pgs_cons (pg_name (i := 5) sc_Script___init__.nd rfl (Or.inl rfl)) (pgs_cons (pg_name (i := 6) sc_Script___init__.nd rfl (Or.inl rfl)) (pgs_cons (pg_name (i := 7) sc_Script___init__.nd rfl (Or.inl rfl)) (pgs_cons (pg_name (i := 8) sc_Script___init__.nd rfl (Or.inl rfl)) pgs_nil))))))
  pss_never)), ?_⟩
    have h' := h
    obtain ⟨R, z, k, h1, _⟩ := h'
    obtain ⟨a, m, o, p, os, ps, rfl, ha, hm, ho, hos, hp, hps⟩ := RBrd.of h1
    refine ⟨_, rfl, a, _, rfl, sqT_t ha, rfl, _, _, rfl, _, _, rfl, _, _, rfl, rfl, ?_⟩
    exact ⟨_, rfl, .ref a, rfl, h⟩
abbrev st_pace_amiss : Stmt := (topS 40)
abbrev nm_pace_amiss : List Str := ["board", "script", "cell", "pace"]
theorem sc_pace_amiss : FnScope ["board", "script", "cell", "pace"] ["board"] (defScope st_pace_amiss) := ⟨rfl, rfl, rfl, by decide +kernel, rfl, by decide +kernel, by decide +kernel⟩
theorem ok_paceB {f dd BB CS : Addr} {fd : FuncData} (F : Fun K "pace_amiss" "pace_amiss" st_pace_amiss f fd) (n_Script : MakerN P w K mg base "Script" CS 5 (spBI K w dd BB)) : FnOk P w K mg base (L2N.CX P w) 7 f fd ["board"] (spB1 K w dd BB) := by
  refine okN F sc_pace_amiss (fun vs H Q E h => ?_) (fun cdv A outer s H vs Q E hr h => ?_)
  · obtain ⟨v, rfl, h⟩ := h
    rfl
  · obtain ⟨v, rfl, h⟩ := h
    refine ⟨_, (pss_cons (ps_set (i := 1) sc_pace_amiss.nd rfl (Or.inl rfl) (pe_mkN n_Script hr (by first | decide | exact Nat.le_refl _) (L2N.takes_of rfl rfl rfl rfl) (pa_cons (pv 0) pa_nil)))
  pss_never), ?_⟩
    refine ⟨_, rfl, fun x dx nx ndx ne => ⟨.ref x, v, rfl, h.same ?_⟩⟩
    intro b u e
    rw [upd_ne (ne_of_none e nx), upd_ne (ne_of_none e ndx)]
    exact e
abbrev st_judged : Stmt := (topS 62)
abbrev nm_judged : List Str := ["board", "pace"]
theorem sc_judged : FnScope ["board", "pace"] ["board"] (defScope st_judged) := ⟨rfl, rfl, rfl, by decide +kernel, rfl, by decide +kernel, by decide +kernel⟩
theorem ok_judgedB {f dd BB : Addr} {fd : FuncData} (F : Fun K "judged" "judged" st_judged f fd) (c_pace_amiss : CalleeN P w K mg base "pace_amiss" 7 1 (spB1 K w dd BB)) : FnOk P w K mg base (L2N.CX P w) 8 f fd ["board"] (spB1 K w dd BB) := by
  refine okN F sc_judged (fun vs H Q E h => ?_) (fun cdv A outer s H vs Q E hr h => ?_)
  · obtain ⟨v, rfl, h⟩ := h
    rfl
  · obtain ⟨v, rfl, h⟩ := h
    refine ⟨_, (pss_cons (ps_set (i := 1) sc_judged.nd rfl (Or.inl rfl) (pe_calN c_pace_amiss hr (by first | decide | exact Nat.le_refl _) (L2N.takes_of rfl rfl rfl rfl) (pa_cons (pv 0) pa_nil)))
  pss_never), _, rfl, v, rfl, h⟩
abbrev st_spare : Stmt := (topS 52)
abbrev nm_spare : List Str := ["board", "fences", "left_out", "at"]
theorem sc_spare : FnScope ["board", "fences", "left_out", "at"] ["board", "fences"] (defScope st_spare) := ⟨rfl, rfl, rfl, by decide +kernel, rfl, by decide +kernel, by decide +kernel⟩
/-- a call whose argument is never told -/
theorem pe_callX {X : Cx} {x : Str} {f : Addr} {e : Expr} {te : TE} {p pos : Pos} (hm : X.mg x = some (.ref f)) (hk : PySem.W.keepIn X.K (.ref f) = true) (he : PE X e te) (hg : Gl X x := by rfl) (hdb : (x == ("__debug__" : Str)) = false := by decide)
    (hst : starEach [e] X.env = (false, eval e X.env) :: starEach [] X.env := by rfl) : PE X (.Call (.Name x p) [e] [] pos) (fun σ H _ => te σ H fun _ _ => False) := by
  refine ⟨fun pins s σ H Q I h => ?_⟩
  refine wpAny_Call_Name_kw (ld_glob I hg hm ?_ hdb)
  refine PySem.W.callWith_K (h₀ := X.base) I.ok.mod.kin hk ?_ hst (by rfl)
  rw [hst]
  show wpAny _ _ (spliced ((false, eval e X.env) :: backTo pos (starEach [] X.env))) _ _ s
  refine PySem.Calls.spliced_cons (wpAny_mono (he.run pins s σ H _ I h) (fun v s1 hv => ?_) fun _ _ z => z)
  obtain ⟨_, _, _, _, z⟩ := hv
  exact z.elim
theorem ok_spareB {f dd BB : Addr} {fd : FuncData} (F : Fun K "spare" "spare" st_spare f fd) (c_fenced : CalleeN P w K mg base "fenced" 4 2 (spB2 K w dd BB)) (hS : ∃ g, mg "is_sure" = some (.ref g) ∧ PySem.W.keepIn K (.ref g) = true) :
    FnOk P w K mg base (L2N.CX P w) 5 f fd ["board", "fences"] (spB2 K w dd BB) := by
  obtain ⟨g, hg1, hg2⟩ := hS
  refine okN F sc_spare (fun vs H Q E h => ?_) (fun cdv A outer s H vs Q E hr h => ?_)
  · obtain ⟨v, y, rfl, h⟩ := h
    rfl
  · obtain ⟨v, y, rfl, h⟩ := h
    refine ⟨_, (pss_cons (ps_if (pt_not (pt_val (pe_callX hg1 hg2 (pe_calN c_fenced hr (by first | decide | exact Nat.le_refl _) (L2N.takes_of rfl rfl rfl rfl) (pa_cons (pv 0) (pa_cons (pv 1) pa_nil)))))) (pss_one ps_never) pss_nil) pss_never), ?_⟩
    exact ⟨_, rfl, _, rfl, v, y, rfl, h⟩
end
end Vt
namespace Vt
open PySem PySem.Spec PyProof.Rows L2 LamX
theorem pe_orE {X : Cx} {e : Expr} {t u : TE} (a : PE X e t) (b : PE X e u) : PE X e (fun σ H Q => t σ H Q ∨ u σ H Q) := ⟨fun pins s σ H Q I h => h.elim (a.run pins s σ H Q I) (b.run pins s σ H Q I)⟩
/-- a class whose field is read in an except suite -/
structure FldC (K : PySem.W.Frag) (C : Addr) (f : Str) : Prop where
  x : XfC K C
  no : PySem.W.findIn K (.ref C) f = some none
/-! ### what is told of a refusal -/
abbrev st_law_refused : Stmt := (topS 76)
abbrev nm_law_refused : List Str := ["_law_work", "_law_e", "_law_word"]
theorem sc_law_refused : FnScope ["_law_work", "_law_e", "_law_word"] ["_law_work"] (defScope st_law_refused) := ⟨rfl, rfl, rfl, by decide +kernel, rfl, by decide +kernel, by decide +kernel⟩
/-- the exception that the asker's _law_refused tells, a board's -/
def ERefC (K : PySem.W.Frag) (C : Nat → Addr) (CE : Addr) (Q : VK) : XK := fun cls d H' => ∃ (z : Str) (n : Int) (dd : Addr) (fs : List (Str × V)), IsCls K C 0 ∧ cls = .ref (C 0) ∧ d = some dd ∧ PySem.W.exmOne K (.ref (C 0)) (.ref CE) = some true ∧ H' dd = some (.xd fs) ∧
  List.lookup ("word" : Str) fs = some (V.str z) ∧ List.lookup ("number" : Str) fs = some (V.int n) ∧ ∀ (H2 : Hp) (r : Addr), Same H' H2 → H2 r = some (.tup [.str "BadBoard", .str z, .int n]) → Q (.ref r) H2
structure RefK (P : Program) (w : World) (K : PySem.W.Frag) (mg : Str → Option Value) (base : Heap) (C : Nat → Addr) (CE : Addr) : Prop where
  f : ∃ g : Addr, Found K "_law_refused" st_law_refused g ∧ mg "_law_refused" = some (.ref g)
  cls : CalleeP P w K mg base "_law_class" 1 (spClassD K C)
  ce : mg "CarrierError" = some (.ref CE)
  xw : FldC K (C 0) "word"
  xn : FldC K (C 0) "number"
section
variable {X : Cx} {C : Nat → Addr} {CE : Addr} {params : Arguments} {body : Expr} {scope : Scope} {df : Bool} {k : Nat} {tb : XK → TE} {ta : TA} {e : Expr} {p pos : Pos} {q y0 : Str}
set_option maxHeartbeats 0 in
theorem pe_refusedC (F : RefK X.prog X.w X.K X.mg X.base C CE) (L : LamK y0 scope) (B : ∀ c, LamB q params body scope [(y0, c)] df) (hr : Room (k + 3) X.A)
    (hbody : ∀ (A : Around) (outer : List Env) (s : Shared) (H : Hp) (E : XK) (c f c' : Addr), Room k (A.deeper (lamEnvC q [(y0, c)] scope s.heap.objs.size f c')) → PE (lamCxC X.prog X.w X.K X.mg X.base A outer s H E q y0 c scope f c') body (tb E))
    (ha : L2.PA X [e] ta) (hg : Gl X "_law_refused" := by rfl) (hst : starEach [e] X.env = (false, eval e X.env) :: starEach [] X.env := by rfl) :
    PE X (.Call (.Name "_law_refused" p) [e] [] pos) (fun σ H Q => ta σ H fun vs H1 => ∃ f c v, vs = [V.ref f] ∧ LamAt q params body scope [(y0, c)] df H1 f ∧ H1 c = some (cellO c v) ∧ tb (fun cls d H' => ERefC X.K C CE Q cls d (upd H' c (cellO c v))) [some v] (L2.del H1 c) (fun _ H' => Q .non (upd H' c (cellO c v)))) := by
  refine ⟨fun pins s σl H Q I h => ?_⟩
  obtain ⟨g, ⟨oc, od, kV, doc, pm, an, cdv, ct, osl, _, lk, hcg, hkp⟩, hm⟩ := F.f
  refine wpAny_Call_Name_kw (ld_glob I hg hm ?_ (by decide))
  refine PySem.W.callWith_K (h₀ := X.base) I.ok.mod.kin hkp (thn (ha.run pos pins s σl H _ I h) fun us s1 ⟨vs, H1, I1, r1, f, c, v, ev, hl, hcl, ht⟩ => ⟨I1.kIn, ?_⟩) hst (by rfl)
  subst ev
  have Fg := fun_mk (st := st_law_refused) lk hcg hkp
  have hbg := Fg.binds (ps := ["_law_work"]) (fun _ _ _ _ _ _ us hl => match us, hl with | [_], _ => rfl)
  have hlen : us.length = 1 := r1.length.symm
  have rc : codeAny (model X.prog X.w) X.A (.call (.ref g) ⟨us, []⟩) (CR CX0 X.stack X.prog X.w H1 s1 Q E0) s1 := by
    refine run_ofS (N := ["_law_work", "_law_e", "_law_word"]) (ps := ["_law_work"]) (us := us) (vs := [.ref f]) lk hcg sc_law_refused hr I1.env0 (by
      have := hbg s1 us I1.kIn (by rw [List.append_nil]; exact hlen)
      rw [List.append_nil] at this; exact this) r1 rfl fun hr' => ?_
    have hrH : L2H.RoomH 1 (X.A.deeper (envOfC "_law_refused" (defScope st_law_refused) s1.heap.objs.size g cdv)) := ⟨by have := hr'.dp; omega, by have := hr'.un; omega⟩
    refine ⟨_, (pss_cons (L2N.ps_try_as (i := 1) (tb := fun W D σ H => ∃ (E : XK) (f c : Addr) (v : V), (∀ cls d H', E cls d H' → W cls d σ H') ∧ σ[0]? = some (some (.ref f)) ∧ LamAt q params body scope [(y0, c)] df H f ∧ H c = some (cellO c v) ∧ tb (fun cls d H' => E cls d (upd H' c (cellO c v))) [some v] (L2.del H c) (fun _ H' => D.nx σ (upd H' c (cellO c v)))) rfl rfl sc_law_refused.nd rfl rfl ⟨rfl, by decide, .inl F.ce⟩ takesN0
      (fun W pn xe tk _ => ?_)
      (fun a oe cls d pn hz hf => (pss_cons (ps_set (i := 2) sc_law_refused.nd rfl (Or.inl rfl) (pe_calP (j := 1) F.cls ⟨hrH.dp, hrH.un⟩ (Nat.le_refl _) rfl List.mem_cons_self hz hf (pa_cons (pv 1) pa_nil)))
        (pss_one (ps_ret (pe_ifExp (pt_cmpR op_eq (pv 2) pe_str (nomark _)) (pe_tup (pa_cons (pv 2) (pa_cons (pe_xf F.xw.x F.xw.no hz.zc hf (pv 1)) (pa_cons (pe_xf F.xn.x F.xn.no hz.zc hf (pv 1)) pa_nil)))) (pe_tup (pa_cons (pv 2) (pa_cons pe_str (pa_cons pe_int pa_nil))))))))))
      (pss_one (ps_ret pe_non))), ?_⟩
    · refine ⟨fun pins s' σ H' D I' h' => ?_⟩
      exact (pss_one (ps_expr (pe_actC (i := 0) (a := "_law_work") L B tk (hr'.mono (Nat.le_succ _)) hbody rfl (.inl rfl)))).run pins s' σ H' D I' h'
    · refine ⟨ERefC X.K C CE Q, f, c, v, fun cls d H' hx => ?_, rfl, hl, hcl, ht⟩
      obtain ⟨z, n, dd, fs, hc, rfl, rfl, xm, hdd, hw, hn, q⟩ := hx
      refine ⟨true, xm, fun _ a na => ?_, fun q => nomatch q⟩
      refine ⟨_, rfl, 0, "BadBoard", hc, rfl, rfl, fun d' e => ?_, rfl, fun H2 s2 => ?_⟩
      · cases e
        exact ⟨fs, hdd⟩
      have hdd2 := s2 _ _ hdd
      refine ⟨_, rfl, rfl, _, rfl, iteT' rfl ?_⟩
      refine ⟨_, rfl, _, rfl, rfl, rfl, dd, fs, _, rfl, hdd2, hw, _, rfl, rfl, rfl, dd, fs, _, rfl, hdd2, hn, by show 3 ≤ sizeLine; decide, fun T nT => ?_⟩
      exact q _ _ (s2.trans (same_new nT)) upd_same
  refine wpAny_call (codeAny_mono rc fun r s' hq => ?_)
  cases r with
  | error e => exact (show False from hq).elim
  | ok fl =>
    cases fl with
    | ret u => exact I1.after hq
    | next => exact False.elim hq
    | brk => exact False.elim hq
    | cont => exact False.elim hq
set_option maxHeartbeats 0 in
theorem pe_refusedL (F : RefK X.prog X.w X.K X.mg X.base C CE) (L : LamD X.N X.env.scope scope) (B : LamB (X.env.qual ++ "<lambda>") params body scope (cloFrom X.env.cells scope.names []) df) (hr : Room (k + 3) X.A)
    (hbody : ∀ (A : Around) (outer : List Env) (s : Shared) (H : Hp) (E : XK) (f c' : Addr), Room k (A.deeper (lamEnv X scope s.heap.objs.size f c')) → PE (lamCxN X A outer s H E scope f c') body (tb E))
    (ha : L2.PA X [e] ta) (hg : Gl X "_law_refused" := by rfl) (hst : starEach [e] X.env = (false, eval e X.env) :: starEach [] X.env := by rfl) :
    PE X (.Call (.Name "_law_refused" p) [e] [] pos) (fun σ H Q => ta σ H fun vs H1 => ∃ f, vs = [V.ref f] ∧ LamAt (X.env.qual ++ "<lambda>") params body scope (cloFrom X.env.cells scope.names []) df H1 f ∧ tb (ERefC X.K C CE Q) σ H1 (fun _ H2 => Q .non H2)) := by
  refine ⟨fun pins s σl H Q I h => ?_⟩
  obtain ⟨g, ⟨oc, od, kV, doc, pm, an, cdv, ct, osl, _, lk, hcg, hkp⟩, hm⟩ := F.f
  refine wpAny_Call_Name_kw (ld_glob I hg hm ?_ (by decide))
  refine PySem.W.callWith_K (h₀ := X.base) I.ok.mod.kin hkp (thn (ha.run pos pins s σl H _ I h) fun us s1 ⟨vs, H1, I1, r1, f, ev, hl, ht⟩ => ⟨I1.kIn, ?_⟩) hst (by rfl)
  subst ev
  have Fg := fun_mk (st := st_law_refused) lk hcg hkp
  have hbg := Fg.binds (ps := ["_law_work"]) (fun _ _ _ _ _ _ us hl => match us, hl with | [_], _ => rfl)
  have hlen : us.length = 1 := r1.length.symm
  have rc : codeAny (model X.prog X.w) X.A (.call (.ref g) ⟨us, []⟩) (CR CX0 X.stack X.prog X.w H1 s1 Q E0) s1 := by
    refine run_ofS (N := ["_law_work", "_law_e", "_law_word"]) (ps := ["_law_work"]) (us := us) (vs := [.ref f]) lk hcg sc_law_refused hr I1.env0 (by
      have := hbg s1 us I1.kIn (by rw [List.append_nil]; exact hlen)
      rw [List.append_nil] at this; exact this) r1 rfl fun hr' => ?_
    have hrH : L2H.RoomH 1 (X.A.deeper (envOfC "_law_refused" (defScope st_law_refused) s1.heap.objs.size g cdv)) := ⟨by have := hr'.dp; omega, by have := hr'.un; omega⟩
    refine ⟨_, (pss_cons (L2N.ps_try_as (i := 1) (tb := fun W D σ H => ∃ Ech : XK, (∀ cls d H', Ech cls d H' → W cls d σ H') ∧ ∃ f, σ[0]? = some (some (.ref f)) ∧ LamAt (X.env.qual ++ "<lambda>") params body scope (cloFrom X.env.cells scope.names []) df H f ∧ tb Ech σl H (fun _ H' => D.nx σ H')) rfl rfl sc_law_refused.nd rfl rfl ⟨rfl, by decide, .inl F.ce⟩ takesN0
      (fun W pn xe tk _ => ?_)
      (fun a oe cls d pn hz hf => (pss_cons (ps_set (i := 2) sc_law_refused.nd rfl (Or.inl rfl) (pe_calP (j := 1) F.cls ⟨hrH.dp, hrH.un⟩ (Nat.le_refl _) rfl List.mem_cons_self hz hf (pa_cons (pv 1) pa_nil)))
        (pss_one (ps_ret (pe_ifExp (pt_cmpR op_eq (pv 2) pe_str (nomark _)) (pe_tup (pa_cons (pv 2) (pa_cons (pe_xf F.xw.x F.xw.no hz.zc hf (pv 1)) (pa_cons (pe_xf F.xn.x F.xn.no hz.zc hf (pv 1)) pa_nil)))) (pe_tup (pa_cons (pv 2) (pa_cons pe_str (pa_cons pe_int pa_nil))))))))))
      (pss_one (ps_ret pe_non))), ?_⟩
    · refine ⟨fun pins s' σ H' D I' h' => ?_⟩
      obtain ⟨Ech, hW, f', h1, h2, h3⟩ := h'
      exact (pss_one (ps_expr (pe_actN (E := Ech) (i := 0) (a := "_law_work") I1 L B tk (hr'.mono (Nat.le_succ _)) (fun A outer s H f c' r => hbody A outer s H Ech f c' r) rfl (.inl rfl)))).run pins s' σ H' D I' ⟨hW, f', h1, h2, h3⟩
    · refine ⟨ERefC X.K C CE Q, fun cls d H' hx => ?_, f, rfl, hl, ht⟩
      obtain ⟨z, n, dd, fs, hc, rfl, rfl, xm, hdd, hw, hn, q⟩ := hx
      refine ⟨true, xm, fun _ a na => ?_, fun q => nomatch q⟩
      refine ⟨_, rfl, 0, "BadBoard", hc, rfl, rfl, fun d' e => ?_, rfl, fun H2 s2 => ?_⟩
      · cases e
        exact ⟨fs, hdd⟩
      have hdd2 := s2 _ _ hdd
      refine ⟨_, rfl, rfl, _, rfl, iteT' rfl ?_⟩
      refine ⟨_, rfl, _, rfl, rfl, rfl, dd, fs, _, rfl, hdd2, hw, _, rfl, rfl, rfl, dd, fs, _, rfl, hdd2, hn, by show 3 ≤ sizeLine; decide, fun T nT => ?_⟩
      exact q _ _ (s2.trans (same_new nT)) upd_same
  refine wpAny_call (codeAny_mono rc fun r s' hq => ?_)
  cases r with
  | error e => exact (show False from hq).elim
  | ok fl =>
    cases fl with
    | ret u => exact I1.after hq
    | next => exact False.elim hq
    | brk => exact False.elim hq
    | cont => exact False.elim hq
end
end Vt
namespace Vt
open PySem PySem.Spec PyProof.Rows L2
/-! ### a list extended by a tuple -/
open PySem.AutoSeq1 in
theorem extend_tupW (l : Addr) (items : Array Value) (n : Nat) (b : Addr) (items2 : Array Value) (n2 : Nat) (dd : Option Addr) (sl : Array (Option Value)) (hs0 : ¬(!items.isEmpty && Builtin.List.listTooLong (items.size + items2.size)) = true) (hs1 : items.size ≤ sizeLine) (hs2 : items.size + items2.size ≤ sizeLine + 1) :
    Meets (Builtin.«list.extend» ⟨[.ref l, .ref b], []⟩) (fun _ R s => s.heap.get? l = some { cls := .type "list", dict := none, data := .seq items n, slots := #[] } ∧ s.heap.get? b = some { cls := .type "tuple", dict := dd, data := .seq items2 n2, slots := sl } ∧ R (.ok (.ret Value.none)) { s with heap := s.heap.update l (Obj.mapSeq fun x => x ++ items2), toks := s.toks }) :=
  .of_wp fun prog w A R s h => by
    obtain ⟨hp, g, d, tk, os⟩ := s; obtain ⟨hl, hb, h⟩ := h; have f1 := AutoSeq1.idx_int; have f2 := AutoSeq1.sub_tuple_tuple; have f3 := AutoSeq1.sub_list_list; have f4 := AutoSeq1.sub_tuple_list; have f5 := AutoSeq1.sub_list_tuple;
    have hz' : (items ++ items2).size ≤ sizeLine + 1 := by rw [Array.size_append]; exact hs2
    wp_walk using (wpAny_updateSeq hl rfl (hz := hs1) (_hz' := hz')), wpAny_loadPart' hl, wpAny_loadPart' hb; exact ⟨_, rfl, h⟩
def rExtendT (K : PySem.W.Frag) : V → List V → Hp → VK → Prop := fun x vs H Q => ∃ l b xs zs, x = .ref l ∧ vs = [.ref b] ∧ H l = some (.lst xs) ∧ SqT K H b zs ∧ xs.length + zs.length ≤ sizeLine ∧ Q .non (upd H l (.lst (xs ++ zs)))
theorem mt_extendT {X : Cx} : MtM X "list.extend" (rExtendT X.K) := by
  intro pins s σ H x vs v us Q I rx rv h
  obtain ⟨l, b, xs, zs, rfl, rfl, hH, hB, hz, q⟩ := h
  cases rx
  obtain ⟨u, rfl, ru⟩ := rv.one
  cases ru
  obtain ⟨z, its, n, r, hl, e⟩ := I.lstM hH
  obtain ⟨its2, r2, p2, z2⟩ := I.tuple hB
  have hl2 := r2.length
  obtain ⟨⟨cls2, dd2, data2, sl2⟩, ho2, hc2, n2, hd2⟩ := id p2
  simp only at hc2 hd2
  subst hc2 hd2
  have hsz : its.toArray.size + its2.toArray.size ≤ sizeLine := by rw [List.size_toArray, List.size_toArray]; omega
  have hlong : ¬ (!its.toArray.isEmpty && Builtin.List.listTooLong (its.toArray.size + its2.toArray.size)) = true := by
    rw [notLongL hsz, Bool.and_false]
    exact Bool.false_ne_true
  refine call_meets PySem.F.slot_list_extend ⟨_, e, rfl⟩ PySem.F.entry_list_extend (PySem.F.args_list_extend_2 _ _)
    (extend_tupW l its.toArray n b its2.toArray n2 dd2 sl2 hlong (by rw [List.size_toArray]; omega) (by omega)) ⟨e, ho2, ?_⟩
  refine ⟨.non, _, I.lset (its' := its ++ its2) hH e (by simp) (r.append r2) ?_, rfl, q⟩
  rw [List.length_append]
  omega
theorem sl_tupAk {X : Cx} (K : PySem.W.Frag) (h : X.K = K := by rfl) : SlR X (rSlA K) := by
  subst h
  exact sl_tupA
/-- t[i:i+1]: what stands there, alone -/
theorem cut_one {xs : List V} {i : Nat} : cutV xs (some (i : Int)) (some ((i : Int) + 1)) = xs[i]?.toList := by
  rw [show ((i : Int) + 1) = ((i + 1 : Nat) : Int) from by omega]
  unfold cutV
  rw [HT.sIx_nat, HT.sIx_nat]
  rcases Nat.lt_or_ge i xs.length with h | h
  · rw [Nat.min_eq_left (by omega), Nat.min_eq_left (by omega), show i + 1 - i = 1 from by omega, List.getElem?_eq_getElem h, List.drop_eq_getElem_cons h]; rfl
  · rw [Nat.min_eq_right h, List.drop_of_length_le (Nat.le_refl _), List.getElem?_eq_none h]; simp
theorem cut_whole {xs : List V} {lo hi : Option Int} (h : HT.sIx xs.length 0 lo = 0 ∧ HT.sIx xs.length xs.length hi = xs.length) : cutV xs lo hi = xs := by
  unfold cutV
  rw [h.1, h.2, List.drop_zero, Nat.sub_zero, List.take_length]
theorem sl_one {K : PySem.W.Frag} {H : Hp} {a : Addr} {xs : List V} {i : Nat} {j k : Int} {Q : VK} (hj : j = (i : Int)) (hk : k = (i : Int) + 1) (ha : SqT K H a xs) (q : ∀ (b : Addr) (H' : Hp), Same H H' → SqT K H' b xs[i]?.toList → Q (.ref b) H') : rSlA K (.ref a) (some j) (some k) H Q := by
  subst hj hk
  refine ⟨a, xs, rfl, ha, fun h => ?_, fun _ p np => ?_⟩
  · have e := cut_whole h
    rw [cut_one] at e
    exact q a H (Same.refl _) (by rw [e]; exact ha)
  · rw [cut_one]
    exact q p _ (same_new np) (sqT_t upd_same)
end Vt
namespace Vt
open PySem PySem.Spec PyProof.Rows L2 LamX
section
variable {P : Program} {w : World} {K : PySem.W.Frag} {mg : Str → Option Value} {base : Heap}
/-- a def of four assignments and a return, one of whose names is captured: its cell is left -/
theorem fn_ofC4 {CX : CXT} {k : Nat} {f : Addr} {name qual : Str} {params : Arguments} {a1 a2 a3 a4 : Stmt} {e : Expr} {rpos : Pos} {scope : Scope} {dV kV doc pm cdv ct oc : Value} {an od : Option Addr} {osl : Array (Option Value)} {N ps : List Str} {sp : Sp} {y0 : Str} {i : Nat}
    (lk : K.lookup f = some ⟨oc, od, .func (PySem.W.fnOf name qual params [a1, a2, a3, a4, .Return (some e) rpos] scope dV kV doc pm an cdv ct), osl⟩) (hcd : PySem.W.codeIn K cdv qual = true) (S : FnScope N ps scope) (len : ∀ vs H Q E, sp vs H Q E → vs.length = ps.length)
    (hy : scope.names.lookup y0 = some .cell) (hi : N[i]? = some y0)
    (hbody : ∀ (A : Around) (outer : List Env) (s : Shared) (H : Hp) (vs : List V) (Q : VK) (E : XK), Room k (A.deeper (envOfC qual scope s.heap.objs.size f cdv)) → sp vs H Q E →
      ∃ t1 t2 t3 t4 te, PS (cxOf CX P w K mg base N qual scope f cdv A outer s H E) a1 t1 ∧ PS (cxOf CX P w K mg base N qual scope f cdv A outer s H E) a2 t2 ∧ PS (cxOf CX P w K mg base N qual scope f cdv A outer s H E) a3 t3 ∧ PS (cxOf CX P w K mg base N qual scope f cdv A outer s H E) a4 t4 ∧ PE (cxOf CX P w K mg base N qual scope f cdv A outer s H E) e te ∧
        t1 ⟨fun σ1 H1 => t2 ⟨fun σ2 H2 => t3 ⟨fun σ2' H2' => t4 ⟨fun σ3 H3 => te σ3 H3 fun x H4 => ∃ v0, σ3[i]? = some (some v0) ∧ ∀ c, (envOfC qual scope s.heap.objs.size f cdv).cells.lookup y0 = some c → H4 c = none → Q x (upd H4 c (cellO c v0)), fun _ _ => False, fun _ _ => False, fun _ _ => False⟩ σ2' H2', fun _ _ => False, fun _ _ => False, fun _ _ => False⟩ σ2 H2, fun _ _ => False, fun _ _ => False, fun _ _ => False⟩ σ1 H1, fun _ _ => False, fun _ _ => False, fun _ _ => False⟩ (start N vs) H) :
    FnOk P w K mg base CX (k + 1) f (PySem.W.fnOf name qual params [a1, a2, a3, a4, .Return (some e) rpos] scope dV kV doc pm an cdv ct) ps sp := by
  refine ⟨len, fun A outer s H args us vs Q E hr e0 hb r hsp => ?_⟩
  have hl := len _ _ _ _ hsp
  have KX : K.In s.heap := e0.mod.kin.keeps fun b o e => (e0.bs b o e).1
  have lim : s.heap.NoLimit := e0.mod.nolimit.keeps fun b o e => (e0.bs b o e).1
  have hkind : ∀ y ∈ ps.zip us, scope.names.lookup y.1 = some .local ∨ (scope.names.lookup y.1 = some .cell ∧ ((cellsFrom (s.heap.objs.size + 1) scope.names []).lookup y.1).isSome = true) := fun ⟨n, v⟩ hy => by
    rcases S.par n (List.of_mem_zip hy).1 with q | q
    · exact .inl q
    · exact .inr ⟨q, PySem.W.cellsFrom_some _ _ _ (.inl q)⟩
  refine codeAny_call_function hr.depth (KX _ _ lk) rfl S.co S.gen rfl (PySem.W.codeRec_of KX hcd) (hb _ _ _ _ ?_)
  refine wpAny_newFunctionEnv_cells S.kind hkind fun env he s1 x => ?_
  subst he
  refine ⟨lim.keeps x.toInCall.keep, codeAny_func ?_⟩
  obtain ⟨t1, t2, t3, t4, te, p1, p2, p3, p4, pe, hq⟩ := hbody A outer s H vs Q E (hr.deeper _) hsp
  have I : Inv (cxOf CX P w K mg base N qual scope f cdv A outer s H E) [] (start N vs) H s1 := inv_start S hr.hd e0 hl r x
  refine wpAny_execs_cons (wpAny_mono (p1.run [] s1 (start N vs) H _ I hq) (fun fl s' hs => ?_) fun e s' hs => hs)
  cases fl with
  | ret u => obtain ⟨_, _, _, _, _, z⟩ := hs; exact z.elim
  | brk => obtain ⟨_, _, _, z⟩ := hs; exact z.elim
  | cont => obtain ⟨_, _, _, z⟩ := hs; exact z.elim
  | next =>
  obtain ⟨σ1, H1, I1, q1⟩ := hs
  refine wpAny_execs_cons (wpAny_mono (p2.run [] s' σ1 H1 _ I1 q1) (fun fl s' hs => ?_) fun e s' hs => hs)
  cases fl with
  | ret u => obtain ⟨_, _, _, _, _, z⟩ := hs; exact z.elim
  | brk => obtain ⟨_, _, _, z⟩ := hs; exact z.elim
  | cont => obtain ⟨_, _, _, z⟩ := hs; exact z.elim
  | next =>
  obtain ⟨σ2, H2, I2, q2⟩ := hs
  refine wpAny_execs_cons (wpAny_mono (p3.run [] s' σ2 H2 _ I2 q2) (fun fl s' hs => ?_) fun e s' hs => hs)
  cases fl with
  | ret u => obtain ⟨_, _, _, _, _, z⟩ := hs; exact z.elim
  | brk => obtain ⟨_, _, _, z⟩ := hs; exact z.elim
  | cont => obtain ⟨_, _, _, z⟩ := hs; exact z.elim
  | next =>
  obtain ⟨σ3', H3', I3', q3'⟩ := hs
  refine wpAny_execs_cons (wpAny_mono (p4.run [] s' σ3' H3' _ I3' q3') (fun fl s' hs => ?_) fun e s' hs => hs)
  cases fl with
  | ret u => obtain ⟨_, _, _, _, _, z⟩ := hs; exact z.elim
  | brk => obtain ⟨_, _, _, z⟩ := hs; exact z.elim
  | cont => obtain ⟨_, _, _, z⟩ := hs; exact z.elim
  | next =>
  obtain ⟨σ3, H3, I3, q3⟩ := hs
  refine wpAny_execs_cons (wpAny_Return_some (wpAny_mono (pe.run [] s' σ3 H3 _ I3 q3) (fun u s' hs => ?_) fun e s' hs => hs))
  obtain ⟨xv, H4, J, rv, v0, hv0, q4⟩ := hs
  -- the cell
  obtain ⟨c, hc⟩ := J.ok.has y0 (.inl hy)
  have nc := J.freeC y0 c hc
  have ge : s.heap.objs.size ≤ c := J.ok.cab y0 c rfl hc
  obtain ⟨m, _, hl2⟩ := J.loc
  obtain ⟨u0, ru, look⟩ := hl2 i y0 v0 hi hv0 (.inr (.inl hy))
  have hcell : s'.heap.IsCell c (some u0) := by
    rcases look with ⟨kk, _⟩ | ⟨_, c2, e2, z⟩
    · have kk : scope.names.lookup y0 = some .local := kk
      rw [hy] at kk; cases kk
    · rw [hc] at e2
      cases e2
      exact z
  have Jb : Un (frs outer) [] H H4 s.heap s'.heap := J.base
  have bn : ∀ {b : Addr} {o : Obj}, s.heap.get? b = some o → b ≠ c := fun e z => by
    have := Heap.lt_size e
    rw [z] at this
    exact absurd (Nat.lt_of_lt_of_le this ge) (Nat.lt_irrefl _)
  have hn : ∀ {b : Addr} {o : HO}, H4 b = some o → b ≠ c := fun e => ne_of_none e nc
  refine ⟨xv, upd H4 c (cellO c v0), J.os, J.bare, ⟨Jb.keep, Jb.slot, fun b o e1 e2 e3 => by rw [upd_ne (bn e1)]; exact Jb.free b o e1 e2 e3, Jb.there, fun b xs e => ?_, fun b o x e => ?_, fun b ps e => ?_⟩, HOk.addx J.hok nc (cellO_ok ru hcell), rv, q4 c hc nc⟩
  · have := Jb.tups b xs e
    rw [upd_ne (hn this)]; exact this
  · have := Jb.frzs b o x e
    rw [upd_ne (hn this)]; exact this
  · obtain ⟨more, this⟩ := Jb.tbls b ps e
    exact ⟨more, by rw [upd_ne (hn this)]; exact this⟩
end
/-! ### all that a board is handed to: eleven lambdas, whose maker is gone when they are called -/
theorem cloFrom_filter {cells : List (Str × Addr)} : ∀ (names : List (Str × NameKind)) (acc : List (Str × Addr)), cloFrom cells names acc = cloFrom cells (names.filter fun p => p.2 == .free) acc
  | [], _ => rfl
  | (n, k) :: r, acc => by
    by_cases h : (k == NameKind.free) = true
    · rw [List.filter_cons_of_pos (by exact h)]
      unfold cloFrom
      rw [if_pos h, if_pos h]
      exact cloFrom_filter r _
    · rw [List.filter_cons_of_neg (by exact h)]
      rw [show cloFrom cells ((n, k) :: r) acc = cloFrom cells r acc from by rw [cloFrom, if_neg h]]
      exact cloFrom_filter r _
theorem clo_one {cells : List (Str × Addr)} {names : List (Str × NameKind)} {y0 : Str} {c : Addr} (h : cells.lookup y0 = some c) (e : (names.filter fun p => p.2 == .free) = [(y0, .free)]) : cloFrom cells names [] = [(y0, c)] := by
  rw [cloFrom_filter, e]
  simp only [cloFrom, h]
  rfl
def lstOf : Expr → List Expr
  | .List es _ => es
  | .BinOp _ _ (.List es _) _ => es
  | _ => []
def valOf : Stmt → Expr
  | .Assign _ v _ => v
  | .Return (some v) _ => v
  | _ => .Constant .none 0 ⟨0, 0, 0, 0⟩
abbrev st_law_works : Stmt := (topS 75)
abbrev nm_law_works : List Str := ["_law_board_here", "_law_works_here"]
theorem sc_law_works : FnScope ["_law_board_here", "_law_works_here"] ["_law_board_here"] (defScope st_law_works) := ⟨rfl, rfl, rfl, by decide +kernel, rfl, by decide +kernel, by decide +kernel⟩
def lamP : Expr → Arguments
  | .Lambda p _ _ _ => p
  | _ => ⟨[], [], none, [], [], none, []⟩
def lamE : Expr → Expr
  | .Lambda _ b _ _ => b
  | e => e
def lamS : Expr → Scope
  | .Lambda _ _ s _ => s
  | _ => default
def wkS (n : Nat) : Expr := valOf ((defBody st_law_works).getD n (.Pass ⟨0, 0, 0, 0⟩))
def wkE : Nat → Expr
  | 0 => (lstOf (wkS 0)).getD 0 (wkS 9)
  | 1 => (lstOf (wkS 0)).getD 1 (wkS 9)
  | 2 => (lstOf (wkS 0)).getD 2 (wkS 9)
  | 3 => (lstOf (wkS 1)).getD 0 (wkS 9)
  | 4 => (lstOf (wkS 1)).getD 1 (wkS 9)
  | 5 => (lstOf (wkS 1)).getD 2 (wkS 9)
  | 6 => (lstOf (wkS 2)).getD 0 (wkS 9)
  | 7 => (lstOf (wkS 2)).getD 1 (wkS 9)
  | 8 => (lstOf (wkS 3)).getD 0 (wkS 9)
  | 9 => (lstOf (wkS 3)).getD 1 (wkS 9)
  | _ => (lstOf (wkS 4)).getD 0 (wkS 9)
def wkQ : Str := (envOfC "_law_works" (defScope st_law_works) 0 0 .none).qual ++ "<lambda>"
/-- the i-th of them, at v -/
def WorkAt (c : Addr) (H : Hp) (i : Nat) (v : V) : Prop := ∃ f, v = .ref f ∧ LamAt wkQ (lamP (wkE i)) (lamE (wkE i)) (lamS (wkE i)) [("_law_board_here", c)] (decide (i ≠ 0)) H f
theorem WorkAt.ext {c : Addr} {H H' : Hp} {i : Nat} {v : V} (h : WorkAt c H i v) (e : ExtN H H') : WorkAt c H' i v := by
  obtain ⟨f, h1, h2⟩ := h
  exact ⟨f, h1, h2.ext e⟩
def WorksAt (c : Addr) (H : Hp) : Nat → List V → Prop
  | _, [] => True
  | i, v :: r => WorkAt c H i v ∧ WorksAt c H (i + 1) r
theorem WorksAt.ext {c : Addr} {H H' : Hp} (e : ExtN H H') : ∀ {i : Nat} {vs : List V}, WorksAt c H i vs → WorksAt c H' i vs
  | _, [], _ => True.intro
  | _, _ :: _, h => ⟨h.1.ext e, WorksAt.ext e h.2⟩
theorem WorksAt.get {c : Addr} {H : Hp} : ∀ {j i : Nat} {vs : List V} {v : V}, WorksAt c H j vs → vs[i]? = some v → WorkAt c H (j + i) v
  | _, _, [], _, _, h => by simp at h
  | j, 0, x :: r, v, h, e => by simp only [List.getElem?_cons_zero, Option.some.injEq] at e; subst e; exact h.1
  | j, i + 1, x :: r, v, h, e => by
    simp only [List.getElem?_cons_succ] at e
    have := WorksAt.get h.2 e
    rwa [show j + 1 + i = j + (i + 1) by omega] at this
def spWorks (T : List (Addr × Str)) : Sp := fun vs H Q _ => ∃ (v : V), vs = [v] ∧ Tabs T H ∧ ∀ (H' : Hp) (l c : Addr) (xs : List V), ExtN H H' → Tabs T H' → H' l = some (.lst xs) → xs.length = 11 → WorksAt c H' 0 xs → H' c = some (cellO c v) → Q (.ref l) H'
section
variable {P : Program} {w : World} {K : PySem.W.Frag} {mg : Str → Option Value} {base : Heap}
theorem LamAt.cl {q : Str} {params : Arguments} {body : Expr} {scope : Scope} {cl cl' : List (Str × Addr)} {df : Bool} {H : Hp} {f : Addr} (h : LamAt q params body scope cl df H f) (e : cl = cl') : LamAt q params body scope cl' df H f := e ▸ h
set_option maxHeartbeats 0 in
theorem ok_works {T : List (Addr × Str)} {f cda Pw : Addr} {oc : Value} {od : Option Addr} {kV doc pm ct : Value} {an : Option Addr} {osl : Array (Option Value)} (lk : K.lookup f = some ⟨oc, od, .func (PySem.W.fnOf "_law_works" "_law_works" (defArgs st_law_works) (defBody st_law_works) (defScope st_law_works) .none kV doc pm an (.ref cda) ct), osl⟩)
    (hcd : PySem.W.codeIn K (.ref cda) "_law_works" = true) (TB : TabB base mg cda Pw) (hm : (Pw, wkQ) ∈ T) (hu : ∀ p ∈ T, p.1 = Pw → p.2 = wkQ) :
    FnOk P w K mg base CX0 1 f (PySem.W.fnOf "_law_works" "_law_works" (defArgs st_law_works) (defBody st_law_works) (defScope st_law_works) .none kV doc pm an (.ref cda) ct) ["_law_board_here"] (spWorks T) := by
  refine fn_ofC4 (k := 0) (i := 0) (y0 := "_law_board_here") lk hcd sc_law_works (fun vs H Q E h => ?_) (by decide +kernel) rfl (fun A outer s H vs Q E hr h => ?_)
  · obtain ⟨v, rfl, _⟩ := h
    rfl
  · obtain ⟨v, rfl, hT, q⟩ := h
    have hG : TabX (cxOf CX0 P w K mg base nm_law_works "_law_works" (defScope st_law_works) f (.ref cda) A outer s H E) T cda Pw := ⟨TB, rfl, hm, hu⟩
    refine ⟨_, _, _, _, _, (ps_set (i := 1) sc_law_works.nd rfl (Or.inl rfl) (pe_lst (pa_cons (pe_lam0 hG (lamD_by (N := nm_law_works) (sc := defScope st_law_works) (by decide +kernel)) rfl) (pa_cons (pe_lamD hG (lamD_by (N := nm_law_works) (sc := defScope st_law_works) (by decide +kernel)) rfl rfl) (pa_cons (pe_lamD hG (lamD_by (N := nm_law_works) (sc := defScope st_law_works) (by decide +kernel)) rfl rfl) pa_nil))))), (ps_set (i := 1) sc_law_works.nd rfl (Or.inl rfl) (pe_op op_cat (pv 1) (pe_lst (pa_cons (pe_lamD hG (lamD_by (N := nm_law_works) (sc := defScope st_law_works) (by decide +kernel)) rfl rfl) (pa_cons (pe_lamD hG (lamD_by (N := nm_law_works) (sc := defScope st_law_works) (by decide +kernel)) rfl rfl) (pa_cons (pe_lamD hG (lamD_by (N := nm_law_works) (sc := defScope st_law_works) (by decide +kernel)) rfl rfl) pa_nil)))))), (ps_set (i := 1) sc_law_works.nd rfl (Or.inl rfl) (pe_op op_cat (pv 1) (pe_lst (pa_cons (pe_lamD hG (lamD_by (N := nm_law_works) (sc := defScope st_law_works) (by decide +kernel)) rfl rfl) (pa_cons (pe_lamD hG (lamD_by (N := nm_law_works) (sc := defScope st_law_works) (by decide +kernel)) rfl rfl) pa_nil))))), (ps_set (i := 1) sc_law_works.nd rfl (Or.inl rfl) (pe_op op_cat (pv 1) (pe_lst (pa_cons (pe_lamD hG (lamD_by (N := nm_law_works) (sc := defScope st_law_works) (by decide +kernel)) rfl rfl) (pa_cons (pe_lamD hG (lamD_by (N := nm_law_works) (sc := defScope st_law_works) (by decide +kernel)) rfl rfl) pa_nil))))), (pe_op op_cat (pv 1) (pe_lst (pa_cons (pe_lamD hG (lamD_by (N := nm_law_works) (sc := defScope st_law_works) (by decide +kernel)) rfl rfl) pa_nil))), ?_⟩
    obtain ⟨c0, hc0⟩ : ∃ c, (envOfC "_law_works" (defScope st_law_works) s.heap.objs.size f (.ref cda)).cells.lookup ("_law_board_here" : Str) = some c :=
      Option.isSome_iff_exists.mp (PySem.W.cellsFrom_some _ _ _ (.inl (show (defScope st_law_works).names.lookup ("_law_board_here" : Str) = some .cell by decide +kernel)))
    have mk : ∀ {i : Nat} {G : Hp} {g : Addr} {df : Bool}, ((lamS (wkE i)).names.filter fun p => p.2 == .free) = [(("_law_board_here" : Str), NameKind.free)] → df = decide (i ≠ 0) → LamAt ((cxOf CX0 P w K mg base nm_law_works "_law_works" (defScope st_law_works) f (.ref cda) A outer s H E).env.qual ++ "<lambda>") (lamP (wkE i)) (lamE (wkE i)) (lamS (wkE i)) (cloFrom (cxOf CX0 P w K mg base nm_law_works "_law_works" (defScope st_law_works) f (.ref cda) A outer s H E).env.cells (lamS (wkE i)).names []) df G g → WorkAt c0 G i (.ref g) := fun {i G g df} e hdf h => by
      subst hdf
      exact ⟨g, rfl, LamAt.cl h (clo_one hc0 e)⟩
    refine ⟨hT, fun f0 F0 x0 t0 l0 => ⟨t0, fun f1 F1 x1 t1 l1 => ⟨t1, fun f2 F2 x2 t2 l2 => ⟨by show 3 ≤ sizeLine; decide, fun A1 nA1 => ?_⟩⟩⟩⟩
    have sA1 := ExtN.same (same_new (o := .lst [.ref f0, .ref f1, .ref f2]) nA1)
    have hA1 : (upd F2 A1 (.lst [.ref f0, .ref f1, .ref f2])) A1 = some (.lst [.ref f0, .ref f1, .ref f2]) := upd_same
    have w1 : WorksAt c0 (upd F2 A1 (.lst [.ref f0, .ref f1, .ref f2])) 0 [.ref f0, .ref f1, .ref f2] := ⟨(mk (i := 0) (by decide +kernel) rfl l0).ext ((x1.trans x2).trans sA1), (mk (i := 1) (by decide +kernel) rfl l1).ext (x2.trans sA1), (mk (i := 2) (by decide +kernel) rfl l2).ext sA1, trivial⟩
    have e1 := ((x0.trans x1).trans x2).trans sA1
    have u1 : Tabs T (upd F2 A1 (.lst [.ref f0, .ref f1, .ref f2])) := Tabs.same t2 (same_new nA1)
    generalize upd F2 A1 (.lst [.ref f0, .ref f1, .ref f2]) = G1 at hA1 w1 e1 u1
    refine ⟨_, rfl, u1, fun f3 F3 x3 t3 l3 => ⟨t3, fun f4 F4 x4 t4 l4 => ⟨t4, fun f5 F5 x5 t5 l5 => ⟨by show 3 ≤ sizeLine; decide, fun A2 nA2 => ?_⟩⟩⟩⟩
    have sA2 := ExtN.same (same_new (o := .lst [.ref f3, .ref f4, .ref f5]) nA2)
    have hA2 : (upd F5 A2 (.lst [.ref f3, .ref f4, .ref f5])) A2 = some (.lst [.ref f3, .ref f4, .ref f5]) := upd_same
    have v2 := ((x3.trans x4).trans x5).trans sA2
    have w2 := And.intro ((mk (i := 3) (by decide +kernel) rfl l3).ext ((x4.trans x5).trans sA2)) (And.intro ((mk (i := 4) (by decide +kernel) rfl l4).ext (x5.trans sA2)) ((mk (i := 5) (by decide +kernel) rfl l5).ext sA2))
    have u2 : Tabs T (upd F5 A2 (.lst [.ref f3, .ref f4, .ref f5])) := Tabs.same t5 (same_new nA2)
    generalize upd F5 A2 (.lst [.ref f3, .ref f4, .ref f5]) = G2 at hA2 v2 w2 u2
    refine ⟨A1, A2, _, _, rfl, rfl, v2 _ _ hA1 (fun _ z => by cases z), hA2, by show 6 ≤ sizeLine; decide, fun B2 nB2 => ?_⟩
    have sB2 := ExtN.same (same_new (o := .lst ([.ref f0, .ref f1, .ref f2] ++ [.ref f3, .ref f4, .ref f5])) nB2)
    have hB2 : (upd G2 B2 (.lst ([.ref f0, .ref f1, .ref f2] ++ [.ref f3, .ref f4, .ref f5]))) B2 = some (.lst [.ref f0, .ref f1, .ref f2, .ref f3, .ref f4, .ref f5]) := upd_same
    have w3 : WorksAt c0 (upd G2 B2 (.lst ([.ref f0, .ref f1, .ref f2] ++ [.ref f3, .ref f4, .ref f5]))) 0 [.ref f0, .ref f1, .ref f2, .ref f3, .ref f4, .ref f5] := WorksAt.ext sB2 ⟨w1.1.ext v2, w1.2.1.ext v2, w1.2.2.1.ext v2, w2.1, w2.2.1, w2.2.2, trivial⟩
    have e2 := (e1.trans v2).trans sB2
    have u3 : Tabs T (upd G2 B2 (.lst ([.ref f0, .ref f1, .ref f2] ++ [.ref f3, .ref f4, .ref f5]))) := Tabs.same u2 (same_new nB2)
    generalize upd G2 B2 (.lst ([.ref f0, .ref f1, .ref f2] ++ [.ref f3, .ref f4, .ref f5])) = G3 at hB2 w3 e2 u3
    refine ⟨_, rfl, u3, fun f6 F6 x6 t6 l6 => ⟨t6, fun f7 F7 x7 t7 l7 => ⟨by show 2 ≤ sizeLine; decide, fun A3 nA3 => ?_⟩⟩⟩
    have sA3 := ExtN.same (same_new (o := .lst [.ref f6, .ref f7]) nA3)
    have hA3 : (upd F7 A3 (.lst [.ref f6, .ref f7])) A3 = some (.lst [.ref f6, .ref f7]) := upd_same
    have v3 := (x6.trans x7).trans sA3
    have w4 := And.intro ((mk (i := 6) (by decide +kernel) rfl l6).ext (x7.trans sA3)) ((mk (i := 7) (by decide +kernel) rfl l7).ext sA3)
    have u4 : Tabs T (upd F7 A3 (.lst [.ref f6, .ref f7])) := Tabs.same t7 (same_new nA3)
    generalize upd F7 A3 (.lst [.ref f6, .ref f7]) = G4 at hA3 v3 w4 u4
    refine ⟨B2, A3, _, _, rfl, rfl, v3 _ _ hB2 (fun _ z => by cases z), hA3, by show 8 ≤ sizeLine; decide, fun B3 nB3 => ?_⟩
    have sB3 := ExtN.same (same_new (o := .lst ([.ref f0, .ref f1, .ref f2, .ref f3, .ref f4, .ref f5] ++ [.ref f6, .ref f7])) nB3)
    have hB3 : (upd G4 B3 (.lst ([.ref f0, .ref f1, .ref f2, .ref f3, .ref f4, .ref f5] ++ [.ref f6, .ref f7]))) B3 = some (.lst [.ref f0, .ref f1, .ref f2, .ref f3, .ref f4, .ref f5, .ref f6, .ref f7]) := upd_same
    have w5 : WorksAt c0 (upd G4 B3 (.lst ([.ref f0, .ref f1, .ref f2, .ref f3, .ref f4, .ref f5] ++ [.ref f6, .ref f7]))) 0 [.ref f0, .ref f1, .ref f2, .ref f3, .ref f4, .ref f5, .ref f6, .ref f7] := by
      have w3' := WorksAt.ext v3 w3
      exact WorksAt.ext sB3 ⟨w3'.1, w3'.2.1, w3'.2.2.1, w3'.2.2.2.1, w3'.2.2.2.2.1, w3'.2.2.2.2.2.1, w4.1, w4.2, trivial⟩
    have e3 := (e2.trans v3).trans sB3
    have u5 : Tabs T (upd G4 B3 (.lst ([.ref f0, .ref f1, .ref f2, .ref f3, .ref f4, .ref f5] ++ [.ref f6, .ref f7]))) := Tabs.same u4 (same_new nB3)
    generalize upd G4 B3 (.lst ([.ref f0, .ref f1, .ref f2, .ref f3, .ref f4, .ref f5] ++ [.ref f6, .ref f7])) = G5 at hB3 w5 e3 u5
    refine ⟨_, rfl, u5, fun f8 F8 x8 t8 l8 => ⟨t8, fun f9 F9 x9 t9 l9 => ⟨by show 2 ≤ sizeLine; decide, fun A4 nA4 => ?_⟩⟩⟩
    have sA4 := ExtN.same (same_new (o := .lst [.ref f8, .ref f9]) nA4)
    have hA4 : (upd F9 A4 (.lst [.ref f8, .ref f9])) A4 = some (.lst [.ref f8, .ref f9]) := upd_same
    have v4 := (x8.trans x9).trans sA4
    have w6 := And.intro ((mk (i := 8) (by decide +kernel) rfl l8).ext (x9.trans sA4)) ((mk (i := 9) (by decide +kernel) rfl l9).ext sA4)
    have u6 : Tabs T (upd F9 A4 (.lst [.ref f8, .ref f9])) := Tabs.same t9 (same_new nA4)
    generalize upd F9 A4 (.lst [.ref f8, .ref f9]) = G6 at hA4 v4 w6 u6
    refine ⟨B3, A4, _, _, rfl, rfl, v4 _ _ hB3 (fun _ z => by cases z), hA4, by show 10 ≤ sizeLine; decide, fun B4 nB4 => ?_⟩
    have sB4 := ExtN.same (same_new (o := .lst ([.ref f0, .ref f1, .ref f2, .ref f3, .ref f4, .ref f5, .ref f6, .ref f7] ++ [.ref f8, .ref f9])) nB4)
    have hB4 : (upd G6 B4 (.lst ([.ref f0, .ref f1, .ref f2, .ref f3, .ref f4, .ref f5, .ref f6, .ref f7] ++ [.ref f8, .ref f9]))) B4 = some (.lst [.ref f0, .ref f1, .ref f2, .ref f3, .ref f4, .ref f5, .ref f6, .ref f7, .ref f8, .ref f9]) := upd_same
    have w7 : WorksAt c0 (upd G6 B4 (.lst ([.ref f0, .ref f1, .ref f2, .ref f3, .ref f4, .ref f5, .ref f6, .ref f7] ++ [.ref f8, .ref f9]))) 0 [.ref f0, .ref f1, .ref f2, .ref f3, .ref f4, .ref f5, .ref f6, .ref f7, .ref f8, .ref f9] := by
      have w5' := WorksAt.ext v4 w5
      exact WorksAt.ext sB4 ⟨w5'.1, w5'.2.1, w5'.2.2.1, w5'.2.2.2.1, w5'.2.2.2.2.1, w5'.2.2.2.2.2.1, w5'.2.2.2.2.2.2.1, w5'.2.2.2.2.2.2.2.1, w6.1, w6.2, trivial⟩
    have e4 := (e3.trans v4).trans sB4
    have u7 : Tabs T (upd G6 B4 (.lst ([.ref f0, .ref f1, .ref f2, .ref f3, .ref f4, .ref f5, .ref f6, .ref f7] ++ [.ref f8, .ref f9]))) := Tabs.same u6 (same_new nB4)
    generalize upd G6 B4 (.lst ([.ref f0, .ref f1, .ref f2, .ref f3, .ref f4, .ref f5, .ref f6, .ref f7] ++ [.ref f8, .ref f9])) = G7 at hB4 w7 e4 u7
    refine ⟨_, rfl, u7, fun f10 F10 x10 t10 l10 => ⟨by show 1 ≤ sizeLine; decide, fun A5 nA5 => ?_⟩⟩
    have sA5 := ExtN.same (same_new (o := .lst [.ref f10]) nA5)
    have hA5 : (upd F10 A5 (.lst [.ref f10])) A5 = some (.lst [.ref f10]) := upd_same
    have v5 := x10.trans sA5
    have w8 := (mk (i := 10) (by decide +kernel) rfl l10).ext sA5
    have u8 : Tabs T (upd F10 A5 (.lst [.ref f10])) := Tabs.same t10 (same_new nA5)
    generalize upd F10 A5 (.lst [.ref f10]) = G8 at hA5 v5 w8 u8
    refine ⟨B4, A5, _, _, rfl, rfl, v5 _ _ hB4 (fun _ z => by cases z), hA5, by show 11 ≤ sizeLine; decide, fun B5 nB5 => ?_⟩
    refine ⟨v, rfl, fun c hc nc => ?_⟩
    have hc : (envOfC "_law_works" (defScope st_law_works) s.heap.objs.size f (.ref cda)).cells.lookup ("_law_board_here" : Str) = some c := hc
    rw [hc0] at hc
    cases hc
    have sB5 := ExtN.same (same_new (o := .lst ([.ref f0, .ref f1, .ref f2, .ref f3, .ref f4, .ref f5, .ref f6, .ref f7, .ref f8, .ref f9] ++ [.ref f10])) nB5)
    have sC := ExtN.same (same_new (o := cellO c0 v) nc)
    have w9 := WorksAt.ext v5 w7
    refine q _ B5 c0 [.ref f0, .ref f1, .ref f2, .ref f3, .ref f4, .ref f5, .ref f6, .ref f7, .ref f8, .ref f9, .ref f10] (((e4.trans v5).trans sB5).trans sC) (Tabs.same (Tabs.same u8 (same_new nB5)) (same_new nc)) (by rw [upd_ne (fun z => by rw [← z, upd_same] at nc; cases nc)]; exact upd_same) rfl (WorksAt.ext (sB5.trans sC) ⟨w9.1, w9.2.1, w9.2.2.1, w9.2.2.2.1, w9.2.2.2.2.1, w9.2.2.2.2.2.1, w9.2.2.2.2.2.2.1, w9.2.2.2.2.2.2.2.1, w9.2.2.2.2.2.2.2.2.1, w9.2.2.2.2.2.2.2.2.2.1, w8, trivial⟩) upd_same
end
end Vt
namespace Vt
open PySem PySem.Spec PyProof.Rows L2
/-! ### boards that cannot be, by one thing -/
theorem get_ins {α : Type} {xs : List α} {i j : Nat} {x y : α} {ws : List α} (hj : j < i) (hi : i ≤ xs.length) (h : (xs.take i ++ [x] ++ ws)[j]? = some y) : xs[j]? = some y := by
  rw [List.append_assoc, List.getElem?_append_left (by rw [List.length_take]; omega), List.getElem?_take_of_lt hj] at h
  exact h
theorem get_at {α : Type} {xs : List α} {i : Nat} {x : α} {ws : List α} (hi : i ≤ xs.length) : (xs.take i ++ [x] ++ ws)[i]? = some x := by
  rw [List.append_assoc, List.getElem?_append_right (by rw [List.length_take]; omega), List.length_take, Nat.min_eq_left hi, Nat.sub_self]; rfl
section
variable {B : Brd}
theorem raw_len (B : Brd) : B.raw.mem.length = B.mem.length ∧ B.raw.ords.length = B.ords.length ∧ B.raw.prog.length = B.prog.length := by simp [Brd.raw]
theorem memOk_at (ok : BrdOk B) : ∀ (i : Nat) (x : Int), B.raw.mem[i]? = some x → badNum i x = false := fun i x e => by
  have h := ok_mem ok
  rw [fwCell, if_pos (by rw [(raw_len B).1]; exact ok.cells)] at h
  have := of_fst_none h i x e
  rwa [Nat.zero_add] at this
theorem bad_mem1 (ok : BrdOk B) {i : Nat} {odd : Int} (hi : i < B.mem.length) (ho : odd < 0 ∨ 10 ≤ odd) : fwCell (B.raw.mem.take i ++ [odd] ++ B.raw.mem.drop (i + 1)) = some i := by
  have l := (raw_len B).1
  have hl : (B.raw.mem.take i ++ [odd] ++ B.raw.mem.drop (i + 1)).length = B.mem.length := by
    simp only [List.length_append, List.length_take, List.length_drop, List.length_singleton]; omega
  rw [fwCell, if_pos (by rw [hl]; exact ok.cells)]
  have := fst_some (p := badNum) (k := 0) (i := i) (x := odd) (get_at (xs := B.raw.mem) (ws := B.raw.mem.drop (i + 1)) (by omega)) (by simp only [badNum, Bool.not_eq_true', Bool.and_eq_false_imp, decide_eq_true_eq, decide_eq_false_iff_not]; omega) (fun j y hj e => by
    have := memOk_at ok j y (get_ins (xs := B.raw.mem) hj (by omega) e)
    rw [Nat.zero_add]; exact this)
  rw [Nat.zero_add] at this
  exact this
theorem bad_mem0 {ns : List Int} (h : ¬ (ns.length = 4 ∨ ns.length = 8 ∨ ns.length = 12 ∨ ns.length = 16)) : fwCell ns = some 0 := by rw [fwCell, if_neg h]
theorem later_up {cnt : Int} {i : Nat} {l : Option Int} (h : laterCan cnt i l = true) : laterCan (cnt + 1) i l = true := by
  cases l with
  | none => rfl
  | some k =>
    simp only [laterCan, Bool.and_eq_true, decide_eq_true_eq] at h ⊢
    omega
theorem ordsOk_at (ok : BrdOk B) : ∀ (i : Nat) (x : ROrd), B.raw.ords[i]? = some x → badOrd ((B.raw.ords.length : Nat) : Int) (B.raw.mem.length : Nat) i x = false := fun i x e => by
  have h := ok_ords ok
  rw [← (raw_len B).1, fwOrd] at h
  have := of_fst_none h i x e
  rwa [Nat.zero_add] at this
theorem bad_ord1 (ok : BrdOk B) {i : Nat} {x : ROrd} (hi : i ≤ B.ords.length) (hx : ordCan ((B.ords.length : Nat) + 1 : Int) (B.mem.length : Nat) i x = false) {n : Nat} (hn : n = B.mem.length) :
    fwOrd (B.raw.ords.take i ++ [x] ++ B.raw.ords.drop i) (n : Nat) = some i := by
  subst hn
  have l := (raw_len B).2.1
  have hl : (B.raw.ords.take i ++ [x] ++ B.raw.ords.drop i).length = B.ords.length + 1 := by
    simp only [List.length_append, List.length_take, List.length_drop, List.length_singleton]; omega
  have e1 : (((B.raw.ords.take i ++ [x] ++ B.raw.ords.drop i).length : Nat) : Int) = ((B.ords.length : Nat) : Int) + 1 := by rw [hl]; omega
  rw [fwOrd, e1]
  have := fst_some (p := badOrd (((B.ords.length : Nat) : Int) + 1) ((B.mem.length : Nat) : Int)) (k := 0) (i := i) (x := x) (get_at (xs := B.raw.ords) (ws := B.raw.ords.drop i) (by omega)) (by rw [Nat.zero_add, badOrd, hx]; simp) (fun j y hj e => by
    have h1 := ordsOk_at ok j y (get_ins (xs := B.raw.ords) hj (by omega) e)
    rw [Nat.zero_add]
    rw [(raw_len B).1, l, badOrd] at h1
    simp only [Bool.or_eq_false_iff, Bool.not_eq_false', decide_eq_false_iff_not] at h1
    rw [badOrd]
    simp only [Bool.or_eq_false_iff, Bool.not_eq_false', decide_eq_false_iff_not]
    refine ⟨h1.1, ?_⟩
    have h2 := h1.2
    simp only [ordCan, Bool.and_eq_true] at h2 ⊢
    obtain ⟨⟨⟨⟨⟨⟨a, b⟩, c⟩, d⟩, e⟩, f⟩, g⟩ := h2
    exact ⟨⟨⟨⟨⟨⟨a, b⟩, later_up c⟩, d⟩, e⟩, f⟩, g⟩)
  rw [Nat.zero_add] at this
  exact this
theorem bad_ordw {k n : Nat} (hn : 1 ≤ n) : fwOrd (List.replicate (5 + k) ⟨0, 0, 1, none⟩) (n : Nat) = some 4 := by
  rw [fwOrd, List.length_replicate]
  have := fst_some (p := badOrd ((5 + k : Nat) : Int) (n : Nat)) (k := 0) (i := 4) (x := (⟨0, 0, 1, none⟩ : ROrd)) (xs := List.replicate (5 + k) ⟨0, 0, 1, none⟩) (by rw [List.getElem?_replicate, if_pos (by omega)]) (by simp [badOrd]) (fun j y hj e => by
    have ey := List.eq_of_mem_replicate (List.mem_of_getElem? e)
    subst ey
    rw [Nat.zero_add, badOrd, decide_eq_false (show ¬ j = 4 by omega)]
    simp [ordCan, laterCan]; omega)
  rw [Nat.zero_add] at this
  exact this
theorem progOk_at (ok : BrdOk B) : ∀ (i : Nat) (x : RDeed), B.raw.prog[i]? = some x → badDeed B.raw.prog ((B.ords.length : Nat) : Int) (B.mem.length : Nat) i x = false := fun i x e => by
  have h := ok_prog ok
  rw [fwDeed] at h
  have := of_fst_none h i x e
  rwa [Nat.zero_add] at this
theorem bad_prog1 (ok : BrdOk B) {i : Nat} {x : RDeed} {ws : List RDeed} (hi : i ≤ B.prog.length) (hx : deedCan ((B.ords.length : Nat) : Int) (B.mem.length : Nat) x = false) {n c : Nat} (hn : n = B.mem.length) (hc : c = B.ords.length) :
    fwDeed (B.raw.prog.take i ++ [x] ++ ws) (c : Nat) (n : Nat) = some i := by
  subst hn hc
  have l := (raw_len B).2.2
  rw [fwDeed]
  have := fst_some (p := badDeed (B.raw.prog.take i ++ [x] ++ ws) ((B.ords.length : Nat) : Int) ((B.mem.length : Nat) : Int)) (k := 0) (i := i) (x := x) (get_at (xs := B.raw.prog) (ws := ws) (by omega)) (by rw [Nat.zero_add, badDeed, hx]; simp) (fun j y hj e => by
    have h1 := progOk_at ok j y (get_ins (xs := B.raw.prog) hj (by omega) e)
    rw [Nat.zero_add]
    rw [badDeed] at h1 ⊢
    rw [show (B.raw.prog.take i ++ [x] ++ ws).take (j + 1) = B.raw.prog.take (j + 1) by
      rw [List.append_assoc, List.take_append_of_le_length (by rw [List.length_take]; omega), List.take_take, Nat.min_eq_left (by omega)]]
    exact h1)
  rw [Nat.zero_add] at this
  exact this
theorem bad_progw {k : Nat} {cnt cells : Int} {ws : List RDeed} : fwDeed (List.replicate (61 + k) ⟨"wait", []⟩ ++ ws) cnt cells = some 60 := by
  rw [fwDeed]
  have kw : kindsOf "wait" = (some [] : Option (List Str)) := by decide
  have dc : deedCan cnt cells ⟨"wait", []⟩ = true := by simp only [deedCan, kw, numsCan]
  have rs : rStart ⟨"wait", []⟩ = false := by decide
  have := fst_some (p := badDeed (List.replicate (61 + k) ⟨"wait", []⟩ ++ ws) cnt cells) (k := 0) (i := 60) (x := (⟨"wait", []⟩ : RDeed)) (xs := List.replicate (61 + k) ⟨"wait", []⟩ ++ ws) (by rw [List.getElem?_append_left (by rw [List.length_replicate]; omega), List.getElem?_replicate, if_pos (by omega)]) (by simp [badDeed]) (fun j y hj e => by
    rw [List.getElem?_append_left (by rw [List.length_replicate]; omega)] at e
    have ey := List.eq_of_mem_replicate (List.mem_of_getElem? e)
    subst ey
    rw [Nat.zero_add, badDeed, dc, decide_eq_false (show ¬ j = 60 by omega)]
    have : ((List.replicate (61 + k) (⟨"wait", []⟩ : RDeed) ++ ws).take (j + 1)).filter rStart = [] := by
      rw [List.take_append_of_le_length (by rw [List.length_replicate]; omega), List.take_replicate]
      refine List.filter_eq_nil_iff.mpr fun z hz => ?_
      rw [List.eq_of_mem_replicate hz, rs]; simp
    rw [this]; rfl)
  rw [Nat.zero_add] at this
  exact this
def four8 : List RDeed := [⟨"say", [0]⟩, ⟨"start", [0]⟩, ⟨"say", [0]⟩, ⟨"start", [0]⟩, ⟨"say", [0]⟩, ⟨"start", [0]⟩, ⟨"say", [0]⟩, ⟨"start", [0]⟩]
theorem bad_progs {cnt cells : Int} {ws : List RDeed} (h1 : 0 < cnt) (h2 : 0 < cells) : fwDeed (four8 ++ ws) cnt cells = some 7 := by
  rw [fwDeed]
  have ks : kindsOf "say" = (some ["cell"] : Option (List Str)) := by decide
  have kt : kindsOf "start" = (some ["order"] : Option (List Str)) := by decide
  have cs : cap cnt cells "cell" = cells := rfl
  have ct : cap cnt cells "order" = cnt := rfl
  have d1 : deedCan cnt cells ⟨"say", [0]⟩ = true := by simp only [deedCan, ks, numsCan, cs]; simp [h2]
  have d2 : deedCan cnt cells ⟨"start", [0]⟩ = true := by simp only [deedCan, kt, numsCan, ct]; simp [h1]
  have := fst_some (p := badDeed (four8 ++ ws) cnt cells) (k := 0) (i := 7) (x := (⟨"start", [0]⟩ : RDeed)) (xs := four8 ++ ws) (by rw [List.getElem?_append_left (by decide)]; rfl) (by
      rw [Nat.zero_add, badDeed, List.take_append_of_le_length (by decide)]
      rw [show ((four8.take (7 + 1)).filter rStart).length = 4 by decide]; simp) (fun j y hj e => by
    rw [List.getElem?_append_left (Nat.lt_trans hj (by decide))] at e
    rw [Nat.zero_add, badDeed, List.take_append_of_le_length (by show j + 1 ≤ 8; omega)]
    have hs : ∀ j, j < 7 → decide (3 < ((four8.take (j + 1)).filter rStart).length) = false := by decide
    rw [hs j hj, decide_eq_false (show ¬ j = 60 by omega)]
    have hy : y = ⟨"say", [0]⟩ ∨ y = ⟨"start", [0]⟩ := by
      have := List.mem_of_getElem? e
      simp only [four8, List.mem_cons, List.not_mem_nil, or_false] at this
      rcases this with h | h | h | h | h | h | h | h <;> simp [h]
    rcases hy with rfl | rfl
    · rw [d1]; rfl
    · rw [d2]; rfl)
  rw [Nat.zero_add] at this
  exact this
theorem wrong_mem {R : RBrd} {i : Nat} (h : fwCell R.mem = some i) : wrongB R = some (("memory" : Str), i) := by simp only [wrongB, h]
theorem wrong_ord {R : RBrd} {i : Nat} (h0 : fwCell R.mem = none) (h : fwOrd R.ords R.mem.length = some i) : wrongB R = some (("orders" : Str), i) := by simp only [wrongB, h0, h]
theorem wrong_prog {R : RBrd} {i : Nat} (h0 : fwCell R.mem = none) (h1 : fwOrd R.ords R.mem.length = none) (h : fwDeed R.prog R.ords.length R.mem.length = some i) : wrongB R = some (("program" : Str), i) := by simp only [wrongB, h0, h1, h]
/-- orders that cannot be -/
def oddOrds (cells far : Int) (i : Nat) : List ROrd := [⟨0, 0, 0, none⟩, ⟨0, 0, 9, none⟩, ⟨cells - 1, 0, 2, none⟩, ⟨0, cells, 1, none⟩, ⟨-1, 0, 1, none⟩, ⟨0, 16 + far, 1, none⟩, ⟨0, 0, 1, some (i : Int)⟩, ⟨0, 0, 1, some (-1)⟩, ⟨0, 0, 1, some (9 + far)⟩]
theorem oddOrds_bad {cnt cells far : Int} {i : Nat} (h1 : cnt ≤ 5) (h2 : cells ≤ 16) (h3 : 0 ≤ far) : ∀ x ∈ oddOrds cells far i, ordCan cnt cells i x = false := by
  intro x hx
  simp only [oddOrds, List.mem_cons, List.not_mem_nil, or_false] at hx
  cases hh : ordCan cnt cells i x with
  | false => rfl
  | true =>
    exfalso
    simp only [ordCan, Bool.and_eq_true, decide_eq_true_eq] at hh
    obtain ⟨⟨⟨⟨⟨⟨a, b⟩, c⟩, d⟩, e⟩, f⟩, g⟩ := hh
    rcases hx with rfl | rfl | rfl | rfl | rfl | rfl | rfl | rfl | rfl <;> simp only [laterCan, Bool.and_eq_true, decide_eq_true_eq] at * <;> omega
/-- deeds that cannot be -/
def oddDeeds (cells lines far odd : Int) : List RDeed := [⟨"set", [0, odd]⟩, ⟨"set", [cells, 1]⟩, ⟨"add", [0, cells]⟩, ⟨"add", [-1, 0]⟩, ⟨"say", [cells + far]⟩, ⟨"start", [9]⟩, ⟨"clean", [lines]⟩, ⟨"drop", [-1]⟩, ⟨"wait", [0]⟩, ⟨"say", []⟩, ⟨"set", [0]⟩, ⟨"none", [0]⟩, ⟨"", [1, 1]⟩]
theorem oddDeeds_bad {cnt cells lines far odd : Int} (h1 : cnt ≤ 4) (h3 : 0 ≤ far) (hl : cells / 4 ≤ lines) (ho : odd < 0 ∨ 10 ≤ odd) : ∀ x ∈ oddDeeds cells lines far odd, deedCan cnt cells x = false := by
  have k1 : kindsOf "set" = (some ["cell", "number"] : Option (List Str)) := by decide
  have k2 : kindsOf "add" = (some ["cell", "cell"] : Option (List Str)) := by decide
  have k3 : kindsOf "say" = (some ["cell"] : Option (List Str)) := by decide
  have k4 : kindsOf "start" = (some ["order"] : Option (List Str)) := by decide
  have k5 : kindsOf "wait" = (some [] : Option (List Str)) := by decide
  have k6 : kindsOf "clean" = (some ["line"] : Option (List Str)) := by decide
  have k7 : kindsOf "drop" = (some ["line"] : Option (List Str)) := by decide
  have k8 : kindsOf "none" = (none : Option (List Str)) := by decide
  have k9 : kindsOf "" = (none : Option (List Str)) := by decide
  have c1 : cap cnt cells "cell" = cells := rfl
  have c2 : cap cnt cells "number" = 10 := rfl
  have c3 : cap cnt cells "order" = cnt := rfl
  have c4 : cap cnt cells "line" = cells / 4 := rfl
  have n1 : numsCan cnt cells [] ["cell"] = false := rfl
  have n2 : numsCan cnt cells [] ["number"] = false := rfl
  have n3 : numsCan cnt cells [0] [] = false := rfl
  intro x hx
  simp only [oddDeeds, List.mem_cons, List.not_mem_nil, or_false] at hx
  cases hh : deedCan cnt cells x with
  | false => rfl
  | true =>
    exfalso
    rcases hx with rfl | rfl | rfl | rfl | rfl | rfl | rfl | rfl | rfl | rfl | rfl | rfl | rfl <;> simp only [deedCan, k1, k2, k3, k4, k5, k6, k7, k8, k9, n1, n2, n3, numsCan, c1, c2, c3, c4, Bool.and_eq_true, decide_eq_true_eq, Bool.false_eq_true, and_true, and_false, false_and] at hh <;> omega
theorem oddDeeds_nums {cells lines far odd : Int} : ∀ x ∈ oddDeeds cells lines far odd, x.nums.length ≤ 1000 := by
  intro x hx
  simp only [oddDeeds, List.mem_cons, List.not_mem_nil, or_false] at hx
  rcases hx with rfl | rfl | rfl | rfl | rfl | rfl | rfl | rfl | rfl | rfl | rfl | rfl | rfl <;> simp
end
end Vt
namespace Vt
open PySem PySem.Spec PyProof.Rows L2
/-! ### as for k15: words that are no deeds, how far a first wrong one can be -/
def MissD (K : PySem.W.Frag) (dd : Addr) : Prop := ∀ z : Str, kindsOf z = none → PySem.W.nsIn K dd z = some none
def keysKnown (l : List DictEntry) : Bool := l.all fun e => match e.key with
  | .str x _ => (kindsOf x).isSome
  | _ => false
theorem miss_mk {K : PySem.W.Frag} {dd : Addr} {cls : Value} {d : Option Addr} {es : Array DictEntry} {n : Nat} {sl : Array (Option Value)} (l : K.lookup dd = some ⟨cls, d, .dict es n, sl⟩) (h : keysKnown es.toList = true) : MissD K dd := by
  intro z hz
  have hk : ∀ e ∈ es.toList, ∃ x t, e.key = .str x t ∧ (kindsOf x).isSome = true := fun e he => by
    have := List.all_eq_true.mp h e he
    cases ek : e.key with
    | str x t =>
      rw [ek] at this
      exact ⟨x, t, rfl, this⟩
    | _ => rw [ek] at this; cases this
  have h1 : es.toList.find? (·.key.isStr z) = none := by
    rw [List.find?_eq_none]
    intro e he
    obtain ⟨x, t, ek, hx⟩ := hk e he
    rw [ek]
    intro hs
    have : x = z := by simpa [Value.isStr] using hs
    rw [this, hz] at hx
    cases hx
  have h2 : es.toList.any (·.refKey) = false := by
    rw [List.any_eq_false]
    intro e he
    obtain ⟨x, t, ek, _⟩ := hk e he
    unfold DictEntry.refKey
    rw [ek]
    simp
  unfold PySem.W.nsIn
  rw [l]
  dsimp only
  rw [h1]
  dsimp only
  rw [h2]
  rfl
theorem fst_lt {α : Type} {p : Nat → α → Bool} : ∀ {xs : List α} {k i : Nat}, fst p k xs = some i → k ≤ i ∧ i < k + xs.length ∧ ∃ x, xs[i - k]? = some x ∧ p i x = true ∧ ∀ j y, j < i - k → xs[j]? = some y → p (k + j) y = false
  | [], k, i, h => by cases h
  | x :: r, k, i, h => by
    rw [fst] at h
    split at h
    · rename_i hp
      cases h
      exact ⟨Nat.le_refl _, by simp, x, by rw [Nat.sub_self]; rfl, hp, fun j y hj => absurd hj (by omega)⟩
    · rename_i hn
      obtain ⟨h1, h2, y, h3, h4, h5⟩ := fst_lt h
      refine ⟨by omega, by simp only [List.length_cons]; omega, y, ?_, h4, fun j z hj hz => ?_⟩
      · rw [show i - k = (i - (k + 1)) + 1 by omega, List.getElem?_cons_succ]; exact h3
      · cases j with
        | zero =>
          rw [List.getElem?_cons_zero] at hz
          cases hz
          simpa using hn
        | succ j =>
          rw [List.getElem?_cons_succ] at hz
          have := h5 j z (by omega) hz
          rw [show k + (j + 1) = k + 1 + j by omega]; exact this
theorem fst_le {α : Type} {p : Nat → α → Bool} {xs : List α} {i m : Nat} (hp : ∀ x, p m x = true) (h : fst p 0 xs = some i) : i ≤ m := by
  obtain ⟨_, h2, _, _, _, h5⟩ := fst_lt h
  rcases Nat.lt_or_ge m i with hm | hm
  · obtain ⟨y, hy⟩ : ∃ y, xs[m]? = some y := ⟨xs[m]'(by omega), List.getElem?_eq_getElem _⟩
    have := h5 m y (by omega) hy
    rw [Nat.zero_add, hp] at this
    cases this
  · exact hm
theorem wrong_small {R : RBrd} {z : Str} {n : Nat} (h : wrongB R = some (z, n)) : n ≤ 60 := by
  unfold wrongB at h
  cases e1 : fwCell R.mem with
  | some i =>
    rw [e1] at h
    simp only [Option.some.injEq, Prod.mk.injEq] at h
    unfold fwCell at e1
    split at e1
    · have := (fst_lt e1).2.1
      omega
    · cases e1; omega
  | none =>
    rw [e1] at h
    dsimp only at h
    cases e2 : fwOrd R.ords R.mem.length with
    | some i =>
      rw [e2] at h
      simp only [Option.some.injEq, Prod.mk.injEq] at h
      have := fst_le (m := 4) (fun x => by simp [badOrd]) e2
      omega
    | none =>
      rw [e2] at h
      dsimp only at h
      cases e3 : fwDeed R.prog R.ords.length R.mem.length with
      | some i =>
        rw [e3] at h
        simp only [Option.some.injEq, Prod.mk.injEq] at h
        have := fst_le (m := 60) (fun x => by simp [badDeed]) e3
        omega
      | none => rw [e3] at h; cases h
end Vt
namespace Vt
open PySem PySem.Spec PyProof.Rows L2
/-! ### the asker's board that cannot be -/
theorem cat_t {K : PySem.W.Frag} {H : Hp} {a b : Addr} {xs ys : List V} {Q : VK} (ha : H a = some (.tup xs)) (hb : H b = some (.tup ys)) (hz : xs.length + ys.length ≤ 10000) (q : ∀ (p : Addr) (H' : Hp), Same H H' → H' p = some (.tup (xs ++ ys)) → Q (.ref p) H') : rCatA K (.ref a) (.ref b) H Q := by
  refine ⟨a, b, xs, ys, rfl, rfl, sqT_t ha, sqT_t hb, Nat.le_trans hz (by decide), fun e => ?_, fun _ e => ?_, fun _ _ p np => q p _ (same_new np) upd_same⟩
  · subst e; exact q b H (Same.refl _) hb
  · subst e; exact q a H (Same.refl _) (by rw [List.append_nil]; exact ha)
theorem sl_t {K : PySem.W.Frag} {H : Hp} {a : Addr} {xs : List V} {lo hi : Option Int} {Q : VK} (ha : H a = some (.tup xs)) (q : ∀ (p : Addr) (H' : Hp), Same H H' → H' p = some (.tup (cutV xs lo hi)) → Q (.ref p) H') : rSlA K (.ref a) lo hi H Q := by
  refine ⟨a, xs, rfl, sqT_t ha, fun h => q a H (Same.refl _) (by rw [cut_whole h]; exact ha), fun _ p np => q p _ (same_new np) upd_same⟩
theorem rep_t {K : PySem.W.Frag} {H : Hp} {a : Addr} {xs : List V} {k : Int} {Q : VK} (ha : H a = some (.tup xs)) (hn : xs ≠ []) (h1 : 2 ≤ k) (h2 : k ≤ 1000) (h3 : xs.length ≤ 1000) (q : ∀ (p : Addr) (H' : Hp), Same H H' → H' p = some (.tup (List.replicate k.toNat xs).flatten) → Q (.ref p) H') : rRepT K (.ref a) (.int k) H Q :=
  ⟨a, k, xs, rfl, rfl, sqT_t ha, hn, h1, h2, h3, fun p np => q p _ (same_new np) upd_same⟩
theorem no_part {σ : L2.St} {H : Hp} {Q : Option Int → Hp → Prop} (h : Q none H) : tNoPart σ H Q := h
theorem c_part {v : V} {σ : L2.St} {H : Hp} {Q : VK} (h : Q v H) : tC v σ H Q := h
theorem cut_to' (xs : List V) (n : Nat) : cutV xs none (some (n : Int)) = xs.take n := by
  rw [cutV, HT.sIx_none, HT.sIx_nat, List.drop_zero, Nat.sub_zero, ← List.take_take, List.take_of_length_le (Nat.le_refl _)]
theorem cut_from' (xs : List V) (n : Nat) : cutV xs (some (n : Int)) none = xs.drop n := by
  rw [cutV, HT.sIx_none, HT.sIx_nat]
  rcases Nat.le_total n xs.length with h | h
  · rw [Nat.min_eq_left h, List.take_of_length_le (by rw [List.length_drop]; omega)]
  · rw [Nat.min_eq_right h, Nat.sub_self, List.take_zero, List.drop_eq_nil_of_le h]
theorem Pds.takes {H : Hp} : ∀ {vs : List V} {ds : List D} (n : Nat), Pds H vs ds → Pds H (vs.take n) (ds.take n)
  | _, _, 0, _ => .nil
  | _, _, n + 1, .nil => by rw [List.take_nil, List.take_nil]; exact .nil
  | _, _, n + 1, .cons h t => .cons h (Pds.takes n t)
theorem Pds.drops {H : Hp} : ∀ {vs : List V} {ds : List D} (n : Nat), Pds H vs ds → Pds H (vs.drop n) (ds.drop n)
  | _, _, 0, h => h
  | _, _, n + 1, .nil => by rw [List.drop_nil, List.drop_nil]; exact .nil
  | _, _, n + 1, .cons h t => Pds.drops n t
theorem rep_flat {α : Type} (v : α) : ∀ n : Nat, (List.replicate n [v]).flatten = List.replicate n v
  | 0 => rfl
  | n + 1 => by rw [List.replicate_succ, List.flatten_cons, rep_flat v n, List.replicate_succ]; rfl
theorem Pds.rep {H : Hp} {v : V} {d : D} (h : Pd H v d) : ∀ n : Nat, Pds H (List.replicate n v) (List.replicate n d)
  | 0 => .nil
  | n + 1 => .cons h (Pds.rep h n)
theorem pds_ints {H : Hp} : ∀ ns : List Int, Pds H (ns.map V.int) (ns.map D.int)
  | [] => .nil
  | n :: r => .cons (.int n) (pds_ints r)
theorem ord_new {H : Hp} {T : Addr} {x : ROrd} {xs : List V} (hx : xs = x.vs) (nT : H T = none) : Same H (upd H T (.tup xs)) ∧ Pd (upd H T (.tup xs)) (.ref T) x.d := by
  subst hx
  refine ⟨same_new nT, .tup upd_same (.cons (.int _) (.cons (.int _) (.cons (.int _) (.cons ?_ .nil))))⟩
  cases x.later with
  | none => exact .non
  | some k => exact .int k
theorem deed_new {H : Hp} {T : Addr} {x : RDeed} {xs : List V} (hx : xs = x.vs) (nT : H T = none) : Same H (upd H T (.tup xs)) ∧ Pd (upd H T (.tup xs)) (.ref T) x.d := by
  subst hx
  exact ⟨same_new nT, .tup upd_same (.cons (.str _) (pds_ints _))⟩
theorem noL_rord (x : ROrd) : x.d.noL = true := by
  obtain ⟨a, b, c, l⟩ := x
  cases l <;> rfl
theorem noL_ints : ∀ ns : List Int, noLs (ns.map D.int) = true
  | [] => rfl
  | n :: r => by rw [List.map_cons, noLs, noL_ints r]; rfl
theorem noL_rdeed (x : RDeed) : x.d.noL = true := by
  simp only [RDeed.d, D.noL, noLs, noL_ints, Bool.true_and, Bool.and_true]
theorem Box.nin {H : Hp} {b l L : Addr} (h : Box H b l) (n : H L = none) : L ∉ [b, l] := fun z => by
  obtain ⟨ys, e⟩ := h.lsts _ z
  rw [n] at e; cases e
/-- a board's parts, as they stand beside the box -/
structure Pts (H : Hp) (b l m o p : Addr) (os ps : List V) (B : Brd) : Prop where
  box : Box H b l
  hm : H m = some (.tup (B.raw.mem.map V.int))
  ho : H o = some (.tup os)
  hos : Pds H os (B.raw.ords.map ROrd.d)
  hp : H p = some (.tup ps)
  hps : Pds H ps (B.raw.prog.map RDeed.d)
section
variable {H H' : Hp} {b l m o p : Addr} {os ps : List V} {B : Brd}
theorem Pts.same (h : Pts H b l m o p os ps B) (s : Same H H') : Pts H' b l m o p os ps B := ⟨h.box.same s, s _ _ h.hm, s _ _ h.ho, h.hos.same s, s _ _ h.hp, h.hps.same s⟩
theorem Pts.but (h : Pts H b l m o p os ps B) (x : Box H' b l) (bt : But [b, l] H H') : Pts H' b l m o p os ps B :=
  ⟨x, But.tup bt h.box.lsts h.hm, But.tup bt h.box.lsts h.ho, Pds.but bt h.box.lsts (noLs_map noL_rord _) h.hos, But.tup bt h.box.lsts h.hp, Pds.but bt h.box.lsts (noLs_map noL_rdeed _) h.hps⟩
theorem Pts.ol (h : Pts H b l m o p os ps B) : os.length = B.ords.length := by rw [h.hos.len, List.length_map, (raw_len B).2.1]
theorem Pts.pl (h : Pts H b l m o p os ps B) : ps.length = B.prog.length := by rw [h.hps.len, List.length_map, (raw_len B).2.2]
end
/-- a memory that cannot be, with the first wrong cell's number -/
def MemAt (H : Hp) (v : V) : Prop := ∃ (U X : Addr) (ns : List Int) (k : Nat), v = .ref U ∧ H U = some (.tup [.ref X, nV k]) ∧ H X = some (.tup (ns.map V.int)) ∧ fwCell ns = some k
theorem MemAt.same {H H' : Hp} {v : V} (h : MemAt H v) (s : Same H H') : MemAt H' v := by
  obtain ⟨U, X, ns, k, e, h1, h2, h3⟩ := h
  exact ⟨U, X, ns, k, e, s _ _ h1, s _ _ h2, h3⟩
theorem MemAt.new {H : Hp} {U X : Addr} {ns : List Int} {xs : List V} {k : Nat} {y : V} (nU : H U = none) (hX : H X = some (.tup xs)) (hx : xs = ns.map V.int) (hy : y = nV k) (h : fwCell ns = some k) : Same H (upd H U (.tup [.ref X, y])) ∧ MemAt (upd H U (.tup [.ref X, y])) (.ref U) := by
  subst hx hy
  exact ⟨same_new nU, U, X, ns, k, rfl, upd_same, same_new nU _ _ hX, h⟩
theorem MemAt.but {H H' : Hp} {b l : Addr} {v : V} (h : MemAt H v) (hB : Box H b l) (bt : But [b, l] H H') : MemAt H' v := by
  obtain ⟨U, X, ns, k, e, h1, h2, h3⟩ := h
  exact ⟨U, X, ns, k, e, But.tup bt hB.lsts h1, But.tup bt hB.lsts h2, h3⟩
theorem rawOk_by {K : PySem.W.Frag} {w : World} {mg : Str → Option Value} {dd : Addr} {R : RBrd} (Kd : Kinds K w mg dd) (Md : MissD K dd) (h : ∀ d ∈ R.prog, d.nums.length ≤ 1000) : RawOk K w dd R := by
  obtain ⟨_, low, ⟨es, n, l, kl⟩, _⟩ := Kd
  exact ⟨h, fun d hd hk => ⟨es, n, l, kl, low, Md _ hk⟩, fun z n e => by have := wrong_small e; omega⟩
theorem raw_nums' (B : Brd) : ∀ d ∈ B.raw.prog, d.nums.length ≤ 1000 := fun d hd => by
  obtain ⟨d0, _, rfl⟩ := List.mem_map.mp hd
  have : d0.raw.nums.length = d0.args.length := by simp [Deed.raw]
  rw [this]
  cases d0 <;> simp [Deed.args]
section
variable {P : Program} {w : World} {K : PySem.W.Frag} {mg : Str → Option Value} {base : Heap}
abbrev st_law_bad : Stmt := (topS 74)
abbrev nm_law_bad : List Str := ["_law_box", "_law_board_here", "_law_memory", "_law_orders", "_law_program", "_law_far", "_law_cells", "_law_at", "_law_odd", "_law_kind", "_law_some", "_law_worse", "_law_rows"]
theorem sc_law_bad : FnScope ["_law_box", "_law_board_here", "_law_memory", "_law_orders", "_law_program", "_law_far", "_law_cells", "_law_at", "_law_odd", "_law_kind", "_law_some", "_law_worse", "_law_rows"] ["_law_box", "_law_board_here"] (defScope st_law_bad) := ⟨rfl, rfl, rfl, by decide +kernel, rfl, by decide +kernel, by decide +kernel⟩
def spBad (K : PySem.W.Frag) (w : World) (dd : Addr) : Sp := fun vs H Q _ => ∃ (b l : Addr) (v : V) (B : Brd), vs = [.ref b, v] ∧ Box H b l ∧ Pd H v B.d ∧ BrdOk B ∧ 1 ≤ B.ords.length ∧
  ∀ (H' : Hp) (T : Addr) (u : V) (R : RBrd) (z : Str) (n : Nat), Box H' b l → But [b, l] H H' → H' T = some (.tup [u, .str z, nV n]) → Pd H' u R.d → RawOk K w dd R → wrongB R = some (z, n) → Q (.ref T) H'
set_option maxHeartbeats 0 in
theorem ok_lbad {f dd : Addr} {fd : FuncData} (F : Fun K "_law_bad" "_law_bad" st_law_bad f fd) (Kd : Kinds K w mg dd) (Md : MissD K dd) (c_law_take : Callee P w K mg base "_law_take" 1 2 spTake) (c_law_takeF : Callee P w K mg base "_law_take" 1 2 spTakeF) (z_len : mg "len" = none) :
    FnOk P w K mg base CX0 2 f fd ["_law_box", "_law_board_here"] (spBad K w dd) := by
  refine F.ok sc_law_bad (fun vs H Q E h => ?_) (fun cdv A outer s H vs Q E hr h => ?_)
  · obtain ⟨b, l, v, B, rfl, _⟩ := h
    rfl
  · obtain ⟨b, l, v, B, rfl, hB, hv, ok, c1, q⟩ := h
    rw [← raw_brd] at hv
    obtain ⟨a, m, o, p, os, ps, rfl, ha, hm, ho, hos, hp, hps⟩ := RBrd.of hv
    have P0 : Pts H b l m o p os ps B := ⟨hB, hm, ho, hos, hp, hps⟩
    have l16 := ok.cells
    have o4 := ok.four
    have p60 := ok.sixty
    have ml : (B.raw.mem.map V.int).length = B.mem.length := by rw [List.length_map, (raw_len B).1]
    refine ⟨_, (pss_cons (ps_asg (pv 1) (pg_tup rfl (pgs_cons (pg_name (i := 2) sc_law_bad.nd rfl (Or.inl rfl)) (pgs_cons (pg_name (i := 3) sc_law_bad.nd rfl (Or.inl rfl)) (pgs_cons (pg_name (i := 4) sc_law_bad.nd rfl (Or.inl rfl)) pgs_nil)))))
  (pss_cons (ps_set (i := 5) sc_law_bad.nd rfl (Or.inl rfl) (pe_cal c_law_takeF hr (by first | decide | exact Nat.le_refl _) (pa_cons (pv 0) (pa_cons (pe_op op_pow pe_int pe_int) pa_nil))))
  (pss_cons (ps_set (i := 6) sc_law_bad.nd rfl (Or.inl rfl) (pe_callB call_len_seq (by rfl) z_len (by decide +kernel) (pa_cons (pv 2) pa_nil)))
  (pss_cons (ps_set (i := 7) sc_law_bad.nd rfl (Or.inl rfl) (pe_cal c_law_take hr (by first | decide | exact Nat.le_refl _) (pa_cons (pv 0) (pa_cons (pv 6) pa_nil))))
  (pss_cons (ps_set (i := 8) sc_law_bad.nd rfl (Or.inl rfl) (pe_ix ix_lt (pe_lst (pa_cons (pe_un un_neg pe_int) (pa_cons pe_int (pa_cons (pe_op op_add pe_int (pv 5)) (pa_cons (pe_op op_sub (pe_un un_neg pe_int) (pv 5)) pa_nil))))) (pe_cal c_law_take hr (by first | decide | exact Nat.le_refl _) (pa_cons (pv 0) (pa_cons pe_int pa_nil))) (fun _ _ => rfl)))
  (pss_cons (ps_set (i := 9) sc_law_bad.nd rfl (Or.inl rfl) (pe_cal c_law_take hr (by first | decide | exact Nat.le_refl _) (pa_cons (pv 0) (pa_cons pe_int pa_nil))))
  (pss_cons (ps_if (pt_cmpR op_eq (pv 9) pe_int (nomark _)) (pss_cons (ps_set (i := 10) sc_law_bad.nd rfl (Or.inl rfl) (pe_lst (pa_cons (pe_tup (pa_cons (pe_op op_catA (pe_op op_catA (pe_slice (sl_tupAk K) (pv 2) po_none (po_some (pv 7))) (pe_tup (pa_cons (pv 8) pa_nil))) (pe_slice (sl_tupAk K) (pv 2) (po_some (pe_op op_add (pv 7) pe_int)) po_none)) (pa_cons (pv 7) pa_nil))) (pa_cons (pe_tup (pa_cons (pe_tup pa_nil) (pa_cons pe_int pa_nil))) (pa_cons (pe_tup (pa_cons (pe_op op_catA (pv 2) (pe_tup (pa_cons pe_int pa_nil))) (pa_cons pe_int pa_nil))) (pa_cons (pe_tup (pa_cons (pe_op op_repT (pv 2) pe_int) (pa_cons pe_int pa_nil))) pa_nil))))))
  (pss_cons (ps_asg (pe_ix ix_lt (pv 10) (pe_cal c_law_take hr (by first | decide | exact Nat.le_refl _) (pa_cons (pv 0) (pa_cons pe_int pa_nil))) (fun _ _ => rfl)) (pg_tup rfl (pgs_cons (pg_name (i := 2) sc_law_bad.nd rfl (Or.inl rfl)) (pgs_cons (pg_name (i := 7) sc_law_bad.nd rfl (Or.inl rfl)) pgs_nil))))
  (pss_one (ps_ret (pe_tup (pa_cons (pe_tup (pa_cons (pv 2) (pa_cons (pe_ix ix_lt (pe_lst (pa_cons (pv 3) (pa_cons (pe_tup (pa_cons (pe_tup (pa_cons pe_int (pa_cons pe_int (pa_cons pe_int (pa_cons pe_int pa_nil))))) pa_nil)) pa_nil))) (pe_cal c_law_take hr (by first | decide | exact Nat.le_refl _) (pa_cons (pv 0) (pa_cons pe_int pa_nil))) (fun _ _ => rfl)) (pa_cons (pv 4) pa_nil)))) (pa_cons pe_str (pa_cons (pv 7) pa_nil)))))))) pss_nil)
  (pss_cons (ps_set (i := 11) sc_law_bad.nd rfl (Or.inl rfl) (pe_ix ix_lt (pe_lst (pa_cons (pe_tup (pa_cons (pe_tup (pa_cons pe_str (pa_cons pe_int pa_nil))) pa_nil)) (pa_cons (pe_tup pa_nil) pa_nil))) (pe_cal c_law_take hr (by first | decide | exact Nat.le_refl _) (pa_cons (pv 0) (pa_cons pe_int pa_nil))) (fun _ _ => rfl)))
  (pss_cons (ps_if (pt_cmpR op_eq (pv 9) pe_int (nomark _)) (pss_cons (ps_set (i := 7) sc_law_bad.nd rfl (Or.inl rfl) (pe_cal c_law_take hr (by first | decide | exact Nat.le_refl _) (pa_cons (pv 0) (pa_cons (pe_op op_add (pe_callB call_len_seq (by rfl) z_len (by decide +kernel) (pa_cons (pv 3) pa_nil)) pe_int) pa_nil))))
  (pss_cons (ps_set (i := 10) sc_law_bad.nd rfl (Or.inl rfl) (pe_lst (pa_cons (pe_tup (pa_cons pe_int (pa_cons pe_int (pa_cons pe_int (pa_cons pe_non pa_nil))))) (pa_cons (pe_tup (pa_cons pe_int (pa_cons pe_int (pa_cons pe_int (pa_cons pe_non pa_nil))))) (pa_cons (pe_tup (pa_cons (pe_op op_sub (pv 6) pe_int) (pa_cons pe_int (pa_cons pe_int (pa_cons pe_non pa_nil))))) (pa_cons (pe_tup (pa_cons pe_int (pa_cons (pv 6) (pa_cons pe_int (pa_cons pe_non pa_nil))))) (pa_cons (pe_tup (pa_cons (pe_un un_neg pe_int) (pa_cons pe_int (pa_cons pe_int (pa_cons pe_non pa_nil))))) pa_nil)))))))
  (pss_cons (ps_set (i := 10) sc_law_bad.nd rfl (Or.inl rfl) (pe_op op_cat (pv 10) (pe_lst (pa_cons (pe_tup (pa_cons pe_int (pa_cons (pe_op op_add pe_int (pv 5)) (pa_cons pe_int (pa_cons pe_non pa_nil))))) (pa_cons (pe_tup (pa_cons pe_int (pa_cons pe_int (pa_cons pe_int (pa_cons (pv 7) pa_nil))))) (pa_cons (pe_tup (pa_cons pe_int (pa_cons pe_int (pa_cons pe_int (pa_cons (pe_un un_neg pe_int) pa_nil))))) (pa_cons (pe_tup (pa_cons pe_int (pa_cons pe_int (pa_cons pe_int (pa_cons (pe_op op_add pe_int (pv 5)) pa_nil))))) pa_nil)))))))
  (pss_cons (ps_set (i := 12) sc_law_bad.nd rfl (Or.inl rfl) (pe_op op_catA (pe_op op_catA (pe_slice (sl_tupAk K) (pv 3) po_none (po_some (pv 7))) (pe_tup (pa_cons (pe_ix ix_lt (pv 10) (pe_cal c_law_take hr (by first | decide | exact Nat.le_refl _) (pa_cons (pv 0) (pa_cons pe_int pa_nil))) (fun _ _ => rfl)) pa_nil))) (pe_slice (sl_tupAk K) (pv 3) (po_some (pv 7)) po_none)))
  (pss_cut (ps_if (pt_cmpR op_eq (pe_cal c_law_take hr (by first | decide | exact Nat.le_refl _) (pa_cons (pv 0) (pa_cons pe_int pa_nil))) pe_int (nomark _)) (pss_cons (ps_set (i := 12) sc_law_bad.nd rfl (Or.inl rfl) (pe_op op_repT (pe_tup (pa_cons (pe_tup (pa_cons pe_int (pa_cons pe_int (pa_cons pe_int (pa_cons pe_non pa_nil))))) pa_nil)) (pe_op op_add pe_int (pe_cal c_law_take hr (by first | decide | exact Nat.le_refl _) (pa_cons (pv 0) (pa_cons pe_int pa_nil))))))
  (pss_one (ps_set (i := 7) sc_law_bad.nd rfl (Or.inl rfl) pe_int))) pss_nil)
  (pss_one (ps_ret (pe_tup (pa_cons (pe_tup (pa_cons (pv 2) (pa_cons (pv 12) (pa_cons (pe_op op_catA (pv 4) (pv 11)) pa_nil)))) (pa_cons pe_str (pa_cons (pv 7) pa_nil))))))))))) pss_nil)
  (pss_cons (ps_set (i := 7) sc_law_bad.nd rfl (Or.inl rfl) (pe_cal c_law_take hr (by first | decide | exact Nat.le_refl _) (pa_cons (pv 0) (pa_cons (pe_op op_add (pe_callB call_len_seq (by rfl) z_len (by decide +kernel) (pa_cons (pv 4) pa_nil)) pe_int) pa_nil))))
  (pss_cons (ps_set (i := 10) sc_law_bad.nd rfl (Or.inl rfl) (pe_lst (pa_cons (pe_tup (pa_cons pe_str (pa_cons pe_int (pa_cons (pv 8) pa_nil)))) (pa_cons (pe_tup (pa_cons pe_str (pa_cons (pv 6) (pa_cons pe_int pa_nil)))) (pa_cons (pe_tup (pa_cons pe_str (pa_cons pe_int (pa_cons (pv 6) pa_nil)))) (pa_cons (pe_tup (pa_cons pe_str (pa_cons (pe_un un_neg pe_int) (pa_cons pe_int pa_nil)))) (pa_cons (pe_tup (pa_cons pe_str (pa_cons (pe_op op_add (pv 6) (pv 5)) pa_nil))) (pa_cons (pe_tup (pa_cons pe_str (pa_cons pe_int pa_nil))) pa_nil))))))))
  (pss_cons (ps_set (i := 10) sc_law_bad.nd rfl (Or.inl rfl) (pe_op op_cat (pv 10) (pe_lst (pa_cons (pe_tup (pa_cons pe_str (pa_cons (pe_op op_fdiv (pv 6) pe_int) pa_nil))) (pa_cons (pe_tup (pa_cons pe_str (pa_cons (pe_un un_neg pe_int) pa_nil))) (pa_cons (pe_tup (pa_cons pe_str (pa_cons pe_int pa_nil))) (pa_cons (pe_tup (pa_cons pe_str pa_nil)) (pa_cons (pe_tup (pa_cons pe_str (pa_cons pe_int pa_nil))) (pa_cons (pe_tup (pa_cons pe_str (pa_cons pe_int pa_nil))) (pa_cons (pe_tup (pa_cons pe_str (pa_cons pe_int (pa_cons pe_int pa_nil)))) pa_nil))))))))))
  (pss_cons (ps_set (i := 12) sc_law_bad.nd rfl (Or.inl rfl) (pe_op op_catA (pe_op op_catA (pe_slice (sl_tupAk K) (pv 4) po_none (po_some (pv 7))) (pe_tup (pa_cons (pe_ix ix_lt (pv 10) (pe_cal c_law_take hr (by first | decide | exact Nat.le_refl _) (pa_cons (pv 0) (pa_cons pe_int pa_nil))) (fun _ _ => rfl)) pa_nil))) (pe_slice (sl_tupAk K) (pv 4) (po_some (pv 7)) po_none)))
  (pss_cut (ps_if (pt_cmpR op_eq (pe_cal c_law_take hr (by first | decide | exact Nat.le_refl _) (pa_cons (pv 0) (pa_cons pe_int pa_nil))) pe_int (nomark _)) (pss_cons (ps_set (i := 12) sc_law_bad.nd rfl (Or.inl rfl) (pe_op op_repT (pe_tup (pa_cons (pe_tup (pa_cons pe_str pa_nil)) pa_nil)) (pe_op op_add pe_int (pe_cal c_law_take hr (by first | decide | exact Nat.le_refl _) (pa_cons (pv 0) (pa_cons pe_int pa_nil))))))
  (pss_one (ps_set (i := 7) sc_law_bad.nd rfl (Or.inl rfl) pe_int))) pss_nil)
  (pss_cut (ps_if (pt_cmpR op_eq (pe_cal c_law_take hr (by first | decide | exact Nat.le_refl _) (pa_cons (pv 0) (pa_cons pe_int pa_nil))) pe_int (nomark _)) (pss_cons (ps_set (i := 12) sc_law_bad.nd rfl (Or.inl rfl) (pe_op op_repT (pe_tup (pa_cons (pe_tup (pa_cons pe_str (pa_cons pe_int pa_nil))) (pa_cons (pe_tup (pa_cons pe_str (pa_cons pe_int pa_nil))) pa_nil))) pe_int))
  (pss_one (ps_set (i := 7) sc_law_bad.nd rfl (Or.inl rfl) pe_int))) pss_nil)
  (pss_one (ps_ret (pe_tup (pa_cons (pe_tup (pa_cons (pv 2) (pa_cons (pv 3) (pa_cons (pe_op op_catA (pv 12) (pv 11)) pa_nil)))) (pa_cons pe_str (pa_cons (pv 7) pa_nil))))))))))))))))))))), ?_⟩
    refine ⟨_, rfl, a, _, rfl, sqT_t ha, rfl, _, _, rfl, _, _, rfl, _, _, rfl, rfl, ?_⟩
    refine ⟨_, rfl, _, _, rfl, rfl, ⟨by decide, by decide, by decide⟩, ?_⟩
    refine ⟨b, l, _, rfl, hB, by decide +kernel, by decide +kernel, fun H1 far hB1 bt1 f0 f1 => ?_⟩
    have P1 := P0.but hB1 bt1
    refine ⟨_, rfl, m, _, rfl, .inr (sqT_t P1.hm), ?_⟩
    rw [ml]
    refine ⟨_, rfl, _, rfl, b, l, _, B.mem.length, rfl, rfl, hB1, by omega, by omega, fun H2 at_ hB2 bt2 hat => ?_⟩
    have P2 := P1.but hB2 bt2
    have bt12 := bt1.trans bt2
    refine ⟨_, rfl, _, rfl, _, _, rfl, rfl, _, rfl, _, rfl, _, _, rfl, rfl, by show 4 ≤ sizeLine; decide, fun L0 nL0 => ?_⟩
    have sL0 := same_new (o := .lst [.int (-1), .int 10, .int (10 + far), .int (-2 - far)]) nL0
    have hL0 : (upd H2 L0 (.lst [.int (-1), .int 10, .int (10 + far), .int (-2 - far)])) L0 = some (.lst [.int (-1), .int 10, .int (10 + far), .int (-2 - far)]) := upd_same
    have nL0b := P2.box.nin nL0
    have P3 := P2.same sL0
    generalize upd H2 L0 (.lst [.int (-1), .int 10, .int (10 + far), .int (-2 - far)]) = H3 at sL0 hL0 P3
    refine ⟨_, rfl, b, l, _, 4, rfl, rfl, P3.box, by decide, by decide, fun H4 r4 hB4 bt4 hr4 => ?_⟩
    have P4 := P3.but hB4 bt4
    have bt14 := (bt12.trans (Same.but sL0)).trans bt4
    obtain ⟨odd, hodd, hood⟩ : ∃ odd, ([.int (-1), .int 10, .int (10 + far), .int (-2 - far)] : List V)[r4]? = some (.int odd) ∧ (odd < 0 ∨ 10 ≤ odd) := by
      rcases (show r4 = 0 ∨ r4 = 1 ∨ r4 = 2 ∨ r4 = 3 by omega) with rfl | rfl | rfl | rfl
      · exact ⟨_, rfl, by omega⟩
      · exact ⟨_, rfl, by omega⟩
      · exact ⟨_, rfl, by omega⟩
      · exact ⟨_, rfl, by omega⟩
    refine ⟨L0, _, (r4 : Nat), _, rfl, rfl, sqA_l (bt4 _ _ nL0b hL0), atI_nat hodd, ?_⟩
    refine ⟨_, rfl, b, l, _, 3, rfl, rfl, hB4, by decide, by decide, fun H5 kind hB5 bt5 hkind => ?_⟩
    have P5 := P4.but hB5 bt5
    have bt15 := bt14.trans bt5
    clear P1 P2 P3 P4 hL0
    refine ⟨_, rfl, rfl, _, rfl, ite2 (fun e => ?_) (fun e => ?_)⟩
    · -- the memory
      refine ⟨_, rfl, _, rfl, _, rfl, sl_t P5.hm fun s1 G1 q1 h1 => ?_⟩
      rw [cut_to'] at h1
      refine ⟨_, rfl, by show 1 ≤ sizeLine; decide, fun T1 n1 => ?_⟩
      have q2 := same_new (o := .tup [.int odd]) n1
      have h2 : (upd G1 T1 (.tup [.int odd])) T1 = some (.tup [.int odd]) := upd_same
      generalize upd G1 T1 (.tup [.int odd]) = G2 at q2 h2
      refine cat_t (q2 _ _ h1) h2 (by simp only [List.length_take, List.length_singleton]; omega) fun s2 G3 q3 h3 => ?_
      have q13 := (q1.trans q2).trans q3
      refine ⟨_, rfl, _, rfl, _, _, rfl, rfl, _, rfl, ?_⟩
      refine no_part (sl_t (q13 _ _ P5.hm) fun s3 G4 q4 h4 => ?_)
      rw [show ((at_ : Nat) : Int) + 1 = ((at_ + 1 : Nat) : Int) by omega, cut_from'] at h4
      refine cat_t (q4 _ _ h3) h4 (by simp only [List.length_append, List.length_take, List.length_drop, List.length_singleton]; omega) fun s4 G5 q5 h5 => ?_
      refine ⟨_, rfl, by show 2 ≤ sizeLine; decide, fun U1 m1 => ?_⟩
      obtain ⟨q6, w1⟩ := MemAt.new (y := nV at_) m1 h5 (ns := B.raw.mem.take at_ ++ [odd] ++ B.raw.mem.drop (at_ + 1)) (by simp only [List.map_append, List.map_take, List.map_drop, List.map_cons, List.map_nil]) rfl (bad_mem1 ok hat hood)
      have qA := ((q13.trans q4).trans q5).trans q6
      generalize upd G5 U1 (.tup [.ref s4, nV at_]) = G6 at q6 w1 qA
      refine ⟨by show 0 ≤ sizeLine; decide, fun T2 n2 => ⟨by show 2 ≤ sizeLine; decide, fun U2 m2 => ?_⟩⟩
      have q7 := same_new (o := .tup []) n2
      obtain ⟨q8, w2⟩ := MemAt.new (y := .int 0) m2 (X := T2) (xs := []) upd_same (ns := []) rfl (k := 0) rfl (bad_mem0 (by decide))
      have qB := (qA.trans q7).trans q8
      have w1' := (w1.same q7).same q8
      generalize upd (upd G6 T2 (.tup [])) U2 (.tup [.ref T2, .int 0]) = G8 at w2 qB w1' ⊢
      refine ⟨_, rfl, by show 1 ≤ sizeLine; decide, fun T3 n3 => ?_⟩
      have q9 := same_new (o := .tup [.int 0]) n3
      have h9 : (upd G8 T3 (.tup [.int 0])) T3 = some (.tup [.int 0]) := upd_same
      generalize upd G8 T3 (.tup [.int 0]) = G9 at q9 h9
      refine cat_t ((qB.trans q9) _ _ P5.hm) h9 (by show _ + 1 ≤ _; omega) fun s5 G10 q10 h10 => ?_
      refine ⟨by show 2 ≤ sizeLine; decide, fun U3 m3 => ?_⟩
      obtain ⟨q11, w3⟩ := MemAt.new (y := .int 0) m3 h10 (ns := B.raw.mem ++ [0]) (by simp only [List.map_append, List.map_cons, List.map_nil]) (k := 0) rfl (bad_mem0 (by rw [List.length_append, (raw_len B).1]; show ¬ (_ + 1 = 4 ∨ _ + 1 = 8 ∨ _ + 1 = 12 ∨ _ + 1 = 16); omega))
      have qC := ((qB.trans q9).trans q10).trans q11
      have w1c := ((w1'.same q9).same q10).same q11
      have w2c := ((w2.same q9).same q10).same q11
      generalize upd G10 U3 (.tup [.ref s5, .int 0]) = G11 at w3 qC w1c w2c
      refine ⟨_, rfl, c_part (rep_t (k := 5) (qC _ _ P5.hm) (fun z => by rw [z] at ml; simp at ml; omega) (by decide) (by decide) (by omega) fun s6 G12 q12 h12 => ?_)⟩
      refine ⟨by show 2 ≤ sizeLine; decide, fun U4 m4 => ?_⟩
      obtain ⟨q13', w4⟩ := MemAt.new (y := .int 0) m4 h12 (ns := (List.replicate 5 B.raw.mem).flatten) (by simp only [List.map_flatten, List.map_replicate]; rfl) (k := 0) rfl (bad_mem0 (by
        have e5 : (List.replicate 5 B.raw.mem).flatten.length = 5 * B.mem.length := by rw [List.length_flatten, List.map_replicate, List.sum_replicate_nat, (raw_len B).1]
        rw [e5]; omega))
      have qD := (qC.trans q12).trans q13'
      have w1d := (w1c.same q12).same q13'
      have w2d := (w2c.same q12).same q13'
      have w3d := (w3.same q12).same q13'
      generalize upd G12 U4 (.tup [.ref s6, .int 0]) = G13 at w4 qD w1d w2d w3d
      refine ⟨by show 4 ≤ sizeLine; decide, fun L1 nL1 => ?_⟩
      have qL := same_new (o := .lst [.ref U1, .ref U2, .ref U3, .ref U4]) nL1
      have hL1 : (upd G13 L1 (.lst [.ref U1, .ref U2, .ref U3, .ref U4])) L1 = some (.lst [.ref U1, .ref U2, .ref U3, .ref U4]) := upd_same
      have P6 := (P5.same qD).same qL
      have nLb := (P5.same qD).box.nin nL1
      have hall : ∀ (i : Nat) (v : V), ([.ref U1, .ref U2, .ref U3, .ref U4] : List V)[i]? = some v → MemAt (upd G13 L1 (.lst [.ref U1, .ref U2, .ref U3, .ref U4])) v := fun i v e => by
        have := List.mem_of_getElem? e
        simp only [List.mem_cons, List.not_mem_nil, or_false] at this
        rcases this with rfl | rfl | rfl | rfl
        · exact w1d.same qL
        · exact w2d.same qL
        · exact w3d.same qL
        · exact w4.same qL
      have bt6 := (bt15.trans (Same.but qD)).trans (Same.but qL)
      generalize upd G13 L1 (.lst [.ref U1, .ref U2, .ref U3, .ref U4]) = H6 at qL hL1 P6 hall bt6
      refine ⟨_, rfl, _, rfl, b, l, _, 4, rfl, rfl, P6.box, by decide, by decide, fun H7 r7 hB7 bt7 hr7 => ?_⟩
      obtain ⟨u7, hu7⟩ : ∃ u, ([.ref U1, .ref U2, .ref U3, .ref U4] : List V)[r7]? = some u := ⟨_, List.getElem?_eq_getElem (by show r7 < 4; omega)⟩
      obtain ⟨U, X, ns, k, rfl, hU, hX, hw⟩ := (hall r7 _ hu7).but P6.box bt7
      have P7 := P6.but hB7 bt7
      have bt17 := bt6.trans bt7
      refine ⟨L1, _, (r7 : Nat), _, rfl, rfl, sqA_l (bt7 _ _ nLb hL1), atI_nat hu7, ?_⟩
      refine ⟨U, _, rfl, sqT_t hU, rfl, _, _, rfl, _, _, rfl, rfl, ?_⟩
      refine ⟨_, rfl, _, rfl, by show 4 ≤ sizeLine; decide, fun T5 n5 => ?_⟩
      obtain ⟨q14, e5⟩ := ord_new (x := ⟨9, 9, 9, some 9⟩) (xs := [.int 9, .int 9, .int 9, .int 9]) rfl n5
      generalize upd H7 T5 (.tup [.int 9, .int 9, .int 9, .int 9]) = G14 at q14 e5
      refine ⟨by show 1 ≤ sizeLine; decide, fun T6 n6 => ?_⟩
      have q15 := same_new (o := .tup [.ref T5]) n6
      have e6 : Pd (upd G14 T6 (.tup [.ref T5])) (.ref T6) (.tup [ROrd.d ⟨9, 9, 9, some 9⟩]) := .tup upd_same (.cons (e5.same q15) .nil)
      generalize upd G14 T6 (.tup [.ref T5]) = G15 at q15 e6
      refine ⟨by show 2 ≤ sizeLine; decide, fun L2 nL2 => ?_⟩
      have q16 := same_new (o := .lst [.ref o, .ref T6]) nL2
      have hL2 : (upd G15 L2 (.lst [.ref o, .ref T6])) L2 = some (.lst [.ref o, .ref T6]) := upd_same
      have q7 := (q14.trans q15).trans q16
      have nL2b := (P7.same (q14.trans q15)).box.nin nL2
      have e6' := e6.same q16
      generalize upd G15 L2 (.lst [.ref o, .ref T6]) = G16 at q16 hL2 q7 e6'
      have P8 := P7.same q7
      refine ⟨_, rfl, b, l, _, 2, rfl, rfl, P8.box, by decide, by decide, fun H9 r9 hB9 bt9 hr9 => ?_⟩
      have P9 := P8.but hB9 bt9
      have hX9 := But.tup bt9 P8.box.lsts (q7 _ _ hX)
      have bt19 := (bt17.trans (Same.but q7)).trans bt9
      obtain ⟨uo, ords, huo, hpo⟩ : ∃ (uo : V) (ords : List ROrd), ([.ref o, .ref T6] : List V)[r9]? = some uo ∧ Pd H9 uo (.tup (ords.map ROrd.d)) := by
        rcases (show r9 = 0 ∨ r9 = 1 by omega) with rfl | rfl
        · exact ⟨_, B.raw.ords, rfl, .tup P9.ho P9.hos⟩
        · exact ⟨_, [⟨9, 9, 9, some 9⟩], rfl, Pd.but bt9 P8.box.lsts (by rfl) e6'⟩
      refine ⟨L2, _, (r9 : Nat), _, rfl, rfl, sqA_l (bt9 _ _ nL2b hL2), atI_nat huo, ?_⟩
      refine ⟨_, rfl, by show 3 ≤ sizeLine; decide, fun T7 n7 => ?_⟩
      have q17 := same_new (o := .tup [.ref X, uo, .ref p]) n7
      have hv9 : Pd (upd H9 T7 (.tup [.ref X, uo, .ref p])) (.ref T7) (RBrd.d ⟨ns, ords, B.raw.prog⟩) :=
        .tup upd_same (.cons (.tup (q17 _ _ hX9) (pds_ints _)) (.cons (hpo.same q17) (.cons (.tup (q17 _ _ P9.hp) (P9.hps.same q17)) .nil)))
      generalize upd H9 T7 (.tup [.ref X, uo, .ref p]) = G17 at q17 hv9
      refine ⟨_, rfl, by show 3 ≤ sizeLine; decide, fun T8 n8 => ?_⟩
      have q18 := same_new (o := .tup [.ref T7, .str "memory", nV k]) n8
      refine q _ T8 (.ref T7) ⟨ns, ords, B.raw.prog⟩ "memory" k ((P9.same q17).same q18).box ((bt19.trans (Same.but q17)).trans (Same.but q18)) upd_same (hv9.same q18) (rawOk_by Kd Md (raw_nums' B)) (wrong_mem hw)
    · have hk0 : ¬ kind = 0 := fun z => e (decide_eq_true (by rw [z]; rfl))
      refine ⟨by show 2 ≤ sizeLine; decide, fun T1 n1 => ?_⟩
      obtain ⟨q1, e1⟩ := deed_new (x := ⟨"none", [1]⟩) (xs := [.str "none", .int 1]) rfl n1
      generalize upd H5 T1 (.tup [.str "none", .int 1]) = G1 at q1 e1
      refine ⟨by show 1 ≤ sizeLine; decide, fun T2 n2 => ?_⟩
      have q2 := same_new (o := .tup [.ref T1]) n2
      have hT2 : (upd G1 T2 (.tup [.ref T1])) T2 = some (.tup [.ref T1]) := upd_same
      have e1' := e1.same q2
      generalize upd G1 T2 (.tup [.ref T1]) = G2 at q2 hT2 e1'
      refine ⟨by show 0 ≤ sizeLine; decide, fun T3 n3 => ?_⟩
      have q3 := same_new (o := .tup []) n3
      have hT3 : (upd G2 T3 (.tup [])) T3 = some (.tup []) := upd_same
      generalize upd G2 T3 (.tup []) = G3 at q3 hT3
      refine ⟨by show 2 ≤ sizeLine; decide, fun L1 nL1 => ?_⟩
      have q4 := same_new (o := .lst [.ref T2, .ref T3]) nL1
      have hL1 : (upd G3 L1 (.lst [.ref T2, .ref T3])) L1 = some (.lst [.ref T2, .ref T3]) := upd_same
      have q14 := ((q1.trans q2).trans q3).trans q4
      have nLb := (P5.same ((q1.trans q2).trans q3)).box.nin nL1
      have P6 := P5.same q14
      have hws : ∀ (i : Nat) (v : V), ([.ref T2, .ref T3] : List V)[i]? = some v → ∃ (W : Addr) (us : List V) (ws : List RDeed), v = .ref W ∧ (upd G3 L1 (.lst [.ref T2, .ref T3])) W = some (.tup us) ∧ Pds (upd G3 L1 (.lst [.ref T2, .ref T3])) us (ws.map RDeed.d) ∧ ws.length ≤ 1 ∧ ∀ d ∈ ws, d.nums.length ≤ 1000 := fun i v e => by
        have := List.mem_of_getElem? e
        simp only [List.mem_cons, List.not_mem_nil, or_false] at this
        rcases this with rfl | rfl
        · exact ⟨T2, _, [⟨"none", [1]⟩], rfl, (q3.trans q4) _ _ hT2, .cons (e1'.same (q3.trans q4)) .nil, Nat.le_refl _, fun d hd => by rw [List.mem_singleton.mp hd]; decide⟩
        · exact ⟨T3, _, [], rfl, q4 _ _ hT3, .nil, Nat.zero_le _, fun d hd => by cases hd⟩
      generalize upd G3 L1 (.lst [.ref T2, .ref T3]) = H6 at q4 hL1 q14 P6 hws
      refine ⟨_, rfl, b, l, _, 2, rfl, rfl, P6.box, by decide, by decide, fun H7 r7 hB7 bt7 hr7 => ?_⟩
      obtain ⟨u7, hu7⟩ : ∃ u, ([.ref T2, .ref T3] : List V)[r7]? = some u := ⟨_, List.getElem?_eq_getElem (by show r7 < 2; omega)⟩
      obtain ⟨W, us, ws, rfl, hW6, hus6, hws1, hwn⟩ := hws r7 _ hu7
      have hW := But.tup bt7 P6.box.lsts hW6
      have hus := Pds.but bt7 P6.box.lsts (noLs_map noL_rdeed _) hus6
      have P7 := P6.but hB7 bt7
      have bt17 := (bt15.trans (Same.but q14)).trans bt7
      refine ⟨L1, _, (r7 : Nat), _, rfl, rfl, sqA_l (bt7 _ _ nLb hL1), atI_nat hu7, ?_⟩
      have usl : us.length ≤ 1 := by rw [hus.len, List.length_map]; exact hws1
      clear hW6 hus6 hws hL1 e1 e1' hT2 hT3 hu7 nLb
      refine ⟨_, rfl, rfl, _, rfl, ite2 (fun e => ?_) (fun e => ?_)⟩
      · -- the orders
        refine ⟨_, rfl, _, rfl, o, _, rfl, .inr (sqT_t P7.ho), _, _, rfl, rfl, ?_⟩
        refine ⟨b, l, _, B.ords.length + 1, by rw [P7.ol]; rfl, rfl, P7.box, by omega, by omega, fun H8 i hB8 bt8 hi => ?_⟩
        have P8 := P7.but hB8 bt8
        have bt18 := bt17.trans bt8
        have hW8 := But.tup bt8 hB7.lsts hW
        have hus8 := Pds.but bt8 hB7.lsts (noLs_map noL_rdeed _) hus
        refine ⟨by show 4 ≤ sizeLine; decide, fun T11 n11 => ?_⟩
        obtain ⟨s11, e11⟩ := ord_new (x := ⟨0, 0, 0, none⟩) (xs := [.int 0, .int 0, .int 0, .non]) rfl n11
        generalize upd H8 T11 (.tup [.int 0, .int 0, .int 0, .non]) = K11 at s11 e11
        refine ⟨by show 4 ≤ sizeLine; decide, fun T12 n12 => ?_⟩
        obtain ⟨s12, e12⟩ := ord_new (x := ⟨0, 0, 9, none⟩) (xs := [.int 0, .int 0, .int 9, .non]) rfl n12
        generalize upd K11 T12 (.tup [.int 0, .int 0, .int 9, .non]) = K12 at s12 e12
        refine ⟨_, rfl, _, _, rfl, rfl, by show 4 ≤ sizeLine; decide, fun T13 n13 => ?_⟩
        obtain ⟨s13, e13⟩ := ord_new (x := ⟨(B.mem.length : Int) - 1, 0, 2, none⟩) (xs := [.int ((B.mem.length : Int) - 1), .int 0, .int 2, .non]) rfl n13
        generalize upd K12 T13 (.tup [.int ((B.mem.length : Int) - 1), .int 0, .int 2, .non]) = K13 at s13 e13
        refine ⟨_, rfl, by show 4 ≤ sizeLine; decide, fun T14 n14 => ?_⟩
        obtain ⟨s14, e14⟩ := ord_new (x := ⟨0, (B.mem.length : Int), 1, none⟩) (xs := [.int 0, .int (B.mem.length : Int), .int 1, .non]) rfl n14
        generalize upd K13 T14 (.tup [.int 0, .int (B.mem.length : Int), .int 1, .non]) = K14 at s14 e14
        refine ⟨_, rfl, by show 4 ≤ sizeLine; decide, fun T15 n15 => ?_⟩
        obtain ⟨s15, e15⟩ := ord_new (x := ⟨-1, 0, 1, none⟩) (xs := [.int (-1), .int 0, .int 1, .non]) rfl n15
        generalize upd K14 T15 (.tup [.int (-1), .int 0, .int 1, .non]) = K15 at s15 e15
        refine ⟨by show 5 ≤ sizeLine; decide, fun LA nLA => ?_⟩
        have sLA := same_new (o := .lst [.ref T11, .ref T12, .ref T13, .ref T14, .ref T15]) nLA
        have hLA : (upd K15 LA (.lst [.ref T11, .ref T12, .ref T13, .ref T14, .ref T15])) LA = some (.lst [.ref T11, .ref T12, .ref T13, .ref T14, .ref T15]) := upd_same
        generalize upd K15 LA (.lst [.ref T11, .ref T12, .ref T13, .ref T14, .ref T15]) = KA at sLA hLA
        refine ⟨_, rfl, _, rfl, _, _, rfl, rfl, by show 4 ≤ sizeLine; decide, fun T16 n16 => ?_⟩
        obtain ⟨s16, e16⟩ := ord_new (x := ⟨0, 16 + far, 1, none⟩) (xs := [.int 0, .int (16 + far), .int 1, .non]) rfl n16
        generalize upd KA T16 (.tup [.int 0, .int (16 + far), .int 1, .non]) = K16 at s16 e16
        refine ⟨_, rfl, by show 4 ≤ sizeLine; decide, fun T17 n17 => ?_⟩
        obtain ⟨s17, e17⟩ := ord_new (x := ⟨0, 0, 1, some (i : Int)⟩) (xs := [.int 0, .int 0, .int 1, nV i]) rfl n17
        generalize upd K16 T17 (.tup [.int 0, .int 0, .int 1, nV i]) = K17 at s17 e17
        refine ⟨_, rfl, by show 4 ≤ sizeLine; decide, fun T18 n18 => ?_⟩
        obtain ⟨s18, e18⟩ := ord_new (x := ⟨0, 0, 1, some (-1)⟩) (xs := [.int 0, .int 0, .int 1, .int (-1)]) rfl n18
        generalize upd K17 T18 (.tup [.int 0, .int 0, .int 1, .int (-1)]) = K18 at s18 e18
        refine ⟨_, rfl, _, _, rfl, rfl, by show 4 ≤ sizeLine; decide, fun T19 n19 => ?_⟩
        obtain ⟨s19, e19⟩ := ord_new (x := ⟨0, 0, 1, some (9 + far)⟩) (xs := [.int 0, .int 0, .int 1, .int (9 + far)]) rfl n19
        generalize upd K18 T19 (.tup [.int 0, .int 0, .int 1, .int (9 + far)]) = K19 at s19 e19
        refine ⟨by show 4 ≤ sizeLine; decide, fun LB nLB => ?_⟩
        have sLB := same_new (o := .lst [.ref T16, .ref T17, .ref T18, .ref T19]) nLB
        have hLB : (upd K19 LB (.lst [.ref T16, .ref T17, .ref T18, .ref T19])) LB = some (.lst [.ref T16, .ref T17, .ref T18, .ref T19]) := upd_same
        generalize upd K19 LB (.lst [.ref T16, .ref T17, .ref T18, .ref T19]) = KB at sLB hLB
        have sAB := ((((s16.trans s17).trans s18).trans s19).trans sLB)
        refine ⟨LA, LB, _, _, rfl, rfl, sAB _ _ hLA, hLB, by show 9 ≤ sizeLine; decide, fun LC nLC => ?_⟩
        have sLC := same_new (o := .lst ([.ref T11, .ref T12, .ref T13, .ref T14, .ref T15] ++ [.ref T16, .ref T17, .ref T18, .ref T19])) nLC
        have hLC : (upd KB LC (.lst ([.ref T11, .ref T12, .ref T13, .ref T14, .ref T15] ++ [.ref T16, .ref T17, .ref T18, .ref T19]))) LC = some (.lst [.ref T11, .ref T12, .ref T13, .ref T14, .ref T15, .ref T16, .ref T17, .ref T18, .ref T19]) := upd_same
        have sALL := ((((((s11.trans s12).trans s13).trans s14).trans s15).trans sLA).trans sAB).trans sLC
        have hall : Pds (upd KB LC (.lst ([.ref T11, .ref T12, .ref T13, .ref T14, .ref T15] ++ [.ref T16, .ref T17, .ref T18, .ref T19]))) [.ref T11, .ref T12, .ref T13, .ref T14, .ref T15, .ref T16, .ref T17, .ref T18, .ref T19] ((oddOrds (B.mem.length : Int) far i).map ROrd.d) := .cons (e11.same ((((((((((s12.trans s13).trans s14).trans s15).trans sLA).trans s16).trans s17).trans s18).trans s19).trans sLB).trans sLC)) (.cons (e12.same (((((((((s13.trans s14).trans s15).trans sLA).trans s16).trans s17).trans s18).trans s19).trans sLB).trans sLC)) (.cons (e13.same ((((((((s14.trans s15).trans sLA).trans s16).trans s17).trans s18).trans s19).trans sLB).trans sLC)) (.cons (e14.same (((((((s15.trans sLA).trans s16).trans s17).trans s18).trans s19).trans sLB).trans sLC)) (.cons (e15.same ((((((sLA.trans s16).trans s17).trans s18).trans s19).trans sLB).trans sLC)) (.cons (e16.same ((((s17.trans s18).trans s19).trans sLB).trans sLC)) (.cons (e17.same (((s18.trans s19).trans sLB).trans sLC)) (.cons (e18.same ((s19.trans sLB).trans sLC)) (.cons (e19.same (sLB.trans sLC)) .nil))))))))
        generalize upd KB LC (.lst ([.ref T11, .ref T12, .ref T13, .ref T14, .ref T15] ++ [.ref T16, .ref T17, .ref T18, .ref T19])) = H9 at sLC hLC sALL hall
        have P9 := P8.same sALL
        have nLCb : LC ∉ [b, l] := fun z => by
          obtain ⟨ys, e⟩ := (P8.same ((((((s11.trans s12).trans s13).trans s14).trans s15).trans sLA).trans sAB)).box.lsts _ z
          rw [nLC] at e; cases e
        have hW9 := sALL _ _ hW8
        have hus9 := hus8.same sALL
        have bt19 := bt18.trans (Same.but sALL)
        have ol := P9.ol
        -- the rows
        refine ⟨_, rfl, _, rfl, _, rfl, sl_t P9.ho fun s1 G1 q1 h1 => ?_⟩
        rw [cut_to'] at h1
        have P10 := P9.same q1
        refine ⟨_, rfl, _, rfl, b, l, _, 9, rfl, rfl, P10.box, by decide, by decide, fun H10 rx hB10 bt10 hrx => ?_⟩
        have P11 := P10.but hB10 bt10
        obtain ⟨ux, hux⟩ : ∃ u, ([.ref T11, .ref T12, .ref T13, .ref T14, .ref T15, .ref T16, .ref T17, .ref T18, .ref T19] : List V)[rx]? = some u := ⟨_, List.getElem?_eq_getElem (by show rx < 9; omega)⟩
        obtain ⟨dx, hdx, hpd⟩ := (Pds.but bt10 P10.box.lsts (noLs_map noL_rord _) (hall.same q1)).get' hux
        rw [List.getElem?_map] at hdx
        obtain ⟨x, hx, rfl⟩ : ∃ x, (oddOrds (B.mem.length : Int) far i)[rx]? = some x ∧ x.d = dx := by simpa using hdx
        have hxb := oddOrds_bad (cnt := ((B.ords.length : Nat) : Int) + 1) (cells := (B.mem.length : Int)) (far := far) (i := i) (by omega) (by omega) f0 x (List.mem_of_getElem? hx)
        refine ⟨LC, _, (rx : Nat), ux, rfl, rfl, sqA_l (bt10 _ _ nLCb (q1 _ _ hLC)), atI_nat hux, by show 1 ≤ sizeLine; decide, fun T20 n20 => ?_⟩
        have q20 := same_new (o := .tup [ux]) n20
        have h20 : (upd H10 T20 (.tup [ux])) T20 = some (.tup [ux]) := upd_same
        have hpd20 := hpd.same q20
        generalize upd H10 T20 (.tup [ux]) = G20 at q20 h20 hpd20
        refine cat_t (q20 _ _ (But.tup bt10 P10.box.lsts h1)) h20 (by simp only [List.length_take, List.length_singleton]; omega) fun s2 G21 q21 h21 => ?_
        refine ⟨_, rfl, _, rfl, _, rfl, no_part (sl_t ((q20.trans q21) _ _ P11.ho) fun s3 G22 q22 h22 => ?_)⟩
        rw [cut_from'] at h22
        refine cat_t (q22 _ _ h21) h22 (by simp only [List.length_append, List.length_take, List.length_drop, List.length_singleton]; omega) fun s4 G23 q23 h23 => ?_
        have qr := ((q20.trans q21).trans q22).trans q23
        have P12 := P11.same qr
        have hrs : Pds G23 (os.take i ++ [ux] ++ os.drop i) ((B.raw.ords.take i ++ [x] ++ B.raw.ords.drop i).map ROrd.d) := by
          rw [List.map_append, List.map_append, List.map_take, List.map_drop]
          exact ((P12.hos.takes i).app (.cons (hpd20.same ((q21.trans q22).trans q23)) .nil)).app (P12.hos.drops i)
        have bt1c := ((bt19.trans (Same.but q1)).trans bt10).trans (Same.but qr)
        have hWc := qr _ _ (But.tup bt10 P10.box.lsts (q1 _ _ hW9))
        have husc := (Pds.but bt10 P10.box.lsts (noLs_map noL_rdeed _) (hus9.same q1)).same qr
        refine ⟨fun σ' H' => ∃ (i : Nat) (RW : Addr) (rs : List V) (ords : List ROrd), σ' = [some (.ref b), some (.ref a), some (.ref m), some (.ref o), some (.ref p), some (.int far), some (nV B.mem.length), some (nV i), some (.int odd), some (nV kind), some (.ref LC), some (.ref W), some (.ref RW)] ∧
          Pts H' b l m o p os ps B ∧ But [b, l] H H' ∧ H' RW = some (.tup rs) ∧ Pds H' rs (ords.map ROrd.d) ∧ fwOrd ords (B.mem.length : Nat) = some i ∧ H' W = some (.tup us) ∧ Pds H' us (ws.map RDeed.d), ?_, fun σ' H' hM => ?_⟩
        · refine ⟨_, rfl, b, l, _, 4, rfl, rfl, P12.box, by decide, by decide, fun H13 r13 hB13 bt13 hr13 => ?_⟩
          have P13 := P12.but hB13 bt13
          refine ⟨rfl, _, rfl, ite2 (fun e => ?_) (fun e => ?_)⟩
          · refine ⟨by show 4 ≤ sizeLine; decide, fun T30 n30 => ?_⟩
            obtain ⟨q30, e30⟩ := ord_new (x := ⟨0, 0, 1, none⟩) (xs := [.int 0, .int 0, .int 1, .non]) rfl n30
            generalize upd H13 T30 (.tup [.int 0, .int 0, .int 1, .non]) = G30 at q30 e30
            refine ⟨by show 1 ≤ sizeLine; decide, fun T31 n31 => ?_⟩
            have q31 := same_new (o := .tup [.ref T30]) n31
            have h31 : (upd G30 T31 (.tup [.ref T30])) T31 = some (.tup [.ref T30]) := upd_same
            generalize upd G30 T31 (.tup [.ref T30]) = G31 at q31 h31
            have P14 := P13.same (q30.trans q31)
            refine ⟨_, rfl, b, l, _, 3, rfl, rfl, P14.box, by decide, by decide, fun H15 r15 hB15 bt15' hr15 => ?_⟩
            refine ⟨_, _, rfl, rfl, rep_t (But.tup bt15' P14.box.lsts h31) (by simp) (by omega) (by omega) (by simp) fun s5 G32 q32 h32 => ?_⟩
            have P15 := (P14.but hB15 bt15').same q32
            have e5 : ((5 : Int) + ((r15 : Nat) : Int)).toNat = 5 + r15 := by omega
            rw [e5, rep_flat] at h32
            have bt3 := ((bt13.trans (Same.but (q30.trans q31))).trans bt15').trans (Same.but q32)
            refine ⟨4, s5, _, List.replicate (5 + r15) ⟨0, 0, 1, none⟩, rfl, P15, bt1c.trans bt3, h32, ?_, bad_ordw (by omega), But.tup bt3 P12.box.lsts hWc, Pds.but bt3 P12.box.lsts (noLs_map noL_rdeed _) husc⟩
            rw [List.map_replicate]
            exact Pds.rep ((Pd.but bt15' P14.box.lsts (noL_rord _) (e30.same q31)).same q32) _
          · exact ⟨i, s4, _, _, rfl, P13, bt1c.trans bt13, But.tup bt13 P12.box.lsts h23, Pds.but bt13 P12.box.lsts (noLs_map noL_rord _) hrs, bad_ord1 ok (by omega) hxb rfl, But.tup bt13 P12.box.lsts hWc, Pds.but bt13 P12.box.lsts (noLs_map noL_rdeed _) husc⟩
        · obtain ⟨i', RW, rs, ords, rfl, P16, bt16, hRW, hrs16, hfw, hW16, hus16⟩ := hM
          have pl := P16.pl
          refine ⟨_, rfl, _, rfl, _, rfl, _, rfl, cat_t P16.hp hW16 (by omega) fun s6 G40 q40 h40 => ?_⟩
          refine ⟨by show 3 ≤ sizeLine; decide, fun T41 n41 => ?_⟩
          have q41 := same_new (o := .tup [.ref m, .ref RW, .ref s6]) n41
          have P17 := (P16.same q40).same q41
          have hv41 : Pd (upd G40 T41 (.tup [.ref m, .ref RW, .ref s6])) (.ref T41) (RBrd.d ⟨B.raw.mem, ords, B.raw.prog ++ ws⟩) := by
            refine .tup upd_same (.cons (.tup P17.hm (pds_ints _)) (.cons (.tup (q41 _ _ (q40 _ _ hRW)) ((hrs16.same q40).same q41)) (.cons (.tup (q41 _ _ h40) ?_) .nil)))
            rw [List.map_append]
            exact P17.hps.app ((hus16.same q40).same q41)
          generalize upd G40 T41 (.tup [.ref m, .ref RW, .ref s6]) = G41 at q41 hv41 P17
          refine ⟨_, rfl, by show 3 ≤ sizeLine; decide, fun T42 n42 => ?_⟩
          have q42 := same_new (o := .tup [.ref T41, .str "orders", nV i']) n42
          refine q _ T42 (.ref T41) ⟨B.raw.mem, ords, B.raw.prog ++ ws⟩ "orders" i' (P17.same q42).box (bt16.trans (Same.but ((q40.trans q41).trans q42))) upd_same (hv41.same q42) (rawOk_by Kd Md fun d hd => ?_) (wrong_ord (ok_mem ok) (by show fwOrd ords (B.raw.mem.length : Nat) = _; rw [(raw_len B).1]; exact hfw))
          rcases List.mem_append.mp hd with h | h
          · exact raw_nums' B d h
          · exact hwn d h
      · -- the deeds
        have hk2 : kind = 2 := by
          have : ¬ kind = 1 := fun z => e (decide_eq_true (by rw [z]; rfl))
          omega
        refine ⟨_, rfl, _, rfl, p, _, rfl, .inr (sqT_t P7.hp), _, _, rfl, rfl, ?_⟩
        refine ⟨b, l, _, B.prog.length + 1, by rw [P7.pl]; rfl, rfl, P7.box, by omega, by omega, fun H8 i hB8 bt8 hi => ?_⟩
        have P8 := P7.but hB8 bt8
        have bt18 := bt17.trans bt8
        have hW8 := But.tup bt8 hB7.lsts hW
        have hus8 := Pds.but bt8 hB7.lsts (noLs_map noL_rdeed _) hus
        refine ⟨_, rfl, by show 3 ≤ sizeLine; decide, fun T11 n11 => ?_⟩
        obtain ⟨s11, e11⟩ := deed_new (x := ⟨"set", [0, odd]⟩) (xs := [.str "set", .int 0, .int odd]) rfl n11
        generalize upd H8 T11 (.tup [.str "set", .int 0, .int odd]) = K11 at s11 e11
        refine ⟨_, rfl, by show 3 ≤ sizeLine; decide, fun T12 n12 => ?_⟩
        obtain ⟨s12, e12⟩ := deed_new (x := ⟨"set", [(B.mem.length : Int), 1]⟩) (xs := [.str "set", .int (B.mem.length : Int), .int 1]) rfl n12
        generalize upd K11 T12 (.tup [.str "set", .int (B.mem.length : Int), .int 1]) = K12 at s12 e12
        refine ⟨_, rfl, by show 3 ≤ sizeLine; decide, fun T13 n13 => ?_⟩
        obtain ⟨s13, e13⟩ := deed_new (x := ⟨"add", [0, (B.mem.length : Int)]⟩) (xs := [.str "add", .int 0, .int (B.mem.length : Int)]) rfl n13
        generalize upd K12 T13 (.tup [.str "add", .int 0, .int (B.mem.length : Int)]) = K13 at s13 e13
        refine ⟨_, rfl, by show 3 ≤ sizeLine; decide, fun T14 n14 => ?_⟩
        obtain ⟨s14, e14⟩ := deed_new (x := ⟨"add", [-1, 0]⟩) (xs := [.str "add", .int (-1), .int 0]) rfl n14
        generalize upd K13 T14 (.tup [.str "add", .int (-1), .int 0]) = K14 at s14 e14
        refine ⟨_, rfl, _, rfl, _, _, rfl, rfl, by show 2 ≤ sizeLine; decide, fun T15 n15 => ?_⟩
        obtain ⟨s15, e15⟩ := deed_new (x := ⟨"say", [(B.mem.length : Int) + far]⟩) (xs := [.str "say", .int ((B.mem.length : Int) + far)]) rfl n15
        generalize upd K14 T15 (.tup [.str "say", .int ((B.mem.length : Int) + far)]) = K15 at s15 e15
        refine ⟨by show 2 ≤ sizeLine; decide, fun T16 n16 => ?_⟩
        obtain ⟨s16, e16⟩ := deed_new (x := ⟨"start", [9]⟩) (xs := [.str "start", .int 9]) rfl n16
        generalize upd K15 T16 (.tup [.str "start", .int 9]) = K16 at s16 e16
        refine ⟨by show 6 ≤ sizeLine; decide, fun LA nLA => ?_⟩
        have sLA := same_new (o := .lst [.ref T11, .ref T12, .ref T13, .ref T14, .ref T15, .ref T16]) nLA
        have hLA : (upd K16 LA (.lst [.ref T11, .ref T12, .ref T13, .ref T14, .ref T15, .ref T16])) LA = some (.lst [.ref T11, .ref T12, .ref T13, .ref T14, .ref T15, .ref T16]) := upd_same
        generalize upd K16 LA (.lst [.ref T11, .ref T12, .ref T13, .ref T14, .ref T15, .ref T16]) = KA at sLA hLA
        refine ⟨_, rfl, _, rfl, _, _, rfl, rfl, ⟨by decide, by decide⟩, by show 2 ≤ sizeLine; decide, fun T17 n17 => ?_⟩
        obtain ⟨s17, e17⟩ := deed_new (x := ⟨"clean", [(B.mem.length : Int) / 4]⟩) (xs := [.str "clean", .int ((B.mem.length : Int) / 4)]) rfl n17
        generalize upd KA T17 (.tup [.str "clean", .int ((B.mem.length : Int) / 4)]) = K17 at s17 e17
        refine ⟨_, rfl, by show 2 ≤ sizeLine; decide, fun T18 n18 => ?_⟩
        obtain ⟨s18, e18⟩ := deed_new (x := ⟨"drop", [-1]⟩) (xs := [.str "drop", .int (-1)]) rfl n18
        generalize upd K17 T18 (.tup [.str "drop", .int (-1)]) = K18 at s18 e18
        refine ⟨by show 2 ≤ sizeLine; decide, fun T19 n19 => ?_⟩
        obtain ⟨s19, e19⟩ := deed_new (x := ⟨"wait", [0]⟩) (xs := [.str "wait", .int 0]) rfl n19
        generalize upd K18 T19 (.tup [.str "wait", .int 0]) = K19 at s19 e19
        refine ⟨by show 1 ≤ sizeLine; decide, fun T20 n20 => ?_⟩
        obtain ⟨s20, e20⟩ := deed_new (x := ⟨"say", []⟩) (xs := [.str "say"]) rfl n20
        generalize upd K19 T20 (.tup [.str "say"]) = K20 at s20 e20
        refine ⟨by show 2 ≤ sizeLine; decide, fun T21 n21 => ?_⟩
        obtain ⟨s21, e21⟩ := deed_new (x := ⟨"set", [0]⟩) (xs := [.str "set", .int 0]) rfl n21
        generalize upd K20 T21 (.tup [.str "set", .int 0]) = K21 at s21 e21
        refine ⟨by show 2 ≤ sizeLine; decide, fun T22 n22 => ?_⟩
        obtain ⟨s22, e22⟩ := deed_new (x := ⟨"none", [0]⟩) (xs := [.str "none", .int 0]) rfl n22
        generalize upd K21 T22 (.tup [.str "none", .int 0]) = K22 at s22 e22
        refine ⟨by show 3 ≤ sizeLine; decide, fun T23 n23 => ?_⟩
        obtain ⟨s23, e23⟩ := deed_new (x := ⟨"", [1, 1]⟩) (xs := [.str "", .int 1, .int 1]) rfl n23
        generalize upd K22 T23 (.tup [.str "", .int 1, .int 1]) = K23 at s23 e23
        refine ⟨by show 7 ≤ sizeLine; decide, fun LB nLB => ?_⟩
        have sLB := same_new (o := .lst [.ref T17, .ref T18, .ref T19, .ref T20, .ref T21, .ref T22, .ref T23]) nLB
        have hLB : (upd K23 LB (.lst [.ref T17, .ref T18, .ref T19, .ref T20, .ref T21, .ref T22, .ref T23])) LB = some (.lst [.ref T17, .ref T18, .ref T19, .ref T20, .ref T21, .ref T22, .ref T23]) := upd_same
        generalize upd K23 LB (.lst [.ref T17, .ref T18, .ref T19, .ref T20, .ref T21, .ref T22, .ref T23]) = KB at sLB hLB
        have sAB := (((((((s17.trans s18).trans s19).trans s20).trans s21).trans s22).trans s23).trans sLB)
        refine ⟨LA, LB, _, _, rfl, rfl, sAB _ _ hLA, hLB, by show 13 ≤ sizeLine; decide, fun LC nLC => ?_⟩
        have sLC := same_new (o := .lst ([.ref T11, .ref T12, .ref T13, .ref T14, .ref T15, .ref T16] ++ [.ref T17, .ref T18, .ref T19, .ref T20, .ref T21, .ref T22, .ref T23])) nLC
        have hLC : (upd KB LC (.lst ([.ref T11, .ref T12, .ref T13, .ref T14, .ref T15, .ref T16] ++ [.ref T17, .ref T18, .ref T19, .ref T20, .ref T21, .ref T22, .ref T23]))) LC = some (.lst [.ref T11, .ref T12, .ref T13, .ref T14, .ref T15, .ref T16, .ref T17, .ref T18, .ref T19, .ref T20, .ref T21, .ref T22, .ref T23]) := upd_same
        have sALL := (((((((s11.trans s12).trans s13).trans s14).trans s15).trans s16).trans sLA).trans sAB).trans sLC
        have hall : Pds (upd KB LC (.lst ([.ref T11, .ref T12, .ref T13, .ref T14, .ref T15, .ref T16] ++ [.ref T17, .ref T18, .ref T19, .ref T20, .ref T21, .ref T22, .ref T23]))) [.ref T11, .ref T12, .ref T13, .ref T14, .ref T15, .ref T16, .ref T17, .ref T18, .ref T19, .ref T20, .ref T21, .ref T22, .ref T23] ((oddDeeds (B.mem.length : Int) ((B.mem.length : Int) / 4) far odd).map RDeed.d) := .cons (e11.same ((((((((((((((s12.trans s13).trans s14).trans s15).trans s16).trans sLA).trans s17).trans s18).trans s19).trans s20).trans s21).trans s22).trans s23).trans sLB).trans sLC)) (.cons (e12.same (((((((((((((s13.trans s14).trans s15).trans s16).trans sLA).trans s17).trans s18).trans s19).trans s20).trans s21).trans s22).trans s23).trans sLB).trans sLC)) (.cons (e13.same ((((((((((((s14.trans s15).trans s16).trans sLA).trans s17).trans s18).trans s19).trans s20).trans s21).trans s22).trans s23).trans sLB).trans sLC)) (.cons (e14.same (((((((((((s15.trans s16).trans sLA).trans s17).trans s18).trans s19).trans s20).trans s21).trans s22).trans s23).trans sLB).trans sLC)) (.cons (e15.same ((((((((((s16.trans sLA).trans s17).trans s18).trans s19).trans s20).trans s21).trans s22).trans s23).trans sLB).trans sLC)) (.cons (e16.same (((((((((sLA.trans s17).trans s18).trans s19).trans s20).trans s21).trans s22).trans s23).trans sLB).trans sLC)) (.cons (e17.same (((((((s18.trans s19).trans s20).trans s21).trans s22).trans s23).trans sLB).trans sLC)) (.cons (e18.same ((((((s19.trans s20).trans s21).trans s22).trans s23).trans sLB).trans sLC)) (.cons (e19.same (((((s20.trans s21).trans s22).trans s23).trans sLB).trans sLC)) (.cons (e20.same ((((s21.trans s22).trans s23).trans sLB).trans sLC)) (.cons (e21.same (((s22.trans s23).trans sLB).trans sLC)) (.cons (e22.same ((s23.trans sLB).trans sLC)) (.cons (e23.same (sLB.trans sLC)) .nil))))))))))))
        generalize upd KB LC (.lst ([.ref T11, .ref T12, .ref T13, .ref T14, .ref T15, .ref T16] ++ [.ref T17, .ref T18, .ref T19, .ref T20, .ref T21, .ref T22, .ref T23])) = H9 at sLC hLC sALL hall
        have P9 := P8.same sALL
        have nLCb : LC ∉ [b, l] := fun z => by
          obtain ⟨ys, e⟩ := (P8.same (((((((s11.trans s12).trans s13).trans s14).trans s15).trans s16).trans sLA).trans sAB)).box.lsts _ z
          rw [nLC] at e; cases e
        have hW9 := sALL _ _ hW8
        have hus9 := hus8.same sALL
        have bt19 := bt18.trans (Same.but sALL)
        have pl := P9.pl
        -- the rows
        refine ⟨_, rfl, _, rfl, _, rfl, sl_t P9.hp fun s1 G1 q1 h1 => ?_⟩
        rw [cut_to'] at h1
        have P10 := P9.same q1
        refine ⟨_, rfl, _, rfl, b, l, _, 13, rfl, rfl, P10.box, by decide, by decide, fun H10 rx hB10 bt10 hrx => ?_⟩
        have P11 := P10.but hB10 bt10
        obtain ⟨ux, hux⟩ : ∃ u, ([.ref T11, .ref T12, .ref T13, .ref T14, .ref T15, .ref T16, .ref T17, .ref T18, .ref T19, .ref T20, .ref T21, .ref T22, .ref T23] : List V)[rx]? = some u := ⟨_, List.getElem?_eq_getElem (by show rx < 13; omega)⟩
        obtain ⟨dx, hdx, hpd⟩ := (Pds.but bt10 P10.box.lsts (noLs_map noL_rdeed _) (hall.same q1)).get' hux
        rw [List.getElem?_map] at hdx
        obtain ⟨x, hx, rfl⟩ : ∃ x, (oddDeeds (B.mem.length : Int) ((B.mem.length : Int) / 4) far odd)[rx]? = some x ∧ x.d = dx := by simpa using hdx
        have hxb := oddDeeds_bad (cnt := ((B.ords.length : Nat) : Int)) (cells := (B.mem.length : Int)) (far := far) (odd := odd) (by omega) f0 (Int.le_refl _) hood x (List.mem_of_getElem? hx)
        have hxn := oddDeeds_nums x (List.mem_of_getElem? hx)
        refine ⟨LC, _, (rx : Nat), ux, rfl, rfl, sqA_l (bt10 _ _ nLCb (q1 _ _ hLC)), atI_nat hux, by show 1 ≤ sizeLine; decide, fun T20 n20 => ?_⟩
        have q20 := same_new (o := .tup [ux]) n20
        have h20 : (upd H10 T20 (.tup [ux])) T20 = some (.tup [ux]) := upd_same
        have hpd20 := hpd.same q20
        generalize upd H10 T20 (.tup [ux]) = G20 at q20 h20 hpd20
        refine cat_t (q20 _ _ (But.tup bt10 P10.box.lsts h1)) h20 (by simp only [List.length_take, List.length_singleton]; omega) fun s2 G21 q21 h21 => ?_
        refine ⟨_, rfl, _, rfl, _, rfl, no_part (sl_t ((q20.trans q21) _ _ P11.hp) fun s3 G22 q22 h22 => ?_)⟩
        rw [cut_from'] at h22
        refine cat_t (q22 _ _ h21) h22 (by simp only [List.length_append, List.length_take, List.length_drop, List.length_singleton]; omega) fun s4 G23 q23 h23 => ?_
        have qr := ((q20.trans q21).trans q22).trans q23
        have P12 := P11.same qr
        have hrs : Pds G23 (ps.take i ++ [ux] ++ ps.drop i) ((B.raw.prog.take i ++ [x] ++ B.raw.prog.drop i).map RDeed.d) := by
          rw [List.map_append, List.map_append, List.map_take, List.map_drop]
          exact ((P12.hps.takes i).app (.cons (hpd20.same ((q21.trans q22).trans q23)) .nil)).app (P12.hps.drops i)
        have bt1c := ((bt19.trans (Same.but q1)).trans bt10).trans (Same.but qr)
        have hWc := qr _ _ (But.tup bt10 P10.box.lsts (q1 _ _ hW9))
        have husc := (Pds.but bt10 P10.box.lsts (noLs_map noL_rdeed _) (hus9.same q1)).same qr
        have M0 : ∃ M : L2.St → Hp → Prop, M = fun σ' H' => ∃ (i : Nat) (RW : Addr) (rs : List V) (rows : List RDeed), σ' = [some (.ref b), some (.ref a), some (.ref m), some (.ref o), some (.ref p), some (.int far), some (nV B.mem.length), some (nV i), some (.int odd), some (nV kind), some (.ref LC), some (.ref W), some (.ref RW)] ∧
          Pts H' b l m o p os ps B ∧ But [b, l] H H' ∧ H' RW = some (.tup rs) ∧ Pds H' rs (rows.map RDeed.d) ∧ rs.length ≤ 1000 ∧ fwDeed (rows ++ ws) (B.ords.length : Nat) (B.mem.length : Nat) = some i ∧ (∀ d ∈ rows, d.nums.length ≤ 1000) ∧ H' W = some (.tup us) ∧ Pds H' us (ws.map RDeed.d) := ⟨_, rfl⟩
        obtain ⟨M, hMd⟩ := M0
        refine ⟨M, ?_, fun σ' H' hM => ?_⟩
        · refine ⟨_, rfl, b, l, _, 6, rfl, rfl, P12.box, by decide, by decide, fun H13 r13 hB13 bt13 hr13 => ?_⟩
          have P13 := P12.but hB13 bt13
          refine ⟨rfl, _, rfl, ite2 (fun e => ?_) (fun e => ?_)⟩
          · refine ⟨by show 1 ≤ sizeLine; decide, fun T30 n30 => ?_⟩
            obtain ⟨q30, e30⟩ := deed_new (x := ⟨"wait", []⟩) (xs := [.str "wait"]) rfl n30
            generalize upd H13 T30 (.tup [.str "wait"]) = G30 at q30 e30
            refine ⟨by show 1 ≤ sizeLine; decide, fun T31 n31 => ?_⟩
            have q31 := same_new (o := .tup [.ref T30]) n31
            have h31 : (upd G30 T31 (.tup [.ref T30])) T31 = some (.tup [.ref T30]) := upd_same
            generalize upd G30 T31 (.tup [.ref T30]) = G31 at q31 h31
            have P14 := P13.same (q30.trans q31)
            refine ⟨_, rfl, b, l, _, 3, rfl, rfl, P14.box, by decide, by decide, fun H15 r15 hB15 bt15' hr15 => ?_⟩
            refine ⟨_, _, rfl, rfl, rep_t (But.tup bt15' P14.box.lsts h31) (by simp) (by omega) (by omega) (by simp) fun s5 G32 q32 h32 => ?_⟩
            have P15 := (P14.but hB15 bt15').same q32
            have e5 : ((61 : Int) + ((r15 : Nat) : Int)).toNat = 61 + r15 := by omega
            rw [e5, rep_flat] at h32
            have bt3 := ((bt13.trans (Same.but (q30.trans q31))).trans bt15').trans (Same.but q32)
            rw [hMd]
            refine ⟨60, s5, _, List.replicate (61 + r15) ⟨"wait", []⟩, rfl, P15, bt1c.trans bt3, h32, ?_, by rw [List.length_replicate]; omega, bad_progw, fun d hd => by rw [List.eq_of_mem_replicate hd]; exact Nat.zero_le _, But.tup bt3 P12.box.lsts hWc, Pds.but bt3 P12.box.lsts (noLs_map noL_rdeed _) husc⟩
            rw [List.map_replicate]
            exact Pds.rep ((Pd.but bt15' P14.box.lsts (noL_rdeed _) (e30.same q31)).same q32) _
          · rw [hMd]
            refine ⟨i, s4, _, _, rfl, P13, bt1c.trans bt13, But.tup bt13 P12.box.lsts h23, Pds.but bt13 P12.box.lsts (noLs_map noL_rdeed _) hrs, ?_, ?_, fun d hd => ?_, But.tup bt13 P12.box.lsts hWc, Pds.but bt13 P12.box.lsts (noLs_map noL_rdeed _) husc⟩
            · simp only [List.length_append, List.length_take, List.length_drop, List.length_singleton]; omega
            · rw [List.append_assoc]
              exact bad_prog1 ok (by omega) hxb rfl rfl
            · rcases List.mem_append.mp hd with h | h
              · rcases List.mem_append.mp h with h | h
                · exact raw_nums' B d (List.mem_of_mem_take h)
                · rw [List.mem_singleton.mp h]; exact hxn
              · exact raw_nums' B d (List.mem_of_mem_drop h)
        refine ⟨M, ?_, fun σ' H' hM => ?_⟩
        · rw [hMd] at hM
          obtain ⟨i', RW, rs, rows, rfl, P16, bt16, hRW, hrs16, hrl, hfw, hnum, hW16, hus16⟩ := hM
          refine ⟨_, rfl, b, l, _, 6, rfl, rfl, P16.box, by decide, by decide, fun H17 r17 hB17 bt17' hr17 => ?_⟩
          have P17 := P16.but hB17 bt17'
          refine ⟨rfl, _, rfl, ite2 (fun e => ?_) (fun e => ?_)⟩
          · refine ⟨by show 2 ≤ sizeLine; decide, fun T30 n30 => ?_⟩
            obtain ⟨q30, e30⟩ := deed_new (x := ⟨"say", [0]⟩) (xs := [.str "say", .int 0]) rfl n30
            generalize upd H17 T30 (.tup [.str "say", .int 0]) = G30 at q30 e30
            refine ⟨by show 2 ≤ sizeLine; decide, fun T31 n31 => ?_⟩
            obtain ⟨q31, e31⟩ := deed_new (x := ⟨"start", [0]⟩) (xs := [.str "start", .int 0]) rfl n31
            generalize upd G30 T31 (.tup [.str "start", .int 0]) = G31 at q31 e31
            refine ⟨by show 2 ≤ sizeLine; decide, fun T32 n32 => ?_⟩
            have q32 := same_new (o := .tup [.ref T30, .ref T31]) n32
            have h32 : (upd G31 T32 (.tup [.ref T30, .ref T31])) T32 = some (.tup [.ref T30, .ref T31]) := upd_same
            generalize upd G31 T32 (.tup [.ref T30, .ref T31]) = G32 at q32 h32
            refine c_part (rep_t (k := 4) h32 (by simp) (by decide) (by decide) (by simp) fun s5 G33 q33 h33 => ?_)
            have q3 := ((q30.trans q31).trans q32).trans q33
            have a1 := e30.same ((q31.trans q32).trans q33)
            have a2 := e31.same (q32.trans q33)
            rw [hMd]
            refine ⟨7, s5, _, four8, rfl, P17.same q3, (bt16.trans bt17').trans (Same.but q3), h33, .cons a1 (.cons a2 (.cons a1 (.cons a2 (.cons a1 (.cons a2 (.cons a1 (.cons a2 .nil))))))), (show 8 ≤ 1000 by decide), bad_progs (by omega) (by omega), fun d hd => ?_, q3 _ _ (But.tup bt17' P16.box.lsts hW16), (Pds.but bt17' P16.box.lsts (noLs_map noL_rdeed _) hus16).same q3⟩
            simp only [four8, List.mem_cons, List.not_mem_nil, or_false] at hd
            rcases hd with h | h | h | h | h | h | h | h <;> rw [h] <;> decide
          · rw [hMd]
            exact ⟨i', RW, _, rows, rfl, P17, bt16.trans bt17', But.tup bt17' P16.box.lsts hRW, Pds.but bt17' P16.box.lsts (noLs_map noL_rdeed _) hrs16, hrl, hfw, hnum, But.tup bt17' P16.box.lsts hW16, Pds.but bt17' P16.box.lsts (noLs_map noL_rdeed _) hus16⟩
        · rw [hMd] at hM
          obtain ⟨i', RW, rs, rows, rfl, P16, bt16, hRW, hrs16, hrl, hfw, hnum, hW16, hus16⟩ := hM
          refine ⟨_, rfl, _, rfl, _, rfl, _, rfl, cat_t hRW hW16 (by omega) fun s6 G40 q40 h40 => ?_⟩
          refine ⟨by show 3 ≤ sizeLine; decide, fun T41 n41 => ?_⟩
          have q41 := same_new (o := .tup [.ref m, .ref o, .ref s6]) n41
          have P17 := (P16.same q40).same q41
          have hv41 : Pd (upd G40 T41 (.tup [.ref m, .ref o, .ref s6])) (.ref T41) (RBrd.d ⟨B.raw.mem, B.raw.ords, rows ++ ws⟩) := by
            refine .tup upd_same (.cons (.tup P17.hm (pds_ints _)) (.cons (.tup P17.ho P17.hos) (.cons (.tup (q41 _ _ h40) ?_) .nil)))
            rw [List.map_append]
            exact ((hrs16.same q40).same q41).app ((hus16.same q40).same q41)
          generalize upd G40 T41 (.tup [.ref m, .ref o, .ref s6]) = G41 at q41 hv41 P17
          refine ⟨_, rfl, by show 3 ≤ sizeLine; decide, fun T42 n42 => ?_⟩
          have q42 := same_new (o := .tup [.ref T41, .str "program", nV i']) n42
          refine q _ T42 (.ref T41) ⟨B.raw.mem, B.raw.ords, rows ++ ws⟩ "program" i' (P17.same q42).box (bt16.trans (Same.but ((q40.trans q41).trans q42))) upd_same (hv41.same q42) (rawOk_by Kd Md fun d hd => ?_) (wrong_prog (ok_mem ok) (by show fwOrd B.raw.ords (B.raw.mem.length : Nat) = none; rw [(raw_len B).1]; exact ok_ords ok) (by show fwDeed (rows ++ ws) (B.raw.ords.length : Nat) (B.raw.mem.length : Nat) = _; rw [(raw_len B).1, (raw_len B).2.1]; exact hfw))
          rcases List.mem_append.mp hd with h | h
          · exact hnum d h
          · exact hwn d h
end
end Vt
namespace Vt
open PySem PySem.Spec PyProof.Rows L2
/-! ### fully of a board that can be: a list -/
theorem fg_step {Hx H3 : Hp} {L1 T1 T2 : Addr} {ev xs ys : List V} (nL : Hx L1 = none) (sm : Same Hx H3) (hL : H3 L1 = some (.lst ev)) (n1 : H3 T1 = none) (n2 : (upd H3 T1 (.tup xs)) T2 = none) :
    (upd (upd H3 T1 (.tup xs)) T2 (.tup ys)) L1 = some (.lst ev) ∧ (upd (upd (upd H3 T1 (.tup xs)) T2 (.tup ys)) L1 (.lst (ev ++ [.ref T2]))) L1 = some (.lst (ev ++ [.ref T2])) ∧
      Same Hx (upd (upd (upd H3 T1 (.tup xs)) T2 (.tup ys)) L1 (.lst (ev ++ [.ref T2]))) := by
  have s12 := (same_new (o := .tup xs) n1).trans (same_new (o := .tup ys) n2)
  generalize upd (upd H3 T1 (.tup xs)) T2 (.tup ys) = H5 at s12
  exact ⟨s12 _ _ hL, upd_same, But.new1 (sm.trans s12) nL (But.set (by simp))⟩
section
variable {P : Program} {w : World} {K : PySem.W.Frag} {mg : Str → Option Value} {base : Heap}
def spFullyG : Sp := fun vs H Q _ => ∃ (v : V) (B : Brd), vs = [v] ∧ Pd H v B.d ∧ BrdOk B ∧ ∀ (H' : Hp) (fl : Addr), Same H H' → Q (.ref fl) H'
set_option maxHeartbeats 0 in
theorem ok_fullyG {f : Addr} {fd : FuncData} (F : Fun K "fully" "fully" st_fully f fd) (C : Consts K mg) (c_require_board : Callee P w K mg base "require_board" 3 1 spReq) (z_len : mg "len" = none) (z_range : mg "range" = none) (z_enumerate : mg "enumerate" = none) : FnOk P w K mg base CX0 4 f fd ["board"] spFullyG := by
  obtain ⟨tL, mc_LINE⟩ := C.line
  refine F.ok sc_fully (fun vs H Q E h => ?_) (fun cdv A outer s H vs Q E hr h => ?_)
  · obtain ⟨v, B, rfl, _⟩ := h
    rfl
  · obtain ⟨v, B, rfl, hB, ok, q⟩ := h
    refine ⟨_, (pss_cons (ps_expr (pe_cal c_require_board hr (by first | decide | exact Nat.le_refl _) (pa_cons (pv 0) pa_nil)))
  (pss_cons (ps_asg (pv 0) (pg_tup rfl (pgs_cons (pg_name (i := 1) sc_fully.nd rfl (Or.inl rfl)) (pgs_cons (pg_name (i := 2) sc_fully.nd rfl (Or.inl rfl)) (pgs_cons (pg_name (i := 3) sc_fully.nd rfl (Or.inl rfl)) pgs_nil)))))
  (pss_cons (ps_set (i := 4) sc_fully.nd rfl (Or.inl rfl) (pe_op op_fdiv (pe_callB call_len_seq (by rfl) z_len (by decide +kernel) (pa_cons (pv 1) pa_nil)) (pe_glob (v := .int 4) rfl mc_LINE ⟨_, rfl⟩)))
  (pss_cons (ps_set (i := 5) sc_fully.nd rfl (Or.inl rfl) (pe_lst pa_nil))
  (pss_cons (ps_for PassesOwn.never rfl (pi_enumT (by rfl) z_enumerate (pa_cons (pv 3) pa_nil)) (pg_tup rfl (pgs_cons (pg_name (i := 6) sc_fully.nd rfl (Or.inr rfl)) (pgs_cons (pg_name (i := 7) sc_fully.nd rfl (Or.inl rfl)) pgs_nil)))
  (pss_one (ps_if (pt_cmpR op_eq (pe_ix ix_lt (pv 7) pe_int (fun _ _ => rfl)) pe_str (nomark _)) (pss_cons (ps_expr (pe_bm PySem.F.plainAttrs_list PySem.F.slot_list_extend PySem.F.type_list_extend mt_extend (pv 5) (pa_cons (pe_lc (own := [("line", 8)]) rfl sc_fully.nd (pi_range1 (by rfl) z_range (pa_cons (pv 4) pa_nil)) (blkOk_by (own := [("line", 8)]) (N := nm_fully) (sc := defScope (topS 51)) (by decide +kernel)) (fun _ _ _ _ _ => (pg_name (i := 8) sc_fully.nd rfl (Or.inl rfl))) (fun _ _ _ _ _ => pts_nil) (fun _ _ _ _ _ => (pe_tup (pa_cons (pv 6) (pa_cons (pe_tup (pa_cons pe_str (pa_cons (pv 8) pa_nil))) pa_nil))))) pa_nil)))
  (pss_cons (ps_expr (pe_bm PySem.F.plainAttrs_list PySem.F.slot_list_append PySem.F.type_list_append mt_append (pv 5) (pa_cons (pe_tup (pa_cons (pe_op op_add (pv 6) pe_int) (pa_cons (pe_tup (pa_cons pe_str pa_nil)) pa_nil))) pa_nil)))
  (pss_one (ps_expr (pe_bm PySem.F.plainAttrs_list PySem.F.slot_list_extend PySem.F.type_list_extend mt_extend (pv 5) (pa_cons (pe_lc (own := [("line", 8)]) rfl sc_fully.nd (pi_range1 (by rfl) z_range (pa_cons (pv 4) pa_nil)) (blkOk_by (own := [("line", 8)]) (N := nm_fully) (sc := defScope (topS 51)) (by decide +kernel)) (fun _ _ _ _ _ => (pg_name (i := 8) sc_fully.nd rfl (Or.inl rfl))) (fun _ _ _ _ _ => pts_nil) (fun _ _ _ _ _ => (pe_tup (pa_cons (pe_op op_add (pv 6) pe_int) (pa_cons (pe_tup (pa_cons pe_str (pa_cons (pv 8) pa_nil))) pa_nil))))) pa_nil)))))) pss_nil)))
  (pss_one (ps_ret (pv 5)))))))), ?_⟩
    refine ⟨_, rfl, v, B, rfl, hB, ok, fun H1 s1 => ?_⟩
    obtain ⟨a, m, o, p, os, ps, rfl, ha, hm, ho, hos, hp, hps⟩ := Brd.of (hB.same s1)
    have pl : ps.length = B.prog.length := by rw [hps.len, List.length_map]
    refine ⟨_, rfl, a, _, rfl, sqT_t ha, rfl, _, _, rfl, _, _, rfl, _, _, rfl, rfl, ?_⟩
    obtain ⟨n, hn⟩ : ∃ n, n = B.mem.length / 4 := ⟨_, rfl⟩
    have n4 : n ≤ 4 := by have := ok.cells; omega
    have en : (((B.mem.map nV).length : Nat) : Int) / 4 = ((n : Nat) : Int) := by rw [List.length_map, hn]; omega
    have hd60 := ok.sixty
    refine ⟨_, rfl, m, _, rfl, .inr (sqT_t hm), _, _, rfl, rfl, ⟨by decide, by decide⟩, ?_⟩
    refine chgN (y := nV n) (congrArg V.int en) ?_
    refine ⟨Nat.zero_le _, fun fl nfl => ?_⟩
    have sf := same_new (o := .lst []) nfl
    refine ⟨_, rfl, p, rfl, .inr ⟨_, sqT_t (sf _ _ hp), ?_⟩⟩
    refine for_it (walk_enumT (xs := ps)) (fun i σ H' => ∃ (fv : List V) (y1 y2 : Option V), σ = [some (.ref a), some (.ref m), some (.ref o), some (.ref p), some (nV n), some (.ref fl), y1, y2, none] ∧ H' fl = some (.lst fv) ∧ fv.length ≤ 9 * i ∧ Same H1 H')
      ⟨[], _, _, rfl, upd_same, Nat.zero_le _, sf⟩ (fun i σ H' _ hp' => by obtain ⟨_, _, _, _, _, _, sm⟩ := hp'; exact sqT_t (sm _ _ hp)) (fun i x σ H2 H3 hi hp' hy => ?_) (fun σ H2 hp' => ?_)
    · obtain ⟨fv, y1, y2, rfl, hfl, hfv, sm⟩ := hp'
      obtain ⟨T, a1, b, rfl, nT, _, h1, hb, s2, hT⟩ := pair_at hy
      cases h1
      obtain ⟨dx, hdx, hpd⟩ := hps.get' hb
      rw [List.getElem?_map] at hdx
      obtain ⟨d, hd, rfl⟩ : ∃ d, B.prog[i]? = some d ∧ d.d = dx := by simpa using hdx
      have s13 : Same H1 H3 := sm.trans s2
      obtain ⟨da, rfl, hda⟩ := Deed.of (hpd.same s13)
      have hfl3 := s2 _ _ hfl
      have il : i ≤ 60 := by have := (List.getElem?_eq_some_iff.mp hd).1; omega
      refine ⟨T, _, rfl, sqT_t hT, rfl, _, _, rfl, _, _, rfl, rfl, ?_⟩
      refine ⟨_, rfl, da, _, 0, .str d.word, rfl, rfl, sqA_t hda, at0, rfl, _, rfl, ite2 (fun e => ?_) (fun e => ?_)⟩
      · refine ⟨_, rfl, .inl ⟨rfl, _, sqL_l hfl3⟩, _, rfl, _, rfl, by omega, by omega, fun L1 nL1 => ?_⟩
        refine lc_it (walk_range (lo := 0) (n := ((n : Nat) : Int).toNat)) (fun j H' => ∃ ev : List V, H' L1 = some (.lst ev) ∧ ev.length = j ∧ Same H3 H')
          ⟨[], upd_same, rfl, same_new nL1⟩ (fun _ _ _ _ => trivial) (fun j x Ha Hb hj hq hy => ?_) (fun H4 hq => ?_)
        · obtain ⟨ev, hL, hev, s4⟩ := hq
          obtain ⟨rfl, rfl⟩ := hy
          have : ((n : Nat) : Int).toNat = n := Int.toNat_natCast n
          refine ⟨rfl, ?_⟩
          refine ⟨_, rfl, _, rfl, by show 2 ≤ sizeLine; decide, fun T1 n1 => ⟨by show 2 ≤ sizeLine; decide, fun T2 n2 => ?_⟩⟩
          obtain ⟨f1, f2, f4⟩ := fg_step (ys := [nV i, .ref T1]) nL1 s4 hL n1 n2
          exact ⟨ev, f1, fits (by omega), _, f2, by rw [List.length_append, hev]; rfl, f4⟩
        obtain ⟨ev1, hL1, hev1, s4⟩ := hq
        rw [Int.toNat_natCast] at hev1
        have hfl4 := s4 _ _ hfl3
        refine ⟨fl, L1, fv, ev1, rfl, rfl, hfl4, hL1, Nat.le_of_lt (fits (by omega)), ?_⟩
        obtain ⟨H5, hH5⟩ : ∃ H5, H5 = upd H4 fl (.lst (fv ++ ev1)) := ⟨_, rfl⟩
        have b5 : But [fl] H4 H5 := by rw [hH5]; exact But.set (by simp)
        have hfl5 : H5 fl = some (.lst (fv ++ ev1)) := by rw [hH5]; exact upd_same
        rw [← hH5]
        have s5 : Same H1 H5 := But.new1 (s13.trans s4) nfl b5
        have len5 : (fv ++ ev1).length ≤ 9 * i + 4 := by rw [List.length_append]; omega
        clear hH5
        -- the wait
        refine ⟨_, rfl, .inl ⟨rfl, _, sqL_l hfl5⟩, _, rfl, _, _, rfl, rfl, by show 1 ≤ sizeLine; decide, fun T1 n1 => ⟨by show 2 ≤ sizeLine; decide, fun T2 n2 => ?_⟩⟩
        obtain ⟨f1, f2, f4⟩ := fg_step (xs := [.str "wait"]) (ys := [.int ((i : Int) + 1), .ref T1]) nfl s5 hfl5 n1 n2
        refine ⟨fl, _, _, rfl, rfl, f1, fits (by omega), ?_⟩
        obtain ⟨H6, e6⟩ : ∃ H6, H6 = upd (upd (upd H5 T1 (.tup [.str "wait"])) T2 (.tup [.int ((i : Int) + 1), .ref T1])) fl (.lst (fv ++ ev1 ++ [.ref T2])) := ⟨_, rfl⟩
        rw [← e6] at f2 f4
        erw [← e6]
        clear e6 f1 n1 n2
        refine ⟨_, rfl, .inl ⟨rfl, _, sqL_l f2⟩, _, rfl, _, rfl, by omega, by omega, fun L2 nL2 => ?_⟩
        refine lc_it (walk_range (lo := 0) (n := ((n : Nat) : Int).toNat)) (fun j H' => ∃ ev : List V, H' L2 = some (.lst ev) ∧ ev.length = j ∧ Same H6 H')
          ⟨[], upd_same, rfl, same_new nL2⟩ (fun _ _ _ _ => trivial) (fun j x Ha Hb hj hq hy => ?_) (fun H7 hq => ?_)
        · obtain ⟨ev, hL, hev, s4⟩ := hq
          obtain ⟨rfl, rfl⟩ := hy
          have : ((n : Nat) : Int).toNat = n := Int.toNat_natCast n
          refine ⟨rfl, ?_⟩
          refine ⟨_, rfl, _, _, rfl, rfl, _, rfl, by show 2 ≤ sizeLine; decide, fun T1 n1 => ⟨by show 2 ≤ sizeLine; decide, fun T2 n2 => ?_⟩⟩
          obtain ⟨f1, f2, f4⟩ := fg_step (ys := [.int ((i : Int) + 1), .ref T1]) nL2 s4 hL n1 n2
          exact ⟨ev, f1, fits (by omega), _, f2, by rw [List.length_append, hev]; rfl, f4⟩
        obtain ⟨ev2, hL2, hev2, s7⟩ := hq
        rw [Int.toNat_natCast] at hev2
        have hfl7 := s7 _ _ f2
        refine ⟨fl, L2, _, ev2, rfl, rfl, hfl7, hL2, Nat.le_of_lt (fits (by rw [List.length_append, List.length_singleton]; omega)), ?_⟩
        have b8 : But [fl] H7 (upd H7 fl (.lst (fv ++ ev1 ++ [.ref T2] ++ ev2))) := But.set (by simp)
        refine ⟨_, _, _, rfl, upd_same, ?_, But.new1 (f4.trans s7) nfl b8⟩
        rw [List.length_append, List.length_append, List.length_singleton]; omega
      · exact ⟨fv, _, _, rfl, hfl3, by omega, s13⟩
    · obtain ⟨fv, y1, y2, rfl, hfl, hfv, sm⟩ := hp'
      exact ⟨_, rfl, q _ fl (s1.trans sm)⟩
end
end Vt
namespace Vt
open PySem PySem.Spec PyProof.Rows L2 LamX
/-! ### as before, where the cell's place is known to stay free -/
section
variable {P : Program} {w : World} {H H1 : Hp} {h h1 B : Heap} {c : Addr} {v : V}
/-- behind a call that ran without the cell -/
theorem CR.readd2 {outer : List Env} {s s' : Shared} {Q : VK} {E : XK} {r : Result} (hok : HOk P w H s.heap) (e : H c = some (cellO c v)) (hc : c ∉ frs outer)
    (q : CR (L2N.CX P w) outer P w (L2.del H c) s (fun x H' => H' c = none → Q x (upd H' c (cellO c v))) (fun cls d H' => H' c = none → E cls d (upd H' c (cellO c v))) r s') : CR (L2N.CX P w) outer P w H s Q E r s' := by
  obtain ⟨u, ru, o, ho, hd⟩ := cellO_at hok e
  cases r with
  | ok fl =>
    cases fl with
    | ret x =>
      obtain ⟨y, H', q1, q2, q3, q4, q5, q6⟩ := q
      have n := q3.free c o ho L2.del_same (by simp)
      have k := q3.keep c o ho L2.del_same hc (by simp)
      exact ⟨y, upd H' c (cellO c v), q1, q2, Un.addx q3 e n, HOk.addx q4 n (cellO_ok ru ⟨o, k, hd⟩), q5, q6 n⟩
    | next => exact False.elim q
    | brk => exact False.elim q
    | cont => exact False.elim q
  | error z =>
    obtain ⟨a, B, H', cls, d, q1, q2, q3, q4, q5, q6, q7, q8⟩ := q
    have n := q4.free c o ho L2.del_same
    have k := q4.keep c o ho L2.del_same hc
    refine ⟨a, B, upd H' c (cellO c v), cls, d, q1, q2, HOk.addx q3 n (cellO_ok ru ⟨o, k, hd⟩), UB.addx q4 e, ?_, q6, q7, q8 n⟩
    have an : a ≠ c := fun y => by
      have := q2.2.1
      rw [y, k] at this
      cases this
    rw [upd_ne an]
    exact q5
end
section
variable {P : Program} {w : World} {K : PySem.W.Frag} {mg : Str → Option Value} {base : Heap}
/-- x(), of a lambda whose maker is gone -/
theorem pe_actC2 {Z : Cx} {params : Arguments} {body : Expr} {scope : Scope} {df : Bool} {k i : Nat} {a q y0 : Str} {W : WX} {tb : XK → TE} {p1 p2 : Pos} (L : LamK y0 scope) (B : ∀ c, LamB q params body scope [(y0, c)] df) (tk : L2N.Takes Z W) (hr : Room (k + 1) Z.A)
    (hbody : ∀ (A : Around) (outer : List Env) (s : Shared) (H : Hp) (E : XK) (c f c' : Addr), Room k (A.deeper (lamEnvC q [(y0, c)] scope s.heap.objs.size f c')) → PE (lamCxC Z.prog Z.w Z.K Z.mg Z.base A outer s H E q y0 c scope f c') body (tb E))
    (hN : Z.N[i]? = some a) (hv : Vis Z.env.scope a) (hd : (a == ("__debug__" : Str)) = false := by decide) (hcd : (a == ("__classdict__" : Str)) = false := by decide) :
    PE Z (.Call (.Name a p1) [] [] p2) (fun σZ HZ Q => ∃ (E : XK) (f c : Addr) (v : V), (∀ cls d H', E cls d H' → W cls d σZ H') ∧ σZ[i]? = some (some (.ref f)) ∧ LamAt q params body scope [(y0, c)] df HZ f ∧ HZ c = some (cellO c v) ∧
      tb (fun cls d H' => H' c = none → E cls d (upd H' c (cellO c v))) [some v] (L2.del HZ c) (fun x H' => H' c = none → Q x (upd H' c (cellO c v)))) := by
  refine ⟨fun pinsZ sZ σZ HZ Q IZ h => ?_⟩
  obtain ⟨E, f, c, v, hW, hs, ⟨c', pm, ctv, doc, dV, hf, hc, h3, h4⟩, hcell, ht⟩ := h
  refine wpAny_Call_Name_kw (thn ((pe_var (pos := p1) (i := i) hN hv hd hcd).run pinsZ sZ σZ HZ (fun v H1 => v = .ref f ∧ H1 = HZ) IZ ⟨.ref f, hs, rfl, rfl⟩) fun u s1 ⟨x, H1, I1, r1, q1⟩ => ?_)
  obtain ⟨ev, eH⟩ := q1
  subst ev
  rw [eH] at I1
  obtain rfl : u = Value.ref f := r1
  have of1 := lamO_at I1.hok hf
  refine PySem.W.callWith_F0 ⟨_, _, _, _, of1⟩ ?_
  obtain ⟨⟨oc, vs, t, hoc, hdc, hvc⟩, _, _⟩ := I1.hok c' _ hc
  obtain ⟨binds, hb, hloc⟩ := (B c).binds (s := s1) (doc := doc) (pm := pm) (cv := .ref c') (ctv := ctv) I1.hok h3 h4
  obtain ⟨uc, ruc, huc⟩ := cellO_at I1.hok hcell
  have ncf : c ∉ frs Z.stack := fun z => by
    have := I1.stkFree c z
    rw [hcell] at this; cases this
  have e1 := I1.env0
  have e0 : Env0 Z.prog Z.w Z.K Z.mg Z.base Z.A Z.stack s1 (L2.del HZ c) := ⟨e1.frames, e1.mod, fun b o e => ⟨(e1.bs b o e).1, by
      have := (e1.bs b o e).2
      rw [L2.del_ne (fun y => by rw [y, hcell] at this; cases this)]; exact this⟩, e1.bsz, e1.funs, fun b hb => by
      have := e1.frf b hb
      rw [L2.del_ne (fun y => by rw [y, hcell] at this; cases this)]; exact this, HOk.delx e1.hok hcell, e1.bare⟩
  have rc : codeAny (model Z.prog Z.w) Z.A (.call (.ref f) ⟨[], []⟩) (CR (L2N.CX Z.prog Z.w) Z.stack Z.prog Z.w HZ s1 Q E) s1 := by
    refine codeAny_mono (R := CR (L2N.CX Z.prog Z.w) Z.stack Z.prog Z.w (L2.del HZ c) s1 (fun x H' => H' c = none → Q x (upd H' c (cellO c v))) (fun cls d H' => H' c = none → E cls d (upd H' c (cellO c v)))) ?_ fun r s' hq => CR.readd2 e1.hok hcell ncf hq
    refine PySem.W.kla_callFunE hr.depth of1 rfl L.co L.gen rfl ⟨c', oc, vs, t, rfl, hoc, hdc, hvc⟩ (hb _ _ _ _ ?_)
    refine wpAny_newFunctionEnv (fun y hy => L.cell y hy) hloc (fun h₁ hns hsb => ⟨I1.nolimit.fresh _ hsb, ?_⟩) L.kind
    have kp : ∀ b o, s1.heap.get? b = some o → h₁.get? b = some o := fun b o e => hsb.extBut b o (Nat.ne_of_lt (Heap.lt_size e)) (Heap.get?_push_of_some _ e)
    have J : Inv (lamCxC Z.prog Z.w Z.K Z.mg Z.base Z.A Z.stack s1 (L2.del HZ c) (fun cls d H' => H' c = none → E cls d (upd H' c (cellO c v))) q y0 c scope f c') [] [some v] (L2.del HZ c) { s1 with heap := h₁, toks := s1.toks + binds.length } :=
      lam_startC L e0 hr.hd L2.del_same ruc huc hns kp
    refine PySem.W.kla_codeExpr (wpAny_mono ((hbody _ _ s1 (L2.del HZ c) _ c f c' (hr.deeper _)).run [] _ _ (L2.del HZ c) _ J ht) (fun x s' hq => ?_) fun e s' hq => hq)
    obtain ⟨w', H', J', rv, q⟩ := hq
    exact ⟨w', H', J'.os, J'.bare, J'.base, J'.hok, rv, q⟩
  refine wpAny_call (codeAny_mono rc fun r s' hq => ?_)
  cases r with
  | error e => exact tk e s' (L2N.XE.of_call I1 hW hq)
  | ok fl =>
    cases fl with
    | ret u => exact I1.after hq
    | next => exact False.elim hq
    | brk => exact False.elim hq
    | cont => exact False.elim hq
end
section
variable {X : Cx} {C : Nat → Addr} {CE : Addr} {params : Arguments} {body : Expr} {scope : Scope} {df : Bool} {k : Nat} {tb : XK → TE} {ta : TA} {e : Expr} {p pos : Pos} {q y0 : Str}
set_option maxHeartbeats 0 in
theorem pe_refusedC2 (F : RefK X.prog X.w X.K X.mg X.base C CE) (L : LamK y0 scope) (B : ∀ c, LamB q params body scope [(y0, c)] df) (hr : Room (k + 3) X.A)
    (hbody : ∀ (A : Around) (outer : List Env) (s : Shared) (H : Hp) (E : XK) (c f c' : Addr), Room k (A.deeper (lamEnvC q [(y0, c)] scope s.heap.objs.size f c')) → PE (lamCxC X.prog X.w X.K X.mg X.base A outer s H E q y0 c scope f c') body (tb E))
    (ha : L2.PA X [e] ta) (hg : Gl X "_law_refused" := by rfl) (hst : starEach [e] X.env = (false, eval e X.env) :: starEach [] X.env := by rfl) :
    PE X (.Call (.Name "_law_refused" p) [e] [] pos) (fun σ H Q => ta σ H fun vs H1 => ∃ f c v, vs = [V.ref f] ∧ LamAt q params body scope [(y0, c)] df H1 f ∧ H1 c = some (cellO c v) ∧ tb (fun cls d H' => H' c = none → ERefC X.K C CE Q cls d (upd H' c (cellO c v))) [some v] (L2.del H1 c) (fun _ H' => H' c = none → Q .non (upd H' c (cellO c v)))) := by
  refine ⟨fun pins s σl H Q I h => ?_⟩
  obtain ⟨g, ⟨oc, od, kV, doc, pm, an, cdv, ct, osl, _, lk, hcg, hkp⟩, hm⟩ := F.f
  refine wpAny_Call_Name_kw (ld_glob I hg hm ?_ (by decide))
  refine PySem.W.callWith_K (h₀ := X.base) I.ok.mod.kin hkp (thn (ha.run pos pins s σl H _ I h) fun us s1 ⟨vs, H1, I1, r1, f, c, v, ev, hl, hcl, ht⟩ => ⟨I1.kIn, ?_⟩) hst (by rfl)
  subst ev
  have Fg := fun_mk (st := st_law_refused) lk hcg hkp
  have hbg := Fg.binds (ps := ["_law_work"]) (fun _ _ _ _ _ _ us hl => match us, hl with | [_], _ => rfl)
  have hlen : us.length = 1 := r1.length.symm
  have rc : codeAny (model X.prog X.w) X.A (.call (.ref g) ⟨us, []⟩) (CR CX0 X.stack X.prog X.w H1 s1 Q E0) s1 := by
    refine run_ofS (N := ["_law_work", "_law_e", "_law_word"]) (ps := ["_law_work"]) (us := us) (vs := [.ref f]) lk hcg sc_law_refused hr I1.env0 (by
      have := hbg s1 us I1.kIn (by rw [List.append_nil]; exact hlen)
      rw [List.append_nil] at this; exact this) r1 rfl fun hr' => ?_
    have hrH : L2H.RoomH 1 (X.A.deeper (envOfC "_law_refused" (defScope st_law_refused) s1.heap.objs.size g cdv)) := ⟨by have := hr'.dp; omega, by have := hr'.un; omega⟩
    refine ⟨_, (pss_cons (L2N.ps_try_as (i := 1) (tb := fun W D σ H => ∃ (E : XK) (f c : Addr) (v : V), (∀ cls d H', E cls d H' → W cls d σ H') ∧ σ[0]? = some (some (.ref f)) ∧ LamAt q params body scope [(y0, c)] df H f ∧ H c = some (cellO c v) ∧ tb (fun cls d H' => H' c = none → E cls d (upd H' c (cellO c v))) [some v] (L2.del H c) (fun _ H' => H' c = none → D.nx σ (upd H' c (cellO c v)))) rfl rfl sc_law_refused.nd rfl rfl ⟨rfl, by decide, .inl F.ce⟩ takesN0
      (fun W pn xe tk _ => ?_)
      (fun a oe cls d pn hz hf => (pss_cons (ps_set (i := 2) sc_law_refused.nd rfl (Or.inl rfl) (pe_calP (j := 1) F.cls ⟨hrH.dp, hrH.un⟩ (Nat.le_refl _) rfl List.mem_cons_self hz hf (pa_cons (pv 1) pa_nil)))
        (pss_one (ps_ret (pe_ifExp (pt_cmpR op_eq (pv 2) pe_str (nomark _)) (pe_tup (pa_cons (pv 2) (pa_cons (pe_xf F.xw.x F.xw.no hz.zc hf (pv 1)) (pa_cons (pe_xf F.xn.x F.xn.no hz.zc hf (pv 1)) pa_nil)))) (pe_tup (pa_cons (pv 2) (pa_cons pe_str (pa_cons pe_int pa_nil))))))))))
      (pss_one (ps_ret pe_non))), ?_⟩
    · refine ⟨fun pins s' σ H' D I' h' => ?_⟩
      exact (pss_one (ps_expr (pe_actC2 (i := 0) (a := "_law_work") L B tk (hr'.mono (Nat.le_succ _)) hbody rfl (.inl rfl)))).run pins s' σ H' D I' h'
    · refine ⟨ERefC X.K C CE Q, f, c, v, fun cls d H' hx => ?_, rfl, hl, hcl, ht⟩
      obtain ⟨z, n, dd, fs, hc, rfl, rfl, xm, hdd, hw, hn, q⟩ := hx
      refine ⟨true, xm, fun _ a na => ?_, fun q => nomatch q⟩
      refine ⟨_, rfl, 0, "BadBoard", hc, rfl, rfl, fun d' e => ?_, rfl, fun H2 s2 => ?_⟩
      · cases e
        exact ⟨fs, hdd⟩
      have hdd2 := s2 _ _ hdd
      refine ⟨_, rfl, rfl, _, rfl, iteT' rfl ?_⟩
      refine ⟨_, rfl, _, rfl, rfl, rfl, dd, fs, _, rfl, hdd2, hw, _, rfl, rfl, rfl, dd, fs, _, rfl, hdd2, hn, by show 3 ≤ sizeLine; decide, fun T nT => ?_⟩
      exact q _ _ (s2.trans (same_new nT)) upd_same
  refine wpAny_call (codeAny_mono rc fun r s' hq => ?_)
  cases r with
  | error e => exact (show False from hq).elim
  | ok fl =>
    cases fl with
    | ret u => exact I1.after hq
    | next => exact False.elim hq
    | brk => exact False.elim hq
    | cont => exact False.elim hq
end
end Vt
namespace Vt
open PySem PySem.Spec PyProof.Rows L2 LamX
/-! ### each of the eleven refuses a board that cannot be -/
theorem PE.weak {X : Cx} {e : Expr} {t t' : TE} (h : PE X e t) (i : ∀ σ H Q, t' σ H Q → t σ H Q) : PE X e t' := ⟨fun pins s σ H Q I q => h.run pins s σ H Q I (i σ H Q q)⟩
def tBad (K : PySem.W.Frag) (w : World) (dd BB : Addr) (E : XK) : TE := fun σ H _ => ∃ vb, σ[0]? = some (some vb) ∧ BadB K w dd BB E H vb
structure WkC (P : Program) (w : World) (K : PySem.W.Frag) (mg : Str → Option Value) (base : Heap) (dd BB : Addr) : Prop where
  ended : CalleeN P w K mg base "ended" 5 2 (spB2 K w dd BB)
  story : CalleeN P w K mg base "story" 5 2 (spB2 K w dd BB)
  plain_end : CalleeN P w K mg base "plain_end" 5 1 (spB1 K w dd BB)
  sights : CalleeN P w K mg base "sights" 5 1 (spB1 K w dd BB)
  amiss : CalleeN P w K mg base "amiss" 5 2 (spB2 K w dd BB)
  judged : CalleeN P w K mg base "judged" 8 1 (spB1 K w dd BB)
  fenced : CalleeN P w K mg base "fenced" 4 2 (spB2 K w dd BB)
  fully : CalleeN P w K mg base "fully" 4 1 (spB1 K w dd BB)
  spare : CalleeN P w K mg base "spare" 5 2 (spB2 K w dd BB)
  fewest : CalleeN P w K mg base "fewest" 4 2 (spB2 K w dd BB)
  written : CalleeN P w K mg base "written" 4 1 (spB1 K w dd BB)
section
variable {P : Program} {w : World} {K : PySem.W.Frag} {mg : Str → Option Value} {base : Heap} {dd BB : Addr}
theorem wk_body (W : WkC P w K mg base dd BB) (i : Nat) (hi : i < 11) {A : Around} {outer : List Env} {s : Shared} {H : Hp} {E : XK} {c f c' : Addr} (r : Room 8 (A.deeper (lamEnvC wkQ [("_law_board_here", c)] (lamS (wkE i)) s.heap.objs.size f c'))) :
    PE (lamCxC P w K mg base A outer s H E wkQ "_law_board_here" c (lamS (wkE i)) f c') (lamE (wkE i)) (tBad K w dd BB E) := by
  match i, hi, r with
  | 0, _, r => exact PE.weak (pe_calN W.ended r (by decide) (L2N.takes_of rfl rfl rfl rfl) (pa_cons (pv 0) (pa_cons (pe_lst pa_nil) pa_nil))) fun σ H Q ⟨vb, h0, hb⟩ => ⟨_, h0, Nat.zero_le _, fun pl npl => ⟨_, _, rfl, hb.same (same_new npl)⟩⟩
  | 1, _, r => exact PE.weak (pe_calN W.story r (by decide) (L2N.takes_of rfl rfl rfl rfl) (pa_cons (pv 0) (pa_cons (pe_lst (pa_cons pe_bl pa_nil)) pa_nil))) fun σ H Q ⟨vb, h0, hb⟩ => ⟨_, h0, by show 1 ≤ sizeLine; decide, fun pl npl => ⟨_, _, rfl, hb.same (same_new npl)⟩⟩
  | 2, _, r => exact PE.weak (pe_calN W.plain_end r (by decide) (L2N.takes_of rfl rfl rfl rfl) (pa_cons (pv 0) pa_nil)) fun σ H Q ⟨vb, h0, hb⟩ => ⟨_, h0, _, rfl, hb⟩
  | 3, _, r => exact PE.weak (pe_calN W.sights r (by decide) (L2N.takes_of rfl rfl rfl rfl) (pa_cons (pv 0) pa_nil)) fun σ H Q ⟨vb, h0, hb⟩ => ⟨_, h0, _, rfl, hb⟩
  | 4, _, r => exact PE.weak (pe_calN W.amiss r (by decide) (L2N.takes_of rfl rfl rfl rfl) (pa_cons (pv 0) (pa_cons (pe_lst pa_nil) pa_nil))) fun σ H Q ⟨vb, h0, hb⟩ => ⟨_, h0, Nat.zero_le _, fun pl npl => ⟨_, _, rfl, hb.same (same_new npl)⟩⟩
  | 5, _, r => exact PE.weak (pe_calN W.judged r (by decide) (L2N.takes_of rfl rfl rfl rfl) (pa_cons (pv 0) pa_nil)) fun σ H Q ⟨vb, h0, hb⟩ => ⟨_, h0, _, rfl, hb⟩
  | 6, _, r => exact PE.weak (pe_calN W.fenced r (by decide) (L2N.takes_of rfl rfl rfl rfl) (pa_cons (pv 0) (pa_cons (pe_lst (pa_cons (pe_tup (pa_cons (pe_un un_neg pe_int) (pa_cons (pe_tup (pa_cons pe_str (pa_cons pe_int pa_nil))) pa_nil))) pa_nil)) pa_nil))) fun σ H Q ⟨vb, h0, hb⟩ =>
      ⟨_, h0, _, rfl, by show 2 ≤ sizeLine; decide, fun T1 n1 => ⟨by show 2 ≤ sizeLine; decide, fun T2 n2 => ⟨by show 1 ≤ sizeLine; decide, fun pl npl => ⟨_, _, rfl, ((hb.same (same_new n1)).same (same_new n2)).same (same_new npl)⟩⟩⟩⟩
  | 7, _, r => exact PE.weak (pe_calN W.fully r (by decide) (L2N.takes_of rfl rfl rfl rfl) (pa_cons (pv 0) pa_nil)) fun σ H Q ⟨vb, h0, hb⟩ => ⟨_, h0, _, rfl, hb⟩
  | 8, _, r => exact PE.weak (pe_calN W.spare r (by decide) (L2N.takes_of rfl rfl rfl rfl) (pa_cons (pv 0) (pa_cons (pe_lst (pa_cons (pe_tup (pa_cons pe_int (pa_cons (pe_tup (pa_cons pe_str (pa_cons pe_int pa_nil))) pa_nil))) pa_nil)) pa_nil))) fun σ H Q ⟨vb, h0, hb⟩ =>
      ⟨_, h0, by show 2 ≤ sizeLine; decide, fun T1 n1 => ⟨by show 2 ≤ sizeLine; decide, fun T2 n2 => ⟨by show 1 ≤ sizeLine; decide, fun pl npl => ⟨_, _, rfl, ((hb.same (same_new n1)).same (same_new n2)).same (same_new npl)⟩⟩⟩⟩
  | 9, _, r => exact PE.weak (pe_calN W.fewest r (by decide) (L2N.takes_of rfl rfl rfl rfl) (pa_cons (pv 0) (pa_cons pe_int pa_nil))) fun σ H Q ⟨vb, h0, hb⟩ => ⟨_, h0, _, _, rfl, hb⟩
  | 10, _, r => exact PE.weak (pe_calN W.written r (by decide) (L2N.takes_of rfl rfl rfl rfl) (pa_cons (pv 0) pa_nil)) fun σ H Q ⟨vb, h0, hb⟩ => ⟨_, h0, _, rfl, hb⟩
theorem wk_lamK (i : Nat) (hi : i < 11) : LamK "_law_board_here" (lamS (wkE i)) := by
  match i, hi with
  | 0, _ => exact lamK_by (by decide +kernel)
  | 1, _ => exact lamK_by (by decide +kernel)
  | 2, _ => exact lamK_by (by decide +kernel)
  | 3, _ => exact lamK_by (by decide +kernel)
  | 4, _ => exact lamK_by (by decide +kernel)
  | 5, _ => exact lamK_by (by decide +kernel)
  | 6, _ => exact lamK_by (by decide +kernel)
  | 7, _ => exact lamK_by (by decide +kernel)
  | 8, _ => exact lamK_by (by decide +kernel)
  | 9, _ => exact lamK_by (by decide +kernel)
  | 10, _ => exact lamK_by (by decide +kernel)
theorem wk_lamB (i : Nat) (hi : i < 11) (c : Addr) : LamB wkQ (lamP (wkE i)) (lamE (wkE i)) (lamS (wkE i)) [("_law_board_here", c)] (decide (i ≠ 0)) := by
  match i, hi with
  | 0, _ => exact fun _ _ _ _ => rfl
  | 1, _ => exact ⟨"_law_a", by decide +kernel, fun _ _ _ _ _ => ⟨_, rfl, fun _ => rfl⟩⟩
  | 2, _ => exact ⟨"_law_b", by decide +kernel, fun _ _ _ _ _ => ⟨_, rfl, fun _ => rfl⟩⟩
  | 3, _ => exact ⟨"_law_c", by decide +kernel, fun _ _ _ _ _ => ⟨_, rfl, fun _ => rfl⟩⟩
  | 4, _ => exact ⟨"_law_d", by decide +kernel, fun _ _ _ _ _ => ⟨_, rfl, fun _ => rfl⟩⟩
  | 5, _ => exact ⟨"_law_f", by decide +kernel, fun _ _ _ _ _ => ⟨_, rfl, fun _ => rfl⟩⟩
  | 6, _ => exact ⟨"_law_g", by decide +kernel, fun _ _ _ _ _ => ⟨_, rfl, fun _ => rfl⟩⟩
  | 7, _ => exact ⟨"_law_h", by decide +kernel, fun _ _ _ _ _ => ⟨_, rfl, fun _ => rfl⟩⟩
  | 8, _ => exact ⟨"_law_i", by decide +kernel, fun _ _ _ _ _ => ⟨_, rfl, fun _ => rfl⟩⟩
  | 9, _ => exact ⟨"_law_j", by decide +kernel, fun _ _ _ _ _ => ⟨_, rfl, fun _ => rfl⟩⟩
  | 10, _ => exact ⟨"_law_k", by decide +kernel, fun _ _ _ _ _ => ⟨_, rfl, fun _ => rfl⟩⟩
theorem pe_ex {X : Cx} {e : Expr} {n : Nat} {t : Nat → TE} (h : ∀ i, i < n → PE X e (t i)) : PE X e (fun σ H Q => ∃ i, i < n ∧ t i σ H Q) := ⟨fun pins s σ H Q I ⟨i, hi, hq⟩ => (h i hi).run pins s σ H Q I hq⟩
end
/-- _law_refused(x), x one of the eleven -/
theorem pe_ref11 {X : Cx} {C : Nat → Addr} {CE dd : Addr} {ta : TA} {e : Expr} {p pos : Pos} (F : RefK X.prog X.w X.K X.mg X.base C CE) (W : WkC X.prog X.w X.K X.mg X.base dd (C 0)) (hr : Room 11 X.A)
    (ha : L2.PA X [e] ta) (hg : Gl X "_law_refused" := by rfl) (hst : starEach [e] X.env = (false, eval e X.env) :: starEach [] X.env := by rfl) :
    PE X (.Call (.Name "_law_refused" p) [e] [] pos) (fun σ H Q => ∃ i, i < 11 ∧ ta σ H fun vs H1 => ∃ f c v, vs = [V.ref f] ∧ LamAt wkQ (lamP (wkE i)) (lamE (wkE i)) (lamS (wkE i)) [("_law_board_here", c)] (decide (i ≠ 0)) H1 f ∧ H1 c = some (cellO c v) ∧
      tBad X.K X.w dd (C 0) (fun cls d H' => H' c = none → ERefC X.K C CE Q cls d (upd H' c (cellO c v))) [some v] (L2.del H1 c) (fun _ H' => H' c = none → Q .non (upd H' c (cellO c v)))) :=
  pe_ex fun i hi => pe_refusedC2 (k := 8) (tb := tBad X.K X.w dd (C 0)) F (wk_lamK i hi) (wk_lamB i hi) hr (fun A outer s H E c f c' r => wk_body W i hi r) ha hg hst
theorem noL_rbrd (R : RBrd) : R.d.noL = true := by
  simp only [RBrd.d, D.noL, noLs, noL_ints, Bool.true_and, Bool.and_true]
  rw [noLs_map noL_rord, noLs_map noL_rdeed]; rfl
theorem badB_ref {K : PySem.W.Frag} {w : World} {C : Nat → Addr} {CE dd c : Addr} {H : Hp} {v : V} {R : RBrd} {z : Str} {n : Nat} {Q : VK} (hc : H c = some (cellO c v)) (hv : Pd H v R.d) (rok : RawOk K w dd R) (hw : wrongB R = some (z, n)) (is0 : IsCls K C 0) (xm : PySem.W.exmOne K (.ref (C 0)) (.ref CE) = some true)
    (q : ∀ (H2 : Hp) (r : Addr), Same H H2 → H2 r = some (.tup [.str "BadBoard", .str z, .int (n : Nat)]) → Q (.ref r) H2) : BadB K w dd (C 0) (fun cls d H' => H' c = none → ERefC K C CE Q cls d (upd H' c (cellO c v))) (L2.del H c) v := by
  have tupd : ∀ a xs, H a = some (.tup xs) → L2.del H c a = some (.tup xs) := fun a xs e => by
    rw [L2.del_ne fun y => by rw [y, hc] at e; unfold cellO at e; cases e]; exact e
  refine ⟨R, z, n, Pd.tups tupd (noL_rbrd R) hv, rok, hw, fun H' d s hd nc => ?_⟩
  have dc : d ≠ c := fun y => by rw [y, nc] at hd; cases hd
  refine ⟨z, n, d, fs2 z (n : Nat), is0, rfl, rfl, xm, by rw [upd_ne dc]; exact hd, rfl, rfl, fun H2 r s2 hr => q H2 r (fun b o e => s2 b o ?_) hr⟩
  by_cases hb : b = c
  · subst hb
    rw [hc] at e
    rw [upd_same]; exact e
  · rw [upd_ne hb]
    exact s b o (by rw [L2.del_ne hb]; exact e)
end Vt
namespace Vt
open PySem PySem.Spec PyProof.Rows L2 LamX
/-! ### the law's own four, of a board that can be -/
abbrev st_law : Stmt := (topS 78)
abbrev nm_law : List Str := ["_law_script", "_law_box", "_law_board_here", "_law_bad_here", "_law_word", "_law_number", "_law_work", "_law_works_here"]
theorem sc_law : FnScope ["_law_script", "_law_box", "_law_board_here", "_law_bad_here", "_law_word", "_law_number", "_law_work", "_law_works_here"] ["_law_script"] (defScope st_law) := ⟨rfl, rfl, rfl, by decide +kernel, rfl, by decide +kernel, by decide +kernel⟩
def forIter : Stmt → Expr
  | .For _ it _ _ _ => it
  | _ => .Constant .none 0 ⟨0, 0, 0, 0⟩
def lwB (n : Nat) : Stmt := (defBody st_law).getD n (.Pass ⟨0, 0, 0, 0⟩)
def lwE : Nat → Expr
  | 0 => (lstOf (valOf (lwB 4))).getD 0 (.Constant .none 0 ⟨0, 0, 0, 0⟩)
  | 1 => (lstOf (valOf (lwB 4))).getD 1 (.Constant .none 0 ⟨0, 0, 0, 0⟩)
  | 2 => (lstOf (valOf (lwB 4))).getD 2 (.Constant .none 0 ⟨0, 0, 0, 0⟩)
  | _ => (lstOf (forIter (lwB 5))).getD 0 (.Constant .none 0 ⟨0, 0, 0, 0⟩)
/-- the name of the law's lambdas -/
def lawQ : Str := (envOfC "law" (defScope st_law) 0 0 .none).qual ++ "<lambda>"
abbrev XL (P : Program) (w : World) (K : PySem.W.Frag) (mg : Str → Option Value) (base : Heap) (f cda : Addr) (A : Around) (outer : List Env) (s : Shared) (H : Hp) (E : XK) : Cx := (cxOf CX0 P w K mg base nm_law "law" (defScope st_law) f (.ref cda) A outer s H E).nox
def tGood : TE := fun σ H Q => ∃ (v : V) (B : Brd), σ[2]? = some (some v) ∧ Pd H v B.d ∧ BrdOk B ∧ ∀ (u : V) (H' : Hp), Same H H' → Q u H'
structure LwC (P : Program) (w : World) (K : PySem.W.Frag) (mg : Str → Option Value) (base : Heap) : Prop where
  ended : Callee P w K mg base "ended" 7 2 spEnded
  plain_end : Callee P w K mg base "plain_end" 5 1 spPlainEnd
  sights : Callee P w K mg base "sights" 5 1 spSights
  written : Callee P w K mg base "written" 4 1 spWritten
section
variable {P : Program} {w : World} {K : PySem.W.Frag} {mg : Str → Option Value} {base : Heap} {f cda : Addr} {A : Around} {outer : List Env} {s : Shared} {H : Hp} {E : XK}
theorem lw_body (W : LwC P w K mg base) (i : Nat) (hi : i < 4) {A' : Around} {outer' : List Env} {s' : Shared} {H' : Hp} {E' : XK} {f' c' : Addr} (r : Room 8 (A'.deeper (lamEnv (XL P w K mg base f cda A outer s H E) (lamS (lwE i)) s'.heap.objs.size f' c'))) :
    PE (lamCxN (XL P w K mg base f cda A outer s H E) A' outer' s' H' E' (lamS (lwE i)) f' c') (lamE (lwE i)) tGood := by
  match i, hi, r with
  | 0, _, r => exact PE.weak (pe_cal W.ended r (by decide) (pa_cons (pv 2) (pa_cons (pe_lst pa_nil) pa_nil))) fun σ H Q ⟨v, B, h2, hv, ok, q⟩ => ⟨_, h2, Nat.zero_le _, fun pl npl => ⟨v, B, pl, [], rfl, hv.same (same_new npl), ok, upd_same, Nat.zero_le _, fun H' u s' _ => q u H' ((same_new npl).trans s')⟩⟩
  | 1, _, r => exact PE.weak (pe_cal W.plain_end r (by decide) (pa_cons (pv 2) pa_nil)) fun σ H Q ⟨v, B, h2, hv, ok, q⟩ => ⟨_, h2, v, B, rfl, hv, ok, fun H' u s' _ => q u H' s'⟩
  | 2, _, r => exact PE.weak (pe_cal W.sights r (by decide) (pa_cons (pv 2) pa_nil)) fun σ H Q ⟨v, B, h2, hv, ok, q⟩ => ⟨_, h2, v, B, rfl, hv, ok, fun H' t _ _ _ _ s' _ _ _ _ _ _ _ _ => q (.ref t) H' s'⟩
  | 3, _, r => exact PE.weak (pe_cal W.written r (by decide) (pa_cons (pv 2) pa_nil)) fun σ H Q ⟨v, B, h2, hv, ok, q⟩ => ⟨_, h2, v, B, rfl, hv, ok, fun H' s' => q _ H' s'⟩
theorem lw_lamD (i : Nat) (hi : i < 4) : LamD nm_law (defScope st_law) (lamS (lwE i)) := by
  match i, hi with
  | 0, _ => exact lamD_by (by decide +kernel)
  | 1, _ => exact lamD_by (by decide +kernel)
  | 2, _ => exact lamD_by (by decide +kernel)
  | 3, _ => exact lamD_by (by decide +kernel)
theorem lw_lamB (i : Nat) (hi : i < 4) (cl : List (Str × Addr)) : LamB lawQ (lamP (lwE i)) (lamE (lwE i)) (lamS (lwE i)) cl (decide (i ≠ 0)) := by
  match i, hi with
  | 0, _ => exact fun _ _ _ _ => rfl
  | 1, _ => exact ⟨"_law_a", by decide +kernel, fun _ _ _ _ _ => ⟨_, rfl, fun _ => rfl⟩⟩
  | 2, _ => exact ⟨"_law_b", by decide +kernel, fun _ _ _ _ _ => ⟨_, rfl, fun _ => rfl⟩⟩
  | 3, _ => exact ⟨"_law_c", by decide +kernel, fun _ _ _ _ _ => ⟨_, rfl, fun _ => rfl⟩⟩
theorem pe_ref4 {C : Nat → Addr} {CE : Addr} {ta : TA} {e : Expr} {p pos : Pos} (F : RefK P w K mg base C CE) (W : LwC P w K mg base) (hr : Room 11 (XL P w K mg base f cda A outer s H E).A)
    (ha : L2.PA (XL P w K mg base f cda A outer s H E) [e] ta) (hg : Gl (XL P w K mg base f cda A outer s H E) "_law_refused" := by rfl) (hst : starEach [e] (XL P w K mg base f cda A outer s H E).env = (false, eval e (XL P w K mg base f cda A outer s H E).env) :: starEach [] (XL P w K mg base f cda A outer s H E).env := by rfl) :
    PE (XL P w K mg base f cda A outer s H E) (.Call (.Name "_law_refused" p) [e] [] pos) (fun σ H1' Q => ∃ i, i < 4 ∧ ta σ H1' fun vs H1 => ∃ g, vs = [V.ref g] ∧ LamAt lawQ (lamP (lwE i)) (lamE (lwE i)) (lamS (lwE i)) (cloFrom (XL P w K mg base f cda A outer s H E).env.cells (lamS (lwE i)).names []) (decide (i ≠ 0)) H1 g ∧
      tGood σ H1 (fun _ H2 => Q .non H2)) :=
  pe_ex fun i hi => pe_refusedL (k := 8) (tb := fun _ => tGood) (X := XL P w K mg base f cda A outer s H E) F (lw_lamD i hi) (lw_lamB i hi _) hr (fun A' outer' s' H' E' f' c' r => lw_body W i hi r) ha hg hst
end
end Vt
namespace Vt
open PySem PySem.Spec PyProof.Rows L2 LamX
theorem Tabs.but {T : List (Addr × Str)} {H H' : Hp} {B : List Addr} (t : Tabs T H) (bt : But B H H') (l : Lsts H B) : Tabs T H' := fun p hp => by
  obtain ⟨ps, h1, h2, h3⟩ := t p hp
  refine ⟨ps, bt _ _ (fun m => by obtain ⟨ys, e⟩ := l _ m; rw [h1] at e; cases e) h1, h2, fun pos cv hc => ?_⟩
  obtain ⟨c, e1, e2⟩ := h3 pos cv hc
  exact ⟨c, e1, bt _ _ (fun m => by obtain ⟨ys, e⟩ := l _ m; rw [e2] at e; cases e) e2⟩
theorem pd_ext {H H' : Hp} (e : ExtN H H') {d : D} {v : V} (n : d.noL = true) (h : Pd H v d) : Pd H' v d := Pd.tups (fun a xs h => e _ _ h fun ps z => by cases z) n h
theorem ext_lst {H H' : Hp} (e : ExtN H H') {a : Addr} {xs : List V} (h : H a = some (.lst xs)) : H' a = some (.lst xs) := e _ _ h fun ps z => by cases z
section
variable {P : Program} {w : World} {K : PySem.W.Frag} {mg : Str → Option Value} {base : Heap}
def spLaw (K : PySem.W.Frag) (Pt Pw : Addr) : Sp := fun vs H Q _ => ∃ (a : Addr) (ns : List Int), vs = [.ref a] ∧ SqL K H a (ns.map V.int) ∧ ns.length ≤ 63 ∧ H Pt = some (.tbl #[]) ∧ H Pw = some (.tbl #[]) ∧ ∀ H', Q (.bl true) H'
set_option maxHeartbeats 0 in
theorem ok_law {f cda Pt Pw dd CE : Addr} {C : Nat → Addr} {oc : Value} {od : Option Addr} {kV doc pm ct : Value} {an : Option Addr} {osl : Array (Option Value)} (lk : K.lookup f = some ⟨oc, od, .func (PySem.W.fnOf "law" "law" (defArgs st_law) (defBody st_law) (defScope st_law) .none kV doc pm an (.ref cda) ct), osl⟩)
    (hcd : PySem.W.codeIn K (.ref cda) "law" = true) (TB : TabB base mg cda Pt) (hne : Pw ≠ Pt) (hRF : RefK P w K mg base C CE) (WC : WkC P w K mg base dd (C 0)) (LC : LwC P w K mg base) (is0 : IsCls K C 0) (xm0 : PySem.W.exmOne K (.ref (C 0)) (.ref CE) = some true)
    (c_law_begun : Callee P w K mg base "_law_begun" 1 1 (spBegun K)) (c_law_board : Callee P w K mg base "_law_board" 3 4 spBoard) (c_law_kinds : Callee P w K mg base "_law_kinds" 1 0 (spKinds kindWords)) (c_law_bad : Callee P w K mg base "_law_bad" 2 2 (spBad K w dd))
    (c_law_works : Callee P w K mg base "_law_works" 1 1 (spWorks [(Pt, lawQ), (Pw, wkQ)])) (c_law_alike : Callee P w K mg base "_law_alike" 4 2 (spAlike 4)) (c_fully : Callee P w K mg base "fully" 4 1 spFullyG) (c_story : Callee P w K mg base "story" 7 2 spStory) :
    FnOk P w K mg base CX0 12 f (PySem.W.fnOf "law" "law" (defArgs st_law) (defBody st_law) (defScope st_law) .none kV doc pm an (.ref cda) ct) ["_law_script"] (spLaw K Pt Pw) := by
  refine fn_of lk hcd sc_law (fun vs H Q E h => ?_) (fun A outer s H vs Q E hr h => ?_)
  · obtain ⟨a, ns, rfl, _⟩ := h
    rfl
  · obtain ⟨a, ns, rfl, hS, hlen, hT0, hT00, q⟩ := h
    have hG : TabX (cxOf CX0 P w K mg base nm_law "law" (defScope st_law) f (.ref cda) A outer s H E).nox [(Pt, lawQ), (Pw, wkQ)] cda Pt := ⟨TB, rfl, List.mem_cons_self, fun p hp e => by
      rcases List.mem_cons.mp hp with rfl | hp
      · rfl
      · rw [List.mem_singleton.mp hp] at e
        exact absurd e hne⟩
    refine ⟨_, (PSs.nox (pss_cons (ps_set (i := 1) sc_law.nd rfl (Or.inl rfl) (pe_cal c_law_begun hr (by first | decide | exact Nat.le_refl _) (pa_cons (pv 0) pa_nil)))
  (pss_cons (ps_set (i := 2) sc_law.nd rfl (Or.inr rfl) (pe_cal c_law_board hr (by first | decide | exact Nat.le_refl _) (pa_cons (pv 1) (pa_cons pe_int (pa_cons pe_int (pa_cons (pe_cal0 c_law_kinds hr (by first | decide | exact Nat.le_refl _)) pa_nil))))))
  (pss_cons (ps_asg (pe_cal c_law_bad hr (by first | decide | exact Nat.le_refl _) (pa_cons (pv 1) (pa_cons (pv 2) pa_nil))) (pg_tup rfl (pgs_cons (pg_name (i := 3) sc_law.nd rfl (Or.inl rfl)) (pgs_cons (pg_name (i := 4) sc_law.nd rfl (Or.inl rfl)) (pgs_cons (pg_name (i := 5) sc_law.nd rfl (Or.inl rfl)) pgs_nil)))))
  (pss_cons (ps_for PassesOwn.never rfl (pi_lt (pe_cal c_law_works hr (by first | decide | exact Nat.le_refl _) (pa_cons (pv 3) pa_nil))) (pg_name (i := 6) sc_law.nd rfl (Or.inl rfl))
  (pss_one (ps_if (pt_not (pt_val (pe_cal c_law_alike hr (by first | decide | exact Nat.le_refl _) (pa_cons (pe_ref11 hRF WC hr (pa_cons (pv 6) pa_nil)) (pa_cons (pe_tup (pa_cons pe_str (pa_cons (pv 4) (pa_cons (pv 5) pa_nil)))) pa_nil))))) (pss_one (ps_ret pe_bl)) pss_nil)))
  (pss_cons (ps_set (i := 7) sc_law.nd rfl (Or.inl rfl) (pe_lst (pa_cons (pe_lam0 hG (lamD_by (N := nm_law) (sc := defScope st_law) (by decide +kernel)) rfl) (pa_cons (pe_lamD hG (lamD_by (N := nm_law) (sc := defScope st_law) (by decide +kernel)) rfl rfl) (pa_cons (pe_lamD hG (lamD_by (N := nm_law) (sc := defScope st_law) (by decide +kernel)) rfl rfl) pa_nil)))))
  (pss_cons (ps_for PassesOwn.never rfl (pi_lt (pe_op op_cat (pv 7) (pe_lst (pa_cons (pe_lamD hG (lamD_by (N := nm_law) (sc := defScope st_law) (by decide +kernel)) rfl rfl) pa_nil)))) (pg_name (i := 6) sc_law.nd rfl (Or.inl rfl))
  (pss_one (ps_if (pt_cmpR op_notN (pe_ref4 hRF LC hr (pa_cons (pv 6) pa_nil)) pe_non (nomark _)) (pss_one (ps_ret pe_bl)) pss_nil)))
  (pss_one (ps_ret (pe_and (pe_cmpR op_notN (pe_cal c_fully hr (by first | decide | exact Nat.le_refl _) (pa_cons (pv 2) pa_nil)) pe_non (nomark _)) (pe_one (pe_cmpR op_notN (pe_cal c_story hr (by first | decide | exact Nat.le_refl _) (pa_cons (pv 2) (pa_cons (pe_lst pa_nil) pa_nil))) pe_non (nomark _))))))))))))), ?_⟩
    refine ⟨_, rfl, a, ns, rfl, hS, hlen, fun H1 b l hB1 sm1 => ?_⟩
    have hT1 : Tabs [(Pt, lawQ), (Pw, wkQ)] H1 := fun p hp => by
      rcases List.mem_cons.mp hp with rfl | hp
      · exact TabS.nil (sm1 _ _ hT0)
      · rw [List.mem_singleton.mp hp]
        exact TabS.nil (sm1 _ _ hT00)
    refine ⟨_, rfl, rfl, fun H2 KL s2 nKL hKL => ?_⟩
    have hB2 := hB1.same s2
    refine ⟨b, l, KL, 4, 12, kindWords, rfl, hB2, by decide, by decide, by decide, hKL, by decide, by decide, by decide, fun H3 v B hB3 bt3 hv3 ok m16 d12 c1 _ => ?_⟩
    have hT3 := Tabs.but (Tabs.same hT1 s2) bt3 hB2.lsts
    refine ⟨_, rfl, _, rfl, b, l, v, B, rfl, hB3, hv3, ok, c1, fun H4 T u R z n hB4 bt4 hT hu rok hw => ?_⟩
    refine ⟨T, _, rfl, sqT_t hT, rfl, _, _, rfl, _, _, rfl, _, _, rfl, rfl, ?_⟩
    have hv4 := Pd.but bt4 hB3.lsts (noL_brd B) hv3
    have hT4 := Tabs.but hT3 bt4 hB3.lsts
    -- all that a board is handed to
    refine ⟨_, rfl, u, rfl, hT4, fun H5 L c xs x5 t5 hL hlen11 hws hc => ?_⟩
    have hv5 := pd_ext x5 (noL_brd B) hv4
    have hu5 := pd_ext x5 (noL_rbrd R) hu
    refine ⟨L, rfl, .inl ⟨_, sqL_l hL, ?_⟩⟩
    refine for_it (walk_list (xs := xs)) (fun i σ H' => ∃ (y6 : Option V), σ = [some (.ref a), some (.ref b), some v, some u, some (.str z), some (nV n), y6, none] ∧ Same H5 H')
      ⟨_, rfl, Same.refl _⟩ (fun i σ H' _ hp' => by obtain ⟨_, _, sm⟩ := hp'; exact sqL_l (sm _ _ hL)) (fun i x σ H6' H6 hi hp' hy => ?_) (fun σ H6 hp' => ?_)
    · obtain ⟨y6, rfl, s6⟩ := hp'
      obtain ⟨rfl, hx⟩ := hy
      have hi11 : i < 11 := by have := (List.getElem?_eq_some_iff.mp hx).1; omega
      obtain ⟨g, rfl, hg⟩ := WorksAt.get hws hx
      rw [Nat.zero_add] at hg
      refine ⟨i, hi11, _, rfl, g, c, u, rfl, LamAt.ext hg (ExtN.same s6), s6 _ _ hc, u, rfl, badB_ref (s6 _ _ hc) (hu5.same s6) rok hw is0 xm0 fun H7 r s7 hr7 => ?_⟩
      refine ⟨_, rfl, _, rfl, by show 3 ≤ sizeLine; decide, fun W2 nW2 => ?_⟩
      have sW2 := same_new (o := .tup [.str "BadBoard", .str z, nV n]) nW2
      refine ⟨.ref r, .ref W2, .tup [.str "BadBoard", .str z, .int (n : Nat)], rfl, .tup (sW2 _ _ hr7) (.cons (.str _) (.cons (.str _) (.cons (.int _) .nil))), .tup upd_same (.cons (.str _) (.cons (.str _) (.cons (.int _) .nil))), by simp [D.dep, deps], by simp [D.sm, smAll], _, rfl, iteF ?_⟩
      exact ⟨_, rfl, (s6.trans s7).trans sW2⟩
    obtain ⟨y6, rfl, s6⟩ := hp'
    have hT6 := Tabs.same t5 s6
    have hv6 := hv5.same s6
    -- the law's own
    refine ⟨hT6, fun f1 F1 x1 t1 l1 => ⟨t1, fun f2 F2 x2 t2 l2 => ⟨t2, fun f3 F3 x3 t3 l3 => ⟨by show 3 ≤ sizeLine; decide, fun LL nLL => ?_⟩⟩⟩⟩
    have sLL := same_new (o := .lst [.ref f1, .ref f2, .ref f3]) nLL
    have hLL : (upd F3 LL (.lst [.ref f1, .ref f2, .ref f3])) LL = some (.lst [.ref f1, .ref f2, .ref f3]) := upd_same
    have l1' := ((LamAt.ext l1 x2).ext x3).ext (ExtN.same sLL)
    have l2' := (LamAt.ext l2 x3).ext (ExtN.same sLL)
    have l3' := LamAt.ext l3 (ExtN.same sLL)
    have xA := ((x1.trans x2).trans x3).trans (ExtN.same sLL)
    have tA := Tabs.same t3 sLL
    generalize upd F3 LL (.lst [.ref f1, .ref f2, .ref f3]) = H8 at hLL l1' l2' l3' xA tA
    refine ⟨_, rfl, tA, fun f4 F4 x4 t4 l4 => ⟨by show 1 ≤ sizeLine; decide, fun L4 nL4 => ?_⟩⟩
    have sL4 := same_new (o := .lst [.ref f4]) nL4
    have hL4 : (upd F4 L4 (.lst [.ref f4])) L4 = some (.lst [.ref f4]) := upd_same
    have x4' := x4.trans (ExtN.same sL4)
    have l4' := LamAt.ext l4 (ExtN.same sL4)
    generalize upd F4 L4 (.lst [.ref f4]) = H9 at hL4 x4' l4'
    refine ⟨LL, L4, _, _, rfl, rfl, ext_lst x4' hLL, hL4, by show 4 ≤ sizeLine; decide, fun L5 nL5 => ?_⟩
    have sL5 := same_new (o := .lst ([.ref f1, .ref f2, .ref f3] ++ [.ref f4])) nL5
    have hL5 : (upd H9 L5 (.lst ([.ref f1, .ref f2, .ref f3] ++ [.ref f4]))) L5 = some (.lst [.ref f1, .ref f2, .ref f3, .ref f4]) := upd_same
    have xB := x4'.trans (ExtN.same sL5)
    have m1 := l1'.ext xB
    have m2 := l2'.ext xB
    have m3 := l3'.ext xB
    have m4 := l4'.ext (ExtN.same sL5)
    have hv9 := pd_ext (xA.trans xB) (noL_brd B) hv6
    generalize upd H9 L5 (.lst ([.ref f1, .ref f2, .ref f3] ++ [.ref f4])) = H10 at hL5 m1 m2 m3 m4 hv9
    refine ⟨L5, rfl, .inl ⟨_, sqL_l hL5, ?_⟩⟩
    refine for_it (walk_list (xs := [.ref f1, .ref f2, .ref f3, .ref f4])) (fun i σ H' => ∃ (y6 : Option V), σ = [some (.ref a), some (.ref b), some v, some u, some (.str z), some (nV n), y6, some (.ref LL)] ∧ Same H10 H')
      ⟨_, rfl, Same.refl _⟩ (fun i σ H' _ hp' => by obtain ⟨_, _, sm⟩ := hp'; exact sqL_l (sm _ _ hL5)) (fun i x σ H11' H11 hi hp' hy => ?_) (fun σ H11 hp' => ?_)
    · obtain ⟨y6, rfl, s11⟩ := hp'
      obtain ⟨rfl, hx⟩ := hy
      rcases (show i = 0 ∨ i = 1 ∨ i = 2 ∨ i = 3 from by
        have : i < 4 := (List.getElem?_eq_some_iff.mp hx).1
        omega) with rfl | rfl | rfl | rfl
      · cases hx
        exact ⟨0, by decide, _, rfl, f1, rfl, LamAt.ext m1 (ExtN.same s11), v, B, rfl, hv9.same s11, ok, fun _ H12 s12 => ⟨rfl, _, rfl, iteF ⟨_, rfl, s11.trans s12⟩⟩⟩
      · cases hx
        exact ⟨1, by decide, _, rfl, f2, rfl, LamAt.ext m2 (ExtN.same s11), v, B, rfl, hv9.same s11, ok, fun _ H12 s12 => ⟨rfl, _, rfl, iteF ⟨_, rfl, s11.trans s12⟩⟩⟩
      · cases hx
        exact ⟨2, by decide, _, rfl, f3, rfl, LamAt.ext m3 (ExtN.same s11), v, B, rfl, hv9.same s11, ok, fun _ H12 s12 => ⟨rfl, _, rfl, iteF ⟨_, rfl, s11.trans s12⟩⟩⟩
      · cases hx
        exact ⟨3, by decide, _, rfl, f4, rfl, LamAt.ext m4 (ExtN.same s11), v, B, rfl, hv9.same s11, ok, fun _ H12 s12 => ⟨rfl, _, rfl, iteF ⟨_, rfl, s11.trans s12⟩⟩⟩
    obtain ⟨y6', rfl, s11⟩ := hp'
    refine ⟨_, rfl, v, B, rfl, hv9.same s11, ok, fun H12 fl s12 => ⟨rfl, ?_⟩⟩
    refine ⟨_, rfl, ?_⟩
    have no : ∀ l : Addr, (!decide (V.ref l = V.non)) = true := fun l => by rw [decide_eq_false (fun z => by cases z)]; rfl
    rw [if_pos (no fl)]
    refine ⟨_, rfl, Nat.zero_le _, fun pl npl => ⟨v, B, pl, [], rfl, ((hv9.same s11).same s12).same (same_new npl), ok, upd_same, Nat.zero_le _, fun H13 l' xs' s13 _ _ _ => ⟨rfl, ?_⟩⟩⟩
    rw [no l']
    exact q H13
end
end Vt
namespace Vt
open PySem PySem.Spec PyProof.Rows L2
theorem calleeN_mk {P : Program} {w : World} {K : PySem.W.Frag} {mg : Str → Option Value} {base h : Heap} {x : Str} {st : Stmt} {k n : Nat} {sp : Sp} {ps : List Str} (X : K.In h) (G : h.Ns mainGlobals mg) (hf : ∃ f, Found K x st f)
    (ok : ∀ (f : Addr) (fd : FuncData), Fun K x x st f fd → FnOk P w K mg base (L2N.CX P w) k f fd ps sp)
    (hb : ∀ (kV doc pm : Value) (an : Option Addr) (cdv ct : Value) (us : List Value), us.length = ps.length → bindArgs (PySem.W.fnOf x x (defArgs st) (defBody st) (defScope st) .none kV doc pm an cdv ct) ⟨us, []⟩ = pure (ps.zip us)) : CalleeN P w K mg base x k n sp := by
  obtain ⟨f, oc, od, kV, doc, pm, an, cdv, ct, osl, a, l, c, kp⟩ := hf
  have F := fun_mk (st := st) l c kp
  exact ⟨f, _, ps, ok f _ F, PySem.W.mg_of X G a, kp, F.binds hb⟩
theorem calleeP_mk {P : Program} {w : World} {K : PySem.W.Frag} {mg : Str → Option Value} {base h : Heap} {x : Str} {st : Stmt} {k : Nat} {sp : Value → Option Addr → Addr → Sp} {ps : List Str} (X : K.In h) (G : h.Ns mainGlobals mg) (hf : ∃ f, Found K x st f)
    (ok : ∀ {f : Addr} {oc : Value} {od : Option Addr} {kV doc pm cdv ct : Value} {an : Option Addr} {osl : Array (Option Value)}, K.lookup f = some ⟨oc, od, .func (PySem.W.fnOf x x (defArgs st) (defBody st) (defScope st) .none kV doc pm an cdv ct), osl⟩ → PySem.W.codeIn K cdv x = true →
      ∀ (p : Addr × Obj) (cls : Value) (d : Option Addr), L2N.Zn cls d p.2 → (∃ vs, p.2.data = .fields vs) → FnP P w K mg base k f (PySem.W.fnOf x x (defArgs st) (defBody st) (defScope st) .none kV doc pm an cdv ct) ps p (sp cls d p.1))
    (hb : ∀ (kV doc pm : Value) (an : Option Addr) (cdv ct : Value) (us : List Value), us.length = ps.length → bindArgs (PySem.W.fnOf x x (defArgs st) (defBody st) (defScope st) .none kV doc pm an cdv ct) ⟨us, []⟩ = pure (ps.zip us)) : CalleeP P w K mg base x k sp := by
  obtain ⟨f, oc, od, kV, doc, pm, an, cdv, ct, osl, a, l, c, kp⟩ := hf
  have F := fun_mk (st := st) l c kp
  exact ⟨f, _, ps, PySem.W.mg_of X G a, kp, F.binds hb, fun p cls d hz hv => ok l c p cls d hz hv⟩
/-- the five classes' addresses by place -/
def five (E0 E1 E2 E3 E4 : Addr) : Nat → Addr
  | 0 => E0
  | 1 => E1
  | 2 => E2
  | 3 => E3
  | _ => E4
end Vt
namespace Vt
open PySem PySem.Spec PyProof.Rows L2 LamX
/-! ### what the top has left of exceptions with fields, and of a law that makes lambdas -/
theorem foundx_mk {P : Program} {K : PySem.W.Frag} {C D : Addr} {x q : Str} {st : Stmt} {f cda cc : Addr} {oc : Value} {od an : Option Addr} {kV doc pm ct : Value} {osl : Array (Option Value)} {cl : Value} {cld : Option Addr} {csl : Array (Option Value)} {cdD : ClassData}
    {ccl : Value} {cdd : Option Addr} {vs : Array Value} {ccs : Array (Option Value)} {file : Str} {tf : Tok}
    (a : PySem.W.findIn K (.ref C) x = some (some (.ref f))) (l : K.lookup f = some ⟨oc, od, .func (PySem.W.fnX x q (defArgs st) (defBody st) (defScope st) [("__class__", cc)] .none kV doc pm an (.ref cda) ct), osl⟩) (c : PySem.W.codeIn K (.ref cda) q = true) (i : PySem.W.isFn K (.ref f) = true)
    (l2 : K.lookup cc = some ⟨cl, cld, .cell (some (.ref D)), csl⟩) (d : PySem.W.clsIn K D = some cdD) (l3 : K.lookup cda = some ⟨ccl, cdd, .fields vs, ccs⟩) (v2 : vs[2]? = some (.str file tf)) (fe : ((P.main.file : Str) == file) = true) (t : PySem.W.typeIn K (.ref f) = some (.type "function")) :
    ∃ f cda cc, FoundS K C D x q st f cda cc ∧ CodeAt P K cda ∧ PySem.W.typeIn K (.ref f) = some (.type "function") :=
  ⟨f, cda, cc, ⟨oc, od, kV, doc, pm, an, ct, osl, cl, cld, csl, cdD, a, l, c, i, l2, d⟩, ⟨ccl, cdd, vs, ccs, file, tf, l3, v2, fe⟩, t⟩
/-- the law, with its code object and that one's table -/
structure FoundL (K : PySem.W.Frag) (st : Stmt) (f cda Pt : Addr) : Prop where
  fn : ∃ (oc : Value) (od : Option Addr) (kV doc pm : Value) (an : Option Addr) (ct : Value) (osl : Array (Option Value)), K.lookup f = some ⟨oc, od, .func (PySem.W.fnOf "law" "law" (defArgs st) (defBody st) (defScope st) .none kV doc pm an (.ref cda) ct), osl⟩
  ns : PySem.W.nsIn K mainGlobals "law" = some (some (.ref f))
  code : PySem.W.codeIn K (.ref cda) "law" = true
  obj : ∃ (dd : Option Addr) (vs : Array Value) (sl : Array (Option Value)) (file : Str) (tf : Tok) (flags : Int) (tg : Tok) (inF : Bool) (text : Int) (tt : Tok), K.lookup cda = some ⟨.type "code", dd, .fields vs, sl⟩ ∧ vs[11]? = some (.ref Pt) ∧ vs.getD 11 .none = .ref Pt ∧ vs.getD 18 .none = .str file tf ∧
    vs.getD 7 .none = .int flags tg ∧ vs.getD 9 .none = .bool inF ∧ vs.getD 10 .none = .int text tt
  ne : cda ≠ Pt
  no : K.lookup Pt = none
theorem foundl_mk {K : PySem.W.Frag} {st : Stmt} {f cda Pt : Addr} {oc : Value} {od an : Option Addr} {kV doc pm ct : Value} {osl : Array (Option Value)} {dd : Option Addr} {vs : Array Value} {sl : Array (Option Value)} {file : Str} {tf : Tok} {flags : Int} {tg : Tok} {inF : Bool} {text : Int} {tt : Tok}
    (a : PySem.W.nsIn K mainGlobals "law" = some (some (.ref f))) (l : K.lookup f = some ⟨oc, od, .func (PySem.W.fnOf "law" "law" (defArgs st) (defBody st) (defScope st) .none kV doc pm an (.ref cda) ct), osl⟩) (c : PySem.W.codeIn K (.ref cda) "law" = true) (l3 : K.lookup cda = some ⟨.type "code", dd, .fields vs, sl⟩)
    (v1 : vs[11]? = some (.ref Pt)) (v2 : vs.getD 11 .none = .ref Pt) (v3 : vs.getD 18 .none = .str file tf) (v4 : vs.getD 7 .none = .int flags tg) (v5 : vs.getD 9 .none = .bool inF) (v6 : vs.getD 10 .none = .int text tt) (ne : cda ≠ Pt) (no : K.lookup Pt = none) : ∃ f cda Pt, FoundL K st f cda Pt :=
  ⟨f, cda, Pt, ⟨⟨oc, od, kV, doc, pm, an, ct, osl, l⟩, a, c, ⟨dd, vs, sl, file, tf, flags, tg, inF, text, tt, l3, v1, v2, v3, v4, v5, v6⟩, ne, no⟩⟩
/-- what walk_ofOwn asks of the law -/
theorem law_own {l : PySem.W.OpenLaw} {w : World} {K : PySem.W.Frag} {h : Heap} {mg : Str → Option Value} {fa f cda Pt : Addr} {st : Stmt} {k : Nat} {sp : Sp} (X : K.In h) (G : h.Ns mainGlobals mg) (hfa : mg "law" = some (.ref fa)) (own : OwnTab K fa h) (F : FoundL K st f cda Pt)
    (hb : ∀ (kV doc pm : Value) (an : Option Addr) (ct : Value) (s : Shared) (u : Value), BindsTo s (PySem.W.fnOf "law" "law" (defArgs st) (defBody st) (defScope st) .none kV doc pm an (.ref cda) ct) ⟨[u], []⟩ [("_law_script", u)])
    (hsp : ∀ (H : Hp) (a : Addr) (ns : List Int), ns.length ≤ 63 → H Pt = some (.tbl #[]) → SqL K H a (ns.map V.int) → sp [.ref a] H (fun v _ => v = .bl true) fun _ _ _ => False)
    (ok : ∀ {oc : Value} {od : Option Addr} {kV doc pm ct : Value} {an : Option Addr} {osl : Array (Option Value)}, K.lookup f = some ⟨oc, od, .func (PySem.W.fnOf "law" "law" (defArgs st) (defBody st) (defScope st) .none kV doc pm an (.ref cda) ct), osl⟩ → ∀ base : Heap, TabB base mg cda Pt →
      FnOk l.prog w K mg base CX0 k f (PySem.W.fnOf "law" "law" (defArgs st) (defBody st) (defScope st) .none kV doc pm an (.ref cda) ct) ["_law_script"] sp) : LawAtS l w K CX0 k 63 "_law_script" mg fa h := by
  obtain ⟨oc, od, kV, doc, pm, an, ct, osl, lk⟩ := F.fn
  have e := hfa.symm.trans (PySem.W.mg_of X G F.ns)
  cases e
  obtain ⟨dd, vs, sl, file, tf, flags, tg, inF, text, tt, l3, v1, v2, v3, v4, v5, v6⟩ := F.obj
  have one : ∀ {p : Addr × Addr}, p ∈ [(cda, Pt)] → p = (cda, Pt) := fun {p} hp => List.mem_singleton.mp hp
  refine ⟨_, [(cda, Pt)], sp, fun p hp => ?_, fun p hp => ?_, fun p hp => ?_, hb kV doc pm an ct, fun H a ns hl _ hT hS => hsp H a ns hl (hT _ List.mem_cons_self) hS, fun base _ _ TB => ok lk base (TB _ List.mem_cons_self)⟩
  · rw [one hp]
    exact own cda Pt _ _ _ _ _ _ lk rfl rfl l3 v1
  · rw [one hp]; exact F.no
  · rw [one hp]
    exact ⟨_, vs, file, tf, flags, tg, inF, text, tt, X _ _ l3, rfl, rfl, v1, v2, v3, v4, v5, v6, F.ne⟩
end Vt
namespace Vt
open PySem PySem.Spec PyProof.Rows L2 LamX
/-! ### what the top has left where two defs make lambdas -/
theorem makerN_mk {P : Program} {w : World} {K : PySem.W.Frag} {mg : Str → Option Value} {base : Heap} {C : Addr} {x q : Str} {st : Stmt} {k : Nat} {sp : Sp} {ps : List Str} (hm : mg x = some (.ref C)) (mk : PySem.W.makesIn K C = true) (kc : PySem.W.keepIn K (.ref C) = true) (hf : ∃ f, FoundM K C "__init__" q st f)
    (ok : ∀ (f : Addr) (fd : FuncData), Fun K "__init__" q st f fd → FnOk P w K mg base (L2N.CX P w) k f fd ps sp)
    (hb : ∀ (kV doc pm : Value) (an : Option Addr) (cdv ct : Value) (us : List Value), us.length = ps.length → bindArgs (PySem.W.fnOf "__init__" q (defArgs st) (defBody st) (defScope st) .none kV doc pm an cdv ct) ⟨us, []⟩ = pure (ps.zip us)) : MakerN P w K mg base x C k sp := by
  obtain ⟨f, oc, od, kV, doc, pm, an, cdv, ct, osl, a, l, c, kp, i⟩ := hf
  have F := fun_mk (st := st) l c kp
  exact ⟨f, _, ps, ⟨mk, a, i, kc⟩, ok f _ F, hm, F.binds hb⟩
/-- a def with its code object and that one's table -/
structure FoundX (K : PySem.W.Frag) (x : Str) (st : Stmt) (f cda Pt : Addr) : Prop where
  fn : ∃ (oc : Value) (od : Option Addr) (kV doc pm : Value) (an : Option Addr) (ct : Value) (osl : Array (Option Value)), K.lookup f = some ⟨oc, od, .func (PySem.W.fnOf x x (defArgs st) (defBody st) (defScope st) .none kV doc pm an (.ref cda) ct), osl⟩
  ns : PySem.W.nsIn K mainGlobals x = some (some (.ref f))
  code : PySem.W.codeIn K (.ref cda) x = true
  kp : PySem.W.keepIn K (.ref f) = true
  obj : ∃ (dd : Option Addr) (vs : Array Value) (sl : Array (Option Value)) (file : Str) (tf : Tok) (flags : Int) (tg : Tok) (inF : Bool) (text : Int) (tt : Tok), K.lookup cda = some ⟨.type "code", dd, .fields vs, sl⟩ ∧ vs[11]? = some (.ref Pt) ∧ vs.getD 11 .none = .ref Pt ∧ vs.getD 18 .none = .str file tf ∧
    vs.getD 7 .none = .int flags tg ∧ vs.getD 9 .none = .bool inF ∧ vs.getD 10 .none = .int text tt
  ne : cda ≠ Pt
  no : K.lookup Pt = none
theorem foundx2_mk {K : PySem.W.Frag} {x : Str} {st : Stmt} {f cda Pt : Addr} {oc : Value} {od an : Option Addr} {kV doc pm ct : Value} {osl : Array (Option Value)} {dd : Option Addr} {vs : Array Value} {sl : Array (Option Value)} {file : Str} {tf : Tok} {flags : Int} {tg : Tok} {inF : Bool} {text : Int} {tt : Tok}
    (a : PySem.W.nsIn K mainGlobals x = some (some (.ref f))) (l : K.lookup f = some ⟨oc, od, .func (PySem.W.fnOf x x (defArgs st) (defBody st) (defScope st) .none kV doc pm an (.ref cda) ct), osl⟩) (c : PySem.W.codeIn K (.ref cda) x = true) (kp : PySem.W.keepIn K (.ref f) = true) (l3 : K.lookup cda = some ⟨.type "code", dd, .fields vs, sl⟩)
    (v1 : vs[11]? = some (.ref Pt)) (v2 : vs.getD 11 .none = .ref Pt) (v3 : vs.getD 18 .none = .str file tf) (v4 : vs.getD 7 .none = .int flags tg) (v5 : vs.getD 9 .none = .bool inF) (v6 : vs.getD 10 .none = .int text tt) (ne : cda ≠ Pt) (no : K.lookup Pt = none) : FoundX K x st f cda Pt :=
  ⟨⟨oc, od, kV, doc, pm, an, ct, osl, l⟩, a, c, kp, ⟨dd, vs, sl, file, tf, flags, tg, inF, text, tt, l3, v1, v2, v3, v4, v5, v6⟩, ne, no⟩
theorem two_mk {K : PySem.W.Frag} {x y : Str} {st su : Stmt} {f cda Pt g cdb Pw : Addr} (a : FoundX K x st f cda Pt) (b : FoundX K y su g cdb Pw) (n : Pw ≠ Pt) : ∃ f cda Pt g cdb Pw, FoundX K x st f cda Pt ∧ FoundX K y su g cdb Pw ∧ Pw ≠ Pt := ⟨f, cda, Pt, g, cdb, Pw, a, b, n⟩
def OwnOf (K : PySem.W.Frag) (mg : Str → Option Value) (h : Heap) (xs : List Str) : Prop := ∀ x ∈ xs, ∀ fa, mg x = some (.ref fa) → OwnTab K fa h
theorem walk_ofOwn2 {l : PySem.W.OpenLaw} {n k : Nat} {q : Program} {loose : List Str} {XP : (Str → Option Value) → Heap → Prop} {YP : World → Heap → Prop} {d : DefRec} {K : Params → PySem.W.Frag} {CX : World → CXT} {x : Str} (xs : List Str)
    (hn : l.most = some n) (hn2 : n ≤ sizeLine) (hdf : d.params.defaults = []) (hr : Room k callerA) (hrec : (xs.all fun y => (recsOf q).any fun e => e.name == y) = true) (hY : ∀ (w : World) (h : Heap), YP w h → (K w.params).In h)
    (F : ∀ (w : World) (mg : Str → Option Value) (fa : Addr) (h : Heap), YP w h → (K w.params).In h → h.Ns mainGlobals mg → mg d.name = some (.ref fa) → OwnOf (K w.params) mg h xs → LawAtS l w (K w.params) (CX w) k n x mg fa h)
    (hCX : ∀ (w : World) (H : Hp) (s : Shared) (e : Value) (s' : Shared), CX w [] H s (fun _ _ _ => False) e s' → False) :
    PySem.W.WalkO q loose XP YP l.row.toRowW d [] (fun f vs => PySem.call f vs) := by
  refine Att.attach_callB hn hdf fun w s₀ s₁ mg mb fa o pm cd doc a vs ns G Y ho hd hcd hmg hobj hints hlen hbits hg => ?_
  have KX := hY w _ Y
  have own : OwnOf (K w.params) mg s₁.heap xs := fun y hy fb hfb c P o1 fd1 e dd vs1 sl k1 k2 k3 k4 k5 => by
    obtain ⟨dL, hm, hn1⟩ := List.any_eq_true.mp (List.all_eq_true.mp hrec y hy)
    have hn2 : dL.name = y := beq_iff_eq.mp hn1
    obtain ⟨a', o', fd', c', P', h1, h2, h3, h4, h5, h6⟩ := G.T.tab dL hm
    rw [hn2, hfb] at h1
    cases h1
    have g1 := KX _ _ k1
    rw [g1] at h2
    cases h2
    rw [k2] at h3
    cases h3
    rw [k3] at h4
    cases h4
    obtain ⟨⟨oc, vc, e1, _, e3, e4⟩, hP⟩ := h6
    have g2 := KX _ _ k4
    rw [g2] at e1
    cases e1
    cases e3
    rw [k5] at e4
    cases e4
    exact hP
  obtain ⟨fd, cs, sp, hT, nT, C, hb, hsp, hF⟩ := F w mg fa _ Y KX G.T.g hmg own
  exact law_callTs KX G.T.g G.T.b G.T.builtins G.T.nolimit hg hT nT C G.T.bmain hobj hints (Nat.le_trans hlen hn2) hr hF hb (fun H hH hS => hsp H a ns hlen hbits hH hS) fun H e s' => hCX w H s₁ e s'
theorem law_own2 {l : PySem.W.OpenLaw} {w : World} {K : PySem.W.Frag} {h : Heap} {mg : Str → Option Value} {fa f cda Pt g cdb Pw : Addr} {st su : Stmt} {y : Str} {k : Nat} {sp : Sp} (X : K.In h) (G : h.Ns mainGlobals mg) (hfa : mg "law" = some (.ref fa)) (own : OwnOf K mg h ["law", y]) (F : FoundX K "law" st f cda Pt) (F2 : FoundX K y su g cdb Pw)
    (hb : ∀ (kV doc pm : Value) (an : Option Addr) (ct : Value) (s : Shared) (u : Value), BindsTo s (PySem.W.fnOf "law" "law" (defArgs st) (defBody st) (defScope st) .none kV doc pm an (.ref cda) ct) ⟨[u], []⟩ [("_law_script", u)])
    (hsp : ∀ (H : Hp) (a : Addr) (ns : List Int), ns.length ≤ 63 → H Pt = some (.tbl #[]) → H Pw = some (.tbl #[]) → SqL K H a (ns.map V.int) → sp [.ref a] H (fun v _ => v = .bl true) fun _ _ _ => False)
    (ok : ∀ {oc : Value} {od : Option Addr} {kV doc pm ct : Value} {an : Option Addr} {osl : Array (Option Value)}, K.lookup f = some ⟨oc, od, .func (PySem.W.fnOf "law" "law" (defArgs st) (defBody st) (defScope st) .none kV doc pm an (.ref cda) ct), osl⟩ → ∀ base : Heap, TabB base mg cda Pt → TabB base mg cdb Pw →
      FnOk l.prog w K mg base CX0 k f (PySem.W.fnOf "law" "law" (defArgs st) (defBody st) (defScope st) .none kV doc pm an (.ref cda) ct) ["_law_script"] sp) : LawAtS l w K CX0 k 63 "_law_script" mg fa h := by
  obtain ⟨oc, od, kV, doc, pm, an, ct, osl, lk⟩ := F.fn
  obtain ⟨oc', od', kV', doc', pm', an', ct', osl', lk'⟩ := F2.fn
  have e := hfa.symm.trans (PySem.W.mg_of X G F.ns)
  cases e
  have hg := PySem.W.mg_of X G F2.ns
  obtain ⟨dd, vs, sl, file, tf, flags, tg, inF, text, tt, l3, v1, v2, v3, v4, v5, v6⟩ := F.obj
  obtain ⟨dd', vs', sl', file', tf', flags', tg', inF', text', tt', l3', v1', v2', v3', v4', v5', v6'⟩ := F2.obj
  have two : ∀ {p : Addr × Addr}, p ∈ [(cda, Pt), (cdb, Pw)] → p = (cda, Pt) ∨ p = (cdb, Pw) := fun {p} hp => by
    rcases List.mem_cons.mp hp with h | h
    · exact .inl h
    · exact .inr (List.mem_singleton.mp h)
  refine ⟨_, [(cda, Pt), (cdb, Pw)], sp, fun p hp => ?_, fun p hp => ?_, fun p hp => ?_, hb kV doc pm an ct, fun H a ns hl _ hT hS => hsp H a ns hl (hT _ List.mem_cons_self) (hT _ (List.mem_cons_of_mem _ List.mem_cons_self)) hS, fun base _ _ TB => ok lk base (TB _ List.mem_cons_self) (TB _ (List.mem_cons_of_mem _ List.mem_cons_self))⟩
  · rcases two hp with rfl | rfl
    · exact own "law" List.mem_cons_self _ hfa cda Pt _ _ _ _ _ _ lk rfl rfl l3 v1
    · exact own y (List.mem_cons_of_mem _ List.mem_cons_self) _ hg cdb Pw _ _ _ _ _ _ lk' rfl rfl l3' v1'
  · rcases two hp with rfl | rfl
    · exact F.no
    · exact F2.no
  · rcases two hp with rfl | rfl
    · exact ⟨_, vs, file, tf, flags, tg, inF, text, tt, X _ _ l3, rfl, rfl, v1, v2, v3, v4, v5, v6, F.ne⟩
    · exact ⟨_, vs', file', tf', flags', tg', inF', text', tt', X _ _ l3', rfl, rfl, v1', v2', v3', v4', v5', v6', F2.ne⟩
/-- the callee of a def with lambdas -/
theorem calleeX_mk {P : Program} {w : World} {K : PySem.W.Frag} {mg : Str → Option Value} {base h : Heap} {x : Str} {st : Stmt} {f cda Pt : Addr} {k n : Nat} {sp : Sp} {ps : List Str} (X : K.In h) (G : h.Ns mainGlobals mg) (F : FoundX K x st f cda Pt)
    (ok : ∀ {oc : Value} {od : Option Addr} {kV doc pm ct : Value} {an : Option Addr} {osl : Array (Option Value)}, K.lookup f = some ⟨oc, od, .func (PySem.W.fnOf x x (defArgs st) (defBody st) (defScope st) .none kV doc pm an (.ref cda) ct), osl⟩ → FnOk P w K mg base CX0 k f (PySem.W.fnOf x x (defArgs st) (defBody st) (defScope st) .none kV doc pm an (.ref cda) ct) ps sp)
    (hb : ∀ (kV doc pm : Value) (an : Option Addr) (cdv ct : Value) (us : List Value), us.length = ps.length → bindArgs (PySem.W.fnOf x x (defArgs st) (defBody st) (defScope st) .none kV doc pm an cdv ct) ⟨us, []⟩ = pure (ps.zip us)) : Callee P w K mg base x k n sp := by
  obtain ⟨oc, od, kV, doc, pm, an, ct, osl, lk⟩ := F.fn
  have Fn := fun_mk (st := st) lk F.code F.kp
  exact ⟨f, _, ps, ok lk, PySem.W.mg_of X G F.ns, F.kp, Fn.binds hb⟩
end Vt
namespace Vt
open PySem PySem.Spec PyProof.Rows L2 LamX
abbrev st_is_sure : Stmt := (topS 41)
set_option maxHeartbeats 0 in
theorem all_mk {l : PySem.W.OpenLaw} {w : World} {K : PySem.W.Frag} {h : Heap} {mg : Str → Option Value} {fa dd msz E0 E1 E2 E3 E4 CE C CS : Addr} {t1 t2 t3 t4 t5 t6 : Tok} (X : K.In h) (G : h.Ns mainGlobals mg) (hfa : mg "law" = some (.ref fa)) (own : OwnOf K mg h ["law", "_law_works"])
    (h_first_wrong_cell : ∃ f, Found K "first_wrong_cell" st_first_wrong_cell f) (h_order_can_be : ∃ f, Found K "order_can_be" st_order_can_be f) (h_first_wrong_order : ∃ f, Found K "first_wrong_order" st_first_wrong_order f) (h_counts_of_things : ∃ f, Found K "counts_of_things" st_counts_of_things f) (h_deed_can_be : ∃ f, Found K "deed_can_be" st_deed_can_be f) (h_first_wrong_deed : ∃ f, Found K "first_wrong_deed" st_first_wrong_deed f) (h_require_board : ∃ f, Found K "require_board" st_require_board f) (h_moves_told : ∃ f, Found K "moves_told" st_moves_told f) (h_moved_at_once : ∃ f, Found K "moved_at_once" st_moved_at_once f) (h_plain_run : ∃ f, Found K "plain_run" st_plain_run f) (h_plain_end : ∃ f, Found K "plain_end" st_plain_end f) (h_sights : ∃ f, Found K "sights" st_sights f) (h_run : ∃ f, Found K "run" st_run f) (h_story : ∃ f, Found K "story" st_story f) (h_ended : ∃ f, Found K "ended" st_ended f) (h_row_of : ∃ f, Found K "row_of" st_row_of f) (h_written : ∃ f, Found K "written" st_written f) (h_fully : ∃ f, Found K "fully" st_fully f) (h_law_begun : ∃ f, Found K "_law_begun" st_law_begun f) (h_law_take : ∃ f, Found K "_law_take" st_law_take f) (h_law_order : ∃ f, Found K "_law_order" st_law_order f) (h_law_deed : ∃ f, Found K "_law_deed" st_law_deed f) (h_law_board : ∃ f, Found K "_law_board" st_law_board f) (h_law_kinds : ∃ f, Found K "_law_kinds" st_law_kinds f) (h_law_class : ∃ f, Found K "_law_class" st_law_class f) (h_fenced : ∃ f, Found K "fenced" st_fenced f) (h_fewest : ∃ f, Found K "fewest" st_fewest f) (h_amiss : ∃ f, Found K "amiss" st_amiss f) (h_pace_amiss : ∃ f, Found K "pace_amiss" st_pace_amiss f) (h_judged : ∃ f, Found K "judged" st_judged f) (h_spare : ∃ f, Found K "spare" st_spare f) (h_law_bad : ∃ f, Found K "_law_bad" st_law_bad f) (h_is_sure : ∃ f, Found K "is_sure" st_is_sure f) (h_law_alike : ∃ f, Found K "_law_alike" st_law_alike f) (h_law_refused : ∃ f, Found K "_law_refused" st_law_refused f) (h_two : ∃ f cda Pt g cdb Pw, FoundX K "law" st_law f cda Pt ∧ FoundX K "_law_works" st_law_works g cdb Pw ∧ Pw ≠ Pt)
    (gC : PySem.W.nsIn K mainGlobals "Machine" = some (some (.ref C))) (kC1 : PySem.W.plainGet K C Str.empty = true) (kC2 : PySem.W.hasDictIn K C = true) (kC3 : PySem.W.plainOver K C = true) (kC4 : PySem.W.findIn K (.ref C) "__setattr__" = some (some (.builtin "object.__setattr__")))
    (kC5 : PySem.W.makesIn K C = true) (kC6 : PySem.W.keepIn K (.ref C) = true) (kN1 : PySem.W.findIn K (.ref C) "memory" = some none) (kN2 : PySem.W.findIn K (.ref C) "orders" = some none) (kN3 : PySem.W.findIn K (.ref C) "program" = some none) (kN4 : PySem.W.findIn K (.ref C) "deeds_done" = some none) (kN5 : PySem.W.findIn K (.ref C) "held" = some none) (kN6 : PySem.W.findIn K (.ref C) "touched" = some none) (kN7 : PySem.W.findIn K (.ref C) "left" = some none) (kN8 : PySem.W.findIn K (.ref C) "beats" = some none) (kN9 : PySem.W.findIn K (.ref C) "rows" = some none) (kN10 : PySem.W.findIn K (.ref C) "said" = some none)
    (h_m_tell : ∃ f, FoundM K C "tell" "Machine.tell" st_Machine_tell f) (h_m_line_of : ∃ f, FoundM K C "line_of" "Machine.line_of" st_Machine_line_of f) (h_m_read_cell : ∃ f, FoundM K C "read_cell" "Machine.read_cell" st_Machine_read_cell f) (h_m_write_cell : ∃ f, FoundM K C "write_cell" "Machine.write_cell" st_Machine_write_cell f) (h_m_clean_line : ∃ f, FoundM K C "clean_line" "Machine.clean_line" st_Machine_clean_line f) (h_m_drop_line : ∃ f, FoundM K C "drop_line" "Machine.drop_line" st_Machine_drop_line f) (h_m_move_one : ∃ f, FoundM K C "move_one" "Machine.move_one" st_Machine_move_one f) (h_m_end_beat : ∃ f, FoundM K C "end_beat" "Machine.end_beat" st_Machine_end_beat f) (h_m_is_over : ∃ f, FoundM K C "is_over" "Machine.is_over" st_Machine_is_over f) (h_m_clean_all : ∃ f, FoundM K C "clean_all" "Machine.clean_all" st_Machine_clean_all f) (h_m_do_deed : ∃ f, FoundM K C "do_deed" "Machine.do_deed" st_Machine_do_deed f) (h_m_do_next_deed : ∃ f, FoundM K C "do_next_deed" "Machine.do_next_deed" st_Machine_do_next_deed f) (h_m___init__ : ∃ f, FoundM K C "__init__" "Machine.__init__" st_Machine___init__ f)
    (gS : PySem.W.nsIn K mainGlobals "Script" = some (some (.ref CS))) (kS5 : PySem.W.makesIn K CS = true) (kS6 : PySem.W.keepIn K (.ref CS) = true) (h_S_init : ∃ f, FoundM K CS "__init__" "Script.__init__" st_Script___init__ f)
    (gE0 : PySem.W.nsIn K mainGlobals "BadBoard" = some (some (.ref E0))) (gE1 : PySem.W.nsIn K mainGlobals "BadFence" = some (some (.ref E1))) (gE2 : PySem.W.nsIn K mainGlobals "NotSure" = some (some (.ref E2))) (gE3 : PySem.W.nsIn K mainGlobals "BadCount" = some (some (.ref E3))) (gE4 : PySem.W.nsIn K mainGlobals "BadText" = some (some (.ref E4))) (gCE : PySem.W.nsIn K mainGlobals "CarrierError" = some (some (.ref CE)))
    (xsp : PySem.W.specialIn K (.builtin "object.__class__") "__get__" = some (some (.builtin "getset_descriptor.__get__"))) (xtk : PySem.W.takesIn K (.builtin "object.__class__") = some true) (top : (l.prog.main.scope.names.lookup ("super" : Str)).isSome = false) (any : PySem.W.nsIn K cStatics "thirdparty.any" = some none)
    {nm0 q0 : Str} {N0 : Addr} {bs0 bm0 : List Value} {sn0 : List Str} {sub0 : List Value} {ab0 : Bool} {col0 : Option Bool} {dd0 : Option Addr} {ka0 kb0 kc0 kd0 ke0 : Option Value} (l0 : K.lookup E0 = some (excClassObj nm0 q0 E0 N0 bs0 bm0 true sn0 sub0 ab0 col0 dd0 ka0 kb0 kc0 kd0 ke0 "ValueError.__new__")) (r0 : PySem.HandSPX.refsVE bm0 = true) (sa0 : PySem.W.findIn K (.ref E0) "__setattr__" = some (some (.builtin "object.__setattr__"))) (ex0 : PySem.W.subIn K (.ref E0) (.type "BaseException") = some true) (ty0 : PySem.W.typeIn K (.ref E0) = some (.type "type")) (kp0 : PySem.W.keepIn K (.ref E0) = true) (xa0 : PySem.W.findIn K (.ref E0) "__getattribute__" = some (some (.builtin "BaseException.__getattribute__"))) (xb0 : PySem.W.findIn K (.ref E0) "__getattr__" = some none) (xd0 : PySem.W.hasDictIn K E0 = true) (xe0 : PySem.W.findIn K (.ref E0) "__class__" = some (some (.builtin "object.__class__"))) (xh0 : PySem.W.mroIn K E0 (.type "object") = some true) (i0_0 : PySem.W.kitOne K (.ref E0) (.ref E0) = some true) (i1_0 : PySem.W.kitOne K (.ref E0) (.ref E1) = some false) (i2_0 : PySem.W.kitOne K (.ref E0) (.ref E2) = some false) (i3_0 : PySem.W.kitOne K (.ref E0) (.ref E3) = some false) (i4_0 : PySem.W.kitOne K (.ref E0) (.ref E4) = some false) (iV_0 : PySem.W.kitOne K (.ref E0) (.type "ValueError") = some true) (xm0 : PySem.W.exmOne K (.ref E0) (.ref CE) = some true) (su0 : PySem.W.mroIn K E0 (.ref E0) = some true) (sp0 : PySem.W.ks_superIn K E0 E0 "__init__" = some (some (.builtin "ValueError.__init__"))) (ve0 : PySem.W.subIn K (.ref E0) (.type "ValueError") = some true) (no0_word : PySem.W.findIn K (.ref E0) "word" = some none) (no0_number : PySem.W.findIn K (.ref E0) "number" = some none) (hx_0 : ∃ f cda cc, FoundS K E0 E0 "__init__" "BadBoard.__init__" st_BadBoard___init__ f cda cc ∧ CodeAt l.prog K cda ∧ PySem.W.typeIn K (.ref f) = some (.type "function"))
    (g1 : PySem.W.nsIn K mainGlobals "LINE" = some (some (.int 4 t1))) (g2 : PySem.W.nsIn K mainGlobals "NUMBERS" = some (some (.int 10 t2))) (g3 : PySem.W.nsIn K mainGlobals "MOST_ORDERS" = some (some (.int 4 t3))) (g4 : PySem.W.nsIn K mainGlobals "MOST_MOVED" = some (some (.int 8 t4))) (g5 : PySem.W.nsIn K mainGlobals "MOST_DEEDS" = some (some (.int 60 t5))) (g6 : PySem.W.nsIn K mainGlobals "MOST_STARTS" = some (some (.int 3 t6)))
    (g7 : PySem.W.nsIn K mainGlobals "MEMORY_SIZES" = some (some (.ref msz))) (g8 : KTup K msz [.int 4, .int 8, .int 12, .int 16]) (g9 : PySem.W.nsIn K mainGlobals "DEEDS" = some (some (.ref dd))) (Kd : mg "DEEDS" = some (.ref dd) → Kinds K w mg dd) (Md : MissD K dd)
    (z_len : PySem.W.nsIn K mainGlobals "len" = some none) (z_enumerate : PySem.W.nsIn K mainGlobals "enumerate" = some none) (z_all : PySem.W.nsIn K mainGlobals "all" = some none) (z_zip : PySem.W.nsIn K mainGlobals "zip" = some none) (z_range : PySem.W.nsIn K mainGlobals "range" = some none) (z_list : PySem.W.nsIn K mainGlobals "list" = some none) (z_tuple : PySem.W.nsIn K mainGlobals "tuple" = some none) (z_int : PySem.W.nsIn K mainGlobals "int" = some none) (z_min : PySem.W.nsIn K mainGlobals "min" = some none) (z_bool : PySem.W.nsIn K mainGlobals "bool" = some none) (z_str : PySem.W.nsIn K mainGlobals "str" = some none) (z_isinstance : PySem.W.nsIn K mainGlobals "isinstance" = some none) (z_set : PySem.W.nsIn K mainGlobals "set" = some none) (z_sorted : PySem.W.nsIn K mainGlobals "sorted" = some none) (z_dict : PySem.W.nsIn K mainGlobals "dict" = some none) (z_ValueError : PySem.W.nsIn K mainGlobals "ValueError" = some none) (z_super : PySem.W.nsIn K mainGlobals "super" = some none) :
    LawAtS l w K CX0 12 63 "_law_script" mg fa h := by
  have n := fun {x : Str} (z : PySem.W.nsIn K mainGlobals x = some none) => PySem.W.mg_none_of X G z
  have Kd' := Kd (PySem.W.mg_of X G g9)
  have C_ : Consts K mg := ⟨⟨_, PySem.W.mg_of X G g1⟩, ⟨_, PySem.W.mg_of X G g2⟩, ⟨_, PySem.W.mg_of X G g3⟩, ⟨_, PySem.W.mg_of X G g4⟩, ⟨_, PySem.W.mg_of X G g5⟩, ⟨_, PySem.W.mg_of X G g6⟩, ⟨_, PySem.W.mg_of X G g7, g8⟩⟩
  obtain ⟨f, cda, Pt, g, cdb, Pw, hL, hW, hne⟩ := h_two
  refine law_own2 X G hfa own hL hW (fun _ _ _ _ _ s v => .of_eq rfl) (sp := spLaw K Pt Pw) (fun H a ns hl hT hT2 hS => ⟨a, ns, rfl, hS, hl, hT, hT2, fun _ => rfl⟩) (fun lk base TB TB2 => ?_)
  have gFive : Clss mg (five E0 E1 E2 E3 E4) := ⟨PySem.W.mg_of X G gE0, PySem.W.mg_of X G gE1, PySem.W.mg_of X G gE2, PySem.W.mg_of X G gE3, PySem.W.mg_of X G gE4⟩
  have gSure : ∃ g, mg "is_sure" = some (.ref g) ∧ PySem.W.keepIn K (.ref g) = true := by
    obtain ⟨f, oc, od, kV, doc, pm, an, cdv, ct, osl, a, l, c, kp⟩ := h_is_sure
    exact ⟨f, PySem.W.mg_of X G a, kp⟩
  have oex0 : OexC K E0 := ⟨⟨_, _, _, _, _, _, _, _, _, _, _, _, _, _, _, l0, r0⟩, sa0, ex0, ty0, kp0⟩
  have xcl0 : XCls K E0 ["word", "number"] := ⟨oex0, ⟨su0, sp0, ve0⟩, List.forall_mem_cons.mpr ⟨no0_word, List.forall_mem_cons.mpr ⟨no0_number, fun _ h => by cases h⟩⟩⟩
  have is0 : IsCls K (five E0 E1 E2 E3 E4) 0 := ⟨⟨xa0, xb0, ex0, xd0, xe0, xsp, xtk, xh0⟩, i0_0, i1_0, i2_0, i3_0, i4_0, iV_0⟩
  have fld0_word : FldC K E0 "word" := ⟨⟨xa0, xb0, ex0, xd0⟩, no0_word⟩
  have fld0_number : FldC K E0 "number" := ⟨⟨xa0, xb0, ex0, xd0⟩, no0_number⟩
  obtain ⟨fx0, cdx0, ccx0, hFx0, hCx0, hTx0⟩ := hx_0
  have k_BadBoard : MakesX l.prog w K mg base "BadBoard" E0 1 (spX2 E0) := bb_make (PySem.W.mg_of X G gE0) xcl0 hFx0 hTx0 hCx0 top (n z_super) any
  have cl : Cls K C := ⟨kC1, kC2, kC3, kC4⟩
  have mc : MC K C := ⟨cl, List.forall_mem_cons.mpr ⟨kN1, List.forall_mem_cons.mpr ⟨kN2, List.forall_mem_cons.mpr ⟨kN3, List.forall_mem_cons.mpr ⟨kN4, List.forall_mem_cons.mpr ⟨kN5, List.forall_mem_cons.mpr ⟨kN6, List.forall_mem_cons.mpr ⟨kN7, List.forall_mem_cons.mpr ⟨kN8, List.forall_mem_cons.mpr ⟨kN9, List.forall_mem_cons.mpr ⟨kN10, fun _ h => by cases h⟩⟩⟩⟩⟩⟩⟩⟩⟩⟩⟩
  have step : ∀ k, Callee l.prog w K mg base "_law_alike" k 2 (spAlike k) → Callee l.prog w K mg base "_law_alike" (k + 1) 2 (spAlike (k + 1)) := fun k c =>
    callee_mk X G h_law_alike (fun f fd F => alike_go F k c (n z_len) (n z_range) (n z_isinstance) (n z_bool) (n z_int) (n z_str) (n z_tuple) (n z_list)) (fun _ _ _ _ _ _ us hl => match us, hl with | [_, _], _ => rfl)
  have c0 : Callee l.prog w K mg base "_law_alike" 0 2 (spAlike 0) :=
    callee_mk (ps := ["_law_found", "_law_due"]) X G h_law_alike (fun f fd F => ⟨fun vs H Q E h => by obtain ⟨u, v, d, rfl, _⟩ := h; rfl, fun A outer s H args us vs Q E hr he hb hv h => by obtain ⟨u, v, d, _, _, _, hd, _⟩ := h; exact absurd hd (Nat.not_lt_zero _)⟩) (fun _ _ _ _ _ _ us hl => match us, hl with | [_, _], _ => rfl)
  have c_alike := step 3 (step 2 (step 1 (step 0 c0)))
  have c_fwc : Callee l.prog w K mg base "first_wrong_cell" 1 1 spFwCell := callee_mk X G h_first_wrong_cell (fun f fd F => ok_fwcell F C_ (n z_len) (n z_enumerate)) (fun _ _ _ _ _ _ us hl => match us, hl with | [_], _ => rfl)
  have c_oc : Callee l.prog w K mg base "order_can_be" 1 4 spOrdCan := callee_mk X G h_order_can_be (fun f fd F => ok_ordcan F C_) (fun _ _ _ _ _ _ us hl => match us, hl with | [_, _, _, _], _ => rfl)
  have c_fwo : Callee l.prog w K mg base "first_wrong_order" 2 2 spFwOrd := callee_mk X G h_first_wrong_order (fun f fd F => ok_fword F C_ c_oc (n z_len) (n z_enumerate)) (fun _ _ _ _ _ _ us hl => match us, hl with | [_, _], _ => rfl)
  have c_counts : Callee l.prog w K mg base "counts_of_things" 1 2 spCounts := callee_mk X G h_counts_of_things (fun f fd F => ok_counts F C_) (fun _ _ _ _ _ _ us hl => match us, hl with | [_, _], _ => rfl)
  have c_dc : Callee l.prog w K mg base "deed_can_be" 1 2 (spDeedCan K w dd) := callee_mk X G h_deed_can_be (fun f fd F => ok_deedcan F Kd' (n z_len) (n z_all) (n z_zip)) (fun _ _ _ _ _ _ us hl => match us, hl with | [_, _], _ => rfl)
  have c_fwd : Callee l.prog w K mg base "first_wrong_deed" 2 3 (spFwDeed K w dd) := callee_mk X G h_first_wrong_deed (fun f fd F => ok_fwdeed F C_ c_dc c_counts (n z_enumerate)) (fun _ _ _ _ _ _ us hl => match us, hl with | [_, _, _], _ => rfl)
  have c_req : Callee l.prog w K mg base "require_board" 3 1 spReq := callee_mk X G h_require_board (fun f fd F => ok_req F c_fwc c_fwo c_fwd (n z_len)) (fun _ _ _ _ _ _ us hl => match us, hl with | [_], _ => rfl)
  have c_moves : Callee l.prog w K mg base "moves_told" 1 2 spMoves := callee_mk X G h_moves_told (fun f fd F => ok_moves F (n z_range)) (fun _ _ _ _ _ _ us hl => match us, hl with | [_, _], _ => rfl)
  have c_once : Callee l.prog w K mg base "moved_at_once" 2 3 spOnce := callee_mk X G h_moved_at_once (fun f fd F => ok_once F c_moves) (fun _ _ _ _ _ _ us hl => match us, hl with | [_, _, _], _ => rfl)
  have c_prun : Callee l.prog w K mg base "plain_run" 4 1 spRun := callee_mk X G h_plain_run (fun f fd F => ok_run F C_ c_req c_once (n z_list)) (fun _ _ _ _ _ _ us hl => match us, hl with | [_], _ => rfl)
  have c_pend : Callee l.prog w K mg base "plain_end" 5 1 spPlainEnd := callee_mk X G h_plain_end (fun f fd F => ok_plain_end F c_prun (n z_tuple)) (fun _ _ _ _ _ _ us hl => match us, hl with | [_], _ => rfl)
  have c_sights : Callee l.prog w K mg base "sights" 5 1 spSights := callee_mk X G h_sights (fun f fd F => ok_sights F c_prun) (fun _ _ _ _ _ _ us hl => match us, hl with | [_], _ => rfl)
  have m_tell : MCallee l.prog w K mg base C "tell" 1 (spTell C) := mcallee_mk cl h_m_tell (fun f fd F => ok_tell F mc) (fun _ _ _ _ _ _ us hl => match us, hl with | [_, _, _, _], _ => rfl)
  have m_line_of : MCallee l.prog w K mg base C "line_of" 2 (spLineOf C) := mcallee_mk cl h_m_line_of (fun f fd F => ok_lineof F mc C_ m_tell) (fun _ _ _ _ _ _ us hl => match us, hl with | [_, _], _ => rfl)
  have m_read_cell : MCallee l.prog w K mg base C "read_cell" 3 (spReadCell C) := mcallee_mk cl h_m_read_cell (fun f fd F => ok_readcell F mc C_ m_tell m_line_of) (fun _ _ _ _ _ _ us hl => match us, hl with | [_, _], _ => rfl)
  have m_write_cell : MCallee l.prog w K mg base C "write_cell" 3 (spWriteCell C) := mcallee_mk cl h_m_write_cell (fun f fd F => ok_writecell F mc C_ m_tell m_line_of) (fun _ _ _ _ _ _ us hl => match us, hl with | [_, _, _], _ => rfl)
  have m_clean_line : MCallee l.prog w K mg base C "clean_line" 2 (spCleanLine C) := mcallee_mk cl h_m_clean_line (fun f fd F => ok_cleanline F mc C_ m_tell) (fun _ _ _ _ _ _ us hl => match us, hl with | [_, _], _ => rfl)
  have m_drop_line : MCallee l.prog w K mg base C "drop_line" 2 (spDropLine C) := mcallee_mk cl h_m_drop_line (fun f fd F => ok_dropline F mc m_tell) (fun _ _ _ _ _ _ us hl => match us, hl with | [_, _], _ => rfl)
  have m_move_one : MCallee l.prog w K mg base C "move_one" 2 (spMoveOne C) := mcallee_mk cl h_m_move_one (fun f fd F => ok_moveone F mc m_tell) (fun _ _ _ _ _ _ us hl => match us, hl with | [_], _ => rfl)
  have m_end_beat : MCallee l.prog w K mg base C "end_beat" 1 (spEndBeat C) := mcallee_mk cl h_m_end_beat (fun f fd F => ok_endbeat F mc) (fun _ _ _ _ _ _ us hl => match us, hl with | [_], _ => rfl)
  have m_is_over : MCallee l.prog w K mg base C "is_over" 1 (spIsOver C) := mcallee_mk cl h_m_is_over (fun f fd F => ok_isover F mc (n z_len)) (fun _ _ _ _ _ _ us hl => match us, hl with | [_], _ => rfl)
  have m_clean_all : MCallee l.prog w K mg base C "clean_all" 3 (spCleanAll C) := mcallee_mk cl h_m_clean_all (fun f fd F => ok_cleanall F mc m_clean_line (n z_len) (n z_range)) (fun _ _ _ _ _ _ us hl => match us, hl with | [_], _ => rfl)
  have m_do_deed : MCallee l.prog w K mg base C "do_deed" 4 (spDoDeed C) := mcallee_mk cl h_m_do_deed (fun f fd F => ok_dodeed F mc C_ m_tell m_read_cell m_write_cell m_clean_line m_drop_line c_moves) (fun _ _ _ _ _ _ us hl => match us, hl with | [_, _], _ => rfl)
  have m_do_next_deed : MCallee l.prog w K mg base C "do_next_deed" 5 (spNext C) := mcallee_mk cl h_m_do_next_deed (fun f fd F => ok_next F mc m_do_deed (n z_len)) (fun _ _ _ _ _ _ us hl => match us, hl with | [_], _ => rfl)
  have k_Machine : Maker l.prog w K mg base "Machine" C 1 (spInit C) := maker_mk (PySem.W.mg_of X G gC) kC5 kC6 h_m___init__ (fun f fd F => ok_init F mc C_ (n z_list) (n z_len)) (fun _ _ _ _ _ _ us hl => match us, hl with | [_, _], _ => rfl)
  have c_run : Callee l.prog w K mg base "run" 6 2 (spRunM C) := callee_mk X G h_run (fun f fd F => ok_runM F mc c_req k_Machine m_is_over m_do_next_deed m_move_one m_end_beat m_clean_all (n z_len)) (fun _ _ _ _ _ _ us hl => match us, hl with | [_, _], _ => rfl)
  have c_story : Callee l.prog w K mg base "story" 7 2 spStory := callee_mk X G h_story (fun f fd F => ok_story F mc c_run) (fun _ _ _ _ _ _ us hl => match us, hl with | [_, _], _ => rfl)
  have c_ended : Callee l.prog w K mg base "ended" 7 2 spEnded := callee_mk X G h_ended (fun f fd F => ok_ended F mc c_run (n z_tuple)) (fun _ _ _ _ _ _ us hl => match us, hl with | [_, _], _ => rfl)
  have c_rowof : Callee l.prog w K mg base "row_of" 1 2 spRowOf := callee_mk X G h_row_of (fun f fd F => ok_rowof F (n z_str)) (fun _ _ _ _ _ _ us hl => match us, hl with | [_, _], _ => rfl)
  have c_written : Callee l.prog w K mg base "written" 4 1 spWritten := callee_mk X G h_written (fun f fd F => ok_written F c_req c_rowof) (fun _ _ _ _ _ _ us hl => match us, hl with | [_], _ => rfl)
  have c_fully : Callee l.prog w K mg base "fully" 4 1 spFullyG := callee_mk X G h_fully (fun f fd F => ok_fullyG F C_ c_req (n z_len) (n z_range) (n z_enumerate)) (fun _ _ _ _ _ _ us hl => match us, hl with | [_], _ => rfl)
  have c_begun : Callee l.prog w K mg base "_law_begun" 1 1 (spBegun K) := callee_mk X G h_law_begun (fun f fd F => ok_begun F (n z_len) (n z_int) (n z_list)) (fun _ _ _ _ _ _ us hl => match us, hl with | [_], _ => rfl)
  have c_take : Callee l.prog w K mg base "_law_take" 1 2 spTake := callee_mk X G h_law_take (fun f fd F => ok_take F) (fun _ _ _ _ _ _ us hl => match us, hl with | [_, _], _ => rfl)
  have c_takeF : Callee l.prog w K mg base "_law_take" 1 2 spTakeF := callee_mk X G h_law_take (fun f fd F => ok_takeF F) (fun _ _ _ _ _ _ us hl => match us, hl with | [_, _], _ => rfl)
  have c_order : Callee l.prog w K mg base "_law_order" 2 4 spOrder := callee_mk X G h_law_order (fun f fd F => ok_order F c_take (n z_min)) (fun _ _ _ _ _ _ us hl => match us, hl with | [_, _, _, _], _ => rfl)
  have c_deed : Callee l.prog w K mg base "_law_deed" 2 4 spDeed := callee_mk X G h_law_deed (fun f fd F => ok_deed F c_take (n z_len) (n z_int)) (fun _ _ _ _ _ _ us hl => match us, hl with | [_, _, _, _], _ => rfl)
  have c_board : Callee l.prog w K mg base "_law_board" 3 4 spBoard := callee_mk X G h_law_board (fun f fd F => ok_board F c_take c_order c_deed (n z_len) (n z_tuple) (n z_range)) (fun _ _ _ _ _ _ us hl => match us, hl with | [_, _, _, _], _ => rfl)
  have c_kinds : Callee l.prog w K mg base "_law_kinds" 1 0 (spKinds kindWords) := callee_mk X G h_law_kinds (fun f fd F => ok_kinds F) (fun _ _ _ _ _ _ us hl => match us, hl with | [], _ => rfl)
  have c_class : CalleeP l.prog w K mg base "_law_class" 1 (spClassD K (five E0 E1 E2 E3 E4)) := calleeP_mk X G h_law_class (fun lk hcd p cls d hz hf => ok_classD gFive lk hcd (n z_isinstance) (n z_ValueError) p cls d hz hf) (fun _ _ _ _ _ _ us hl => match us, hl with | [_], _ => rfl)
  have n_req : CalleeN l.prog w K mg base "require_board" 3 1 (spReqX K w dd E0) := calleeN_mk X G h_require_board (fun f fd F => ok_reqX F k_BadBoard c_fwc c_fwo c_fwd (n z_len)) (fun _ _ _ _ _ _ us hl => match us, hl with | [_], _ => rfl)
  have n_runB : CalleeN l.prog w K mg base "run" 4 2 (spB2 K w dd E0) := calleeN_mk X G h_run (fun f fd F => ok_runB F n_req) (fun _ _ _ _ _ _ us hl => match us, hl with | [_, _], _ => rfl)
  have n_prunB : CalleeN l.prog w K mg base "plain_run" 4 1 (spB1 K w dd E0) := calleeN_mk X G h_plain_run (fun f fd F => ok_prunB F n_req) (fun _ _ _ _ _ _ us hl => match us, hl with | [_], _ => rfl)
  have n_fencedB : CalleeN l.prog w K mg base "fenced" 4 2 (spB2 K w dd E0) := calleeN_mk X G h_fenced (fun f fd F => ok_fencedB F n_req) (fun _ _ _ _ _ _ us hl => match us, hl with | [_, _], _ => rfl)
  have n_fullyB : CalleeN l.prog w K mg base "fully" 4 1 (spB1 K w dd E0) := calleeN_mk X G h_fully (fun f fd F => ok_fullyB F n_req) (fun _ _ _ _ _ _ us hl => match us, hl with | [_], _ => rfl)
  have n_fewestB : CalleeN l.prog w K mg base "fewest" 4 2 (spB2 K w dd E0) := calleeN_mk X G h_fewest (fun f fd F => ok_fewestB F n_req) (fun _ _ _ _ _ _ us hl => match us, hl with | [_, _], _ => rfl)
  have n_writtenB : CalleeN l.prog w K mg base "written" 4 1 (spB1 K w dd E0) := calleeN_mk X G h_written (fun f fd F => ok_writtenB F n_req) (fun _ _ _ _ _ _ us hl => match us, hl with | [_], _ => rfl)
  have n_endedB : CalleeN l.prog w K mg base "ended" 5 2 (spB2 K w dd E0) := calleeN_mk X G h_ended (fun f fd F => ok_endedB F n_runB) (fun _ _ _ _ _ _ us hl => match us, hl with | [_, _], _ => rfl)
  have n_storyB : CalleeN l.prog w K mg base "story" 5 2 (spB2 K w dd E0) := calleeN_mk X G h_story (fun f fd F => ok_storyB F n_runB) (fun _ _ _ _ _ _ us hl => match us, hl with | [_, _], _ => rfl)
  have n_amissB : CalleeN l.prog w K mg base "amiss" 5 2 (spB2 K w dd E0) := calleeN_mk X G h_amiss (fun f fd F => ok_amissB F n_runB) (fun _ _ _ _ _ _ us hl => match us, hl with | [_, _], _ => rfl)
  have n_pendB : CalleeN l.prog w K mg base "plain_end" 5 1 (spB1 K w dd E0) := calleeN_mk X G h_plain_end (fun f fd F => ok_plain_endB F n_prunB) (fun _ _ _ _ _ _ us hl => match us, hl with | [_], _ => rfl)
  have n_sightsB : CalleeN l.prog w K mg base "sights" 5 1 (spB1 K w dd E0) := calleeN_mk X G h_sights (fun f fd F => ok_sightsB F n_prunB) (fun _ _ _ _ _ _ us hl => match us, hl with | [_], _ => rfl)
  have n_Script : MakerN l.prog w K mg base "Script" CS 5 (spBI K w dd E0) := makerN_mk (PySem.W.mg_of X G gS) kS5 kS6 h_S_init (fun f fd F => ok_sinitB F n_prunB) (fun _ _ _ _ _ _ us hl => match us, hl with | [_, _], _ => rfl)
  have n_paceB : CalleeN l.prog w K mg base "pace_amiss" 7 1 (spB1 K w dd E0) := calleeN_mk X G h_pace_amiss (fun f fd F => ok_paceB F n_Script) (fun _ _ _ _ _ _ us hl => match us, hl with | [_], _ => rfl)
  have n_judgedB : CalleeN l.prog w K mg base "judged" 8 1 (spB1 K w dd E0) := calleeN_mk X G h_judged (fun f fd F => ok_judgedB F n_paceB) (fun _ _ _ _ _ _ us hl => match us, hl with | [_], _ => rfl)
  have n_spareB : CalleeN l.prog w K mg base "spare" 5 2 (spB2 K w dd E0) := calleeN_mk X G h_spare (fun f fd F => ok_spareB F n_fencedB gSure) (fun _ _ _ _ _ _ us hl => match us, hl with | [_, _], _ => rfl)
  have c_lbad : Callee l.prog w K mg base "_law_bad" 2 2 (spBad K w dd) := callee_mk X G h_law_bad (fun f fd F => ok_lbad F Kd' Md c_take c_takeF (n z_len)) (fun _ _ _ _ _ _ us hl => match us, hl with | [_, _], _ => rfl)
  have hRF : RefK l.prog w K mg base (five E0 E1 E2 E3 E4) CE := by
    obtain ⟨g, hg⟩ := h_law_refused
    have hg' := hg
    obtain ⟨oc, od, kV, doc, pm, an, cdv, ct, osl, a, _⟩ := hg'
    exact ⟨⟨g, hg, PySem.W.mg_of X G a⟩, c_class, PySem.W.mg_of X G gCE, fld0_word, fld0_number⟩
  have WC : WkC l.prog w K mg base dd E0 := ⟨n_endedB, n_storyB, n_pendB, n_sightsB, n_amissB, n_judgedB, n_fencedB, n_fullyB, n_spareB, n_fewestB, n_writtenB⟩
  have LC : LwC l.prog w K mg base := ⟨c_ended, c_pend, c_sights, c_written⟩
  have c_works : Callee l.prog w K mg base "_law_works" 1 1 (spWorks [(Pt, lawQ), (Pw, wkQ)]) := calleeX_mk X G hW (fun lkw => ok_works lkw hW.code TB2 (List.mem_cons_of_mem _ List.mem_cons_self) (fun p hp e => by
    rcases List.mem_cons.mp hp with rfl | hp
    · exact absurd e.symm hne
    · rw [List.mem_singleton.mp hp])) (fun _ _ _ _ _ _ us hl => match us, hl with | [_], _ => rfl)
  exact ok_law (C := five E0 E1 E2 E3 E4) lk hL.code TB hne hRF WC LC is0 xm0 c_begun c_board c_kinds c_lbad c_works c_alike c_fully c_story
end Vt
open PySem PySem.W PyProof.Rows
set_option maxHeartbeats 0 in
theorem PySem.Challenge.cw_blockcarrier_k01_boards_refused_holds : PySem.Challenge.rw_blockcarrier_k01_boards_refused.Holds := by
  w_on; o_law; k_head; (case hw => w_witness2)
  k_fill
  refine Vt.walk_ofOwn2 (l := PySem.Challenge.rw_blockcarrier_k01_boards_refused) (n := 63) (k := 12) (x := "_law_script") (CX := fun _ => L2.CX0) ["law", "_law_works"] rfl (by decide) rfl ⟨rfl, by decide, by decide⟩ ?hrec (fun w h Y => PySem.W.km_in_of Y) ?F (fun _ _ _ _ _ h => h)
  case hrec => first | rfl | kernel_rfl
  case F =>
    intro w mg fa h Y KX G hmg own
    refine' Vt.all_mk KX G hmg own ?h_first_wrong_cell ?h_order_can_be ?h_first_wrong_order ?h_counts_of_things ?h_deed_can_be ?h_first_wrong_deed ?h_require_board ?h_moves_told ?h_moved_at_once ?h_plain_run ?h_plain_end ?h_sights ?h_run ?h_story ?h_ended ?h_row_of ?h_written ?h_fully ?h_law_begun ?h_law_take ?h_law_order ?h_law_deed ?h_law_board ?h_law_kinds ?h_law_class ?h_fenced ?h_fewest ?h_amiss ?h_pace_amiss ?h_judged ?h_spare ?h_law_bad ?h_is_sure ?h_law_alike ?h_law_refused ?h_two ?gC ?kC1 ?kC2 ?kC3 ?kC4 ?kC5 ?kC6 ?kN1 ?kN2 ?kN3 ?kN4 ?kN5 ?kN6 ?kN7 ?kN8 ?kN9 ?kN10 ?h_m_tell ?h_m_line_of ?h_m_read_cell ?h_m_write_cell ?h_m_clean_line ?h_m_drop_line ?h_m_move_one ?h_m_end_beat ?h_m_is_over ?h_m_clean_all ?h_m_do_deed ?h_m_do_next_deed ?h_m___init__ ?gS ?kS5 ?kS6 ?h_S_init ?gE0 ?gE1 ?gE2 ?gE3 ?gE4 ?gCE ?xsp ?xtk ?top ?any ?l0 ?r0 ?sa0 ?ex0 ?ty0 ?kp0 ?xa0 ?xb0 ?xd0 ?xe0 ?xh0 ?i0_0 ?i1_0 ?i2_0 ?i3_0 ?i4_0 ?iV_0 ?xm0 ?su0 ?sp0 ?ve0 ?no0_word ?no0_number ?hx_0 ?g1 ?g2 ?g3 ?g4 ?g5 ?g6 ?g7 ?g8 ?g9 ?g10 ?gMd ?z_len ?z_enumerate ?z_all ?z_zip ?z_range ?z_list ?z_tuple ?z_int ?z_min ?z_bool ?z_str ?z_isinstance ?z_set ?z_sorted ?z_dict ?z_ValueError ?z_super
    (case h_first_wrong_cell => (refine' Vt.found_mk ?a ?l ?c ?k; (case a => k_is); (case l => k_is); (case c => k_is); (case k => k_is)))
    (case h_order_can_be => (refine' Vt.found_mk ?a ?l ?c ?k; (case a => k_is); (case l => k_is); (case c => k_is); (case k => k_is)))
    (case h_first_wrong_order => (refine' Vt.found_mk ?a ?l ?c ?k; (case a => k_is); (case l => k_is); (case c => k_is); (case k => k_is)))
    (case h_counts_of_things => (refine' Vt.found_mk ?a ?l ?c ?k; (case a => k_is); (case l => k_is); (case c => k_is); (case k => k_is)))
    (case h_deed_can_be => (refine' Vt.found_mk ?a ?l ?c ?k; (case a => k_is); (case l => k_is); (case c => k_is); (case k => k_is)))
    (case h_first_wrong_deed => (refine' Vt.found_mk ?a ?l ?c ?k; (case a => k_is); (case l => k_is); (case c => k_is); (case k => k_is)))
    (case h_require_board => (refine' Vt.found_mk ?a ?l ?c ?k; (case a => k_is); (case l => k_is); (case c => k_is); (case k => k_is)))
    (case h_moves_told => (refine' Vt.found_mk ?a ?l ?c ?k; (case a => k_is); (case l => k_is); (case c => k_is); (case k => k_is)))
    (case h_moved_at_once => (refine' Vt.found_mk ?a ?l ?c ?k; (case a => k_is); (case l => k_is); (case c => k_is); (case k => k_is)))
    (case h_plain_run => (refine' Vt.found_mk ?a ?l ?c ?k; (case a => k_is); (case l => k_is); (case c => k_is); (case k => k_is)))
    (case h_plain_end => (refine' Vt.found_mk ?a ?l ?c ?k; (case a => k_is); (case l => k_is); (case c => k_is); (case k => k_is)))
    (case h_sights => (refine' Vt.found_mk ?a ?l ?c ?k; (case a => k_is); (case l => k_is); (case c => k_is); (case k => k_is)))
    (case h_run => (refine' Vt.found_mk ?a ?l ?c ?k; (case a => k_is); (case l => k_is); (case c => k_is); (case k => k_is)))
    (case h_story => (refine' Vt.found_mk ?a ?l ?c ?k; (case a => k_is); (case l => k_is); (case c => k_is); (case k => k_is)))
    (case h_ended => (refine' Vt.found_mk ?a ?l ?c ?k; (case a => k_is); (case l => k_is); (case c => k_is); (case k => k_is)))
    (case h_row_of => (refine' Vt.found_mk ?a ?l ?c ?k; (case a => k_is); (case l => k_is); (case c => k_is); (case k => k_is)))
    (case h_written => (refine' Vt.found_mk ?a ?l ?c ?k; (case a => k_is); (case l => k_is); (case c => k_is); (case k => k_is)))
    (case h_fully => (refine' Vt.found_mk ?a ?l ?c ?k; (case a => k_is); (case l => k_is); (case c => k_is); (case k => k_is)))
    (case h_law_begun => (refine' Vt.found_mk ?a ?l ?c ?k; (case a => k_is); (case l => k_is); (case c => k_is); (case k => k_is)))
    (case h_law_take => (refine' Vt.found_mk ?a ?l ?c ?k; (case a => k_is); (case l => k_is); (case c => k_is); (case k => k_is)))
    (case h_law_order => (refine' Vt.found_mk ?a ?l ?c ?k; (case a => k_is); (case l => k_is); (case c => k_is); (case k => k_is)))
    (case h_law_deed => (refine' Vt.found_mk ?a ?l ?c ?k; (case a => k_is); (case l => k_is); (case c => k_is); (case k => k_is)))
    (case h_law_board => (refine' Vt.found_mk ?a ?l ?c ?k; (case a => k_is); (case l => k_is); (case c => k_is); (case k => k_is)))
    (case h_law_kinds => (refine' Vt.found_mk ?a ?l ?c ?k; (case a => k_is); (case l => k_is); (case c => k_is); (case k => k_is)))
    (case h_law_class => (refine' Vt.found_mk ?a ?l ?c ?k; (case a => k_is); (case l => k_is); (case c => k_is); (case k => k_is)))
    (case h_fenced => (refine' Vt.found_mk ?a ?l ?c ?k; (case a => k_is); (case l => k_is); (case c => k_is); (case k => k_is)))
    (case h_fewest => (refine' Vt.found_mk ?a ?l ?c ?k; (case a => k_is); (case l => k_is); (case c => k_is); (case k => k_is)))
    (case h_amiss => (refine' Vt.found_mk ?a ?l ?c ?k; (case a => k_is); (case l => k_is); (case c => k_is); (case k => k_is)))
    (case h_pace_amiss => (refine' Vt.found_mk ?a ?l ?c ?k; (case a => k_is); (case l => k_is); (case c => k_is); (case k => k_is)))
    (case h_judged => (refine' Vt.found_mk ?a ?l ?c ?k; (case a => k_is); (case l => k_is); (case c => k_is); (case k => k_is)))
    (case h_spare => (refine' Vt.found_mk ?a ?l ?c ?k; (case a => k_is); (case l => k_is); (case c => k_is); (case k => k_is)))
    (case h_law_bad => (refine' Vt.found_mk ?a ?l ?c ?k; (case a => k_is); (case l => k_is); (case c => k_is); (case k => k_is)))
    (case h_is_sure => (refine' Vt.found_mk ?a ?l ?c ?k; (case a => k_is); (case l => k_is); (case c => k_is); (case k => k_is)))
    (case h_law_alike => (refine' Vt.found_mk ?a ?l ?c ?k; (case a => k_is); (case l => k_is); (case c => k_is); (case k => k_is)))
    (case h_law_refused => (refine' Vt.found_mk ?a ?l ?c ?k; (case a => k_is); (case l => k_is); (case c => k_is); (case k => k_is)))
    (case h_two => (refine' Vt.two_mk ?tA ?tB ?tN; (case tA => (refine' Vt.foundx2_mk ?a ?l ?c ?kp ?l3 ?v1 ?v2 ?v3 ?v4 ?v5 ?v6 ?ne ?no; (case a => k_is); (case l => k_is); (case c => k_is); (case kp => k_is); (case l3 => k_is); (case v1 => rfl); (case v2 => rfl); (case v3 => rfl); (case v4 => rfl); (case v5 => rfl); (case v6 => rfl); (case ne => decide); (case no => kernel_rfl))); (case tB => (refine' Vt.foundx2_mk ?a ?l ?c ?kp ?l3 ?v1 ?v2 ?v3 ?v4 ?v5 ?v6 ?ne ?no; (case a => k_is); (case l => k_is); (case c => k_is); (case kp => k_is); (case l3 => k_is); (case v1 => rfl); (case v2 => rfl); (case v3 => rfl); (case v4 => rfl); (case v5 => rfl); (case v6 => rfl); (case ne => decide); (case no => kernel_rfl))); (case tN => decide)))
    (case gE0 => k_is); (case gE1 => k_is); (case gE2 => k_is); (case gE3 => k_is); (case gE4 => k_is); (case gCE => k_is); (case xsp => k_is); (case xtk => k_is); (case any => k_is); (case top => rfl)
    (case gC => k_is); (case kC1 => k_is); (case kC2 => k_is); (case kC3 => k_is); (case kC4 => k_is); (case kC5 => k_is); (case kC6 => k_is); (case kN1 => k_is); (case kN2 => k_is); (case kN3 => k_is); (case kN4 => k_is); (case kN5 => k_is); (case kN6 => k_is); (case kN7 => k_is); (case kN8 => k_is); (case kN9 => k_is); (case kN10 => k_is)
    (case h_m_tell => (refine' Vt.foundm_mk ?a ?l ?c ?k ?i; (case a => k_is); (case l => k_is); (case c => k_is); (case k => k_is); (case i => k_is)))
    (case h_m_line_of => (refine' Vt.foundm_mk ?a ?l ?c ?k ?i; (case a => k_is); (case l => k_is); (case c => k_is); (case k => k_is); (case i => k_is)))
    (case h_m_read_cell => (refine' Vt.foundm_mk ?a ?l ?c ?k ?i; (case a => k_is); (case l => k_is); (case c => k_is); (case k => k_is); (case i => k_is)))
    (case h_m_write_cell => (refine' Vt.foundm_mk ?a ?l ?c ?k ?i; (case a => k_is); (case l => k_is); (case c => k_is); (case k => k_is); (case i => k_is)))
    (case h_m_clean_line => (refine' Vt.foundm_mk ?a ?l ?c ?k ?i; (case a => k_is); (case l => k_is); (case c => k_is); (case k => k_is); (case i => k_is)))
    (case h_m_drop_line => (refine' Vt.foundm_mk ?a ?l ?c ?k ?i; (case a => k_is); (case l => k_is); (case c => k_is); (case k => k_is); (case i => k_is)))
    (case h_m_move_one => (refine' Vt.foundm_mk ?a ?l ?c ?k ?i; (case a => k_is); (case l => k_is); (case c => k_is); (case k => k_is); (case i => k_is)))
    (case h_m_end_beat => (refine' Vt.foundm_mk ?a ?l ?c ?k ?i; (case a => k_is); (case l => k_is); (case c => k_is); (case k => k_is); (case i => k_is)))
    (case h_m_is_over => (refine' Vt.foundm_mk ?a ?l ?c ?k ?i; (case a => k_is); (case l => k_is); (case c => k_is); (case k => k_is); (case i => k_is)))
    (case h_m_clean_all => (refine' Vt.foundm_mk ?a ?l ?c ?k ?i; (case a => k_is); (case l => k_is); (case c => k_is); (case k => k_is); (case i => k_is)))
    (case h_m_do_deed => (refine' Vt.foundm_mk ?a ?l ?c ?k ?i; (case a => k_is); (case l => k_is); (case c => k_is); (case k => k_is); (case i => k_is)))
    (case h_m_do_next_deed => (refine' Vt.foundm_mk ?a ?l ?c ?k ?i; (case a => k_is); (case l => k_is); (case c => k_is); (case k => k_is); (case i => k_is)))
    (case h_m___init__ => (refine' Vt.foundm_mk ?a ?l ?c ?k ?i; (case a => k_is); (case l => k_is); (case c => k_is); (case k => k_is); (case i => k_is)))
    (case gS => k_is); (case kS5 => k_is); (case kS6 => k_is)
    (case h_S_init => (refine' Vt.foundm_mk ?a ?l ?c ?k ?i; (case a => k_is); (case l => k_is); (case c => k_is); (case k => k_is); (case i => k_is)))
    (case l0 => k_is)
    (case r0 => decide +kernel)
    (case sa0 => k_is)
    (case ex0 => k_is)
    (case ty0 => k_is)
    (case kp0 => k_is)
    (case xa0 => k_is)
    (case xb0 => k_is)
    (case xd0 => k_is)
    (case xe0 => k_is)
    (case xh0 => k_is)
    (case i0_0 => kit_is)
    (case i1_0 => kit_is)
    (case i2_0 => kit_is)
    (case i3_0 => kit_is)
    (case i4_0 => kit_is)
    (case iV_0 => kit_is)
    (case xm0 => kts_exm)
    (case su0 => k_is)
    (case sp0 => ks_is)
    (case ve0 => k_is)
    (case no0_word => k_is)
    (case no0_number => k_is)
    (case hx_0 => (refine' Vt.foundx_mk ?a ?l ?c ?i ?l2 ?d ?l3 ?v2 ?fe ?t; (case a => k_is); (case l => k_is); (case c => k_is); (case i => k_is); (case l2 => k_is); (case d => k_is); (case l3 => k_is); (case v2 => rfl); (case fe => rfl); (case t => k_is)))
    (case g1 => k_is); (case g2 => k_is); (case g3 => k_is); (case g4 => k_is); (case g5 => k_is); (case g6 => k_is); (case g7 => k_is)
    (case z_len => k_is); (case z_enumerate => k_is); (case z_all => k_is); (case z_zip => k_is); (case z_range => k_is); (case z_list => k_is); (case z_tuple => k_is); (case z_int => k_is); (case z_min => k_is); (case z_bool => k_is); (case z_str => k_is); (case z_isinstance => k_is); (case z_set => k_is); (case z_sorted => k_is); (case z_dict => k_is); (case z_ValueError => k_is); (case z_super => k_is)
    case g8 => exact Vt.ktup_mk (by k_is) (by decide) (.cons ⟨_, rfl⟩ (.cons ⟨_, rfl⟩ (.cons ⟨_, rfl⟩ (.cons ⟨_, rfl⟩ .nil))))
    case g9 => k_is
    case g10 =>
      intro m
      refine' Vt.kinds_mk m ?low ?l ?kl ?a1 ?a2 ?a3 ?a4 ?a5 ?a6 ?a7 ?t1 ?t2 ?t3 ?t4 ?t5 ?t6 ?t7
      (case low => decide)
      (case l => k_is)
      (case a1 => k_is); (case a2 => k_is); (case a3 => k_is); (case a4 => k_is); (case a5 => k_is); (case a6 => k_is); (case a7 => k_is)
      (case t1 => exact Vt.ktup_mk (by k_is) (by decide) (.cons ⟨_, rfl⟩ (.cons ⟨_, rfl⟩ .nil)))
      (case t2 => exact Vt.ktup_mk (by k_is) (by decide) (.cons ⟨_, rfl⟩ (.cons ⟨_, rfl⟩ .nil)))
      (case t3 => exact Vt.ktup_mk (by k_is) (by decide) (.cons ⟨_, rfl⟩ .nil))
      (case t4 => exact Vt.ktup_mk (by k_is) (by decide) (.cons ⟨_, rfl⟩ .nil))
      (case t5 => exact Vt.ktup_mk (by k_is) (by decide) .nil)
      (case t6 => exact Vt.ktup_mk (by k_is) (by decide) (.cons ⟨_, rfl⟩ .nil))
      (case t7 => exact Vt.ktup_mk (by k_is) (by decide) (.cons ⟨_, rfl⟩ .nil))
      case kl => exact ⟨⟨_, _, rfl, rfl⟩, ⟨_, _, rfl, rfl⟩, ⟨_, _, rfl, rfl⟩, ⟨_, _, rfl, rfl⟩, ⟨_, _, rfl, rfl⟩, ⟨_, _, rfl, rfl⟩, ⟨_, _, rfl, rfl⟩, trivial⟩
    case gMd => (refine' Vt.miss_mk ?l ?h; (case l => k_is); (case h => first | rfl | kernel_rfl | decide +kernel))
