import PyProof.Rows.All
import Wide.All
import OpenK.AllK
import Wide.FinOn
import HandS.ForMost
import HandS.IsInst
import HandS.Zip
import HandS.Walk
import HandS.WrittenGet
import HandS.TupAny
import HandS.SetFor
import KE.GoesNew
import KE.KUnpackStar
import PySem.Challenge.RW_blockcarrier_k15_texts_refused
import KE.KDictKeyed
import KE.KDictDisplayH
import KE.KDictWalk
import HandS.ClsMeth
import HandS.Nested
import KE.KSuper
import KE.KExcSuper
import HandS.HotCalls
import HandS.ExcIs
import HandS.ExcCtx
import HandS.WordsExc
import HandS.Wide
import HandS.TupMul
import HandS.ExcInit
import HandS.FStr
import HandS.ExcField
import KE.KExcIs
import HandS.Text
import HandS.StrMore
import HandS.More
import HandS.Star
import HandS.EndOwn
import KE.RegKIsAll
import KE.RegKTryMore
set_option Elab.async false
set_option linter.all false
set_option maxRecDepth 100000
namespace Vt
open PySem PySem.Spec PyProof.Rows L2
def topS (i : Nat) : Stmt := PySem.Challenge.pw_blockcarrier_k15_texts_refused.main.body.getD i (.Pass ⟨0, 0, 0, 0⟩)
end Vt
namespace Vt
open PySem PySem.Spec PyProof.Rows L2
/-! ### calls of own defs by what they promise -/
structure Callee (P : Program) (w : World) (K : PySem.W.Frag) (mg : Str → Option Value) (base : Heap) (x : Str) (k : Nat) (n : Nat) (sp : Sp) : Prop where
  ex : ∃ (f : Addr) (fd : FuncData) (ps : List Str), FnOk P w K mg base CX0 k f fd ps sp ∧ mg x = some (.ref f) ∧ PySem.W.keepIn K (.ref f) = true ∧ Binds K fd ps []
section
variable {X : Cx} {x : Str} {k j n : Nat} {sp : Sp} {p pos : Pos} {e : Expr} {es : List Expr} {t : TA}
theorem pe_cal (C : Callee X.prog X.w X.K X.mg X.base x k n sp) (hr : Room j X.A) (hk : k ≤ j) (ha : PA X (e :: es) t) (hg : Gl X x := by rfl)
    (hdb : (x == ("__debug__" : Str)) = false := by decide) (he : starEach (e :: es) X.env = (false, eval e X.env) :: starEach es X.env := by rfl) (hpl : (backTo pos (starEach es X.env)).any (·.1) = false := by rfl) :
    PE X (.Call (.Name x p) (e :: es) [] pos) (tCall sp [] E0 t) := by
  have ⟨f, fd, ps, F, hm, hkp, hb⟩ := C.ex
  exact pe_call F (hr.mono hk) hg hm hkp hb .nil pass0 ha hdb he hpl
theorem pe_cal0 (C : Callee X.prog X.w X.K X.mg X.base x k n sp) (hr : Room j X.A) (hk : k ≤ j) (hg : Gl X x := by rfl)
    (hdb : (x == ("__debug__" : Str)) = false := by decide) : PE X (.Call (.Name x p) [] [] pos) (tCall sp [] E0 tNil) := by
  have ⟨f, fd, ps, F, hm, hkp, hb⟩ := C.ex
  exact pe_call0 F (hr.mono hk) hg hm hkp hb .nil pass0 hdb
end
/-- a statement, then the rest, with a word between them -/
def tCut (t u : TS) : TS := fun D σ H => ∃ Mid : L2.St → Hp → Prop, t { D with nx := Mid } σ H ∧ ∀ σ' H', Mid σ' H' → u D σ' H'
theorem pss_cut {X : Cx} {st : Stmt} {rest : List Stmt} {t u : TS} (h1 : PS X st t) (h2 : PSs X rest u) : PSs X (st :: rest) (tCut t u) := by
  refine ⟨fun pins s σ H D I h => ?_⟩
  obtain ⟨Mid, hm, hu⟩ := h
  refine wpAny_execs_cons (thn (h1.run pins s σ H { D with nx := Mid } I hm) fun f s1 q => ?_)
  cases f with
  | next =>
    obtain ⟨σ', H', I', q⟩ := q
    exact h2.run pins s1 σ' H' D I' (hu σ' H' q)
  | ret v => exact q
  | brk => exact q
  | cont => exact q
/-! ### lists or tuples -/
def SqA (K : PySem.W.Frag) (H : Hp) (a : Addr) (xs : List V) : Prop := SqL K H a xs ∨ SqT K H a xs
def rIxLT (K : PySem.W.Frag) : R2 := fun x y H Q => ∃ p xs i v, x = .ref p ∧ y = .int i ∧ SqA K H p xs ∧ atI xs i = some v ∧ Q v H
section
variable {X : Cx} {tg l : Expr} {tl : TE}
theorem ix_lt : IxR X (rIxLT X.K) := by
  intro value slice pins s σ H x y v u Q I rx ry h hs
  obtain ⟨p, xs, i, z, ex, ey, hq | hq, he, q⟩ := h
  · exact ix_list value slice pins s σ H x y v u Q I rx ry ⟨p, xs, i, z, ex, ey, hq, he, q⟩ hs
  · exact ix_tup value slice pins s σ H x y v u Q I rx ry ⟨p, xs, i, z, ex, ey, hq, he, q⟩ hs
theorem ix_ltk (K : PySem.W.Frag) (h : X.K = K := by rfl) : IxR X (rIxLT K) := by
  subst h
  exact ix_lt
def iLT (K : PySem.W.Frag) (tl : TE) : TI := fun σ H R => tl σ H fun x H1 => ∃ a, x = .ref a ∧ ((∃ xs, SqL K H1 a xs ∧ R (Itl K a) H1) ∨ ∃ xs, SqT K H1 a xs ∧ R (Itt K a) H1)
theorem pi_lt (hl : PE X l tl) : PI X tg l (iLT X.K tl) := by
  refine ⟨fun pins s σ H R I h => ?_⟩
  refine thn (hl.run pins s σ H _ I h) fun v s1 ⟨x, H1, I1, r1, q1⟩ => ?_
  obtain ⟨a, e, q⟩ := q1
  subst e
  cases r1
  rcases q with ⟨xs, hq, q⟩ | ⟨xs, hq, q⟩
  · obtain ⟨its, rv, p, hz⟩ := I1.list hq
    refine wpAny_pyIter_list p.isList ?_
    refine ⟨s1.heap.objs.size, [s1.heap.objs.size], _, _, H1, rfl, I1.kept (t' := s1.toks) fun b o e => Heap.get?_push_of_some _ e, turn_list a _, ⟨_, Heap.get?_push_size _ rfl, rfl, rfl⟩, fun b hb => ?_, q⟩
    have e : b = s1.heap.objs.size := by simpa using hb
    subst e
    exact I1.fpOk (Nat.le_refl _) (I1.hok.fresh (Nat.le_refl _))
  · obtain ⟨its, rv, p, hz⟩ := I1.tuple hq
    refine wpAny_pyIter_tuple (show s1.heap.IsTuple a its.toArray from p) ?_
    refine ⟨s1.heap.objs.size, [s1.heap.objs.size], _, _, H1, rfl, I1.kept (t' := s1.toks) fun b o e => Heap.get?_push_of_some _ e, turn_tuple a _, ⟨_, Heap.get?_push_size _ rfl, rfl, rfl⟩, fun b hb => ?_, q⟩
    have e : b = s1.heap.objs.size := by simpa using hb
    subst e
    exact I1.fpOk (Nat.le_refl _) (I1.hok.fresh (Nat.le_refl _))
end
theorem pg_tupk {X : Cx} (K : PySem.W.Frag) {es : List Expr} {k n : Nat} {pos : Pos} {t : TGs} (hc : X.calm = true) (h : PGs X es t) (hK : X.K = K := by rfl)
    (hn : (assignEach es X.env).length = n := by rfl) (hst : (assignEach es X.env).findIdx? (·.1) = none := by rfl) : PG X (.Tuple es k pos) (gTup K n t) := by
  subst hK
  exact pg_tup hc h hn hst
/-! ### enumerate(tuple) -/
theorem meets_enumT {v : Value} {o : Obj} {H : Heap → Prop} (B : Begins v o H) :
    Meets (Builtin.«enumerate.__new__» ⟨[.type "enumerate", v], []⟩) (fun _ R s => H s.heap ∧
      R (.ok (.ret (.ref (s.heap.push o).objs.size))) { s with heap := (s.heap.push o).push { cls := .type "enumerate", data := .fields #[.none, .bool false, .ref s.heap.objs.size, rawInt 0, .none, .none] } }) :=
  .of_wp fun prog w A R s h => by
    obtain ⟨hp, g, d, tk, os⟩ := s; obtain ⟨h1, h⟩ := h
    have hsub := sub_enumerate
    have q1 : ∀ {A E Q}, Q (.ref (Shared.heap ⟨hp, g, d, tk, os⟩).objs.size) ⟨hp.push o, g, d, tk, os⟩ → wpAny (model prog w) A (pyIter v) Q E ⟨hp, g, d, tk, os⟩ := fun {A E Q} q => B.iter prog w A E _ Q h1 q
    wp_walk using q1
    refine wpAny_stack_any fun st => wpAny_pure ?_
    split
    · rename_i c _ _ _ _ _
      cases (c == Value.type "enumerate")
      · wp_walk using q1
        exact ⟨_, rfl, h⟩
      · wp_walk using q1
        exact ⟨_, rfl, h⟩
    · wp_walk using q1
      exact ⟨_, rfl, h⟩
section
variable {prog : Program} {w : World} {A : Around} {E : Value → Shared → Prop} {s : Shared}
theorem call_enumB {v : Value} {o : Obj} {H : Heap → Prop} {Q : Value → Shared → Prop} (B : Begins v o H) (h1 : H s.heap)
    (h : ∀ h', IsEnum h' (s.heap.objs.size + 1) s.heap.objs.size 0 .none → h'.get? s.heap.objs.size = some o → h'.objs.size = s.heap.objs.size + 2 →
      (∀ b o, s.heap.get? b = some o → h'.get? b = some o) → Q (.ref (s.heap.objs.size + 1)) { s with heap := h' }) :
    wpAny (model prog w) A (call (.type "enumerate") [v]) Q E s := by
  refine callType_new F.called_enumerate (by decide) (F.typeCall_enumerate_1 _) (F.newCall_enumerate_1 _) (fun obj => F.args_object_init_2 obj _) F.entry_enumerate_new
    (meets_enumT B) ⟨h1, ?_⟩
  have hz : (s.heap.push o).objs.size = s.heap.objs.size + 1 := Heap.size_push ..
  show _ ∧ _
  rw [hz]
  have he : IsEnum ((s.heap.push o).push { cls := .type "enumerate", data := .fields #[.none, .bool false, .ref s.heap.objs.size, rawInt 0, .none, .none] }) (s.heap.objs.size + 1) s.heap.objs.size 0 .none := by
    have := Heap.get?_push_size (s.heap.push o) (o := { cls := .type "enumerate", data := .fields #[.none, .bool false, .ref s.heap.objs.size, rawInt 0, .none, .none] }) rfl
    rw [hz] at this; exact this
  refine ⟨⟨_, he, rfl⟩, h _ he (Heap.get?_push_of_some _ (Heap.get?_push_size _ B.free)) (by rw [Heap.size_push, hz]) fun b o x => Heap.get?_push_of_some _ (Heap.get?_push_of_some _ x)⟩
end
def Ien (K : PySem.W.Frag) (a : Addr) : It :=
  ⟨fun i H => ∃ (xs : List V) (x : V), SqT K H a xs ∧ xs[i]? = some x, fun i H v H' => ∃ T x, v = .ref T ∧ H T = none ∧ H' = upd H T (.tup [.int (i : Nat), x]) ∧ ∀ xs, SqT K H a xs → xs[i]? = some x, fun i H => ∃ xs : List V, SqT K H a xs ∧ xs.length = i⟩
theorem turn_enumT {P : Program} {w : World} {K : PySem.W.Frag} {elts : List Expr} {kk : Nat} {tpos : Pos} (a e it : Addr) :
    Turn P w K (.Tuple elts kk tpos) (Ien K a) [e, it] e (fun i h => (∃ old, IsEnum h e it (0 + (i : Int)) old) ∧ h.IsTupleIter it a i ∧ e ≠ it ∧ a ≠ it) where
  mem := by simp
  obj := fun i h st b hb => by
    obtain ⟨⟨old, he⟩, ⟨o, ho, hc, hd⟩, _⟩ := st
    have e' : b = e ∨ b = it := by simpa using hb
    rcases e' with z | z
    · rw [z]; exact ⟨_, he, fun v q => nomatch q⟩
    · rw [z]; exact ⟨o, ho, fun v q => by rw [hd] at q; cases q⟩
  keep := fun i h h' st k => let ⟨⟨old, he⟩, hi, hne, ha⟩ := st; ⟨⟨old, k e (by simp) _ he⟩, hi.at fun o q => k it (by simp) o q, hne, ha⟩
  item := by
    intro X hP hw hK hc i pins s σ H E I hf st hg
    subst hP hw hK
    obtain ⟨⟨old, he⟩, hit, hne, hat⟩ := st
    obtain ⟨xs, x, hq, hx⟩ := hg
    obtain ⟨its, rv, p, hz⟩ := I.tuple hq
    obtain ⟨u, hu, ru⟩ := rv.get hx
    have hel : e < s.heap.objs.size := Heap.lt_size he
    have hil : it < s.heap.objs.size := by obtain ⟨_, q, _⟩ := hit; exact Heap.lt_size q
    have hae : e ≠ a := fun z => by
      obtain ⟨o, ho, hc, _⟩ := p
      rw [← z, show s.heap.get? e = some _ from he] at ho
      cases ho
      exact absurd (show Value.type "enumerate" = Value.type "tuple" from hc) (by simp)
    have hsz : i < its.toArray.size := by
      have := (List.getElem?_eq_some_iff.mp hu).1
      simpa using this
    refine thn ((GoesN.enumFrom (elts := elts) (x1 := kk) (pos := tpos) 0 (Draws.tuple (prog := X.prog) (w := X.w) (A := X.A.in1) (I.ok.hd hc) it a hat its.toArray) e hne (by simp; exact ⟨hne, hae⟩) (by simp)).goes i s
      (fun v s2 => ∃ x H', Inv X pins σ H' s2 ∧ RelV x v ∧ (Ien X.K a).yld i H x H' ∧ ((∃ old, IsEnum s2.heap e it (0 + ((i + 1 : Nat) : Int)) old) ∧ s2.heap.IsTupleIter it a ((i + 1 : Nat) : Nat) ∧ e ≠ it ∧ a ≠ it) ∧ ∀ b ∈ [e, it], H' b = none) E hsz ⟨⟨old, he⟩, hit, p⟩ fun v h' tk hY st' hk htk => ?_) fun r s1 h1 => h1
    obtain ⟨T, t, y, ev, hT, hy, hTt⟩ := hY
    obtain ⟨he', hit', p'⟩ := st'
    subst ev
    have ey : y = u := by
      have e1 : its.toArray[i]? = some u := by simpa using hu
      rw [e1] at hy; exact (Option.some.inj hy).symm
    subst ey
    obtain ⟨oT, hoT, hcT, hdT⟩ := hTt
    have new : ObjOk X.prog X.w (upd H T (.tup [.int (i : Nat), x])) h' T (.tup [.int (i : Nat), x]) :=
      ⟨by show 2 ≤ sizeLine; decide, [.int (0 + (i : Int)) t, y], .cons ⟨t, by rw [Int.zero_add]⟩ (.cons ru .nil), ⟨oT, hoT, hcT, hdT⟩⟩
    have I1 : Inv X pins σ (upd H T (.tup [.int (i : Nat), x])) { s with heap := h', toks := tk } :=
      I.turnedNew (ch := [e, it]) (fun b ob hb q => hk b ob hb q) hf hT new
    refine ⟨.ref T, _, I1, rfl, ⟨_, x, rfl, I.hok.fresh hT, rfl, fun ys hy => by rw [I.tuple_inj hy hq]; exact hx⟩, ⟨he', hit', hne, hat⟩, fun b hb => ?_⟩
    have hb' : b < s.heap.objs.size := by
      have e' : b = e ∨ b = it := by simpa using hb
      rcases e' with z | z
      · rw [z]; exact hel
      · rw [z]; exact hil
    rw [upd_ne (Nat.ne_of_lt (Nat.lt_of_lt_of_le hb' hT))]
    exact (hf b hb).1
  done := by
    intro X hP hw hK hc i pins s σ H E I hf st hg
    subst hP hw hK
    obtain ⟨⟨old, he⟩, hit, hne, hat⟩ := st
    obtain ⟨xs, hq, hx⟩ := hg
    obtain ⟨its, rv, p, hz⟩ := I.tuple hq
    have hl := rv.length
    have hae : e ≠ a := fun z => by
      obtain ⟨o, ho, hc, _⟩ := p
      rw [← z, show s.heap.get? e = some _ from he] at ho
      cases ho
      exact absurd (show Value.type "enumerate" = Value.type "tuple" from hc) (by simp)
    have hsz : i = its.toArray.size := by simp; omega
    refine (GoesN.enumFrom (elts := elts) (x1 := kk) (pos := tpos) 0 (Draws.tuple (prog := X.prog) (w := X.w) (A := X.A.in1) (I.ok.hd hc) it a hat its.toArray) e hne (by simp; exact ⟨hne, hae⟩) (by simp)).stops s
      (fun s2 => Inv X pins σ H s2) E (by rw [← hsz]; exact ⟨⟨old, he⟩, hit, p⟩) fun h' tk hk htk => ?_
    exact I.turnedL (ch := [e, it]) (fun b ob hb q => hk b ob hb q) hf
  self := fun A i s Q E st h => let ⟨⟨_, he⟩, _⟩ := st; wpAny_pyIter_enum he h
def iEnT (K : PySem.W.Frag) (ta : TA) : TI := fun σ H R => ta σ H fun vs H1 => ∃ a, vs = [.ref a] ∧ ((∃ xs, SqL K H1 a xs ∧ R (Ite K a) H1) ∨ ∃ xs, SqT K H1 a xs ∧ R (Ien K a) H1)
theorem pi_enumT {X : Cx} {e : Expr} {ta : TA} {p pos tpos : Pos} {elts : List Expr} {kk : Nat} (hg : Gl X "enumerate") (hm : X.mg "enumerate" = none) (ha : PA X [e] ta) (hs : starEach [e] X.env = [(false, eval e X.env)] := by rfl) :
    PI X (.Tuple elts kk tpos) (.Call (.Name "enumerate" p) [e] [] pos) (iEnT X.K ta) := by
  refine ⟨fun pins s σ H R I h => ?_⟩
  refine Call_ (ld_blt I hg hm boot_enumerate (PyProof.Rows.callWith_type1 (thn (ha.run pos pins s σ H _ I h) fun us s1 ⟨vs, H1, I1, r1, q1⟩ => ?_) hs rfl))
  obtain ⟨a, ex, q⟩ := q1
  subst ex
  cases r1 with
  | cons r rr =>
    cases rr
    cases r
    have fp : ∀ b ∈ [s1.heap.objs.size + 1, s1.heap.objs.size], FpOk X pins H1 b := fun b hb => by
      have e' : b = s1.heap.objs.size + 1 ∨ b = s1.heap.objs.size := by simpa using hb
      have hle : s1.heap.objs.size ≤ b := by
        rcases e' with z | z
        · rw [z]; exact Nat.le_add_right _ _
        · rw [z]; exact Nat.le_refl _
      exact I1.fpOk hle (I1.hok.fresh hle)
    rcases q with ⟨xs, hq, q⟩ | ⟨xs, hq, q⟩
    · obtain ⟨its, rv, p', hz⟩ := I1.list hq
      refine call_enumerate_list p'.isList fun h' he hit hsz hk => wpAny_pyIter_enum he ?_
      have I2 : Inv X pins σ H1 { s1 with heap := h' } := I1.kept (t' := s1.toks) hk
      exact ⟨s1.heap.objs.size + 1, [s1.heap.objs.size + 1, s1.heap.objs.size], _, _, H1, rfl, I2, turn_enum a (s1.heap.objs.size + 1) s1.heap.objs.size, ⟨⟨.none, he⟩, hit, Nat.succ_ne_self _⟩, fp, q⟩
    · obtain ⟨its, rv, p', hz⟩ := I1.tuple hq
      have la : a < s1.heap.objs.size := p'.lt
      refine call_enumB (begins_tuple a its.toArray) p' fun h' he hit hsz hk => wpAny_pyIter_enum he ?_
      have I2 : Inv X pins σ H1 { s1 with heap := h' } := I1.kept (t' := s1.toks) hk
      exact ⟨s1.heap.objs.size + 1, [s1.heap.objs.size + 1, s1.heap.objs.size], _, _, H1, rfl, I2, turn_enumT a (s1.heap.objs.size + 1) s1.heap.objs.size, ⟨⟨.none, he⟩, ⟨_, hit, rfl, rfl⟩, Nat.succ_ne_self _, Nat.ne_of_lt la⟩, fp, q⟩
/-- the loop over enumerate(tuple) -/
theorem walk_enumT {K : PySem.W.Frag} {a : Addr} {xs : List V} : Walk (Ien K a) xs.length (fun H => SqT K H a xs) (YPair (fun i => some (.int (i : Nat))) (fun i => xs[i]?)) := by
  refine ⟨fun i _ hi q => ⟨xs, xs[i], q, by simp [hi]⟩, fun _ q => ⟨xs, q, rfl⟩, fun i H v H' _ q y => ?_⟩
  obtain ⟨T, x, h1, h2, h3, h4⟩ := y
  exact ⟨T, .int (i : Nat), x, h1, h2, h3, rfl, h4 xs q⟩
/-! ### zip(list, tuple) -/
def Izm (K : PySem.W.Frag) (a b : Addr) : It :=
  ⟨fun i H => ∃ (xs ys : List V) (x y : V), SqL K H a xs ∧ SqT K H b ys ∧ xs[i]? = some x ∧ ys[i]? = some y,
    fun i H v H' => ∃ T x y, v = .ref T ∧ H T = none ∧ H' = upd H T (.tup [x, y]) ∧ (∀ xs, SqL K H a xs → xs[i]? = some x) ∧ ∀ ys, SqT K H b ys → ys[i]? = some y,
    fun i H => ∃ xs ys : List V, SqL K H a xs ∧ SqT K H b ys ∧ min xs.length ys.length = i⟩
theorem turn_zipM {P : Program} {w : World} {K : PySem.W.Frag} {elts : List Expr} {kk : Nat} {tpos : Pos} {a b z TI TO i1 i2 : Addr} (S : ZipSep2 z TI TO i1 i2 [i1, a] [i2, b]) (h1a : a ≠ i1) (h2b : b ≠ i2) :
    Turn P w K (.Tuple elts kk tpos) (Izm K a b) [z, TI, TO, i1, i2] z (fun i h => IsZip h z TI TO .none ∧ IsTupOf2 h TI (.ref i1) (.ref i2) ∧ (∃ x y, IsTupOf2 h TO x y) ∧ h.IsListIter i1 a i ∧ h.IsTupleIter i2 b i) where
  mem := by simp
  obj := fun i h st c hc => by
    obtain ⟨hz, hTI, ⟨x, y, hTO⟩, ⟨o1, e1, _, d1⟩, ⟨o2, e2, _, d2⟩⟩ := st
    have e' : c = z ∨ c = TI ∨ c = TO ∨ c = i1 ∨ c = i2 := by simpa using hc
    rcases e' with q | q | q | q | q
    · rw [q]; exact ⟨_, hz, fun v q => nomatch q⟩
    · rw [q]; exact ⟨_, hTI, fun v q => nomatch q⟩
    · rw [q]; exact ⟨_, hTO, fun v q => nomatch q⟩
    · rw [q]; exact ⟨o1, e1, fun v q => by rw [d1] at q; cases q⟩
    · rw [q]; exact ⟨o2, e2, fun v q => by rw [d2] at q; cases q⟩
  keep := fun i h h' st k => by
    obtain ⟨hz, hTI, ⟨x, y, hTO⟩, h1, h2⟩ := st
    exact ⟨k z (by simp) _ hz, k TI (by simp) _ hTI, ⟨x, y, k TO (by simp) _ hTO⟩, h1.at fun o q => k i1 (by simp) o q, h2.at fun o q => k i2 (by simp) o q⟩
  item := by
    intro X hP hw hK hc i pins s σ H E I hf st hg
    subst hP hw hK
    obtain ⟨hz, hTI, hTO, h1, h2⟩ := st
    obtain ⟨xs, ys, x, y, hqx, hqy, hx, hy⟩ := hg
    obtain ⟨its, rv, p, _⟩ := I.list hqx
    obtain ⟨its2, rv2, p2, _⟩ := I.tuple hqy
    obtain ⟨u, hu, ru⟩ := rv.get hx
    obtain ⟨u2, hu2, ru2⟩ := rv2.get hy
    have n1 : i < its.toArray.size := by have := (List.getElem?_eq_some_iff.mp hu).1; simpa using this
    have n2 : i < its2.toArray.size := by have := (List.getElem?_eq_some_iff.mp hu2).1; simpa using this
    refine thn ((GoesN.zip2 (elts := elts) (x1 := kk) (pos := tpos) S (Draws.list (prog := X.prog) (w := X.w) (A := X.A.in1) (I.ok.hd hc) i1 a h1a its.toArray) (Draws.tuple (prog := X.prog) (w := X.w) (A := X.A.in1) (I.ok.hd hc) i2 b h2b its2.toArray)).goes i s
      (fun v s2 => ∃ x H', Inv X pins σ H' s2 ∧ RelV x v ∧ (Izm X.K a b).yld i H x H' ∧ (IsZip s2.heap z TI TO .none ∧ IsTupOf2 s2.heap TI (.ref i1) (.ref i2) ∧ (∃ x y, IsTupOf2 s2.heap TO x y) ∧ s2.heap.IsListIter i1 a ((i + 1 : Nat) : Nat) ∧ s2.heap.IsTupleIter i2 b ((i + 1 : Nat) : Nat)) ∧ ∀ b ∈ [z, TI, TO, i1, i2], H' b = none) E (by rw [Nat.lt_min]; exact ⟨n1, n2⟩)
      ⟨hz, hTI, hTO, ⟨h1, p.isList⟩, ⟨h2, p2⟩⟩ fun v h' tk hY st' hk htk => ?_) fun r s1 h1 => h1
    obtain ⟨T, v1, v2, ev, hT, hv1, hv2, hTt⟩ := hY
    obtain ⟨hz', hTI', hTO', ⟨h1', _⟩, ⟨h2', _⟩⟩ := st'
    subst ev
    have e1 : v1 = u := by
      have e1 : its.toArray[i]? = some u := by simpa using hu
      rw [e1] at hv1; exact (Option.some.inj hv1).symm
    have e2 : v2 = u2 := by
      have e1 : its2.toArray[i]? = some u2 := by simpa using hu2
      rw [e1] at hv2; exact (Option.some.inj hv2).symm
    subst e1 e2
    obtain ⟨oT, hoT, hcT, hdT⟩ := hTt
    have new : ObjOk X.prog X.w (upd H T (.tup [x, y])) h' T (.tup [x, y]) :=
      ⟨by show 2 ≤ sizeLine; decide, [v1, v2], .cons ru (.cons ru2 .nil), ⟨oT, hoT, hcT, hdT⟩⟩
    have I1 : Inv X pins σ (upd H T (.tup [x, y])) { s with heap := h', toks := tk } :=
      I.turnedNew (ch := [z, TI, TO, i1, i2]) (fun c ob hb q => hk c ob (fun m => hb (by simp only [List.mem_cons, List.not_mem_nil, or_false] at m ⊢; rcases m with h | h | h | h <;> simp [h])) q) hf hT new
    refine ⟨.ref T, _, I1, rfl, ⟨_, x, y, rfl, I.hok.fresh hT, rfl, fun ys hy => by rw [I.list_inj hy hqx]; exact hx, fun ys hy' => by rw [I.tuple_inj hy' hqy]; exact hy⟩, ⟨hz', hTI', hTO', h1', h2'⟩, fun c hb => ?_⟩
    have hn := (hf c hb).1
    have hb' : c < s.heap.objs.size := by
      obtain ⟨x0, y0, hTO0⟩ := hTO
      obtain ⟨o1, e1, _⟩ := h1
      obtain ⟨o2, e2, _⟩ := h2
      have e' : c = z ∨ c = TI ∨ c = TO ∨ c = i1 ∨ c = i2 := by simpa using hb
      rcases e' with q | q | q | q | q
      · rw [q]; exact Heap.lt_size hz
      · rw [q]; exact Heap.lt_size hTI
      · rw [q]; exact Heap.lt_size hTO0
      · rw [q]; exact Heap.lt_size e1
      · rw [q]; exact Heap.lt_size e2
    rw [upd_ne (Nat.ne_of_lt (Nat.lt_of_lt_of_le hb' hT))]
    exact hn
  done := by
    intro X hP hw hK hc i pins s σ H E I hf st hg
    subst hP hw hK
    obtain ⟨hz, hTI, hTO, h1, h2⟩ := st
    obtain ⟨xs, ys, hqx, hqy, hi⟩ := hg
    obtain ⟨its, rv, p, _⟩ := I.list hqx
    obtain ⟨its2, rv2, p2, _⟩ := I.tuple hqy
    have l1 := rv.length
    have l2 := rv2.length
    have hsz : i = min its.toArray.size its2.toArray.size := by simp; omega
    refine (GoesN.zip2 (elts := elts) (x1 := kk) (pos := tpos) S (Draws.list (prog := X.prog) (w := X.w) (A := X.A.in1) (I.ok.hd hc) i1 a h1a its.toArray) (Draws.tuple (prog := X.prog) (w := X.w) (A := X.A.in1) (I.ok.hd hc) i2 b h2b its2.toArray)).stops s
      (fun s2 => Inv X pins σ H s2) E (by rw [← hsz]; exact ⟨hz, hTI, hTO, ⟨h1, p.isList⟩, ⟨h2, p2⟩⟩) fun h' tk hk htk => ?_
    exact I.turnedL (ch := [z, TI, TO, i1, i2]) (fun c ob hb q => hk c ob (fun m => hb (by simp only [List.mem_cons, List.not_mem_nil, or_false] at m ⊢; rcases m with h | h | h | h <;> simp [h])) q) hf
  self := fun A i s Q E st h => wpAny_pyIter_zip st.1 h
theorem walk_zipM {K : PySem.W.Frag} {a b : Addr} {xs ys : List V} {n : Nat} (hn : n = min xs.length ys.length) : Walk (Izm K a b) n (fun H => SqL K H a xs ∧ SqT K H b ys) (YPair (fun i => xs[i]?) (fun i => ys[i]?)) := by
  subst hn
  refine ⟨fun i _ hi q => ?_, fun _ q => ⟨xs, ys, q.1, q.2, rfl⟩, fun i H v H' _ q y => ?_⟩
  · have h1 : i < xs.length := by omega
    have h2 : i < ys.length := by omega
    exact ⟨xs, ys, xs[i], ys[i], q.1, q.2, by simp [h1], by simp [h2]⟩
  · obtain ⟨T, x, z, h1, h2, h3, h4, h5⟩ := y
    exact ⟨T, x, z, h1, h2, h3, h4 xs q.1, h5 ys q.2⟩
def iZipM (K : PySem.W.Frag) (ta : TA) : TI := fun σ H R => ta σ H fun vs H1 => ∃ a b xs ys, vs = [.ref a, .ref b] ∧ SqL K H1 a xs ∧ SqT K H1 b ys ∧ R (Izm K a b) H1
theorem pi_zipM {X : Cx} {e e2 : Expr} {ta : TA} {p pos tpos : Pos} {elts : List Expr} {kk : Nat} (hg : Gl X "zip") (hm : X.mg "zip" = none) (ha : PA X [e, e2] ta)
    (hs : starEach [e, e2] X.env = (false, eval e X.env) :: starEach [e2] X.env := by rfl) (hpl : (backTo pos (starEach [e2] X.env)).any (·.1) = false := by rfl) :
    PI X (.Tuple elts kk tpos) (.Call (.Name "zip" p) [e, e2] [] pos) (iZipM X.K ta) := by
  refine ⟨fun pins s σ H R I h => ?_⟩
  refine Call_ (ld_blt I hg hm PyProof.Rows.boot_zip (PyProof.Rows.callWith_type1 (thn (ha.run pos pins s σ H _ I h) fun us s1 ⟨vs, H1, I1, r1, q1⟩ => ?_) hs hpl))
  obtain ⟨a, b, xs, ys, ex, hqx, hqy, q⟩ := q1
  subst ex
  cases r1 with
  | cons r rr =>
    cases rr with
    | cons r' rr =>
      cases rr
      cases r
      cases r'
      obtain ⟨its, rv, p1, _⟩ := I1.list hqx
      obtain ⟨its2, rv2, p2, _⟩ := I1.tuple hqy
      have la : a < s1.heap.objs.size := p1.lt
      have lb : b < s1.heap.objs.size := p2.lt
      refine zip_begins2 (begins_list a its.toArray) (begins_tuple b its2.toArray) p1.isList p2 fun h' hz hTI hTO h1 h2 hsz hk => wpAny_pyIter_zip hz ?_
      have I2 : Inv X pins σ H1 { s1 with heap := h' } := I1.kept (t' := s1.toks) hk
      refine ⟨s1.heap.objs.size + 4, [s1.heap.objs.size + 4, s1.heap.objs.size + 2, s1.heap.objs.size + 3, s1.heap.objs.size, s1.heap.objs.size + 1], _, _, H1, rfl, I2, turn_zipM (zip_sep2 (fun c hc => by rw [List.mem_singleton.mp hc]; exact la) (fun c hc => by rw [List.mem_singleton.mp hc]; exact lb)) (Nat.ne_of_lt la) (Nat.ne_of_lt (Nat.lt_succ_of_lt lb)), ⟨hz, hTI, ⟨_, _, hTO⟩, ⟨_, h1, rfl, rfl⟩, ⟨_, h2, rfl, rfl⟩⟩, fun c hcm => ?_, q⟩
      have e' : c = s1.heap.objs.size + 4 ∨ c = s1.heap.objs.size + 2 ∨ c = s1.heap.objs.size + 3 ∨ c = s1.heap.objs.size ∨ c = s1.heap.objs.size + 1 := by simpa using hcm
      have hle : s1.heap.objs.size ≤ c := by
        rcases e' with z | z | z | z | z
        · rw [z]; exact Nat.le_add_right _ _
        · rw [z]; exact Nat.le_add_right _ _
        · rw [z]; exact Nat.le_add_right _ _
        · rw [z]; exact Nat.le_refl _
        · rw [z]; exact Nat.le_add_right _ _
      exact I1.fpOk hle (I1.hok.fresh hle)
end Vt
namespace Vt
open PySem PySem.Spec PyProof.Rows L2
/-! ### xs[lo:hi] = another list -/
def gSlSet (to : TE) (tl th : TO) : TG := fun v σ H Q => to σ H fun o H1 => tl σ H1 fun l H2 => th σ H2 fun u H3 => ∃ (a b : Addr) (xs ys : List V) (lo hi : Nat), o = .ref a ∧ v = .ref b ∧ l = some (lo : Int) ∧ u = some (hi : Int) ∧ H3 a = some (.lst xs) ∧ H3 b = some (.lst ys) ∧ a ≠ b ∧
  lo ≤ hi ∧ hi ≤ xs.length ∧ xs.length + ys.length ≤ sizeLine ∧ Q σ (upd H3 a (.lst (xs.take lo ++ ys ++ xs.drop hi)))
section
variable {X : Cx} {pos p2 : Pos} {o : Expr} {lo hi : Option Expr} {to : TE} {tl th : TO}
theorem pg_slset (ho : PE X o to) (hl : PO X lo tl) (hu : PO X hi th)
    (ha : ∀ v, assign (.Subscript o (.Slice lo hi none p2) pos) X.env v = (do
      let ov ← holding [v] (eval o X.env)
      let iv ← holding [v, ov] (eval (.Slice lo hi none p2) X.env)
      standAt pos
      holding [v, ov, iv] (setItem ov iv v)
      release [iv, v, ov] []) := by intro _; rfl) : PG X (.Subscript o (.Slice lo hi none p2) pos) (gSlSet to tl th) := by
  refine ⟨fun pins s σ H v u Q I r h => ?_⟩
  rw [ha]
  refine wpAny_bind (wpAny_holding (thn (ho.run pins s σ H _ I h) fun ov s1 ⟨x, H1, I1, r1, q1⟩ => ?_))
  refine wpAny_bind (wpAny_holding ?_)
  refine wpAny_Slice (thn (hl.run pins s1 σ H1 _ I1 q1) fun vl s2 ⟨l, H2, I2, pl, q2⟩ => thn (hu.run pins s2 σ H2 _ I2 q2) fun vu s3 ⟨w, H3, I3, pu, a, b, xs, ys, lo', hi', e1, e2, e3, e4, hx, hy, ne, l1, l2, hz, q⟩ => ?_)
  rw [evalPart_none]
  refine wpAny_pure ?_
  subst e1 e2 e3 e4
  obtain rfl : ov = Value.ref a := r1
  obtain rfl : u = Value.ref b := r
  have I4 : Inv X pins σ H3 { s3 with heap := s3.heap.push { cls := .type "slice", data := .fields #[vl, vu, .none] } } := I3.kept (t' := s3.toks) fun b ob q => Heap.get?_push_of_some _ q
  have ra : RelV (.int (lo' : Int)) vl := by cases pl; exact ⟨_, rfl⟩
  have rc : RelV (.int (hi' : Int)) vu := by cases pu; exact ⟨_, rfl⟩
  refine wpAny_bind (wpAny_standAt (wpAny_bind (wpAny_holding (set_slice (a := (lo' : Int)) (c := (hi' : Int)) I4 hx hy ne (Heap.IsSliceOf.new ..) ra rc (by omega) (by omega) (by omega) hz fun s' I' => ?_))))
  exact wpAny_release ⟨σ, _, I', by simpa using q⟩
end
end Vt
namespace Vt
open PySem PySem.Spec PyProof.Rows L2
/-! ### methods of an own class, and its making, by what they promise -/
structure MCallee (P : Program) (w : World) (K : PySem.W.Frag) (mg : Str → Option Value) (base : Heap) (C : Addr) (m : Str) (k : Nat) (sp : Sp) : Prop where
  ex : ∃ (f : Addr) (fd : FuncData) (ps : List Str), Cls K C ∧ Meth K C m f ∧ FnOk P w K mg base CX0 k f fd ps sp ∧ Binds K fd ps []
structure Maker (P : Program) (w : World) (K : PySem.W.Frag) (mg : Str → Option Value) (base : Heap) (x : Str) (C : Addr) (k : Nat) (sp : Sp) : Prop where
  ex : ∃ (f : Addr) (fd : FuncData) (ps : List Str), Mk K C f ∧ FnOk P w K mg base CX0 k f fd ps sp ∧ mg x = some (.ref C) ∧ Binds K fd ps []
section
variable {X : Cx} {x m : Str} {k j : Nat} {C : Addr} {sp : Sp} {p pos apos : Pos} {e o : Expr} {es : List Expr} {ta : TE} {t : TA}
theorem pe_mcal {pl : Sem Bool} (c : MCallee X.prog X.w X.K X.mg X.base C m k sp) (hr : Room j X.A) (hk : k ≤ j) (he : PE X o ta) (ha : PA X (e :: es) t)
    (hst : starEach (e :: es) X.env = (false, eval e X.env) :: starEach es X.env := by rfl) (hpl : (backTo pos (starEach es X.env)).any (·.1) = false := by rfl)
    (ht : eval (.Call (.Attribute o m apos) (e :: es) [] pos) X.env = (do
      let ov ← eval o X.env
      standAt apos.atName
      let (f, first) ← holding [ov] (getMethod ov m pl)
      callWith pos f first (backTo pos (starEach (e :: es) X.env)) (backToKw pos (keywordEach [] X.env))) := by rfl) :
    PE X (.Call (.Attribute o m apos) (e :: es) [] pos) (tMeth C m sp [] E0 ta t) := by
  obtain ⟨f, fd, ps, hc, hm, F, b⟩ := c.ex
  exact pe_meth (pl := pl) he hc hm F (hr.mono hk) b .nil pass0 ha hst hpl ht
theorem pe_mcal0 {pl : Sem Bool} (c : MCallee X.prog X.w X.K X.mg X.base C m k sp) (hr : Room j X.A) (hk : k ≤ j) (he : PE X o ta)
    (ht : eval (.Call (.Attribute o m apos) [] [] pos) X.env = (do
      let ov ← eval o X.env
      standAt apos.atName
      let (f, first) ← holding [ov] (getMethod ov m pl)
      callWith pos f first (backTo pos (starEach [] X.env)) (backToKw pos (keywordEach [] X.env))) := by rfl) :
    PE X (.Call (.Attribute o m apos) [] [] pos) (tMeth C m sp [] E0 ta tNil) := by
  obtain ⟨f, fd, ps, hc, hm, F, b⟩ := c.ex
  exact pe_meth0 (pl := pl) he hc hm F (hr.mono hk) b .nil pass0 ht
theorem pe_mkc (c : Maker X.prog X.w X.K X.mg X.base x C k sp) (hr : Room j X.A) (hk : k + 1 ≤ j) (ha : PA X (e :: es) t) (hg : Gl X x := by rfl)
    (hdb : (x == ("__debug__" : Str)) = false := by decide) (he : starEach (e :: es) X.env = (false, eval e X.env) :: starEach es X.env := by rfl) (hpl : (backTo pos (starEach es X.env)).any (·.1) = false := by rfl) :
    PE X (.Call (.Name x p) (e :: es) [] pos) (tMake C sp [] E0 t) := by
  obtain ⟨f, fd, ps, M, F, hm, b⟩ := c.ex
  exact pe_make M F (hr.mono hk) hg hm b .nil pass0 ha hdb he hpl
end
end Vt
namespace Vt
open PySem PySem.Spec PyProof.Rows L2
/-! ### match over tuples that begin with a text -/
def capPats : List (Str × Pos) → List Pattern
  | [] => []
  | (x, p) :: r => .MatchAs none (some x) p :: capPats r
theorem capPats_length : ∀ cs : List (Str × Pos), (capPats cs).length = cs.length
  | [] => rfl
  | _ :: r => by rw [capPats, List.length_cons, List.length_cons, capPats_length r]
theorem capPats_star : ∀ cs : List (Str × Pos), (capPats cs).findIdx? (·.isStar) = none
  | [] => rfl
  | _ :: r => by rw [capPats, List.findIdx?_cons, capPats_star r]; rfl
theorem each_caps {M : Model} {A : Around} {E : Value → Shared → Prop} {env : Env} : ∀ (cs : List (Str × Pos)) (us : List Value) (s : Shared) (Q : Option (List (Str × Value)) → Shared → Prop), us.length = cs.length → Q (some ((cs.map (·.1)).zip us)) s →
    wpAny M A (matchEach (capPats cs) env us) Q E s
  | [], us, s, Q, hl, h => by
    cases us with
    | nil => exact wpAny_matchEach_nil h
    | cons u r => simp at hl
  | (x, p) :: r, us, s, Q, hl, h => by
    cases us with
    | nil => simp at hl
    | cons u us =>
      refine wpAny_matchEach_cons (p := .MatchAs none (some x) p) (wpAny_matchPattern_Capture ?_)
      refine each_caps r us s _ (by simpa using hl) ?_
      exact h
def bindAll : L2.St → List Nat → List V → L2.St
  | σ, i :: is, x :: xs => bindAll (σ.set i (some x)) is xs
  | σ, _, _ => σ
/-- how the caught names stand in their places -/
inductive Slots (X : Cx) : List (Str × Pos) → List Nat → Prop
  | nil : Slots X [] []
  | cons {x : Str} {p : Pos} {i : Nat} {cs : List (Str × Pos)} {is : List Nat} : X.N[i]? = some x → X.env.scope.names.lookup x = some .local → Slots X cs is → Slots X ((x, p) :: cs) (i :: is)
theorem store_caps {X : Cx} {pins : List (Addr × Obj)} {H : Hp} (hN : X.N.Nodup) : ∀ {cs : List (Str × Pos)} {is : List Nat} (_ : Slots X cs is) (xs : List V) (us : List Value) (σ : L2.St) (s : Shared) (Q : Unit → Shared → Prop), Inv X pins σ H s → Vals xs us → xs.length = cs.length →
    (∀ s', Inv X pins (bindAll σ is xs) H s' → Q () s') → wpAny (model X.prog X.w) X.A (assignInOrder ((((cs.map (·.1)).zip us).map fun (n, _) => bindName X.env n)) (((cs.map (·.1)).zip us).map (·.2))) Q X.xe s
  | _, _, .nil, xs, us, σ, s, Q, I, r, hl, h => by
    cases r with
    | nil => exact wpAny_assignInOrder_none (h s I)
    | cons r1 rr => simp at hl
  | _, _, .cons (x := x) hi hx sl, xs, us, σ, s, Q, I, r, hl, h => by
    cases r with
    | nil => simp at hl
    | cons r1 rr =>
      refine wpAny_assignInOrder_more (wpAny_bindName (store_ok I hN hi (.inl hx) r1 (fun s' I' => ?_) (.inr hx)))
      exact store_caps hN sl _ _ _ s' Q I' rr (by simpa using hl) h
structure PCases (X : Cx) (cs : List MatchCase) (t : V → TS) : Prop where
  run : ∀ (first : Bool) (pins : List (Addr × Obj)) (s : Shared) (σ : L2.St) (H : Hp) (D : Ends) (v : V) (u : Value), Inv X pins σ H s → RelV v u → t v D σ H → wpAny (model X.prog X.w) X.A (matchCases cs X.env u first) (SP X pins D) X.xe s
def tCaseNil : V → TS := fun _ D σ H => D.nx σ H
theorem pc_nil {X : Cx} : PCases X [] tCaseNil := ⟨fun _ _ s σ H D _ _ I _ h => wpAny_matchCases_nil ⟨σ, H, I, h⟩⟩
def tCase (K : PySem.W.Frag) (wd : Str) (is : List Nat) (tb : TS) (tr : V → TS) : V → TS := fun v D σ H => ∃ a z xs, v = .ref a ∧ SqT K H a (.str z :: xs) ∧
  ((z = wd ∧ xs.length = is.length ∧ tb D (bindAll σ is xs) H) ∨ (¬ (z = wd ∧ xs.length = is.length) ∧ tr v D σ H))
theorem str_eq_iff {a b : Str} : (a.cps.toList == b.cps.toList) = decide (a = b) := by
  by_cases e : a = b
  · subst e; simp
  · have h : ¬ a.cps.toList = b.cps.toList := fun q => e (by
      cases a; cases b
      simp only [Str.mk.injEq]
      exact Array.toList_inj.mp q)
    rw [decide_eq_false e]
    exact beq_eq_false_iff_ne.mpr h
theorem pc_case {X : Cx} {wd : Str} {j : Nat} {p1 p2 p3 : Pos} {cs : List (Str × Pos)} {is : List Nat} {body : List Stmt} {rest : List MatchCase} {tb : TS} {tr : V → TS} (hc : X.calm = true) (hN : X.N.Nodup) (sl : Slots X cs is) (hl : cs.length = is.length) (hb : PSs X body tb) (hr : PCases X rest tr) :
    PCases X (⟨.MatchSequence (.MatchValue (.Constant (.str wd) j p1) p2 :: capPats cs) p3, none, body⟩ :: rest) (tCase X.K wd is tb tr) := by
  refine ⟨fun first pins s σ H D v u I rv h => ?_⟩
  obtain ⟨a, z, xs, ev, hq, h⟩ := h
  subst ev
  cases rv
  obtain ⟨its, rvs, ht, hz⟩ := I.tuple hq
  have hlen : its.length = xs.length + 1 := by rw [← rvs.length]; rfl
  have hsz : its.toArray.size = xs.length + 1 := by simp [hlen]
  have hfit : (its.toArray.size : Int) < 2 ^ 63 := by
    have : (sizeLine : Int) < 2 ^ 63 := by decide
    have h2 : xs.length + 1 ≤ sizeLine := by simpa using hz
    rw [hsz]; omega
  have hpl : (Pattern.MatchValue (.Constant (.str wd) j p1) p2 :: capPats cs).length = is.length + 1 := by rw [List.length_cons, capPats_length, hl]
  have hstar : (Pattern.MatchValue (.Constant (.str wd) j p1) p2 :: capPats cs).findIdx? (·.isStar) = none := by
    rw [List.findIdx?_cons, capPats_star]; rfl
  have hwild : ((Pattern.MatchValue (.Constant (.str wd) j p1) p2 :: capPats cs).all fun p => p.isWildcard || (p.isStar && p.names.isEmpty)) = false := by
    rw [List.all_cons]; rfl
  have miss : ∀ tk, ¬ (z = wd ∧ xs.length = is.length) → wpAny (model X.prog X.w) X.A (matchCases rest X.env (.ref a) false) (SP X pins D) X.xe { s with toks := tk } := fun tk hn => by
    rcases h with ⟨e1, e2, _⟩ | ⟨_, q⟩
    · exact absurd ⟨e1, e2⟩ hn
    · exact hr.run false pins _ σ H D (.ref a) _ (I.tok tk) rfl q
  refine wpAny_matchCases_cons ?_
  by_cases hn : xs.length = is.length
  · refine matchSeq_tuple_hit ht hfit (by rw [hsz, hpl, hn]) ?_ hstar hwild
    have en : (Pattern.MatchValue (.Constant (.str wd) j p1) p2 :: capPats cs).length = its.toArray.size := by rw [hpl, hsz, hn]
    rw [en]
    refine unpackItems_tuple (s := { s with toks := s.toks + 1 + 1 }) (I.ok.hd hc) ht fun h' hx => ?_
    have hk : ∀ b o, s.heap.get? b = some o → h'.get? b = some o := fun b o e => hx b o (Nat.ne_of_lt (Heap.lt_size e)) e
    have I1 : Inv X pins σ H { s with heap := h', toks := s.toks + 1 + 1 } := I.kept hk
    cases rvs with
    | cons r0 rr =>
      rename_i u0 us
      obtain ⟨t0, rfl⟩ := r0
      refine wpAny_matchEach_cons (p := .MatchValue (.Constant (.str wd) j p1) p2) (wpAny_matchPattern_Value ?_)
      refine Calls.Constant_str ?_
      refine PyProof.Rows.eq_str ?_
      rw [show (z == wd) = decide (z = wd) from rfl]
      refine wpAny_truthy_bool ?_
      by_cases e : z = wd
      · rw [decide_eq_true e]
        have hul : us.length = cs.length := by
          have := rr.length
          omega
        refine each_caps cs us _ _ hul ?_
        simp only [List.nil_append]
        refine store_caps hN sl xs us σ _ _ (I1.tok _) rr (by omega) fun s' I' => ?_
        rcases h with ⟨_, _, q⟩ | ⟨q, _⟩
        · exact hb.run pins s' _ H D I' q
        · exact absurd ⟨e, hn⟩ q
      · rw [decide_eq_false e]
        have q := hr.run false pins
        rcases h with ⟨e1, _, _⟩ | ⟨_, q⟩
        · exact absurd e1 e
        · exact hr.run false pins _ σ H D (.ref a) _ (I1.tok _) rfl q
  · refine matchSeq_tuple_miss ht hfit (by rw [hsz, hpl]; omega) ?_ hstar hwild
    exact miss _ fun q => hn q.2
def tMatch (te : TE) (t : V → TS) : TS := fun D σ H => te σ H fun v H1 => t v D σ H1
theorem ps_match {X : Cx} {e : Expr} {cs : List MatchCase} {pos : Pos} {te : TE} {t : V → TS} (he : PE X e te) (hc : PCases X cs t) : PS X (.Match e cs pos) (tMatch te t) := by
  refine ⟨fun pins s σ H D I h => ?_⟩
  exact wpAny_Match (thn (he.run pins s σ H _ I h) fun u s1 ⟨v, H1, I1, r, q⟩ => hc.run true pins s1 σ H1 D v u I1 r q)
section
variable {X : Cx} {wd x0 x1 x2 : Str} {j : Nat} {p1 p2 p3 q0 q1 q2 : Pos} {body : List Stmt} {rest : List MatchCase} {tb : TS} {tr : V → TS}
theorem pc_seq0 (hN : X.N.Nodup) (hb : PSs X body tb) (hr : PCases X rest tr) (hc : X.calm = true := by rfl) :
    PCases X (⟨.MatchSequence [.MatchValue (.Constant (.str wd) j p1) p2] p3, none, body⟩ :: rest) (tCase X.K wd [] tb tr) := pc_case (cs := []) hc hN .nil rfl hb hr
theorem pc_seq1 {i0 : Nat} (hN : X.N.Nodup) (hb : PSs X body tb) (hr : PCases X rest tr) (hc : X.calm = true := by rfl) (h0 : X.N[i0]? = some x0 := by rfl) (l0 : X.env.scope.names.lookup x0 = some .local := by rfl) :
    PCases X (⟨.MatchSequence [.MatchValue (.Constant (.str wd) j p1) p2, .MatchAs none (some x0) q0] p3, none, body⟩ :: rest) (tCase X.K wd [i0] tb tr) :=
  pc_case (cs := [(x0, q0)]) hc hN (.cons h0 l0 .nil) rfl hb hr
theorem pc_seq2 {i0 i1 : Nat} (hN : X.N.Nodup) (hb : PSs X body tb) (hr : PCases X rest tr) (hc : X.calm = true := by rfl) (h0 : X.N[i0]? = some x0 := by rfl) (l0 : X.env.scope.names.lookup x0 = some .local := by rfl) (h1 : X.N[i1]? = some x1 := by rfl) (l1 : X.env.scope.names.lookup x1 = some .local := by rfl) :
    PCases X (⟨.MatchSequence [.MatchValue (.Constant (.str wd) j p1) p2, .MatchAs none (some x0) q0, .MatchAs none (some x1) q1] p3, none, body⟩ :: rest) (tCase X.K wd [i0, i1] tb tr) :=
  pc_case (cs := [(x0, q0), (x1, q1)]) hc hN (.cons h0 l0 (.cons h1 l1 .nil)) rfl hb hr
end
end Vt
namespace Vt
open PySem PySem.Spec PyProof.Rows L2
/-! ### word, *numbers = tuple -/
section
variable {prog : Program} {w : World} {A : Around} {E : Value → Shared → Prop} {s : Shared} {env : Env}
theorem star_tuple {l : Addr} {items : Array Value} {n i : Nat} {first mids lasts : List Value} {Q : List Value → Shared → Prop} (hl : IsTup s.heap l items) (hh : A.handled = none) (hi : i < n) (hn : n ≤ items.size + 1) (hz : items.size ≤ 16384)
    (h1 : items.toList.take i = first) (h2 : (items.toList.drop i).take (items.size + 1 - n) = mids) (h3 : (items.toList.drop i).drop (items.size + 1 - n) = lasts)
    (h : ∀ (h₂ : Heap) (tk : Nat), (∀ b o, s.heap.get? b = some o → h₂.get? b = some o) → Q (first ++ [.ref h₂.objs.size] ++ lasts) { s with heap := h₂.push { cls := .type "list", data := .seq mids.toArray }, toks := tk }) : wpAny (model prog w) A (unpackItems (.ref l) n (some i)) Q E s := by
  subst h1 h2 h3
  have hlt : l ≠ s.heap.objs.size := by obtain ⟨o, ho, _⟩ := hl; exact Nat.ne_of_lt (Heap.lt_size ho)
  have hll : l < s.heap.objs.size := by obtain ⟨o, ho, _⟩ := hl; exact Heap.lt_size ho
  unfold unpackItems
  refine wpAny_bind ?_
  unfold notIterableAtAll
  refine wpAny_bind (wpAny_specialOf hl.typeIs slot_tuple_iter.lookup ?_)
  refine wpAny_pure ?_
  simp only [Bool.false_eq_true, if_false]
  refine wpAny_bind (wpAny_holding (iter_tuple hl ?_))
  refine wpAny_bind (wpAny_holding (draw_tuple hlt i 0 _ _ ⟨_, Heap.get?_push_size _ rfl, rfl, rfl⟩ (hl.push _) (by omega) fun h₁ hit₁ hs₁ => ?_))
  have hl₁ : IsTup h₁ l items := (hl.push _).extBut hs₁.extBut hlt
  rw [Nat.zero_add] at hit₁
  have hit₁' := hit₁
  obtain ⟨oi, hoi, _⟩ := hit₁'
  have hl₁' := hl₁
  obtain ⟨ol, hol, _⟩ := hl₁'
  rw [List.drop_zero]
  have hfl : (items.toList.take i).length = i := by rw [List.length_take, Array.length_toList]; omega
  rw [if_neg (show ¬ ((items.toList.take i).length < i) by rw [hfl]; omega)]
  refine wpAny_bind (wpAny_holding (PySem.W.kun_collect (s := { s with heap := h₁ }) (T := "tuple_iterator") (.inr (.inr (.inr rfl))) (Walks.tuple (A := A.in1) hh s.heap.objs.size l hlt items) (fun j u st => st.1.typeIs) (k := i) (by omega) ⟨hit₁, hl₁⟩ (Heap.lt_size hoi) (Heap.lt_size hol) (fun h₂ tk hk => ?_) (by rw [sizeLine_eq]; omega)))
  have hrl : (items.toList.drop i).length = items.size - i := by rw [List.length_drop, Array.length_toList]
  have hmid : (items.toList.drop i).length - (n - 1 - i) = items.size + 1 - n := by rw [hrl]; omega
  show wpAny _ _ (if (items.toList.drop i).length < n - 1 - i then _ else _) _ _ _
  rw [if_neg (by rw [hrl]; omega)]
  show wpAny _ _ (newList ((items.toList.drop i).take ((items.toList.drop i).length - (n - 1 - i))) >>= fun d => pure (items.toList.take i ++ [d] ++ (items.toList.drop i).drop ((items.toList.drop i).length - (n - 1 - i)))) _ _ _
  rw [hmid]
  have he : Heap.ExtBut s.heap.objs.size s.heap h₂ := fun b o hb e => hk b o hb (hs₁.extBut b o hb (Heap.get?_push_of_some _ e))
  exact wpAny_bind (wpAny_newList (s := { s with heap := h₂, toks := tk }) (wpAny_pure (h h₂ tk fun b o e => he b o (Nat.ne_of_lt (Heap.lt_size e)) e)) (by rw [List.length_take, hrl, sizeLine_eq]; omega))
end
def gStar (K : PySem.W.Frag) (i j : Nat) : TG := fun v σ H Q => ∃ a x xs, v = .ref a ∧ SqT K H a (x :: xs) ∧ xs.length ≤ 1000 ∧ ∀ p, H p = none → Q ((σ.set i (some x)).set j (some (.ref p))) (upd H p (.lst xs))
theorem pg_star {X : Cx} {i j : Nat} {x y : Str} {px py ps pos : Pos} {k : Nat} (hc : X.calm = true) (hN : X.N.Nodup) (hi : X.N[i]? = some x) (hj : X.N[j]? = some y) (hx : X.env.scope.names.lookup x = some .local) (hy : X.env.scope.names.lookup y = some .local) :
    PG X (.Tuple [.Name x px, .Starred (.Name y py) ps] k pos) (gStar X.K i j) := by
  refine ⟨fun pins s σ H v u Q I r h => ?_⟩
  obtain ⟨a, z, xs, ev, hq, hl, h⟩ := h
  subst ev
  cases r
  obtain ⟨its, rvs, ht, hz⟩ := I.tuple hq
  have hlen : its.length = xs.length + 1 := by rw [← rvs.length]; rfl
  cases rvs with
  | cons r0 rr =>
    rename_i u0 us
    have hus : us.length = xs.length := rr.length.symm
    rw [assign_Tuple]
    refine wpAny_bind (wpAny_standAt ?_)
    unfold unpack
    have e1 : (assignEach [.Name x px, .Starred (.Name y py) ps] X.env).length = 2 := rfl
    have e2 : (assignEach [.Name x px, .Starred (.Name y py) ps] X.env).findIdx? (·.1) = some 1 := rfl
    rw [e1, e2]
    refine wpAny_bind (wpAny_holding (star_tuple (first := [u0]) (mids := us) (lasts := []) ht (I.ok.hd hc) (by decide) (by simp) (by simp; omega) rfl (by simp) (by simp) fun h₂ tk hk => ?_))
    have I2 : Inv X pins σ H { s with heap := h₂, toks := tk } := I.kept hk
    have hn : H h₂.objs.size = none := I2.hok.fresh (Nat.le_refl _)
    have hz2 : xs.length ≤ sizeLine := Nat.le_trans hl (by decide)
    have I1 : Inv X pins σ (upd H h₂.objs.size (.lst xs)) { s with heap := h₂.push { cls := .type "list", data := .seq us.toArray }, toks := tk } :=
      I2.laid (t' := tk) (fun b u e => Heap.get?_push_of_some _ e) (Nat.le_refl _) ⟨hz2, us, 0, rr, Heap.get?_push_size _ rfl⟩
    show wpAny _ _ (assignInOrder [assign (.Name x px) X.env, assign (.Name y py) X.env] [u0, .ref h₂.objs.size]) _ _ _
    refine assignInOrder_cons (thn ((pg_name (pos := px) hN hi (.inl hx) (.inr hx)).run pins _ σ _ z u0 (fun σ1 H1 => σ1 = σ.set i (some z) ∧ H1 = upd H h₂.objs.size (.lst xs)) I1 r0 ⟨rfl, rfl⟩) fun _ s1 ⟨σ1, H1, I3, e3, e4⟩ => ?_)
    subst e3 e4
    refine assignInOrder_cons (thn ((pg_name (pos := py) hN hj (.inl hy) (.inr hy)).run pins _ _ _ (.ref h₂.objs.size) _ Q I3 rfl (h _ hn)) fun _ s2 q => ?_)
    exact wpAny_assignInOrder_none q
end Vt
namespace Vt
open PySem PySem.Spec PyProof.Rows L2
/-! ### word, *words = list -/
section
variable {prog : Program} {w : World} {A : Around} {E : Value → Shared → Prop} {s : Shared} {env : Env}
theorem star_list {l : Addr} {items : Array Value} {n i : Nat} {first mids lasts : List Value} {Q : List Value → Shared → Prop} (hl : s.heap.IsList l items) (hh : A.handled = none) (hi : i < n) (hn : n ≤ items.size + 1) (hz : items.size ≤ 16384)
    (h1 : items.toList.take i = first) (h2 : (items.toList.drop i).take (items.size + 1 - n) = mids) (h3 : (items.toList.drop i).drop (items.size + 1 - n) = lasts)
    (h : ∀ (h₂ : Heap) (tk : Nat), (∀ b o, s.heap.get? b = some o → h₂.get? b = some o) → Q (first ++ [.ref h₂.objs.size] ++ lasts) { s with heap := h₂.push { cls := .type "list", data := .seq mids.toArray }, toks := tk }) : wpAny (model prog w) A (unpackItems (.ref l) n (some i)) Q E s := by
  subst h1 h2 h3
  have hlt : l ≠ s.heap.objs.size := by obtain ⟨o, ho, _⟩ := hl; exact Nat.ne_of_lt (Heap.lt_size ho)
  have hll : l < s.heap.objs.size := by obtain ⟨o, ho, _⟩ := hl; exact Heap.lt_size ho
  unfold unpackItems
  refine wpAny_bind ?_
  unfold notIterableAtAll
  refine wpAny_bind (wpAny_specialOf hl.typeIs slot_list_iter.lookup ?_)
  refine wpAny_pure ?_
  simp only [Bool.false_eq_true, if_false]
  refine wpAny_bind (wpAny_holding (wpAny_pyIter_list hl ?_))
  refine wpAny_bind (wpAny_holding (PySem.W.kun_draw hlt i 0 _ _ ⟨_, Heap.get?_push_size _ rfl, rfl, rfl⟩ (hl.push _) (by omega) fun h₁ hit₁ hs₁ => ?_))
  have hl₁ : h₁.IsList l items := (hl.push _).extBut hs₁.extBut hlt
  rw [Nat.zero_add] at hit₁
  have hit₁' := hit₁
  obtain ⟨oi, hoi, _⟩ := hit₁'
  have hl₁' := hl₁
  obtain ⟨ol, hol, _⟩ := hl₁'
  rw [List.drop_zero]
  have hfl : (items.toList.take i).length = i := by rw [List.length_take, Array.length_toList]; omega
  rw [if_neg (show ¬ ((items.toList.take i).length < i) by rw [hfl]; omega)]
  refine wpAny_bind (wpAny_holding (PySem.W.kun_collect (s := { s with heap := h₁ }) (T := "list_iterator") (.inr (.inr (.inl rfl))) (Walks.list (A := A.in1) hh s.heap.objs.size l hlt items) (fun j u st => st.1.typeIs) (k := i) (by omega) ⟨hit₁, hl₁⟩ (Heap.lt_size hoi) (Heap.lt_size hol) (fun h₂ tk hk => ?_) (by rw [sizeLine_eq]; omega)))
  have hrl : (items.toList.drop i).length = items.size - i := by rw [List.length_drop, Array.length_toList]
  have hmid : (items.toList.drop i).length - (n - 1 - i) = items.size + 1 - n := by rw [hrl]; omega
  show wpAny _ _ (if (items.toList.drop i).length < n - 1 - i then _ else _) _ _ _
  rw [if_neg (by rw [hrl]; omega)]
  show wpAny _ _ (newList ((items.toList.drop i).take ((items.toList.drop i).length - (n - 1 - i))) >>= fun d => pure (items.toList.take i ++ [d] ++ (items.toList.drop i).drop ((items.toList.drop i).length - (n - 1 - i)))) _ _ _
  rw [hmid]
  have he : Heap.ExtBut s.heap.objs.size s.heap h₂ := fun b o hb e => hk b o hb (hs₁.extBut b o hb (Heap.get?_push_of_some _ e))
  exact wpAny_bind (wpAny_newList (s := { s with heap := h₂, toks := tk }) (wpAny_pure (h h₂ tk fun b o e => he b o (Nat.ne_of_lt (Heap.lt_size e)) e)) (by rw [List.length_take, hrl, sizeLine_eq]; omega))
end
def gStarL (K : PySem.W.Frag) (i j : Nat) : TG := fun v σ H Q => ∃ a x xs, v = .ref a ∧ SqL K H a (x :: xs) ∧ xs.length ≤ 1000 ∧ ∀ p, H p = none → Q ((σ.set i (some x)).set j (some (.ref p))) (upd H p (.lst xs))
theorem pg_starL {X : Cx} {i j : Nat} {x y : Str} {px py ps pos : Pos} {k : Nat} (hc : X.calm = true) (hN : X.N.Nodup) (hi : X.N[i]? = some x) (hj : X.N[j]? = some y) (hx : X.env.scope.names.lookup x = some .local) (hy : X.env.scope.names.lookup y = some .local) :
    PG X (.Tuple [.Name x px, .Starred (.Name y py) ps] k pos) (gStarL X.K i j) := by
  refine ⟨fun pins s σ H v u Q I r h => ?_⟩
  obtain ⟨a, z, xs, ev, hq, hl, h⟩ := h
  subst ev
  cases r
  obtain ⟨its, rvs, ⟨oo, nn, ho1, ho2, _, ho3⟩, hz⟩ := I.list hq
  have ht : s.heap.IsList a its.toArray := ⟨oo, ho1, ho2, nn, ho3⟩
  have hlen : its.length = xs.length + 1 := by rw [← rvs.length]; rfl
  cases rvs with
  | cons r0 rr =>
    rename_i u0 us
    have hus : us.length = xs.length := rr.length.symm
    rw [assign_Tuple]
    refine wpAny_bind (wpAny_standAt ?_)
    unfold unpack
    have e1 : (assignEach [.Name x px, .Starred (.Name y py) ps] X.env).length = 2 := rfl
    have e2 : (assignEach [.Name x px, .Starred (.Name y py) ps] X.env).findIdx? (·.1) = some 1 := rfl
    rw [e1, e2]
    refine wpAny_bind (wpAny_holding (star_list (first := [u0]) (mids := us) (lasts := []) ht (I.ok.hd hc) (by decide) (by simp) (by simp; omega) rfl (by simp) (by simp) fun h₂ tk hk => ?_))
    have I2 : Inv X pins σ H { s with heap := h₂, toks := tk } := I.kept hk
    have hn : H h₂.objs.size = none := I2.hok.fresh (Nat.le_refl _)
    have hz2 : xs.length ≤ sizeLine := Nat.le_trans hl (by decide)
    have I1 : Inv X pins σ (upd H h₂.objs.size (.lst xs)) { s with heap := h₂.push { cls := .type "list", data := .seq us.toArray }, toks := tk } :=
      I2.laid (t' := tk) (fun b u e => Heap.get?_push_of_some _ e) (Nat.le_refl _) ⟨hz2, us, 0, rr, Heap.get?_push_size _ rfl⟩
    show wpAny _ _ (assignInOrder [assign (.Name x px) X.env, assign (.Name y py) X.env] [u0, .ref h₂.objs.size]) _ _ _
    refine assignInOrder_cons (thn ((pg_name (pos := px) hN hi (.inl hx) (.inr hx)).run pins _ σ _ z u0 (fun σ1 H1 => σ1 = σ.set i (some z) ∧ H1 = upd H h₂.objs.size (.lst xs)) I1 r0 ⟨rfl, rfl⟩) fun _ s1 ⟨σ1, H1, I3, e3, e4⟩ => ?_)
    subst e3 e4
    refine assignInOrder_cons (thn ((pg_name (pos := py) hN hj (.inl hy) (.inr hy)).run pins _ _ _ (.ref h₂.objs.size) _ Q I3 rfl (h _ hn)) fun _ s2 q => ?_)
    exact wpAny_assignInOrder_none q
end Vt
namespace Vt
open PySem PySem.Spec PyProof.Rows L2
/-! ### d.get(x), d a written dict of text keys -/
def tKGet (K : PySem.W.Frag) (w : World) (td ty : TE) : TE := fun σ H Q => td σ H fun x H1 => ∃ a, x = .ref a ∧ (a == sysModules) = false ∧ (∃ es n, K.lookup a = some ⟨.type "dict", none, .dict es n, #[]⟩ ∧ PySem.W.KeysLit w.params es.toList) ∧
  ty σ H1 fun y H2 => ∃ z, y = .str z ∧ ((∃ v, KDct K w a z v ∧ Q v H2) ∨ (KMiss K w a z ∧ Q .non H2))
section
variable {X : Cx} {o e : Expr} {apos cpos : Pos} {td ty : TE}
theorem pe_kget (ho : PE X o td) (he : PE X e ty) (m : M1 X o "get" apos e cpos) : PE X (.Call (.Attribute o "get" apos) [e] [] cpos) (tKGet X.K X.w td ty) := by
  refine ⟨fun pins s σ H Q I h => ?_⟩
  refine wpAny_Call_method m.base m.few m.line PySem.F.plainAttrs_dict PySem.F.slot_dict_get PySem.F.type_dict_get (thn (ho.run pins s σ H _ I h) fun u s1 ⟨x, H1, I1, rx, a, ex, hs, ⟨es, n, hl, hk⟩, q1⟩ => ?_)
  subst ex
  obtain rfl : u = Value.ref a := rx
  have hm := PySem.W.mapOf_K (prog := X.prog) (w := X.w) I1.kIn hl hk
  refine ⟨hm.typeIs, fun b q => ⟨_, I1.kIn _ _ (by cases q; exact hl), rfl⟩, ?_⟩
  rw [m.trees]
  refine Calls.callWith_builtin rfl (Calls.evalArgs_plain (Calls.spliced_cons (thn (he.run pins s1 σ H1 _ I1 q1) fun iv s2 ⟨y, H2, I2, ry, z, ey, q2⟩ => Calls.spliced_nil ?_)))
  subst ey
  obtain ⟨t, rfl⟩ := (show ∃ t, iv = Value.str z t from ry)
  have hm2 := PySem.W.mapOf_K (prog := X.prog) (w := X.w) I2.kIn hl hk
  refine call_meetsIn PySem.F.slot_dict_get hm2.typeIs PySem.F.entry_dict_get (PySem.F.args_dict_get_2 _ _) (meets_dict_get (strKind X.prog X.w) a (strKind_is X.prog X.w z t) hs) ⟨_, hm2, ?_⟩
  rcases q2 with ⟨v, ⟨es', n', u0, hl', hk', e', ru⟩, q2⟩ | ⟨⟨es', n', hl', hk', _, e'⟩, q2⟩
  · rw [hl] at hl'
    cases hl'
    exact ⟨v, H2, I2.tok _, by rw [PySem.W.find_K hl e']; exact ru, q2⟩
  · rw [hl] at hl'
    cases hl'
    exact ⟨.non, H2, I2.tok _, by rw [PySem.W.find_K hl e']; rfl, q2⟩
end
end Vt
namespace Vt
open PySem PySem.Spec PyProof.Rows L2
/-! ### the heap's small words -/
theorem sqA_l {K : PySem.W.Frag} {H : Hp} {a : Addr} {xs : List V} (h : H a = some (.lst xs)) : SqA K H a xs := .inl (.inl (.inl h))
theorem sqA_t {K : PySem.W.Frag} {H : Hp} {a : Addr} {xs : List V} (h : H a = some (.tup xs)) : SqA K H a xs := .inr (.inl (.inl h))
theorem sqL_l {K : PySem.W.Frag} {H : Hp} {a : Addr} {xs : List V} (h : H a = some (.lst xs)) : SqL K H a xs := .inl (.inl h)
theorem sqT_t {K : PySem.W.Frag} {H : Hp} {a : Addr} {xs : List V} (h : H a = some (.tup xs)) : SqT K H a xs := .inl (.inl h)
theorem same_new {H : Hp} {p : Addr} {o : HO} (h : H p = none) : Same H (upd H p o) := fun b x e => by
  rw [upd_ne (ne_of_none e h)]
  exact e
theorem Same.sqT {K : PySem.W.Frag} {H H' : Hp} {a : Addr} {xs : List V} (e : Same H H') (h : SqT K H a xs) : SqT K H' a xs := by
  rcases h with (h | ⟨o, h⟩) | h
  · exact .inl (.inl (e _ _ h))
  · exact .inl (.inr ⟨o, e _ _ h⟩)
  · exact .inr h
/-- all that was tracked stands but for these -/
def But (B : List Addr) (H H' : Hp) : Prop := ∀ c o, c ∉ B → H c = some o → H' c = some o
theorem But.refl {B : List Addr} {H : Hp} : But B H H := fun _ _ _ h => h
theorem But.trans {B : List Addr} {H H1 H2 : Hp} (a : But B H H1) (b : But B H1 H2) : But B H H2 := fun c o n h => b c o n (a c o n h)
theorem Same.but {B : List Addr} {H H' : Hp} (a : Same H H') : But B H H' := fun c o _ h => a c o h
theorem But.set {B : List Addr} {H : Hp} {p : Addr} {o : HO} (h : p ∈ B) : But B H (upd H p o) := fun c u n e => by
  rw [upd_ne (fun q => n (by rw [q]; exact h))]; exact e
theorem But.same {H H' : Hp} (a : But [] H H') : Same H H' := fun c o h => a c o (by simp) h
theorem But.mono {B B' : List Addr} {H H' : Hp} (a : But B H H') (h : ∀ b ∈ B, b ∈ B') : But B' H H' := fun c o n e => a c o (fun m => n (h c m)) e
/-- these stand for lists -/
def Lsts (H : Hp) (B : List Addr) : Prop := ∀ b ∈ B, ∃ xs, H b = some (.lst xs)
theorem But.sqT {K : PySem.W.Frag} {B : List Addr} {H H' : Hp} {a : Addr} {xs : List V} (e : But B H H') (l : Lsts H B) (h : SqT K H a xs) : SqT K H' a xs := by
  rcases h with (h | ⟨o, h⟩) | h
  · exact .inl (.inl (e _ _ (fun m => by obtain ⟨ys, q⟩ := l _ m; rw [q] at h; cases h) h))
  · exact .inl (.inr ⟨o, e _ _ (fun m => by obtain ⟨ys, q⟩ := l _ m; rw [q] at h; cases h) h⟩)
  · exact .inr h
theorem fits {n : Nat} (h : n ≤ 16000) : n < sizeLine := Nat.lt_of_le_of_lt h (by decide)
theorem fits' {n : Nat} (h : n ≤ 16000) : n ≤ sizeLine := Nat.le_of_lt (fits h)
theorem at0 {α : Type} {x : α} {r : List α} : atI (x :: r) 0 = some x := atI_nat (j := 0) rfl
theorem ixN_of {n : Nat} {i : Int} {j : Nat} (h : i = (j : Int)) (hj : j < n) : ixN n i = some j := by
  subst h
  unfold ixN
  rw [if_pos (by omega), if_pos (by omega)]
  rfl
theorem seqIx_of {n : Nat} {i : Int} {j : Nat} (h : i = (j : Int)) (hj : j < n) : seqIndex? i n = some j := (ixN_seq (ixN_of h hj)).1
/-! ### the asker's box of draws -/
def Box (H : Hp) (b l : Addr) : Prop := ∃ (ns : List Int) (s : Int), H b = some (.lst [.ref l, .int s]) ∧ H l = some (.lst (ns.map V.int)) ∧ 0 ≤ s ∧ s < 2147483647 ∧ ns.length ≤ 63
theorem Box.ne {H : Hp} {b l : Addr} (h : Box H b l) : b ≠ l := by
  obtain ⟨ns, s, h1, h2, _⟩ := h
  refine ne_of h1 h2 fun e => ?_
  cases ns with
  | nil => cases e
  | cons x r => cases e
theorem Box.lsts {H : Hp} {b l : Addr} (h : Box H b l) : Lsts H [b, l] := by
  obtain ⟨ns, s, h1, h2, _⟩ := h
  intro c hc
  rcases List.mem_cons.mp hc with rfl | hc
  · exact ⟨_, h1⟩
  · rw [List.mem_singleton.mp hc]; exact ⟨_, h2⟩
theorem Box.same {H H' : Hp} {b l : Addr} (e : Same H H') (h : Box H b l) : Box H' b l := by
  obtain ⟨ns, s, h1, h2, h3⟩ := h
  exact ⟨ns, s, e _ _ h1, e _ _ h2, h3⟩
theorem dpInts {K : PySem.W.Frag} {H : Hp} : ∀ ns : List Int, DpAll K H (ns.map V.int) (ns.map PyData.int)
  | [] => .nil
  | n :: r => .cons (.int n) (dpInts r)
theorem shapedInts (ns : List Int) : SeqAt.shaped (.list (ns.map PyData.int)) = true := by
  have h1 : ∀ ns : List Int, PyData.canLayAll0 (ns.map PyData.int) = true := by
    intro ns
    induction ns with
    | nil => simp [PyData.canLayAll0]
    | cons n r ih => simp [PyData.canLayAll0, PyData.canLay0, ih]
  have h2 : ∀ ns : List Int, PyData.depthAll (ns.map PyData.int) ≤ 1 := by
    intro ns
    induction ns with
    | nil => simp [PyData.depthAll]
    | cons n r ih => simp [PyData.depthAll, PyData.depth]; omega
  have a := h1 ns
  have b := h2 ns
  simp [SeqAt.shaped, PyData.canLay0, PyData.depth, a]
  omega
def nV (n : Nat) : V := .int (n : Int)
theorem chgN {i : Nat} {x y : V} {σ : L2.St} {H : Hp} {Q : L2.St → Hp → Prop} (e : x = y) (h : gName i y σ H Q) : gName i x σ H Q := by rw [e]; exact h
def spTake0 : Sp := fun vs H Q _ => ∃ (b l : Addr) (m : Int), vs = [.ref b, .int m] ∧ Box H b l ∧ 0 < m ∧ m < 1000000 ∧ ∀ H' r, Box H' b l → But [b, l] H H' → 0 ≤ r → r < m → Q (.int r) H'
section
variable {P : Program} {w : World} {K : PySem.W.Frag} {mg : Str → Option Value} {base : Heap}
abbrev st_law_take : Stmt := (topS 33)
abbrev nm_law_take : List Str := ["_law_box", "_law_many", "_law_number_here"]
theorem sc_law_take : FnScope ["_law_box", "_law_many", "_law_number_here"] ["_law_box", "_law_many"] (defScope st_law_take) := ⟨rfl, rfl, rfl, by decide +kernel, rfl, by decide +kernel, by decide +kernel⟩
theorem ok_take0 {f : Addr} {fd : FuncData} (F : Fun K "_law_take" "_law_take" st_law_take f fd) : FnOk P w K mg base CX0 1 f fd ["_law_box", "_law_many"] spTake0 := by
  refine F.ok sc_law_take (fun vs H Q E h => ?_) (fun cdv A outer s H vs Q E hr h => ?_)
  · obtain ⟨b, l, m, rfl, _⟩ := h
    rfl
  · obtain ⟨b, l, m, rfl, hB, m0, m1, q⟩ := h
    have hne := hB.ne
    obtain ⟨ns, sd, hb, hl, s0, s1, hlen⟩ := hB
    refine ⟨_, (pss_cons (ps_if (pt_cmpR (op_eqD hr.units) (pe_ix ix_lt (pv 0) pe_int (fun _ _ => rfl)) (pe_lst pa_nil) (nomark _)) (pss_cons (ps_asg (pe_op op_mod (pe_op op_mul (pe_ix ix_lt (pv 0) pe_int (fun _ _ => rfl)) pe_int) pe_int) (pg_sub (pv 0) pe_int set_list))
  (pss_one (ps_ret (pe_op op_mod (pe_op op_fdiv (pe_ix ix_lt (pv 0) pe_int (fun _ _ => rfl)) pe_int) (pv 1))))) pss_nil)
  (pss_cons (ps_set (i := 2) sc_law_take.nd rfl (Or.inl rfl) (pe_ix ix_lt (pe_ix ix_lt (pv 0) pe_int (fun _ _ => rfl)) pe_int (fun _ _ => rfl)))
  (pss_cons (ps_asg (pe_op op_fdiv (pv 2) (pv 1)) (pg_sub (pe_ix ix_lt (pv 0) pe_int (fun _ _ => rfl)) pe_int set_list))
  (pss_cut (ps_if (PW.pt (pw_or (pt_cmpR op_eq (pe_ix ix_lt (pe_ix ix_lt (pv 0) pe_int (fun _ _ => rfl)) pe_int (fun _ _ => rfl)) pe_int (nomark _)) (pw_or1 (pt_cmpR op_eq (pe_ix ix_lt (pe_ix ix_lt (pv 0) pe_int (fun _ _ => rfl)) pe_int (fun _ _ => rfl)) (pe_un un_neg pe_int) (nomark _))))) (pss_one (ps_expr (pe_bm PySem.F.plainAttrs_list PySem.F.slot_list_pop PySem.F.type_list_pop mt_popAt (pe_ix ix_lt (pv 0) pe_int (fun _ _ => rfl)) (pa_cons pe_int pa_nil)))) pss_nil)
  (pss_one (ps_ret (pe_op op_mod (pv 2) (pv 1)))))))), ?_⟩
    -- if box[0] == []
    refine ⟨_, rfl, b, _, 0, .ref l, rfl, rfl, sqA_l hb, rfl, ?_⟩
    refine ⟨Nat.zero_le _, fun p np => ?_⟩
    have sm : Same H (upd H p (.lst [])) := same_new np
    refine ⟨.list (ns.map PyData.int), .list [], .lst (sqL_l (sm _ _ hl)) (dpInts ns), .lst (sqL_l upd_same) .nil, shapedInts ns, rfl, _, rfl, ?_⟩
    have hb1 := sm _ _ hb
    have hl1 := sm _ _ hl
    have nbp : b ≠ p := ne_of_none hb np
    have nlp : l ≠ p := ne_of_none hl np
    cases ns with
    | nil =>
      refine iteT ?_
      -- box[1] = box[1] * 48271 % 2147483647
      refine ⟨_, rfl, b, _, 1, .int sd, rfl, rfl, sqA_l hb1, rfl, ?_⟩
      refine ⟨_, _, rfl, rfl, .inl ⟨by omega, by omega⟩, _, _, rfl, rfl, (by show (0 : Int) < 2147483647; decide), ?_⟩
      refine ⟨_, rfl, b, _, 1, 1, rfl, rfl, hb1, rfl, ?_⟩
      -- return box[1] // 7 % many
      refine ⟨_, rfl, b, _, 1, .int (sd * 48271 % 2147483647), rfl, rfl, sqA_l upd_same, rfl, ?_⟩
      refine ⟨_, _, rfl, rfl, ⟨by decide, by decide⟩, _, rfl, _, _, rfl, rfl, m0, ?_⟩
      have e0 : 0 ≤ sd * 48271 % 2147483647 := Int.emod_nonneg _ (by decide)
      have e1 : sd * 48271 % 2147483647 < 2147483647 := Int.emod_lt_of_pos _ (by decide)
      refine q _ _ ⟨[], _, upd_same, ?_, e0, e1, hlen⟩ ?_ ?_ ?_
      · rw [upd_ne hne.symm]; exact hl1
      · exact (Same.but sm).trans (But.set (by simp))
      · exact Int.emod_nonneg _ (by omega)
      · exact Int.emod_lt_of_pos _ m0
    | cons n r =>
      refine iteF ?_
      -- number = box[0][0]
      refine ⟨_, rfl, b, _, 0, .ref l, rfl, rfl, sqA_l hb1, rfl, l, _, 0, .int n, rfl, rfl, sqA_l hl1, at0, ?_⟩
      -- box[0][0] = number // many
      refine ⟨_, rfl, _, rfl, _, _, rfl, rfl, ⟨m0, by omega⟩, ?_⟩
      refine ⟨_, rfl, b, _, 0, .ref l, rfl, rfl, sqA_l hb1, rfl, l, _, 0, 0, rfl, rfl, hl1, ixN_of rfl (by simp), ?_⟩
      have nlb : l ≠ b := hne.symm
      have hb2 : (upd (upd H p (.lst [])) l (.lst ((V.int (n / m)) :: r.map V.int))) b = some (.lst [.ref l, .int sd]) := by
        rw [upd_ne hne]; exact hb1
      have bt : But [b, l] H (upd (upd H p (.lst [])) l (.lst ((V.int (n / m)) :: r.map V.int))) := (Same.but sm).trans (But.set (by simp))
      -- if box[0][0] == 0 or box[0][0] == -1
      have hr1 : r.length ≤ 63 := by simp at hlen; omega
      refine ⟨fun σ' H' => σ' = [some (.ref b), some (.int m), some (.int n)] ∧ Box H' b l ∧ But [b, l] H H', ?_, fun σ' H' hM => ?_⟩
      · have pop : ∀ D : Ends, D.nx = (fun σ' H' => σ' = [some (.ref b), some (.int m), some (.int n)] ∧ Box H' b l ∧ But [b, l] H H') →
            tDrop (tBM K "list" rPopAt (tOp (rIxLT K) (tVar 0) (tC (.int 0))) (tCons (tC (.int 0)) tNil)) D [some (.ref b), some (.int m), some (.int n)] (upd (upd H p (.lst [])) l (.lst ((V.int (n / m)) :: r.map V.int))) := fun D hD => by
          refine ⟨_, rfl, b, _, 0, .ref l, rfl, rfl, sqA_l hb2, rfl, .inl ⟨rfl, _, sqL_l upd_same⟩, ?_⟩
          refine ⟨l, _, 0, 0, .int (n / m), rfl, rfl, upd_same, by decide, by decide, seqIx_of rfl (by simp), rfl, ?_⟩
          rw [hD]
          refine ⟨rfl, ⟨r, sd, ?_, ?_, s0, s1, hr1⟩, bt.trans (But.set (by simp))⟩
          · rw [upd_ne hne]; exact hb2
          · rw [upd_same]; rfl
        refine ⟨_, rfl, b, _, 0, .ref l, rfl, rfl, sqA_l hb2, rfl, l, _, 0, .int (n / m), rfl, rfl, sqA_l upd_same, at0, rfl, _, rfl, ite2 (fun e => ?_) (fun e => ?_)⟩
        · exact iteT (pop _ rfl)
        · refine ⟨_, rfl, b, _, 0, .ref l, rfl, rfl, sqA_l hb2, rfl, l, _, 0, .int (n / m), rfl, rfl, sqA_l upd_same, at0, 1, rfl, rfl, _, rfl, ite2 (fun e => ?_) (fun e => ?_)⟩
          · exact pop _ rfl
          · exact ⟨rfl, ⟨n / m :: r, sd, hb2, upd_same, s0, s1, hlen⟩, bt⟩
      · obtain ⟨rfl, h1, h2⟩ := hM
        refine ⟨_, rfl, _, rfl, _, _, rfl, rfl, m0, ?_⟩
        exact q _ _ h1 h2 (Int.emod_nonneg _ (by omega)) (Int.emod_lt_of_pos _ m0)
/-- a draw below many -/
def spTake : Sp := fun vs H Q _ => ∃ (b l : Addr) (e : Int) (m : Nat), vs = [.ref b, .int e] ∧ e = (m : Int) ∧ Box H b l ∧ 0 < m ∧ m < 1000000 ∧ ∀ (H' : Hp) (r : Nat), Box H' b l → But [b, l] H H' → r < m → Q (nV r) H'
theorem ok_take {f : Addr} {fd : FuncData} (F : Fun K "_law_take" "_law_take" st_law_take f fd) : FnOk P w K mg base CX0 1 f fd ["_law_box", "_law_many"] spTake :=
  (ok_take0 F).imp fun vs H Q E h => by
    obtain ⟨b, l, e, m, rfl, rfl, hB, m0, m1, q⟩ := h
    refine ⟨b, l, m, rfl, hB, by omega, by omega, fun H' r hB' bt r0 r1 => ?_⟩
    obtain ⟨k, rfl⟩ := Int.eq_ofNat_of_zero_le r0
    exact q H' k hB' bt (by omega)
end
end Vt
namespace Vt
open PySem PySem.Spec PyProof.Rows L2
/-! ### data in the heap: ints, texts, None, bools, tuples and lists of them -/
inductive D where
  | non | bl (b : Bool) | int (i : Int) | str (x : Str) | tup (ds : List D) | lst (ds : List D)
mutual
inductive Pd (H : Hp) : V → D → Prop
  | non : Pd H .non .non
  | bl (b : Bool) : Pd H (.bl b) (.bl b)
  | int (i : Int) : Pd H (.int i) (.int i)
  | str (x : Str) : Pd H (.str x) (.str x)
  | tup {a : Addr} {xs : List V} {ds : List D} : H a = some (.tup xs) → Pds H xs ds → Pd H (.ref a) (.tup ds)
  | lst {a : Addr} {xs : List V} {ds : List D} : H a = some (.lst xs) → Pds H xs ds → Pd H (.ref a) (.lst ds)
inductive Pds (H : Hp) : List V → List D → Prop
  | nil : Pds H [] []
  | cons {v : V} {vs : List V} {d : D} {ds : List D} : Pd H v d → Pds H vs ds → Pds H (v :: vs) (d :: ds)
end
mutual
def D.noL : D → Bool
  | .lst _ => false
  | .tup ds => noLs ds
  | _ => true
def noLs : List D → Bool
  | [] => true
  | d :: ds => d.noL && noLs ds
end
mutual
def D.dep : D → Nat
  | .lst ds => deps ds + 1
  | .tup ds => deps ds + 1
  | _ => 0
def deps : List D → Nat
  | [] => 0
  | d :: ds => max d.dep (deps ds)
end
section
variable {H H' : Hp}
mutual
theorem Pd.same (s : Same H H') : ∀ {d : D} {v : V}, Pd H v d → Pd H' v d
  | .non, _, .non => .non
  | .bl _, _, .bl b => .bl b
  | .int _, _, .int b => .int b
  | .str _, _, .str b => .str b
  | .tup _, _, .tup h hs => .tup (s _ _ h) (Pds.same s hs)
  | .lst _, _, .lst h hs => .lst (s _ _ h) (Pds.same s hs)
theorem Pds.same (s : Same H H') : ∀ {ds : List D} {vs : List V}, Pds H vs ds → Pds H' vs ds
  | [], _, .nil => .nil
  | _ :: _, _, .cons h hs => .cons (Pd.same s h) (Pds.same s hs)
end
mutual
theorem Pd.but {B : List Addr} (s : But B H H') (l : Lsts H B) : ∀ {d : D} {v : V}, d.noL = true → Pd H v d → Pd H' v d
  | .non, _, _, .non => .non
  | .bl _, _, _, .bl b => .bl b
  | .int _, _, _, .int b => .int b
  | .str _, _, _, .str b => .str b
  | .tup ds, _, n, .tup h hs => .tup (s _ _ (fun m => by obtain ⟨ys, q⟩ := l _ m; rw [q] at h; cases h) h) (Pds.but s l (by rw [D.noL] at n; exact n) hs)
  | .lst ds, _, n, .lst h hs => by rw [D.noL] at n; cases n
theorem Pds.but {B : List Addr} (s : But B H H') (l : Lsts H B) : ∀ {ds : List D} {vs : List V}, noLs ds = true → Pds H vs ds → Pds H' vs ds
  | [], _, _, .nil => .nil
  | d :: ds, _, n, .cons h hs => by
    rw [noLs, Bool.and_eq_true] at n
    exact .cons (Pd.but s l n.1 h) (Pds.but s l n.2 hs)
end
theorem Pds.len : ∀ {ds : List D} {vs : List V}, Pds H vs ds → vs.length = ds.length
  | _, _, .nil => rfl
  | _, _, .cons _ hs => by rw [List.length_cons, List.length_cons, Pds.len hs]
theorem Pds.get : ∀ {ds : List D} {vs : List V} {i : Nat} {d : D}, Pds H vs ds → ds[i]? = some d → ∃ v, vs[i]? = some v ∧ Pd H v d
  | _, _, _, _, .nil, e => by simp at e
  | _, _, 0, _, .cons h _, e => by
    simp only [List.getElem?_cons_zero, Option.some.injEq] at e
    subst e; exact ⟨_, rfl, h⟩
  | _, _, i + 1, _, .cons _ hs, e => by
    obtain ⟨v, h1, h2⟩ := Pds.get (i := i) hs (by simpa using e)
    exact ⟨v, by simpa using h1, h2⟩
theorem Pds.get' : ∀ {ds : List D} {vs : List V} {i : Nat} {v : V}, Pds H vs ds → vs[i]? = some v → ∃ d, ds[i]? = some d ∧ Pd H v d
  | _, _, _, _, .nil, e => by simp at e
  | _, _, 0, _, .cons h _, e => by
    simp only [List.getElem?_cons_zero, Option.some.injEq] at e
    subst e; exact ⟨_, rfl, h⟩
  | _, _, i + 1, _, .cons _ hs, e => by
    obtain ⟨v, h1, h2⟩ := Pds.get' (i := i) hs (by simpa using e)
    exact ⟨v, by simpa using h1, h2⟩
theorem Pds.app : ∀ {ds es : List D} {vs us : List V}, Pds H vs ds → Pds H us es → Pds H (vs ++ us) (ds ++ es)
  | _, _, _, _, .nil, k => k
  | _, _, _, _, .cons h hs, k => .cons h (Pds.app hs k)
theorem Pds.ints : ∀ {ns : List Int} {vs : List V}, Pds H vs (ns.map D.int) → vs = ns.map V.int
  | [], _, .nil => rfl
  | n :: r, _, .cons (.int _) hs => by rw [List.map_cons, Pds.ints hs]
theorem Pds.ofInts : ∀ ns : List Int, Pds H (ns.map V.int) (ns.map D.int)
  | [] => .nil
  | n :: r => .cons (.int n) (Pds.ofInts r)
end
theorem deps_get : ∀ {ds : List D} {i : Nat} {d : D}, ds[i]? = some d → d.dep ≤ deps ds
  | [], _, _, e => by simp at e
  | x :: r, 0, d, e => by
    simp only [List.getElem?_cons_zero, Option.some.injEq] at e
    subst e; rw [deps]; omega
  | x :: r, i + 1, d, e => by
    have := deps_get (ds := r) (i := i) (d := d) (by simpa using e)
    rw [deps]; omega
/-! ### boards -/
structure Ord where
  src : Nat
  goal : Nat
  many : Nat
  later : Option Nat
inductive Deed where
  | set (c n : Nat) | add (c o : Nat) | say (c : Nat) | start (o : Nat) | wait | clean (l : Nat) | drop (l : Nat)
  deriving DecidableEq
structure Brd where
  mem : List Nat
  ords : List Ord
  prog : List Deed
def nD (n : Nat) : D := .int (n : Int)
def oV : Option Nat → V
  | none => .non
  | some k => nV k
def oD : Option Nat → D
  | none => .non
  | some k => nD k
def Ord.vs (o : Ord) : List V := [nV o.src, nV o.goal, nV o.many, oV o.later]
def Ord.d (o : Ord) : D := .tup [nD o.src, nD o.goal, nD o.many, oD o.later]
def Deed.word : Deed → Str
  | .set _ _ => "set" | .add _ _ => "add" | .say _ => "say" | .start _ => "start" | .wait => "wait" | .clean _ => "clean" | .drop _ => "drop"
def Deed.args : Deed → List Nat
  | .set c n => [c, n] | .add c o => [c, o] | .say c => [c] | .start o => [o] | .wait => [] | .clean l => [l] | .drop l => [l]
def Deed.vs (d : Deed) : List V := .str d.word :: d.args.map nV
def Deed.d (d : Deed) : D := .tup (.str d.word :: d.args.map nD)
def nsD (ns : List Nat) : D := .tup (ns.map nD)
def Brd.d (B : Brd) : D := .tup [nsD B.mem, .tup (B.ords.map Ord.d), .tup (B.prog.map Deed.d)]
theorem pd_o {H : Hp} : ∀ o : Option Nat, Pd H (oV o) (oD o)
  | none => .non
  | some k => .int k
theorem pds_ns {H : Hp} : ∀ ns : List Nat, Pds H (ns.map nV) (ns.map nD)
  | [] => .nil
  | n :: r => .cons (.int n) (pds_ns r)
theorem pds_ns' {H : Hp} : ∀ {ns : List Nat} {vs : List V}, Pds H vs (ns.map nD) → vs = ns.map nV
  | [], _, .nil => rfl
  | n :: r, _, .cons h hs => by
    cases h
    rw [List.map_cons, pds_ns' hs]; rfl
theorem Ord.pd {H : Hp} {o : Ord} {a : Addr} (h : H a = some (.tup o.vs)) : Pd H (.ref a) o.d := .tup h (.cons (.int _) (.cons (.int _) (.cons (.int _) (.cons (pd_o _) .nil))))
theorem Ord.of {H : Hp} {o : Ord} {v : V} (h : Pd H v o.d) : ∃ a, v = .ref a ∧ H a = some (.tup o.vs) := by
  obtain ⟨s, g, m, l⟩ := o
  cases h with
  | tup h hs =>
    cases hs with
    | cons h1 hs => cases h1; cases hs with
      | cons h2 hs => cases h2; cases hs with
        | cons h3 hs => cases h3; cases hs with
          | cons h4 hs =>
            cases hs
            refine ⟨_, rfl, ?_⟩
            cases l with
            | none => cases h4; exact h
            | some k => cases h4; exact h
theorem Deed.pd {H : Hp} {d : Deed} {a : Addr} (h : H a = some (.tup d.vs)) : Pd H (.ref a) d.d := .tup h (.cons (.str _) (pds_ns _))
theorem Deed.of {H : Hp} {d : Deed} {v : V} (h : Pd H v d.d) : ∃ a, v = .ref a ∧ H a = some (.tup d.vs) := by
  cases h with
  | tup h hs =>
    cases hs with
    | cons h1 hs =>
      cases h1
      rw [pds_ns' hs] at h
      exact ⟨_, rfl, h⟩
theorem Brd.of {H : Hp} {B : Brd} {v : V} (h : Pd H v B.d) : ∃ a m o p os ps, v = .ref a ∧ H a = some (.tup [.ref m, .ref o, .ref p]) ∧ H m = some (.tup (B.mem.map nV)) ∧ H o = some (.tup os) ∧ Pds H os (B.ords.map Ord.d) ∧ H p = some (.tup ps) ∧ Pds H ps (B.prog.map Deed.d) := by
  obtain ⟨mem, ords, prog⟩ := B
  cases h with
  | tup h hs =>
    cases hs with
    | cons h1 hs => cases h1 with
      | tup e1 k1 => cases hs with
        | cons h2 hs => cases h2 with
          | tup e2 k2 => cases hs with
            | cons h3 hs => cases h3 with
              | tup e3 k3 =>
                cases hs
                rw [pds_ns' k1] at e1
                exact ⟨_, _, _, _, _, _, rfl, h, e1, e2, k2, e3, k3⟩
theorem noL_ns : ∀ ns : List Nat, noLs (ns.map nD) = true
  | [] => by rw [List.map_nil, noLs]
  | n :: r => by rw [List.map_cons, noLs, noL_ns r]; rfl
theorem noL_ord (o : Ord) : o.d.noL = true := by
  obtain ⟨s, g, m, l⟩ := o
  cases l <;> simp [Ord.d, D.noL, noLs, nD, oD]
theorem noL_deed (d : Deed) : d.d.noL = true := by
  simp only [Deed.d, D.noL, noLs, Bool.true_and]
  exact noL_ns _
theorem noLs_map {α : Type} {f : α → D} (h : ∀ x, (f x).noL = true) : ∀ xs : List α, noLs (xs.map f) = true
  | [] => by rw [List.map_nil, noLs]
  | x :: r => by rw [List.map_cons, noLs, h x, noLs_map h r]; rfl
theorem noL_brd (B : Brd) : B.d.noL = true := by
  simp only [Brd.d, nsD, D.noL, noLs, Bool.and_true, Bool.and_eq_true]
  exact ⟨noL_ns _, noLs_map noL_ord _, noLs_map noL_deed _⟩
/-- what can be -/
structure OrdOk (o : Ord) (at_ count cells : Nat) : Prop where
  one : 1 ≤ o.many
  eight : o.many ≤ 8
  src : o.src + o.many ≤ cells
  goal : o.goal + o.many ≤ cells
  later : ∀ k, o.later = some k → at_ < k ∧ k < count
def DeedOk (d : Deed) (count cells : Nat) : Prop := match d with
  | .set c n => c < cells ∧ n < 10
  | .add c o => c < cells ∧ o < cells
  | .say c => c < cells
  | .start o => o < count
  | .wait => True
  | .clean l => l < cells / 4
  | .drop l => l < cells / 4
def isStart : Deed → Bool
  | .start _ => true
  | _ => false
structure BrdOk (B : Brd) : Prop where
  cells : B.mem.length = 4 ∨ B.mem.length = 8 ∨ B.mem.length = 12 ∨ B.mem.length = 16
  nums : ∀ n ∈ B.mem, n < 10
  four : B.ords.length ≤ 4
  ords : ∀ (i : Nat) (o : Ord), B.ords[i]? = some o → OrdOk o i B.ords.length B.mem.length
  sixty : B.prog.length ≤ 60
  prog : ∀ d ∈ B.prog, DeedOk d B.ords.length B.mem.length
  starts : (B.prog.filter isStart).length ≤ 3
end Vt
namespace Vt
open PySem PySem.Spec PyProof.Rows L2
/-- a list grows by a new tuple -/
theorem grow {H3 : Hp} {p T : Addr} {xs : List V} {ds : List D} {d : D} {vs : List V} (hx : H3 p = some (.lst xs)) (hp : Pds H3 xs ds) (n : noLs ds = true) (nT : H3 T = none) (hd : ∀ (H : Hp) (a : Addr), H a = some (.tup vs) → Pd H (.ref a) d) :
    (upd H3 T (.tup vs)) p = some (.lst xs) ∧ Pds (upd (upd H3 T (.tup vs)) p (.lst (xs ++ [.ref T]))) (xs ++ [.ref T]) (ds ++ [d]) ∧ But [p] H3 (upd (upd H3 T (.tup vs)) p (.lst (xs ++ [.ref T]))) := by
  have s3 : Same H3 (upd H3 T (.tup vs)) := same_new nT
  have hx4 := s3 _ _ hx
  have pT : T ≠ p := (ne_of_none hx nT).symm
  have ls : Lsts (upd H3 T (.tup vs)) [p] := fun c hc => ⟨xs, by rw [List.mem_singleton.mp hc]; exact hx4⟩
  have sB : But [p] (upd H3 T (.tup vs)) (upd (upd H3 T (.tup vs)) p (.lst (xs ++ [.ref T]))) := But.set (by simp)
  exact ⟨hx4, (Pds.but sB ls n (hp.same s3)).app (.cons (hd _ _ (by rw [upd_ne pT, upd_same])) .nil), (Same.but s3).trans sB⟩
theorem But.pds1 {H H' : Hp} {p : Addr} {xs ys : List V} {ds : List D} (b : But [p] H H') (hx : H p = some (.lst ys)) (n : noLs ds = true) (h : Pds H xs ds) : Pds H' xs ds :=
  Pds.but b (fun c hc => ⟨ys, by rw [List.mem_singleton.mp hc]; exact hx⟩) n h
theorem But.at1 {H H' : Hp} {p q : Addr} {o : HO} (b : But [p] H H') (h : H q = some o) (ne : q ≠ p) : H' q = some o := b q o (by simp [ne]) h
theorem But.new1 {H0 H H' : Hp} {p : Addr} (s : Same H0 H) (np : H0 p = none) (b : But [p] H H') : Same H0 H' := fun c o h => b c o (by simp [ne_of_none h np]) (s c o h)
theorem set_map {mem : List Nat} {c n : Nat} {v : V} (e : v = nV n) : (mem.map nV).set c v = (mem.set c n).map nV := by rw [e, List.map_set]
theorem nat_at {mem : List Nat} {c : Nat} (h : c < mem.length) : (mem.map nV)[c]? = some (nV (mem.getD c 0)) := by
  rw [List.getElem?_map, List.getElem?_eq_getElem h, List.getD_eq_getElem?_getD, List.getElem?_eq_getElem h]; rfl
end Vt
namespace Vt
open PySem PySem.Spec PyProof.Rows L2
/-! ### readings in short -/
section
variable {K : PySem.W.Frag} {σ : L2.St} {H : Hp} {a : Addr}
/-- t[0] == "x", t a deed -/
theorem rd_word {i : Nat} {d : Deed} {x : Str} {R : Bool → Hp → Prop} (hσ : σ[i]? = some (some (.ref a))) (h : H a = some (.tup d.vs)) (hr : R (decide (d.word = x)) H) : tTest (tOp rEq (tOp (rIxLT K) (tVar i) (tC (.int 0))) (tC (.str x))) σ H R := by
  refine ⟨_, hσ, a, _, 0, .str d.word, rfl, rfl, sqA_t h, at0, rfl, _, rfl, ?_⟩
  rw [show decide (V.str d.word = V.str x) = decide (d.word = x) by
    by_cases e : d.word = x
    · rw [e, decide_eq_true rfl, decide_eq_true rfl]
    · rw [decide_eq_false e, decide_eq_false (fun z => e (by injection z))]]
  exact hr
/-- t[0] in ("x", "y") -/
theorem rd_in {i : Nat} {d : Deed} {x y : Str} {R : Bool → Hp → Prop} (hσ : σ[i]? = some (some (.ref a))) (h : H a = some (.tup d.vs)) (hr : ∀ T, H T = none → R (decide (d.word = x) || decide (d.word = y)) (upd H T (.tup [.str x, .str y]))) :
    tTest (tOp (rIn K false) (tOp (rIxLT K) (tVar i) (tC (.int 0))) (tTup (tCons (tC (.str x)) (tCons (tC (.str y)) tNil)))) σ H R := by
  refine ⟨_, hσ, a, _, 0, .str d.word, rfl, rfl, sqA_t h, at0, by show 2 ≤ sizeLine; decide, fun T nT => ⟨T, _, rfl, .inr (sqT_t upd_same), rfl, rfl, _, rfl, ?_⟩⟩
  have e : (if false = true then !inV (.str d.word) [.str x, .str y] else inV (.str d.word) [.str x, .str y]) = (decide (d.word = x) || decide (d.word = y)) := by
    rw [if_neg (by decide)]
    show (eqV (.str x) (.str d.word) || (eqV (.str y) (.str d.word) || false)) = _
    rw [Bool.or_false, show ∀ z : Str, eqV (.str z) (.str d.word) = decide (d.word = z) from fun z => by
      show decide (z = d.word) = decide (d.word = z)
      exact decide_eq_decide.mpr eq_comm]
    rw [show eqV (.str y) (.str d.word) = decide (d.word = y) from by
      show decide (y = d.word) = decide (d.word = y)
      exact decide_eq_decide.mpr eq_comm]
  rw [e]
  exact hr T nT
end
theorem But.tup {B : List Addr} {H H' : Hp} {t : Addr} {xs : List V} (b : But B H H') (l : Lsts H B) (h : H t = some (.tup xs)) : H' t = some (.tup xs) :=
  b _ _ (fun m => by obtain ⟨ys, q⟩ := l _ m; rw [q] at h; cases h) h
end Vt
namespace Vt
open PySem PySem.Spec PyProof.Rows L2
section
variable {P : Program} {w : World} {K : PySem.W.Frag} {mg : Str → Option Value} {base : Heap}
/-! ### the box begun -/
abbrev st_law_begun : Stmt := (topS 32)
abbrev nm_law_begun : List Str := ["_law_script", "_law_stirred", "_law_cell"]
theorem sc_law_begun : FnScope ["_law_script", "_law_stirred", "_law_cell"] ["_law_script"] (defScope st_law_begun) := ⟨rfl, rfl, rfl, by decide +kernel, rfl, by decide +kernel, by decide +kernel⟩
def spBegun (K : PySem.W.Frag) : Sp := fun vs H Q _ => ∃ (a : Addr) (ns : List Int), vs = [.ref a] ∧ SqL K H a (ns.map V.int) ∧ ns.length ≤ 63 ∧ ∀ (H' : Hp) (b l : Addr), Box H' b l → Same H H' → Q (.ref b) H'
theorem ok_begun {f : Addr} {fd : FuncData} (F : Fun K "_law_begun" "_law_begun" st_law_begun f fd) (z_len : mg "len" = none) (z_int : mg "int" = none) (z_list : mg "list" = none) : FnOk P w K mg base CX0 1 f fd ["_law_script"] (spBegun K) := by
  refine F.ok sc_law_begun (fun vs H Q E h => ?_) (fun cdv A outer s H vs Q E hr h => ?_)
  · obtain ⟨a, ns, rfl, _⟩ := h
    rfl
  · obtain ⟨a, ns, rfl, hS, hlen, q⟩ := h
    refine ⟨_, (pss_cons (ps_set (i := 1) sc_law_begun.nd rfl (Or.inl rfl) pe_int)
  (pss_cons (ps_for PassesOwn.never rfl (pi_lt (pv 0)) (pg_name (i := 2) sc_law_begun.nd rfl (Or.inl rfl))
  (pss_one (ps_set (i := 1) sc_law_begun.nd rfl (Or.inl rfl) (pe_op op_mod (pe_op op_add (pe_op op_add (pe_op op_mul (pv 1) pe_int) (pe_op op_mul (pv 2) pe_int)) pe_int) pe_int))))
  (pss_one (ps_ret (pe_lst (pa_cons (pe_callTy call_list_of (by rfl) z_list (by decide +kernel) (pa_cons (pv 0) pa_nil)) (pa_cons (pe_op op_mul (pv 1) (pe_callTy call_int1 (by rfl) z_int (by decide +kernel) (pa_cons (pe_cmpR op_gt (pe_callB call_len_seq (by rfl) z_len (by decide +kernel) (pa_cons (pv 0) pa_nil)) pe_int (nomark _)) pa_nil))) pa_nil))))))), ?_⟩
    refine ⟨_, rfl, a, rfl, .inl ⟨_, hS, ?_⟩⟩
    refine for_it (walk_list (xs := ns.map V.int)) (fun i σ H' => ∃ (sd : Int) (x : Option V), σ = [some (.ref a), some (.int sd), x] ∧ H' = H ∧ 0 ≤ sd ∧ sd < 2147483647)
      ⟨0, none, rfl, rfl, by decide, by decide⟩ (fun i σ H' _ hp => by obtain ⟨_, _, _, rfl, _⟩ := hp; exact hS) (fun i x σ H1 H2 hi hp hy => ?_) (fun σ H1 hp => ?_)
    · obtain ⟨sd, x0, rfl, rfl, s0, s1⟩ := hp
      obtain ⟨rfl, hx⟩ := hy
      obtain ⟨n, hn, rfl⟩ : ∃ n, ns[i]? = some n ∧ V.int n = x := by rw [List.getElem?_map] at hx; simpa using hx
      refine ⟨_, rfl, _, _, rfl, rfl, .inl ⟨by omega, by omega⟩, _, rfl, _, _, rfl, rfl, .inr ⟨by decide, by decide⟩, _, _, rfl, rfl, _, _, rfl, rfl, _, _, rfl, rfl, (by show (0 : Int) < 2147483647; decide), ?_⟩
      exact ⟨_, _, rfl, rfl, Int.emod_nonneg _ (by decide), Int.emod_lt_of_pos _ (by decide)⟩
    · obtain ⟨sd, x0, rfl, rfl, s0, s1⟩ := hp
      refine ⟨.ref a, rfl, a, _, rfl, .inl hS, fun l nl => ?_⟩
      have sm : Same H1 (upd H1 l (.lst (ns.map V.int))) := same_new nl
      refine ⟨_, rfl, .ref a, rfl, a, _, rfl, .inl (sm.seq hS), _, _, rfl, rfl, .inr ⟨_, rfl, ?_⟩⟩
      refine ⟨_, _, rfl, rfl, .inl ⟨by omega, by omega⟩, by show 2 ≤ sizeLine; decide, fun b nb => ?_⟩
      refine q _ b l ⟨ns, _, upd_same, ?_, ?_, ?_, hlen⟩ (sm.trans (same_new nb))
      · rw [upd_ne (ne_of_none upd_same nb), upd_same]
      · split <;> omega
      · split <;> omega
/-! ### an order -/
abbrev st_law_order : Stmt := (topS 36)
abbrev nm_law_order : List Str := ["_law_box", "_law_cells", "_law_number_here", "_law_many", "_law_count", "_law_later"]
theorem sc_law_order : FnScope ["_law_box", "_law_cells", "_law_number_here", "_law_many", "_law_count", "_law_later"] ["_law_box", "_law_cells", "_law_number_here", "_law_many"] (defScope st_law_order) := ⟨rfl, rfl, rfl, by decide +kernel, rfl, by decide +kernel, by decide +kernel⟩
def spOrder : Sp := fun vs H Q _ => ∃ (b l : Addr) (cells at_ cnt : Nat), vs = [.ref b, nV cells, nV at_, nV cnt] ∧ Box H b l ∧ 1 ≤ cells ∧ cells ≤ 16 ∧ at_ < cnt ∧ cnt ≤ 4 ∧
  ∀ (H' : Hp) (a : Addr) (o : Ord), Box H' b l → But [b, l] H H' → H' a = some (.tup o.vs) → OrdOk o at_ cnt cells → Q (.ref a) H'
theorem ok_order {f : Addr} {fd : FuncData} (F : Fun K "_law_order" "_law_order" st_law_order f fd) (c_law_take : Callee P w K mg base "_law_take" 1 2 spTake) (z_min : mg "min" = none) :
    FnOk P w K mg base CX0 2 f fd ["_law_box", "_law_cells", "_law_number_here", "_law_many"] spOrder := by
  refine F.ok sc_law_order (fun vs H Q E h => ?_) (fun cdv A outer s H vs Q E hr h => ?_)
  · obtain ⟨b, l, cells, at_, cnt, rfl, _⟩ := h
    rfl
  · obtain ⟨b, l, cells, at_, cnt, rfl, hB, c1, c16, hat, h4, q⟩ := h
    refine ⟨_, (pss_cons (ps_set (i := 4) sc_law_order.nd rfl (Or.inl rfl) (pe_op op_add pe_int (pe_cal c_law_take hr (by first | decide | exact Nat.le_refl _) (pa_cons (pv 0) (pa_cons (pe_callB (call_min2 rfl) (by rfl) z_min (by decide +kernel) (pa_cons pe_int (pa_cons (pv 1) pa_nil))) pa_nil)))))
  (pss_cons (ps_set (i := 5) sc_law_order.nd rfl (Or.inl rfl) pe_non)
  (pss_cut (ps_if (PW.pt (pw_and (pt_cmpR op_lt (pe_op op_add (pv 2) pe_int) (pv 3) (nomark _)) (pw_and1 (pt_cmpR op_eq (pe_cal c_law_take hr (by first | decide | exact Nat.le_refl _) (pa_cons (pv 0) (pa_cons pe_int pa_nil))) pe_int (nomark _))))) (pss_one (ps_set (i := 5) sc_law_order.nd rfl (Or.inl rfl) (pe_op op_add (pe_op op_add (pv 2) pe_int) (pe_cal c_law_take hr (by first | decide | exact Nat.le_refl _) (pa_cons (pv 0) (pa_cons (pe_op op_sub (pe_op op_sub (pv 3) (pv 2)) pe_int) pa_nil)))))) pss_nil)
  (pss_one (ps_ret (pe_tup (pa_cons (pe_cal c_law_take hr (by first | decide | exact Nat.le_refl _) (pa_cons (pv 0) (pa_cons (pe_op op_add (pe_op op_sub (pv 1) (pv 4)) pe_int) pa_nil))) (pa_cons (pe_cal c_law_take hr (by first | decide | exact Nat.le_refl _) (pa_cons (pv 0) (pa_cons (pe_op op_add (pe_op op_sub (pv 1) (pv 4)) pe_int) pa_nil))) (pa_cons (pv 4) (pa_cons (pv 5) pa_nil)))))))))), ?_⟩
    -- count = 1 + take(box, min(8, cells))
    refine ⟨_, rfl, _, rfl, 8, cells, rfl, b, l, _, min 8 cells, rfl, (by split <;> omega), hB, by omega, by omega, fun H1 r hB1 bt1 hr1 => ?_⟩
    refine ⟨_, _, rfl, rfl, ?_⟩
    -- later
    refine ⟨fun σ' H' => ∃ lt : Option Nat, σ' = [some (.ref b), some (nV cells), some (nV at_), some (nV cnt), some (.int (1 + (r : Int))), some (oV lt)] ∧ Box H' b l ∧ But [b, l] H H' ∧ ∀ k, lt = some k → at_ < k ∧ k < cnt, ?_, fun σ' H' hM => ?_⟩
    · refine ⟨_, rfl, _, _, rfl, rfl, _, rfl, _, _, rfl, rfl, _, rfl, ite2 (fun e => ?_) (fun e => iteF ⟨none, rfl, hB1, bt1, fun k z => nomatch z⟩)⟩
      have e' : at_ + 1 < cnt := by have := of_decide_eq_true e; omega
      refine ⟨_, rfl, b, l, _, 2, rfl, rfl, hB1, by decide, by decide, fun H2 r2 hB2 bt2 hr2 => ?_⟩
      refine ⟨rfl, _, rfl, ite2 (fun e2 => ?_) (fun e2 => ⟨none, rfl, hB2, bt1.trans bt2, fun k z => nomatch z⟩)⟩
      refine ⟨_, rfl, _, _, rfl, rfl, _, rfl, _, rfl, _, rfl, _, _, rfl, rfl, _, _, rfl, rfl, b, l, _, cnt - at_ - 1, rfl, by omega, hB2, by omega, by omega, fun H3 r3 hB3 bt3 hr3 => ?_⟩
      refine ⟨_, _, rfl, rfl, some (at_ + 1 + r3), ?_, hB3, (bt1.trans bt2).trans bt3, fun k z => by cases z; omega⟩
      show _ = [some (.ref b), some (nV cells), some (nV at_), some (nV cnt), some (.int (1 + (r : Int))), some (nV (at_ + 1 + r3))]
      rw [show nV (at_ + 1 + r3) = .int ((at_ : Int) + 1 + (r3 : Int)) by simp [nV]]
      rfl
    · obtain ⟨lt, rfl, hB2, bt2, hlt⟩ := hM
      -- return (take(..), take(..), count, later)
      refine ⟨_, rfl, _, rfl, _, rfl, _, _, rfl, rfl, _, _, rfl, rfl, b, l, _, cells - (1 + r) + 1, rfl, by omega, hB2, by omega, by omega, fun H3 r3 hB3 bt3 hr3 => ?_⟩
      refine ⟨_, rfl, _, rfl, _, rfl, _, _, rfl, rfl, _, _, rfl, rfl, b, l, _, cells - (1 + r) + 1, rfl, by omega, hB3, by omega, by omega, fun H4 r4 hB4 bt4 hr4 => ?_⟩
      refine ⟨_, rfl, _, rfl, by show 4 ≤ sizeLine; decide, fun p np => ?_⟩
      have sm := same_new (o := .tup [nV r3, nV r4, .int (1 + (r : Int)), oV lt]) np
      refine q _ p ⟨r3, r4, 1 + r, lt⟩ (hB4.same sm) (((bt2.trans bt3).trans bt4).trans (Same.but sm)) ?_ ⟨?_, ?_, ?_, ?_, hlt⟩
      · rw [upd_same]
        show _ = some (HO.tup [nV r3, nV r4, nV (1 + r), oV lt])
        rw [show nV (1 + r) = .int (1 + (r : Int)) by simp [nV]]
      all_goals (dsimp only; omega)
end
end Vt
namespace Vt
open PySem PySem.Spec PyProof.Rows L2
theorem But.newset {B : List Addr} {H H' : Hp} {p : Addr} {o : HO} (n : H p = none) (h : But B H H') : But B H (upd H' p o) := fun c u m e => by
  rw [upd_ne (ne_of_none e n)]; exact h c u m e
theorem But.box {H : Hp} {b l p : Addr} {o : HO} (h : Box H b l) (n1 : p ≠ b) (n2 : p ≠ l) : Box (upd H p o) b l := by
  obtain ⟨ns, s, h1, h2, h3⟩ := h
  exact ⟨ns, s, by rw [upd_ne n1.symm]; exact h1, by rw [upd_ne n2.symm]; exact h2, h3⟩
def allWords : List Str := ["set", "add", "say", "start", "wait", "clean", "drop"]
section
variable {P : Program} {w : World} {K : PySem.W.Frag} {mg : Str → Option Value} {base : Heap}
abbrev st_law_deed : Stmt := (topS 37)
abbrev nm_law_deed : List Str := ["_law_box", "_law_cells", "_law_orders", "_law_kinds_here", "_law_word", "_law_cell"]
theorem sc_law_deed : FnScope ["_law_box", "_law_cells", "_law_orders", "_law_kinds_here", "_law_word", "_law_cell"] ["_law_box", "_law_cells", "_law_orders", "_law_kinds_here"] (defScope st_law_deed) := ⟨rfl, rfl, rfl, by decide +kernel, rfl, by decide +kernel, by decide +kernel⟩
def spDeed : Sp := fun vs H Q _ => ∃ (b l kl : Addr) (cells cnt : Nat) (ws : List Str), vs = [.ref b, nV cells, nV cnt, .ref kl] ∧ Box H b l ∧ 4 ≤ cells ∧ cells ≤ 16 ∧ 1 ≤ cnt ∧ cnt ≤ 4 ∧
  H kl = some (.lst (ws.map V.str)) ∧ ws ≠ [] ∧ ws.length ≤ 100 ∧ (∀ x ∈ ws, x ∈ allWords) ∧
  ∀ (H' : Hp) (a : Addr) (d : Deed), Box H' b l → But [b, l] H H' → H' a = some (.tup d.vs) → DeedOk d cnt cells → d.word ∈ ws → Q (.ref a) H'
theorem ok_deed {f : Addr} {fd : FuncData} (F : Fun K "_law_deed" "_law_deed" st_law_deed f fd) (c_law_take : Callee P w K mg base "_law_take" 1 2 spTake) (z_len : mg "len" = none) (z_int : mg "int" = none) :
    FnOk P w K mg base CX0 2 f fd ["_law_box", "_law_cells", "_law_orders", "_law_kinds_here"] spDeed := by
  refine F.ok sc_law_deed (fun vs H Q E h => ?_) (fun cdv A outer s H vs Q E hr h => ?_)
  · obtain ⟨b, l, kl, cells, cnt, ws, rfl, _⟩ := h
    rfl
  · obtain ⟨b, l, kl, cells, cnt, ws, rfl, hB, c4, c16, n1, n4, hk, hne, hlen, hws, q⟩ := h
    have hpos : 0 < ws.length := List.length_pos_iff.mpr hne
    have kb : kl ≠ b := by
      obtain ⟨ns, sd, e1, _⟩ := hB
      refine ne_of hk e1 fun z => ?_
      cases ws with
      | nil => exact hne rfl
      | cons x r => cases z
    have kl' : kl ≠ l := by
      obtain ⟨ns, sd, _, e2, _⟩ := hB
      refine ne_of hk e2 fun z => ?_
      cases ws with
      | nil => exact hne rfl
      | cons x r => cases ns with
        | nil => cases z
        | cons y t => cases z
    refine ⟨_, (pss_cons (ps_set (i := 4) sc_law_deed.nd rfl (Or.inl rfl) (pe_ix ix_lt (pv 3) (pe_cal c_law_take hr (by first | decide | exact Nat.le_refl _) (pa_cons (pv 0) (pa_cons (pe_callB call_len_seq (by rfl) z_len (by decide +kernel) (pa_cons (pv 3) pa_nil)) pa_nil))) (fun _ _ => rfl)))
  (pss_cons (ps_if (pt_cmpR op_eq (pv 4) pe_str (nomark _)) (pss_one (ps_ret (pe_tup (pa_cons (pv 4) pa_nil)))) pss_nil)
  (pss_cons (ps_if (pt_cmpR op_in_seq (pv 4) (pe_tup (pa_cons pe_str (pa_cons pe_str pa_nil))) (by rfl)) (pss_one (ps_ret (pe_tup (pa_cons (pv 4) (pa_cons (pe_cal c_law_take hr (by first | decide | exact Nat.le_refl _) (pa_cons (pv 0) (pa_cons (pe_op op_fdiv (pv 1) pe_int) pa_nil))) pa_nil))))) pss_nil)
  (pss_cons (ps_if (pt_cmpR op_eq (pv 4) pe_str (nomark _)) (pss_one (ps_ret (pe_tup (pa_cons (pv 4) (pa_cons (pe_cal c_law_take hr (by first | decide | exact Nat.le_refl _) (pa_cons (pv 0) (pa_cons (pv 2) pa_nil))) pa_nil))))) pss_nil)
  (pss_cons (ps_set (i := 5) sc_law_deed.nd rfl (Or.inl rfl) (pe_cal c_law_take hr (by first | decide | exact Nat.le_refl _) (pa_cons (pv 0) (pa_cons (pv 1) pa_nil))))
  (pss_cons (ps_if (pt_cmpR op_eq (pv 4) pe_str (nomark _)) (pss_one (ps_ret (pe_tup (pa_cons (pv 4) (pa_cons (pv 5) pa_nil))))) pss_nil)
  (pss_one (ps_ret (pe_tup (pa_cons (pv 4) (pa_cons (pv 5) (pa_cons (pe_cal c_law_take hr (by first | decide | exact Nat.le_refl _) (pa_cons (pv 0) (pa_cons (pe_ix ix_lt (pe_lst (pa_cons pe_int (pa_cons (pv 1) pa_nil))) (pe_callTy call_int1 (by rfl) z_int (by decide +kernel) (pa_cons (pe_cmpR op_eq (pv 4) pe_str (nomark _)) pa_nil)) (fun _ _ => rfl)) pa_nil))) pa_nil)))))))))))), ?_⟩
    refine ⟨_, rfl, _, rfl, _, rfl, _, _, rfl, .inl (sqL_l hk), b, l, _, ws.length, rfl, by simp, hB, hpos, by omega, fun H1 r hB1 bt1 hr1 => ?_⟩
    have hk1 : H1 kl = some (.lst (ws.map V.str)) := bt1 _ _ (by simp [kb, kl']) hk
    have hx : (ws.map V.str)[r]? = some (.str ws[r]) := by rw [List.getElem?_map, List.getElem?_eq_getElem hr1]; rfl
    have hmem : ws[r] ∈ ws := List.getElem_mem hr1
    have hall := hws _ hmem
    generalize ws[r] = wd at hx hmem hall
    refine ⟨kl, _, (r : Int), .str wd, rfl, rfl, sqA_l hk1, atI_nat hx, ?_⟩
    -- if word == "wait"
    refine ⟨_, rfl, rfl, _, rfl, ite2 (fun e => ?_) (fun e1 => ?_)⟩
    · cases of_decide_eq_true e
      refine ⟨_, rfl, by show 1 ≤ sizeLine; decide, fun p np => ?_⟩
      exact q _ p .wait (hB1.same (same_new np)) (bt1.trans (Same.but (same_new np))) upd_same trivial hmem
    -- if word in ("clean", "drop")
    refine ⟨_, rfl, by show 2 ≤ sizeLine; decide, fun p np => ?_⟩
    have hB2 := hB1.same (same_new (o := .tup [.str "clean", .str "drop"]) np)
    have bt2 := bt1.trans (Same.but (same_new (o := .tup [.str "clean", .str "drop"]) np))
    refine ⟨p, _, rfl, .inr (sqT_t upd_same), rfl, rfl, _, rfl, ite2 (fun e => ?_) (fun e2 => ?_)⟩
    · refine ⟨_, rfl, _, rfl, _, rfl, _, _, rfl, rfl, ⟨by decide, by decide⟩, b, l, _, cells / 4, rfl, by simp, hB2, by omega, by omega, fun H3 r3 hB3 bt3 hr3 => ?_⟩
      refine ⟨by show 2 ≤ sizeLine; decide, fun p2 np2 => ?_⟩
      have e' : (Str.ofString "clean") = wd ∨ (Str.ofString "drop") = wd := by
        simp only [inV, eqV, List.any_cons, List.any_nil, Bool.or_false, Bool.or_eq_true] at e
        simpa using e
      rcases e' with rfl | rfl
      · exact q _ p2 (.clean r3) (hB3.same (same_new np2)) ((bt2.trans bt3).trans (Same.but (same_new np2))) upd_same hr3 hmem
      · exact q _ p2 (.drop r3) (hB3.same (same_new np2)) ((bt2.trans bt3).trans (Same.but (same_new np2))) upd_same hr3 hmem
    -- if word == "start"
    refine ⟨_, rfl, rfl, _, rfl, ite2 (fun e => ?_) (fun e3 => ?_)⟩
    · cases of_decide_eq_true e
      refine ⟨_, rfl, _, rfl, _, rfl, b, l, _, cnt, rfl, rfl, hB2, by omega, by omega, fun H3 r3 hB3 bt3 hr3 => ?_⟩
      refine ⟨by show 2 ≤ sizeLine; decide, fun p2 np2 => ?_⟩
      exact q _ p2 (.start r3) (hB3.same (same_new np2)) ((bt2.trans bt3).trans (Same.but (same_new np2))) upd_same hr3 hmem
    refine ⟨_, rfl, _, rfl, b, l, _, cells, rfl, rfl, hB2, by omega, by omega, fun H3 r3 hB3 bt3 hr3 => ?_⟩
    -- if word == "say"
    refine ⟨_, rfl, rfl, _, rfl, ite2 (fun e => ?_) (fun e4 => ?_)⟩
    · cases of_decide_eq_true e
      refine ⟨_, rfl, _, rfl, by show 2 ≤ sizeLine; decide, fun p2 np2 => ?_⟩
      exact q _ p2 (.say r3) (hB3.same (same_new np2)) ((bt2.trans bt3).trans (Same.but (same_new np2))) upd_same hr3 hmem
    have hsa : wd = "set" ∨ wd = "add" := by
      have f1 : ¬ wd = "wait" := fun z => e1 (by rw [z]; exact decide_eq_true rfl)
      have f3 : ¬ wd = "start" := fun z => e3 (by rw [z]; exact decide_eq_true rfl)
      have f4 : ¬ wd = "say" := fun z => e4 (by rw [z]; exact decide_eq_true rfl)
      have f2 : ¬ (wd = "clean" ∨ wd = "drop") := fun z => e2 (by rcases z with rfl | rfl <;> decide)
      simp only [allWords, List.mem_cons, List.not_mem_nil, or_false] at hall
      rcases hall with h | h | h | h | h | h | h
      · exact .inl h
      · exact .inr h
      · exact absurd h f4
      · exact absurd h f3
      · exact absurd h f1
      · exact absurd (.inl h) f2
      · exact absurd (.inr h) f2
    refine ⟨_, rfl, _, rfl, _, rfl, _, rfl, by show 2 ≤ sizeLine; decide, fun p2 np2 => ?_⟩
    have hB4 := hB3.same (same_new (o := .lst [.int 10, nV cells]) np2)
    have bt4 := (bt2.trans bt3).trans (Same.but (same_new (o := .lst [.int 10, nV cells]) np2))
    refine ⟨_, rfl, rfl, .inr ⟨_, rfl, ?_⟩⟩
    rcases hsa with rfl | rfl
    · refine ⟨p2, [.int 10, nV cells], 0, .int 10, rfl, (by decide), sqA_l upd_same, rfl, b, l, _, 10, rfl, rfl, hB4, by decide, by decide, fun H5 r5 hB5 bt5 hr5 => ?_⟩
      refine ⟨by show 3 ≤ sizeLine; decide, fun p3 np3 => ?_⟩
      exact q _ p3 (.set r3 r5) (hB5.same (same_new np3)) ((bt4.trans bt5).trans (Same.but (same_new np3))) upd_same ⟨hr3, hr5⟩ hmem
    · refine ⟨p2, [.int 10, nV cells], 1, nV cells, rfl, (by decide), sqA_l upd_same, rfl, b, l, _, cells, rfl, rfl, hB4, by omega, by omega, fun H5 r5 hB5 bt5 hr5 => ?_⟩
      refine ⟨by show 3 ≤ sizeLine; decide, fun p3 np3 => ?_⟩
      exact q _ p3 (.add r3 r5) (hB5.same (same_new np3)) ((bt4.trans bt5).trans (Same.but (same_new np3))) upd_same ⟨hr3, hr5⟩ hmem
end
end Vt
namespace Vt
open PySem PySem.Spec PyProof.Rows L2
theorem nV_add (a b : Nat) : (V.int ((a : Int) + (b : Int))) = nV (a + b) := by simp [nV]
theorem filter_app {α : Type} (p : α → Bool) (xs : List α) (x : α) : ((xs ++ [x]).filter p).length = (xs.filter p).length + (if p x then 1 else 0) := by
  rw [List.filter_append, List.length_append]
  congr 1
  cases h : p x <;> simp [h]
theorem word_start (d : Deed) : (d.word = "start") ↔ isStart d = true := by
  cases d <;> simp [Deed.word, isStart] <;> decide
section
variable {P : Program} {w : World} {K : PySem.W.Frag} {mg : Str → Option Value} {base : Heap}
abbrev st_law_board : Stmt := (topS 38)
abbrev nm_law_board : List Str := ["_law_box", "_law_lines", "_law_deeds", "_law_kinds_here", "_law_cells", "_law_memory", "_law_cell", "_law_many", "_law_orders", "_law_number_here", "_law_program", "_law_turn", "_law_deed_here", "_law_one"]
theorem sc_law_board : FnScope ["_law_box", "_law_lines", "_law_deeds", "_law_kinds_here", "_law_cells", "_law_memory", "_law_cell", "_law_many", "_law_orders", "_law_number_here", "_law_program", "_law_turn", "_law_deed_here", "_law_one"] ["_law_box", "_law_lines", "_law_deeds", "_law_kinds_here"] (defScope st_law_board) := ⟨rfl, rfl, rfl, by decide +kernel, rfl, by decide +kernel, by decide +kernel⟩
def spBoard : Sp := fun vs H Q _ => ∃ (b l kl : Addr) (lines deeds : Nat) (ws : List Str), vs = [.ref b, nV lines, nV deeds, .ref kl] ∧ Box H b l ∧ 1 ≤ lines ∧ lines ≤ 4 ∧ deeds ≤ 60 ∧
  H kl = some (.lst (ws.map V.str)) ∧ ws ≠ [] ∧ ws.length ≤ 100 ∧ (∀ x ∈ ws, x ∈ allWords) ∧
  ∀ (H' : Hp) (v : V) (B : Brd), Box H' b l → But [b, l] H H' → Pd H' v B.d → BrdOk B → B.mem.length ≤ 4 * lines → B.prog.length ≤ deeds → 1 ≤ B.ords.length → (∀ d ∈ B.prog, d.word ∈ ws ∨ d.word = "say") → Q v H'
theorem ok_board {f : Addr} {fd : FuncData} (F : Fun K "_law_board" "_law_board" st_law_board f fd) (c_law_take : Callee P w K mg base "_law_take" 1 2 spTake) (c_law_order : Callee P w K mg base "_law_order" 2 4 spOrder) (c_law_deed : Callee P w K mg base "_law_deed" 2 4 spDeed)
    (z_len : mg "len" = none) (z_tuple : mg "tuple" = none) (z_range : mg "range" = none) : FnOk P w K mg base CX0 3 f fd ["_law_box", "_law_lines", "_law_deeds", "_law_kinds_here"] spBoard := by
  refine F.ok sc_law_board (fun vs H Q E h => ?_) (fun cdv A outer s H vs Q E hr h => ?_)
  · obtain ⟨b, l, kl, lines, deeds, ws, rfl, _⟩ := h
    rfl
  · obtain ⟨b, l, kl, lines, deeds, ws, rfl, hB, l1, l4, d60, hk, hne, hlen, hws, q⟩ := h
    have kb : kl ≠ b := by
      obtain ⟨ns, sd, e1, _⟩ := hB
      refine ne_of hk e1 fun z => ?_
      cases ws with
      | nil => exact hne rfl
      | cons x r => cases z
    have kl' : kl ≠ l := by
      obtain ⟨ns, sd, _, e2, _⟩ := hB
      refine ne_of hk e2 fun z => ?_
      cases ws with
      | nil => exact hne rfl
      | cons x r => cases ns with
        | nil => cases z
        | cons y t => cases z
    have hknot : kl ∉ [b, l] := by simp [kb, kl']
    have nonb : ∀ p, H p = none → p ≠ b ∧ p ≠ l := fun p np => by
      obtain ⟨ns, sd, e1, e2, _⟩ := hB
      exact ⟨(ne_of_none e1 np).symm, (ne_of_none e2 np).symm⟩
    refine ⟨_, (pss_cons (ps_set (i := 4) sc_law_board.nd rfl (Or.inr rfl) (pe_op op_mul pe_int (pe_op op_add pe_int (pe_cal c_law_take hr (by first | decide | exact Nat.le_refl _) (pa_cons (pv 0) (pa_cons (pv 1) pa_nil))))))
  (pss_cons (ps_set (i := 5) sc_law_board.nd rfl (Or.inl rfl) (pe_callTy call_tuple_of (by rfl) z_tuple (by decide +kernel) (pa_cons (pe_lc (own := [("_law_cell", 6)]) rfl sc_law_board.nd (pi_range1 (by rfl) z_range (pa_cons (pv 4) pa_nil)) (blkOk_by (own := [("_law_cell", 6)]) (N := nm_law_board) (sc := defScope (topS 38)) (by decide +kernel)) (fun _ _ _ _ _ => (pg_name (i := 6) sc_law_board.nd rfl (Or.inl rfl))) (fun _ _ _ _ _ => pts_nil) (fun _ _ _ _ _ => (pe_cal c_law_take hr (by first | decide | exact Nat.le_refl _) (pa_cons (pv 0) (pa_cons pe_int pa_nil))))) pa_nil)))
  (pss_cons (ps_set (i := 7) sc_law_board.nd rfl (Or.inr rfl) (pe_op op_add pe_int (pe_cal c_law_take hr (by first | decide | exact Nat.le_refl _) (pa_cons (pv 0) (pa_cons pe_int pa_nil)))))
  (pss_cons (ps_set (i := 8) sc_law_board.nd rfl (Or.inl rfl) (pe_callTy call_tuple_of (by rfl) z_tuple (by decide +kernel) (pa_cons (pe_lc (own := [("_law_number_here", 9)]) rfl sc_law_board.nd (pi_range1 (by rfl) z_range (pa_cons (pv 7) pa_nil)) (blkOk_by (own := [("_law_number_here", 9)]) (N := nm_law_board) (sc := defScope (topS 38)) (by decide +kernel)) (fun _ _ _ _ _ => (pg_name (i := 9) sc_law_board.nd rfl (Or.inl rfl))) (fun _ _ _ _ _ => pts_nil) (fun _ _ _ _ _ => (pe_cal c_law_order hr (by first | decide | exact Nat.le_refl _) (pa_cons (pv 0) (pa_cons (pv 4) (pa_cons (pv 9) (pa_cons (pv 7) pa_nil))))))) pa_nil)))
  (pss_cons (ps_set (i := 10) sc_law_board.nd rfl (Or.inl rfl) (pe_lst pa_nil))
  (pss_cons (ps_for PassesOwn.never rfl (pi_range1 (by rfl) z_range (pa_cons (pe_cal c_law_take hr (by first | decide | exact Nat.le_refl _) (pa_cons (pv 0) (pa_cons (pe_op op_add (pv 2) pe_int) pa_nil))) pa_nil)) (pg_name (i := 11) sc_law_board.nd rfl (Or.inl rfl))
  (pss_cons (ps_set (i := 12) sc_law_board.nd rfl (Or.inl rfl) (pe_cal c_law_deed hr (by first | decide | exact Nat.le_refl _) (pa_cons (pv 0) (pa_cons (pv 4) (pa_cons (pv 7) (pa_cons (pv 3) pa_nil))))))
  (pss_cut (ps_if (PW.pt (pw_and (pt_cmpR op_eq (pe_ix ix_lt (pv 12) pe_int (fun _ _ => rfl)) pe_str (nomark _)) (pw_and1 (pt_cmpR op_eq (pe_callB call_len_seq (by rfl) z_len (by decide +kernel) (pa_cons (pe_lc (own := [("_law_one", 13)]) rfl sc_law_board.nd (pi_lt (pv 10)) (blkOk_by (own := [("_law_one", 13)]) (N := nm_law_board) (sc := defScope (topS 38)) (by decide +kernel)) (fun _ _ _ _ _ => (pg_name (i := 13) sc_law_board.nd rfl (Or.inl rfl))) (fun _ _ _ _ _ => (pts_one (pt_cmpR op_eq (pe_ix (ix_ltk K) (pv 13) pe_int (fun _ _ => rfl)) pe_str (nomark _)))) (fun _ _ _ _ _ => (pv 13))) pa_nil)) pe_int (nomark _))))) (pss_one (ps_set (i := 12) sc_law_board.nd rfl (Or.inl rfl) (pe_tup (pa_cons pe_str (pa_cons (pe_cal c_law_take hr (by first | decide | exact Nat.le_refl _) (pa_cons (pv 0) (pa_cons (pv 4) pa_nil))) pa_nil))))) pss_nil)
  (pss_one (ps_expr (pe_bm PySem.F.plainAttrs_list PySem.F.slot_list_append PySem.F.type_list_append mt_append (pv 10) (pa_cons (pv 12) pa_nil)))))))
  (pss_one (ps_ret (pe_tup (pa_cons (pv 5) (pa_cons (pv 8) (pa_cons (pe_callTy call_tuple_of (by rfl) z_tuple (by decide +kernel) (pa_cons (pv 10) pa_nil)) pa_nil)))))))))))), ?_⟩
    -- cells = 4 * (1 + take(box, lines))
    refine ⟨_, rfl, _, rfl, b, l, _, lines, rfl, rfl, hB, by omega, by omega, fun H1 r1 hB1 bt1 hr1 => ?_⟩
    refine ⟨_, _, rfl, rfl, _, _, rfl, rfl, .inl ⟨by decide, by decide⟩, ?_⟩
    have ec : (4 : Int) * (1 + (r1 : Int)) = ((4 * (1 + r1) : Nat) : Int) := by omega
    refine chgN (y := nV (4 * (1 + r1))) (congrArg V.int ec) ?_
    generalize hc : 4 * (1 + r1) = cells
    have c16 : cells ≤ 16 := by omega
    have cN : cells = 4 ∨ cells = 8 ∨ cells = 12 ∨ cells = 16 := by omega
    -- memory
    refine ⟨_, rfl, _, rfl, by omega, by omega, fun D1 nD1 => ?_⟩
    refine lc_it (walk_range (lo := 0) (n := (cells : Int).toNat)) (fun i H' => ∃ ns : List Nat, ns.length = i ∧ (∀ n ∈ ns, n < 10) ∧ H' D1 = some (.lst (ns.map nV)) ∧ Box H' b l ∧ But [b, l] H1 H')
      ⟨[], rfl, by simp, upd_same, hB1.same (same_new nD1), Same.but (same_new nD1)⟩ (fun _ _ _ _ => trivial) (fun i x H2 H3 hi hp hy => ?_) (fun H2 hp => ?_)
    · obtain ⟨ns, e1, e2, e3, hB2, bt2⟩ := hp
      obtain ⟨rfl, rfl⟩ := hy
      refine ⟨rfl, ?_⟩
      refine ⟨_, rfl, b, l, _, 10, rfl, rfl, hB2, by decide, by decide, fun H4 r hB4 bt4 hr => ?_⟩
      have nD : D1 ≠ b ∧ D1 ≠ l := by
        obtain ⟨ns', sd, f1, f2, _⟩ := hB1
        exact ⟨(ne_of_none f1 nD1).symm, (ne_of_none f2 nD1).symm⟩
      have e3' := bt4 _ _ (by simp [nD.1, nD.2]) e3
      refine ⟨_, e3', by rw [List.length_map]; exact fits (by omega), ns ++ [r], by simp [e1], fun n hn => ?_, by rw [upd_same, List.map_append]; rfl, But.box hB4 nD.1 nD.2, But.newset nD1 (bt2.trans bt4)⟩
      rcases List.mem_append.mp hn with h | h
      · exact e2 n h
      · rw [List.mem_singleton.mp h]; exact hr
    obtain ⟨mem, m1, m2, m3, hB2, bt2⟩ := hp
    refine ⟨D1, _, rfl, .inl ⟨sqL_l m3, fun M nM => ?_⟩⟩
    have hM : (upd H2 M (.tup (mem.map nV))) M = some (.tup (mem.map nV)) := upd_same
    have hB3 := hB2.same (same_new (o := .tup (mem.map nV)) nM)
    have bt3 := (bt1.trans bt2).trans (Same.but (same_new (o := .tup (mem.map nV)) nM))
    have mlen : mem.length = cells := by omega
    generalize upd H2 M (.tup (mem.map nV)) = H3 at hM hB3 bt3
    -- many = 1 + take(box, 4)
    refine ⟨_, rfl, b, l, _, 4, rfl, rfl, hB3, by decide, by decide, fun H4 r4 hB4 bt4 hr4 => ?_⟩
    refine ⟨_, _, rfl, rfl, ?_⟩
    refine chgN (y := nV (1 + r4)) (congrArg V.int (by omega)) ?_
    generalize hcnt : 1 + r4 = cnt
    have nMb : M ∉ [b, l] := fun m => by
      obtain ⟨ys, e⟩ := hB3.lsts _ m
      rw [hM] at e; cases e
    have hM4 := bt4 _ _ nMb hM
    -- orders
    refine ⟨_, rfl, _, rfl, by omega, by omega, fun D2 nD2 => ?_⟩
    have nD2' : D2 ≠ b ∧ D2 ≠ l := by
      obtain ⟨ns', sd, f1, f2, _⟩ := hB4
      exact ⟨(ne_of_none f1 nD2).symm, (ne_of_none f2 nD2).symm⟩
    refine lc_it (walk_range (lo := 0) (n := (cnt : Int).toNat)) (fun i H' => ∃ (os : List Ord) (vs : List V), os.length = i ∧ (∀ (j : Nat) (o : Ord), os[j]? = some o → OrdOk o j cnt cells) ∧ Pds H' vs (os.map Ord.d) ∧ H' D2 = some (.lst vs) ∧ Box H' b l ∧ But [b, l] H4 H')
      ⟨[], [], rfl, by simp, .nil, upd_same, hB4.same (same_new nD2), Same.but (same_new nD2)⟩ (fun _ _ _ _ => trivial) (fun i x H5 H6 hi hp hy => ?_) (fun H5 hp => ?_)
    · obtain ⟨os, vs, e1, e2, e3, e4, hB5, bt5⟩ := hp
      obtain ⟨rfl, rfl⟩ := hy
      refine ⟨rfl, ?_⟩
      refine ⟨_, rfl, _, rfl, _, rfl, _, rfl, b, l, cells, i, cnt, by simp [nV], hB5, by omega, c16, by omega, by omega, fun H7 a o hB7 bt7 ha ho => ?_⟩
      have e4' := bt7 _ _ (by simp [nD2'.1, nD2'.2]) e4
      have hs5 : Pds H7 vs (os.map Ord.d) := Pds.but bt7 hB5.lsts (noLs_map noL_ord _) e3
      have aD : a ≠ D2 := fun z => by rw [z, e4'] at ha; cases ha
      have lsD : Lsts H7 [D2] := fun c hc => ⟨vs, by rw [List.mem_singleton.mp hc]; exact e4'⟩
      have stepB : But [D2] H7 (upd H7 D2 (.lst (vs ++ [.ref a]))) := But.set (by simp)
      have vlen := e3.len
      refine ⟨_, e4', by rw [vlen, List.length_map]; exact fits (by omega), os ++ [o], vs ++ [.ref a], by simp [e1], fun j o' hj => ?_, ?_, upd_same, But.box hB7 nD2'.1 nD2'.2, But.newset nD2 (bt5.trans bt7)⟩
      · rcases Nat.lt_or_ge j os.length with h | h
        · rw [List.getElem?_append_left h] at hj
          exact e2 j o' hj
        · rw [List.getElem?_append_right h] at hj
          have : j - os.length = 0 := by
            have := (List.getElem?_eq_some_iff.mp hj).1
            simp at this; omega
          rw [this] at hj
          cases hj
          have ej : j = i := by omega
          rw [ej]; exact ho
      · rw [List.map_append]
        exact (Pds.but stepB lsD (noLs_map noL_ord _) hs5).app (.cons (Ord.pd (by rw [upd_ne aD]; exact ha)) .nil)
    obtain ⟨os, ovs, o1, o2, o3, o4, hB5, bt5⟩ := hp
    refine ⟨D2, _, rfl, .inl ⟨sqL_l o4, fun O nO => ?_⟩⟩
    have hM5 := bt5 _ _ nMb hM4
    have sO : Same H5 (upd H5 O (.tup ovs)) := same_new nO
    have hO : (upd H5 O (.tup ovs)) O = some (.tup ovs) := upd_same
    have hOs := Pds.same sO o3
    have hM6 := sO _ _ hM5
    have hB6 := hB5.same sO
    have bt6 := ((bt3.trans bt4).trans bt5).trans (Same.but sO)
    have olen : os.length = cnt := by omega
    generalize upd H5 O (.tup ovs) = H6 at hO hOs hM6 hB6 bt6 sO
    have nOb : O ∉ [b, l] := fun m => by
      obtain ⟨ys, e⟩ := hB6.lsts _ m
      rw [hO] at e; cases e
    -- program = []
    refine ⟨Nat.zero_le _, fun pl npl => ?_⟩
    have hB7 := hB6.same (same_new (o := .lst []) npl)
    have npl' : pl ≠ b ∧ pl ≠ l := by
      obtain ⟨ns', sd, f1, f2, _⟩ := hB6
      exact ⟨(ne_of_none f1 npl).symm, (ne_of_none f2 npl).symm⟩
    -- for turn in range(take(box, deeds + 1))
    refine ⟨_, rfl, _, rfl, _, _, rfl, rfl, b, l, _, deeds + 1, rfl, by omega, hB7, by omega, by omega, fun H8 r8 hB8 bt8 hr8 => ?_⟩
    refine ⟨_, rfl, by omega, by omega, ?_⟩
    have hpl8 : H8 pl = some (.lst []) := bt8 _ _ (by simp [npl'.1, npl'.2]) upd_same
    have btx : But [b, l] H6 H8 := (Same.but (same_new npl)).trans bt8
    refine for_it (walk_range (lo := 0) (n := (r8 : Int).toNat)) (fun i σ H' => ∃ (ds : List Deed) (vs : List V) (y1 y2 : Option V), σ = [some (.ref b), some (nV lines), some (nV deeds), some (.ref kl), some (nV cells), some (.ref M), none, some (nV cnt), some (.ref O), none, some (.ref pl), y1, y2, none] ∧
        ds.length = i ∧ (∀ d ∈ ds, DeedOk d cnt cells ∧ (d.word ∈ ws ∨ d.word = "say")) ∧ (ds.filter isStart).length ≤ 3 ∧ Pds H' vs (ds.map Deed.d) ∧ H' pl = some (.lst vs) ∧ Box H' b l ∧ But [b, l] H6 H')
      ⟨[], [], _, _, rfl, rfl, by simp, by simp, .nil, hpl8, hB8, btx⟩ (fun _ _ _ _ _ => trivial) (fun i x σ H9 H10 hi hp hy => ?_) (fun σ H9 hp => ?_)
    · obtain ⟨ds, vs, y1, y2, rfl, e1, e2, e3, e4, e5, hB9, bt9⟩ := hp
      obtain ⟨rfl, rfl⟩ := hy
      have hk9 := (bt6.trans bt9) _ _ hknot hk
      refine ⟨_, rfl, _, rfl, _, rfl, _, rfl, b, l, kl, cells, cnt, ws, rfl, hB9, by omega, c16, by omega, by omega, hk9, hne, hlen, hws, fun H11 a d hB11 bt11 ha hd hw => ?_⟩
      have e5' := bt11 _ _ (by simp [npl'.1, npl'.2]) e5
      have e4' : Pds H11 vs (ds.map Deed.d) := Pds.but bt11 hB9.lsts (noLs_map noL_deed _) e4
      -- if deed[0] == "start" and len([..]) == 3
      refine ⟨fun σ' H' => ∃ (a' : Addr) (d' : Deed), σ' = [some (.ref b), some (nV lines), some (nV deeds), some (.ref kl), some (nV cells), some (.ref M), none, some (nV cnt), some (.ref O), none, some (.ref pl), some (.int (0 + (i : Int))), some (.ref a'), none] ∧
          H' a' = some (.tup d'.vs) ∧ DeedOk d' cnt cells ∧ (d'.word ∈ ws ∨ d'.word = "say") ∧ ((ds ++ [d']).filter isStart).length ≤ 3 ∧ Pds H' vs (ds.map Deed.d) ∧ H' pl = some (.lst vs) ∧ Box H' b l ∧ But [b, l] H6 H', ?_, fun σ' H' hM => ?_⟩
      · refine ⟨_, rfl, a, _, 0, .str d.word, rfl, rfl, sqA_t ha, at0, rfl, _, rfl, ite2 (fun e => ?_) (fun e => iteF ?_)⟩
        · have ew : d.word = "start" := by injection of_decide_eq_true e
          have es : isStart d = true := (word_start d).mp ew
          -- the comprehension
          refine ⟨_, rfl, pl, rfl, .inl ⟨_, sqL_l e5', fun D3 nD3 => ?_⟩⟩
          have plD : pl ≠ D3 := ne_of_none e5' nD3
          refine lc_it (walk_list (xs := vs)) (fun j H' => ∃ acc : List V, acc.length = ((ds.take j).filter isStart).length ∧ H' D3 = some (.lst acc) ∧ Same H11 H')
            ⟨[], rfl, upd_same, same_new nD3⟩ (fun j H' _ hp => by obtain ⟨_, _, _, sm⟩ := hp; exact sqL_l (sm _ _ e5')) (fun j x H12 H13 hj hp hy => ?_) (fun H12 hp => ?_)
          · obtain ⟨acc, a1, a2, sm⟩ := hp
            obtain ⟨rfl, hx⟩ := hy
            obtain ⟨dd, hdd, hpd⟩ := e4'.get' hx
            rw [List.getElem?_map] at hdd
            obtain ⟨d0, hd0, rfl⟩ : ∃ d0, ds[j]? = some d0 ∧ d0.d = dd := by simpa using hdd
            obtain ⟨a0, rfl, ha0⟩ := Deed.of hpd
            have tk : ((ds.take (j + 1)).filter isStart).length = ((ds.take j).filter isStart).length + (if isStart d0 then 1 else 0) := by
              rw [List.take_add_one, hd0]
              exact filter_app _ _ _
            refine ⟨rfl, _, rfl, a0, _, 0, .str d0.word, rfl, rfl, sqA_t (sm _ _ ha0), at0, rfl, _, rfl, ite2 (fun e => ?_) (fun e => ?_)⟩
            · have ew : d0.word = "start" := by injection of_decide_eq_true e
              have alen : acc.length ≤ 60 := by
                have := List.length_filter_le isStart (ds.take j)
                have := List.length_take_le' j ds
                omega
              refine ⟨_, rfl, acc, a2, fits (by omega), acc ++ [.ref a0], ?_, upd_same, fun c u hc => ?_⟩
              · rw [tk, (word_start d0).mp ew, List.length_append, a1]; rfl
              · rw [upd_ne (ne_of_none hc nD3)]; exact sm _ _ hc
            · have ew : ¬ isStart d0 = true := fun z => e (by rw [(word_start d0).mpr z]; exact decide_eq_true rfl)
              exact ⟨acc, by rw [tk, if_neg ew]; exact a1, a2, sm⟩
          · obtain ⟨acc, a1, a2, sm⟩ := hp
            have vlen : vs.length = ds.length := by rw [e4'.len, List.length_map]
            rw [vlen, List.take_length] at a1
            refine ⟨D3, _, rfl, .inl (sqL_l a2), rfl, _, rfl, ite2 (fun e7 => ?_) (fun e7 => ?_)⟩
            · refine ⟨_, rfl, _, rfl, b, l, _, cells, rfl, rfl, hB11.same sm, by omega, by omega, fun H14 r14 hB14 bt14 hr14 => ?_⟩
              refine ⟨by show 2 ≤ sizeLine; decide, fun a' na' => ?_⟩
              have s4 : Pds H14 vs (ds.map Deed.d) := Pds.but bt14 (hB11.same sm).lsts (noLs_map noL_deed _) (Pds.same sm e4')
              have s5 := bt14 _ _ (by simp [npl'.1, npl'.2]) (sm _ _ e5')
              refine ⟨a', .say r14, rfl, upd_same, hr14, .inr rfl, ?_, Pds.same (same_new na') s4, same_new na' _ _ s5, hB14.same (same_new na'), (((bt9.trans bt11).trans (Same.but sm)).trans bt14).trans (Same.but (same_new na'))⟩
              rw [filter_app]; exact e3
            · refine ⟨a, d, rfl, sm _ _ ha, hd, .inl hw, ?_, Pds.same sm e4', sm _ _ e5', hB11.same sm, (bt9.trans bt11).trans (Same.but sm)⟩
              rw [filter_app, if_pos es]
              have : ¬ acc.length = 3 := fun z => e7 (by rw [z]; rfl)
              omega
        · refine ⟨a, d, rfl, ha, hd, .inl hw, ?_, e4', e5', hB11, bt9.trans bt11⟩
          have ew : ¬ isStart d = true := fun z => e (by rw [(word_start d).mpr z]; exact decide_eq_true rfl)
          rw [filter_app, if_neg ew]; exact e3
      · obtain ⟨a', d', rfl, f1, f2, f3, f4, f5, f6, hB14, bt14⟩ := hM
        have vlen : vs.length = ds.length := by rw [f5.len, List.length_map]
        refine ⟨_, rfl, .inl ⟨rfl, _, sqL_l f6⟩, _, rfl, pl, _, _, rfl, rfl, f6, fits (by omega), ?_⟩
        have ap : a' ≠ pl := fun z => by rw [z, f6] at f1; cases f1
        have lsD : Lsts H' [pl] := fun c hc => ⟨vs, by rw [List.mem_singleton.mp hc]; exact f6⟩
        have stepB : But [pl] H' (upd H' pl (.lst (vs ++ [.ref a']))) := But.set (by simp)
        refine ⟨ds ++ [d'], vs ++ [.ref a'], _, _, rfl, by simp [e1], fun d hd => ?_, f4, ?_, upd_same, But.box hB14 npl'.1 npl'.2, But.newset npl bt14⟩
        · rcases List.mem_append.mp hd with h | h
          · exact e2 d h
          · rw [List.mem_singleton.mp h]; exact ⟨f2, f3⟩
        · rw [List.map_append]
          exact (Pds.but stepB lsD (noLs_map noL_deed _) f5).app (.cons (Deed.pd (by rw [upd_ne ap]; exact f1)) .nil)
    · obtain ⟨ds, vs, y1, y2, rfl, e1, e2, e3, e4, e5, hB9, bt9⟩ := hp
      refine ⟨_, rfl, _, rfl, _, rfl, pl, _, rfl, .inl ⟨sqL_l e5, fun Pt nPt => ?_⟩⟩
      refine ⟨by show 3 ≤ sizeLine; decide, fun v nv => ?_⟩
      have s1 : Same H9 (upd H9 Pt (.tup vs)) := same_new nPt
      have s2 := same_new (o := .tup [.ref M, .ref O, .ref Pt]) nv
      have s12 := s1.trans s2
      have gM := s12 _ _ (bt9 _ _ nMb hM6)
      have gO := s12 _ _ (bt9 _ _ nOb hO)
      have gP := s2 _ _ (show (upd H9 Pt (.tup vs)) Pt = some (.tup vs) from upd_same)
      refine q _ (.ref v) ⟨mem, os, ds⟩ (hB9.same s12) ((bt6.trans bt9).trans (Same.but s12)) ?_ ⟨?_, m2, ?_, fun j o hj => ?_, ?_, ?_, e3⟩ ?_ ?_ ?_ ?_
      · exact .tup upd_same (.cons (.tup gM (pds_ns _)) (.cons (.tup gO (Pds.same s12 (Pds.but bt9 hB6.lsts (noLs_map noL_ord _) hOs))) (.cons (.tup gP (Pds.same s12 e4)) .nil)))
      · dsimp only; rw [mlen]; exact cN
      · dsimp only; omega
      · dsimp only at hj ⊢; rw [olen, mlen]; exact o2 j o hj
      · dsimp only; omega
      · intro d hd; dsimp only at hd ⊢; rw [olen, mlen]; exact (e2 d hd).1
      · dsimp only; omega
      · dsimp only; omega
      · dsimp only; omega
      · intro d hd; exact (e2 d hd).2
end
end Vt
namespace Vt
open PySem PySem.Spec PyProof.Rows L2
/-! ### boards as they are handed in, and what is first wrong in them -/
structure ROrd where
  src : Int
  goal : Int
  many : Int
  later : Option Int
structure RDeed where
  word : Str
  nums : List Int
structure RBrd where
  mem : List Int
  ords : List ROrd
  prog : List RDeed
def iV : Option Int → V
  | none => .non
  | some k => .int k
def iD : Option Int → D
  | none => .non
  | some k => .int k
def ROrd.vs (o : ROrd) : List V := [.int o.src, .int o.goal, .int o.many, iV o.later]
def ROrd.d (o : ROrd) : D := .tup [.int o.src, .int o.goal, .int o.many, iD o.later]
def RDeed.vs (d : RDeed) : List V := .str d.word :: d.nums.map V.int
def RDeed.d (d : RDeed) : D := .tup (.str d.word :: d.nums.map D.int)
def RBrd.d (B : RBrd) : D := .tup [.tup (B.mem.map D.int), .tup (B.ords.map ROrd.d), .tup (B.prog.map RDeed.d)]
def Ord.raw (o : Ord) : ROrd := ⟨o.src, o.goal, o.many, o.later.map fun k => (k : Int)⟩
def Deed.raw (d : Deed) : RDeed := ⟨d.word, d.args.map fun (k : Nat) => (k : Int)⟩
def Brd.raw (B : Brd) : RBrd := ⟨B.mem.map (fun (k : Nat) => (k : Int)), B.ords.map Ord.raw, B.prog.map Deed.raw⟩
theorem raw_ord (o : Ord) : o.raw.d = o.d := by
  obtain ⟨s, g, m, l⟩ := o
  cases l <;> rfl
theorem raw_deed (d : Deed) : d.raw.d = d.d := by
  simp only [Deed.raw, RDeed.d, Deed.d, List.map_map]; rfl
theorem raw_brd (B : Brd) : B.raw.d = B.d := by
  simp only [Brd.raw, RBrd.d, Brd.d, nsD, List.map_map]
  have h1 : (ROrd.d ∘ Ord.raw) = Ord.d := funext raw_ord
  have h2 : (RDeed.d ∘ Deed.raw) = Deed.d := funext raw_deed
  rw [h1, h2]; rfl
section
variable {H : Hp}
theorem ROrd.of {o : ROrd} {v : V} (h : Pd H v o.d) : ∃ a, v = .ref a ∧ H a = some (.tup o.vs) := by
  obtain ⟨s, g, m, l⟩ := o
  cases h with
  | tup h hs =>
    cases hs with
    | cons h1 hs => cases h1; cases hs with
      | cons h2 hs => cases h2; cases hs with
        | cons h3 hs => cases h3; cases hs with
          | cons h4 hs =>
            cases hs
            refine ⟨_, rfl, ?_⟩
            cases l with
            | none => cases h4; exact h
            | some k => cases h4; exact h
theorem RDeed.of {d : RDeed} {v : V} (h : Pd H v d.d) : ∃ a, v = .ref a ∧ H a = some (.tup d.vs) := by
  cases h with
  | tup h hs =>
    cases hs with
    | cons h1 hs =>
      cases h1
      rw [hs.ints] at h
      exact ⟨_, rfl, h⟩
theorem RBrd.of {B : RBrd} {v : V} (h : Pd H v B.d) : ∃ a m o p os ps, v = .ref a ∧ H a = some (.tup [.ref m, .ref o, .ref p]) ∧ H m = some (.tup (B.mem.map V.int)) ∧ H o = some (.tup os) ∧ Pds H os (B.ords.map ROrd.d) ∧ H p = some (.tup ps) ∧ Pds H ps (B.prog.map RDeed.d) := by
  obtain ⟨mem, ords, prog⟩ := B
  cases h with
  | tup h hs =>
    cases hs with
    | cons h1 hs => cases h1 with
      | tup e1 k1 => cases hs with
        | cons h2 hs => cases h2 with
          | tup e2 k2 => cases hs with
            | cons h3 hs => cases h3 with
              | tup e3 k3 =>
                cases hs
                rw [k1.ints] at e1
                exact ⟨_, _, _, _, _, _, rfl, h, e1, e2, k2, e3, k3⟩
end
/-- the first place at which p stands -/
def fst {α : Type} (p : Nat → α → Bool) : Nat → List α → Option Nat
  | _, [] => none
  | i, x :: r => if p i x = true then some i else fst p (i + 1) r
theorem fst_none {α : Type} {p : Nat → α → Bool} : ∀ {xs : List α} {k : Nat}, (∀ i x, xs[i]? = some x → p (k + i) x = false) → fst p k xs = none
  | [], _, _ => rfl
  | x :: r, k, h => by
    rw [fst, if_neg (by rw [show p k x = false from h 0 x rfl]; simp)]
    exact fst_none fun i y e => by
      have := h (i + 1) y (by simpa using e)
      rw [show k + 1 + i = k + (i + 1) by omega]; exact this
theorem fst_some {α : Type} {p : Nat → α → Bool} : ∀ {xs : List α} {k i : Nat} {x : α}, xs[i]? = some x → p (k + i) x = true → (∀ j y, j < i → xs[j]? = some y → p (k + j) y = false) → fst p k xs = some (k + i)
  | [], _, _, _, e, _, _ => by simp at e
  | y :: r, k, 0, x, e, h, _ => by
    simp only [List.getElem?_cons_zero, Option.some.injEq] at e
    subst e
    rw [fst, if_pos (by simpa using h)]; rfl
  | y :: r, k, i + 1, x, e, h, hj => by
    rw [fst, if_neg (by rw [show p k y = false from hj 0 y (by omega) rfl]; simp)]
    rw [fst_some (k := k + 1) (i := i) (x := x) (by simpa using e) (by rw [show k + 1 + i = k + (i + 1) by omega]; exact h) fun j z hji ez => by
      rw [show k + 1 + j = k + (j + 1) by omega]
      exact hj (j + 1) z (by omega) (by simpa using ez)]
    congr 1; omega
theorem of_fst_none {α : Type} {p : Nat → α → Bool} : ∀ {xs : List α} {k : Nat}, fst p k xs = none → ∀ i x, xs[i]? = some x → p (k + i) x = false
  | [], _, _, i, x, e => by simp at e
  | y :: r, k, h, 0, x, e => by
    simp only [List.getElem?_cons_zero, Option.some.injEq] at e
    subst e
    rw [fst] at h
    split at h
    · cases h
    · rename_i hn; simpa using hn
  | y :: r, k, h, i + 1, x, e => by
    rw [fst] at h
    split at h
    · cases h
    · have := of_fst_none (k := k + 1) h i x (by simpa using e)
      rw [show k + (i + 1) = k + 1 + i by omega]; exact this
def badNum (_ : Nat) (n : Int) : Bool := !(decide (0 ≤ n) && decide (n < 10))
def fwCell (mem : List Int) : Option Nat :=
  if mem.length = 4 ∨ mem.length = 8 ∨ mem.length = 12 ∨ mem.length = 16 then fst badNum 0 mem else some 0
def laterCan (cnt : Int) (at_ : Nat) : Option Int → Bool
  | none => true
  | some k => decide ((at_ : Int) < k) && decide (k < cnt)
def ordCan (cnt cells : Int) (at_ : Nat) (o : ROrd) : Bool :=
  decide (1 ≤ o.many) && decide (o.many ≤ 8) && laterCan cnt at_ o.later &&
  decide (0 ≤ o.src) && decide (o.src ≤ cells - o.many) && decide (0 ≤ o.goal) && decide (o.goal ≤ cells - o.many)
def badOrd (cnt cells : Int) (at_ : Nat) (o : ROrd) : Bool := decide (at_ = 4) || !ordCan cnt cells at_ o
def fwOrd (ords : List ROrd) (cells : Int) : Option Nat := fst (badOrd ords.length cells) 0 ords
def kindsOf (z : Str) : Option (List Str) :=
  if z = "set" then some ["cell", "number"] else if z = "add" then some ["cell", "cell"] else if z = "say" then some ["cell"] else if z = "start" then some ["order"] else
  if z = "wait" then some [] else if z = "clean" then some ["line"] else if z = "drop" then some ["line"] else none
def cap (cnt cells : Int) (k : Str) : Int := if k = "cell" then cells else if k = "number" then 10 else if k = "order" then cnt else cells / 4
def numsCan (cnt cells : Int) : List Int → List Str → Bool
  | [], [] => true
  | n :: ns, k :: ks => (decide (0 ≤ n) && decide (n < cap cnt cells k)) && numsCan cnt cells ns ks
  | _, _ => false
def deedCan (cnt cells : Int) (d : RDeed) : Bool := match kindsOf d.word with
  | none => false
  | some ks => numsCan cnt cells d.nums ks
def rStart (d : RDeed) : Bool := decide (d.word = "start")
def badDeed (prog : List RDeed) (cnt cells : Int) (at_ : Nat) (d : RDeed) : Bool := decide (at_ = 60) || !deedCan cnt cells d || decide (3 < ((prog.take (at_ + 1)).filter rStart).length)
def fwDeed (prog : List RDeed) (cnt cells : Int) : Option Nat := fst (badDeed prog cnt cells) 0 prog
/-- a tuple of the written part -/
def KTup (K : PySem.W.Frag) (a : Addr) (xs : List V) : Prop := ∃ (o : Obj) (its : Array Value) (n : Nat), K.lookup a = some o ∧ o.cls = .type "tuple" ∧ o.data = .seq its n ∧ its.size ≤ sizeLine ∧ Vals xs its.toList
theorem KTup.sq {K : PySem.W.Frag} {a : Addr} {xs : List V} (h : KTup K a xs) (H : Hp) : SqT K H a xs := .inr h
/-- an enumerate's pair -/
theorem pair_at {H H' : Hp} {v : V} {x y : Nat → Option V} {i : Nat} (h : YPair x y i H v H') : ∃ T a b, v = .ref T ∧ H T = none ∧ H' = upd H T (.tup [a, b]) ∧ x i = some a ∧ y i = some b ∧ Same H H' ∧ H' T = some (.tup [a, b]) := by
  obtain ⟨T, a, b, h1, h2, h3, h4, h5⟩ := h
  subst h3
  exact ⟨T, a, b, h1, h2, rfl, h4, h5, same_new h2, upd_same⟩
section
variable {P : Program} {w : World} {K : PySem.W.Frag} {mg : Str → Option Value} {base : Heap}
/-- the module's numbers -/
structure Consts (K : PySem.W.Frag) (mg : Str → Option Value) : Prop where
  line : ∃ t, mg "LINE" = some (.int 4 t)
  numbers : ∃ t, mg "NUMBERS" = some (.int 10 t)
  orders : ∃ t, mg "MOST_ORDERS" = some (.int 4 t)
  moved : ∃ t, mg "MOST_MOVED" = some (.int 8 t)
  deeds : ∃ t, mg "MOST_DEEDS" = some (.int 60 t)
  starts : ∃ t, mg "MOST_STARTS" = some (.int 3 t)
  sizes : ∃ a, mg "MEMORY_SIZES" = some (.ref a) ∧ KTup K a [.int 4, .int 8, .int 12, .int 16]
abbrev st_first_wrong_cell : Stmt := (topS 17)
abbrev nm_first_wrong_cell : List Str := ["memory", "cell", "number"]
theorem sc_first_wrong_cell : FnScope ["memory", "cell", "number"] ["memory"] (defScope st_first_wrong_cell) := ⟨rfl, rfl, rfl, by decide +kernel, rfl, by decide +kernel, by decide +kernel⟩
def spFwCell : Sp := fun vs H Q _ => ∃ (m : Addr) (mem : List Int), vs = [.ref m] ∧ H m = some (.tup (mem.map V.int)) ∧ ∀ H', Same H H' → Q (oV (fwCell mem)) H'
theorem ok_fwcell {f : Addr} {fd : FuncData} (F : Fun K "first_wrong_cell" "first_wrong_cell" st_first_wrong_cell f fd) (C : Consts K mg) (z_len : mg "len" = none) (z_enumerate : mg "enumerate" = none) :
    FnOk P w K mg base CX0 1 f fd ["memory"] spFwCell := by
  obtain ⟨tN, mc_NUMBERS⟩ := C.numbers
  obtain ⟨ms, mc_MEMORY_SIZES, hms⟩ := C.sizes
  refine F.ok sc_first_wrong_cell (fun vs H Q E h => ?_) (fun cdv A outer s H vs Q E hr h => ?_)
  · obtain ⟨m, mem, rfl, _⟩ := h
    rfl
  · obtain ⟨m, mem, rfl, hm, q⟩ := h
    refine ⟨_, (pss_cons (ps_if (pt_cmpR op_notIn_seq (pe_callB call_len_seq (by rfl) z_len (by decide +kernel) (pa_cons (pv 0) pa_nil)) (pe_glob (v := .ref _) rfl mc_MEMORY_SIZES rfl) (by rfl)) (pss_one (ps_ret pe_int)) pss_nil)
  (pss_cons (ps_for PassesOwn.never rfl (pi_enumT (by rfl) z_enumerate (pa_cons (pv 0) pa_nil)) (pg_tup rfl (pgs_cons (pg_name (i := 1) sc_first_wrong_cell.nd rfl (Or.inl rfl)) (pgs_cons (pg_name (i := 2) sc_first_wrong_cell.nd rfl (Or.inl rfl)) pgs_nil)))
  (pss_one (ps_if (pt_not (pt_chain op_le op_lt pe_int (pv 2) (pe_glob (v := .int 10) rfl mc_NUMBERS ⟨_, rfl⟩))) (pss_one (ps_ret (pv 1))) pss_nil)))
  (pss_one (ps_ret pe_non)))), ?_⟩
    refine ⟨_, rfl, m, _, rfl, .inr (sqT_t hm), ms, _, rfl, .inr (hms.sq _), rfl, rfl, _, rfl, ite2 (fun e => ?_) (fun e => ?_)⟩
    · have hn : ¬ (mem.length = 4 ∨ mem.length = 8 ∨ mem.length = 12 ∨ mem.length = 16) := by
        simp only [inV, eqV, List.any_cons, List.any_nil, List.length_map] at e
        simp at e
        omega
      have := q H (Same.refl H)
      rw [fwCell, if_neg hn] at this
      exact this
    · have hn : mem.length = 4 ∨ mem.length = 8 ∨ mem.length = 12 ∨ mem.length = 16 := by
        simp only [inV, eqV, List.any_cons, List.any_nil, List.length_map] at e
        simp at e
        omega
      refine ⟨_, rfl, m, rfl, .inr ⟨_, sqT_t hm, ?_⟩⟩
      refine for_it (walk_enumT (xs := mem.map V.int)) (fun i σ H' => ∃ y1 y2, σ = [some (.ref m), y1, y2] ∧ Same H H' ∧ ∀ (j : Nat) (n : Int), j < i → mem[j]? = some n → badNum j n = false)
        ⟨_, _, rfl, Same.refl H, fun j n hj => absurd hj (by omega)⟩ (fun i σ H' _ hp => by obtain ⟨_, _, _, sm, _⟩ := hp; exact sqT_t (sm _ _ hm)) (fun i x σ H1 H2 hi hp hy => ?_) (fun σ H1 hp => ?_)
      · obtain ⟨y1, y2, rfl, sm, hall⟩ := hp
        obtain ⟨T, a, b, rfl, nT, _, ha, hb, s2, hT⟩ := pair_at hy
        cases ha
        obtain ⟨n, hn2, rfl⟩ : ∃ n, mem[i]? = some n ∧ V.int n = b := by rw [List.getElem?_map] at hb; simpa using hb
        refine ⟨T, _, rfl, sqT_t hT, rfl, _, _, rfl, _, _, rfl, rfl, ?_⟩
        have ret : badNum i n = true → Q (nV i) H2 := fun hb => by
          have := q H2 (sm.trans s2)
          rw [fwCell, if_pos hn, fst_some (i := i) hn2 (by rw [Nat.zero_add]; exact hb) fun j y hj ej => by rw [Nat.zero_add]; exact hall j y hj ej, Nat.zero_add] at this
          exact this
        have nxt : badNum i n = false → ∃ y1 y2, [some (V.ref m), some (V.int (i : Nat)), some (V.int n)] = [some (.ref m), y1, y2] ∧ Same H H2 ∧ ∀ (j : Nat) (n : Int), j < i + 1 → mem[j]? = some n → badNum j n = false := fun hb => by
          refine ⟨_, _, rfl, sm.trans s2, fun j y hj ej => ?_⟩
          by_cases hji : j < i
          · exact hall j y hji ej
          · have : j = i := by omega
            subst this
            rw [hn2] at ej; cases ej
            exact hb
        refine ⟨_, rfl, _, _, rfl, rfl, _, rfl, ?_⟩
        by_cases h0 : (0 : Int) ≤ n
        · rw [decide_eq_true h0]
          refine iteT ⟨_, _, rfl, rfl, _, rfl, ite2 (fun e => ⟨_, rfl, ret ?_⟩) (fun e => nxt ?_)⟩
          · simp [badNum, h0] at e ⊢; omega
          · simp [badNum, h0] at e ⊢; omega
        · rw [decide_eq_false h0]
          exact iteF ⟨_, rfl, ⟨_, rfl, ret (by simp [badNum, h0])⟩⟩
      · obtain ⟨y1, y2, rfl, sm, hall⟩ := hp
        have := q H1 sm
        rw [fwCell, if_pos hn, fst_none fun i x e => by
          rw [Nat.zero_add]
          exact hall i x (by have := (List.getElem?_eq_some_iff.mp e).1; simpa using this) e] at this
        exact this
end
end Vt
namespace Vt
open PySem PySem.Spec PyProof.Rows L2
/-! ### an order, a deed, the board -/
theorem valV_hit {k : Key} {v : V} {r : List (Key × V)} : valV ((k, v) :: r) k = some v := valV_pos rfl
/-- what a dict of four says -/
theorem counts_at {H : Hp} {a : Addr} {cnt cells : Int} {ks : List Str} {k : Str} (h : H a = some (.dK [(.inr "cell", .int cells), (.inr "number", .int 10), (.inr "order", .int cnt), (.inr "line", .int (cells / 4))]))
    (hk : k = "cell" ∨ k = "number" ∨ k = "order" ∨ k = "line") : DGet H a (.str k) (some (.int (cap cnt cells k))) := by
  have g := DGet.k (k := .inr k) h
  rcases hk with rfl | rfl | rfl | rfl
  · exact g
  · exact g
  · exact g
  · exact g
theorem kinds_known {z : Str} {ks : List Str} (h : kindsOf z = some ks) : ∀ k ∈ ks, k = "cell" ∨ k = "number" ∨ k = "order" ∨ k = "line" := by
  intro k hk
  unfold kindsOf at h
  repeat' split at h
  all_goals first
    | cases h
    | skip
  all_goals simp at hk
  all_goals first
    | (rcases hk with rfl | rfl <;> simp)
    | (subst hk; simp)
theorem kinds_len {z : Str} {ks : List Str} (h : kindsOf z = some ks) : ks.length ≤ 2 := by
  unfold kindsOf at h
  repeat' split at h
  all_goals first
    | (cases h; simp)
    | cases h
theorem numsCan_len {cnt cells : Int} : ∀ {ns : List Int} {ks : List Str}, ns.length ≠ ks.length → numsCan cnt cells ns ks = false
  | [], [], h => absurd rfl h
  | [], _ :: _, _ => by rw [numsCan]; all_goals simp
  | _ :: _, [], _ => by rw [numsCan]; all_goals simp
  | n :: ns, k :: ks, h => by
    rw [numsCan, numsCan_len (ns := ns) (ks := ks) (by simpa using h), Bool.and_false]
theorem numsCan_all {cnt cells : Int} : ∀ {ns : List Int} {ks : List Str}, ns.length = ks.length → ∀ (bs : List Bool), bs.length = ns.length → (∀ (i : Nat) (n : Int) (k : Str), ns[i]? = some n → ks[i]? = some k → bs[i]? = some (decide (0 ≤ n) && decide (n < cap cnt cells k))) → bs.all id = numsCan cnt cells ns ks
  | [], [], _, bs, hb, _ => by
    have : bs = [] := List.length_eq_zero_iff.mp hb
    subst this; rfl
  | [], _ :: _, h, _, _, _ => by simp at h
  | _ :: _, [], h, _, _, _ => by simp at h
  | n :: ns, k :: ks, h, bs, hb, hi => by
    cases bs with
    | nil => simp at hb
    | cons b bs =>
      have e0 := hi 0 n k rfl rfl
      simp only [List.getElem?_cons_zero, Option.some.injEq] at e0
      rw [numsCan, List.all_cons, numsCan_all (ns := ns) (ks := ks) (by simpa using h) bs (by simpa using hb) fun i n' k' e1 e2 => by
        have := hi (i + 1) n' k' (by simpa using e1) (by simpa using e2)
        simpa using this]
      rw [e0]; rfl
/-- the table of deeds -/
structure Kinds (K : PySem.W.Frag) (w : World) (mg : Str → Option Value) (dd : Addr) : Prop where
  at_ : mg "DEEDS" = some (.ref dd)
  low : (dd == sysModules) = false
  obj : ∃ es n, K.lookup dd = some ⟨.type "dict", none, .dict es n, #[]⟩ ∧ PySem.W.KeysLit w.params es.toList
  hit : ∀ z ks, kindsOf z = some ks → ∃ kt, KDct K w dd z (.ref kt) ∧ KTup K kt (ks.map V.str)
section
variable {P : Program} {w : World} {K : PySem.W.Frag} {mg : Str → Option Value} {base : Heap}
abbrev st_order_can_be : Stmt := (topS 19)
abbrev nm_order_can_be : List Str := ["order", "at", "order_count", "cell_count", "source", "goal", "many", "later"]
theorem sc_order_can_be : FnScope ["order", "at", "order_count", "cell_count", "source", "goal", "many", "later"] ["order", "at", "order_count", "cell_count"] (defScope st_order_can_be) := ⟨rfl, rfl, rfl, by decide +kernel, rfl, by decide +kernel, by decide +kernel⟩
def spOrdCan : Sp := fun vs H Q _ => ∃ (a : Addr) (o : ROrd) (at_ : Nat) (cnt cells : Int), vs = [.ref a, nV at_, .int cnt, .int cells] ∧ H a = some (.tup o.vs) ∧ Q (.bl (ordCan cnt cells at_ o)) H
theorem ok_ordcan {f : Addr} {fd : FuncData} (F : Fun K "order_can_be" "order_can_be" st_order_can_be f fd) (C : Consts K mg) : FnOk P w K mg base CX0 1 f fd ["order", "at", "order_count", "cell_count"] spOrdCan := by
  obtain ⟨tM, mc_MOST_MOVED⟩ := C.moved
  refine F.ok sc_order_can_be (fun vs H Q E h => ?_) (fun cdv A outer s H vs Q E hr h => ?_)
  · obtain ⟨a, o, at_, cnt, cells, rfl, _⟩ := h
    rfl
  · obtain ⟨a, ⟨src, goal, many, later⟩, at_, cnt, cells, rfl, ha, q⟩ := h
    refine ⟨_, (pss_cons (ps_asg (pv 0) (pg_tup rfl (pgs_cons (pg_name (i := 4) sc_order_can_be.nd rfl (Or.inl rfl)) (pgs_cons (pg_name (i := 5) sc_order_can_be.nd rfl (Or.inl rfl)) (pgs_cons (pg_name (i := 6) sc_order_can_be.nd rfl (Or.inl rfl)) (pgs_cons (pg_name (i := 7) sc_order_can_be.nd rfl (Or.inl rfl)) pgs_nil))))))
  (pss_cons (ps_if (pt_not (pt_chain op_le op_le pe_int (pv 6) (pe_glob (v := .int 8) rfl mc_MOST_MOVED ⟨_, rfl⟩))) (pss_one (ps_ret pe_bl)) pss_nil)
  (pss_cons (ps_if (PW.pt (pw_and (pt_cmpR op_notN (pv 7) pe_non (nomark _)) (pw_and1 (pt_not (pt_chain op_lt op_lt (pv 1) (pv 7) (pv 2)))))) (pss_one (ps_ret pe_bl)) pss_nil)
  (pss_one (ps_ret (pe_and (pe_chain op_le op_le pe_int (pv 4) (pe_op op_sub (pv 3) (pv 6))) (pe_one (pe_chain op_le op_le pe_int (pv 5) (pe_op op_sub (pv 3) (pv 6)))))))))), ?_⟩
    refine ⟨_, rfl, a, _, rfl, sqT_t ha, rfl, _, _, rfl, _, _, rfl, _, _, rfl, _, _, rfl, rfl, ?_⟩
    -- not 1 <= many <= MOST_MOVED
    refine ⟨_, rfl, _, _, rfl, rfl, _, rfl, ?_⟩
    by_cases h1 : (1 : Int) ≤ many
    · rw [decide_eq_true h1]
      refine iteT ⟨_, _, rfl, rfl, _, rfl, ite2 (fun e => ?_) (fun e => ?_)⟩
      · rw [show ordCan cnt cells at_ ⟨src, goal, many, later⟩ = false by simp [ordCan, laterCan] at e ⊢; omega] at q
        exact q
      · have h8 : many ≤ 8 := by simpa using e
        have rest : ∀ σ, σ = [some (.ref a), some (nV at_), some (.int cnt), some (.int cells), some (.int src), some (.int goal), some (.int many), some (iV later)] → laterCan cnt at_ later = true →
            tRet (tAndV (tChain (rI0 fun i j => V.bl (decide (i ≤ j))) (rI0 fun i j => V.bl (decide (i ≤ j))) (tC (.int 0)) (tVar 4) (tOp (rI0 fun i j => V.int (i - j)) (tVar 3) (tVar 6)))
              (tChain (rI0 fun i j => V.bl (decide (i ≤ j))) (rI0 fun i j => V.bl (decide (i ≤ j))) (tC (.int 0)) (tVar 5) (tOp (rI0 fun i j => V.int (i - j)) (tVar 3) (tVar 6)))) { nx := fun _ H' => Q .non H', rt := Q } σ H := fun σ hσ hl => by
          subst hσ
          have ev : ordCan cnt cells at_ ⟨src, goal, many, later⟩ = ((decide (0 ≤ src) && decide (src ≤ cells - many)) && (decide (0 ≤ goal) && decide (goal ≤ cells - many))) := by
            simp only [ordCan, decide_eq_true h1, decide_eq_true h8, hl, Bool.true_and, Bool.and_assoc]
          rw [ev] at q
          refine ⟨_, rfl, _, _, rfl, rfl, _, rfl, ?_⟩
          by_cases g1 : (0 : Int) ≤ src
          · rw [decide_eq_true g1] at q ⊢
            refine iteT ⟨_, rfl, _, rfl, _, _, rfl, rfl, _, _, rfl, rfl, _, rfl, ?_⟩
            by_cases g2 : src ≤ cells - many
            · rw [decide_eq_true g2] at q ⊢
              refine iteT ⟨_, rfl, _, _, rfl, rfl, _, rfl, ?_⟩
              by_cases g3 : (0 : Int) ≤ goal
              · rw [decide_eq_true g3] at q ⊢
                refine iteT ⟨_, rfl, _, rfl, _, _, rfl, rfl, _, _, rfl, rfl, ?_⟩
                exact q
              · rw [decide_eq_false g3] at q ⊢
                exact iteF q
            · rw [decide_eq_false g2] at q ⊢
              exact iteF q
          · rw [decide_eq_false g1] at q ⊢
            exact iteF ⟨_, rfl, iteF q⟩
        cases later with
        | none => exact ⟨_, rfl, rfl, _, rfl, iteF (rest _ rfl rfl)⟩
        | some k =>
          refine ⟨_, rfl, rfl, _, rfl, iteT ⟨_, rfl, _, rfl, _, _, rfl, rfl, _, rfl, ?_⟩⟩
          by_cases g1 : (at_ : Int) < k
          · rw [decide_eq_true g1]
            refine iteT ⟨_, rfl, _, _, rfl, rfl, _, rfl, ite2 (fun e => ?_) (fun e => rest _ rfl ?_)⟩
            · rw [show ordCan cnt cells at_ ⟨src, goal, many, some k⟩ = false by simp [ordCan, laterCan] at e ⊢; omega] at q
              exact q
            · simp [laterCan] at e ⊢; exact ⟨g1, e⟩
          · rw [decide_eq_false g1]
            refine iteF ⟨_, rfl, iteT ?_⟩
            rw [show ordCan cnt cells at_ ⟨src, goal, many, some k⟩ = false by simp [ordCan, laterCan, g1]] at q
            exact q
    · rw [decide_eq_false h1]
      refine iteF ⟨_, rfl, iteT ?_⟩
      rw [show ordCan cnt cells at_ ⟨src, goal, many, later⟩ = false by simp [ordCan, h1]] at q
      exact q
abbrev st_first_wrong_order : Stmt := (topS 18)
abbrev nm_first_wrong_order : List Str := ["orders", "cell_count", "at", "order"]
theorem sc_first_wrong_order : FnScope ["orders", "cell_count", "at", "order"] ["orders", "cell_count"] (defScope st_first_wrong_order) := ⟨rfl, rfl, rfl, by decide +kernel, rfl, by decide +kernel, by decide +kernel⟩
def spFwOrd : Sp := fun vs H Q _ => ∃ (a : Addr) (os : List V) (ords : List ROrd) (cells : Int), vs = [.ref a, .int cells] ∧ H a = some (.tup os) ∧ Pds H os (ords.map ROrd.d) ∧ ∀ H', Same H H' → Q (oV (fwOrd ords cells)) H'
theorem ok_fword {f : Addr} {fd : FuncData} (F : Fun K "first_wrong_order" "first_wrong_order" st_first_wrong_order f fd) (C : Consts K mg) (c_order_can_be : Callee P w K mg base "order_can_be" 1 4 spOrdCan) (z_len : mg "len" = none) (z_enumerate : mg "enumerate" = none) :
    FnOk P w K mg base CX0 2 f fd ["orders", "cell_count"] spFwOrd := by
  obtain ⟨tM, mc_MOST_ORDERS⟩ := C.orders
  refine F.ok sc_first_wrong_order (fun vs H Q E h => ?_) (fun cdv A outer s H vs Q E hr h => ?_)
  · obtain ⟨a, os, ords, cells, rfl, _⟩ := h
    rfl
  · obtain ⟨a, os, ords, cells, rfl, ha, hs, q⟩ := h
    have olen : os.length = ords.length := by rw [hs.len, List.length_map]
    refine ⟨_, (pss_cons (ps_for PassesOwn.never rfl (pi_enumT (by rfl) z_enumerate (pa_cons (pv 0) pa_nil)) (pg_tup rfl (pgs_cons (pg_name (i := 2) sc_first_wrong_order.nd rfl (Or.inl rfl)) (pgs_cons (pg_name (i := 3) sc_first_wrong_order.nd rfl (Or.inl rfl)) pgs_nil)))
  (pss_one (ps_if (PW.pt (pw_or (pt_cmpR op_eq (pv 2) (pe_glob (v := .int 4) rfl mc_MOST_ORDERS ⟨_, rfl⟩) (nomark _)) (pw_or1 (pt_not (pt_val (pe_cal c_order_can_be hr (by first | decide | exact Nat.le_refl _) (pa_cons (pv 3) (pa_cons (pv 2) (pa_cons (pe_callB call_len_seq (by rfl) z_len (by decide +kernel) (pa_cons (pv 0) pa_nil)) (pa_cons (pv 1) pa_nil)))))))))) (pss_one (ps_ret (pv 2))) pss_nil)))
  (pss_one (ps_ret pe_non))), ?_⟩
    refine ⟨_, rfl, a, rfl, .inr ⟨_, sqT_t ha, ?_⟩⟩
    refine for_it (walk_enumT (xs := os)) (fun i σ H' => ∃ y1 y2, σ = [some (.ref a), some (.int cells), y1, y2] ∧ Same H H' ∧ ∀ (j : Nat) (o : ROrd), j < i → ords[j]? = some o → badOrd ords.length cells j o = false)
      ⟨_, _, rfl, Same.refl H, fun j n hj => absurd hj (by omega)⟩ (fun i σ H' _ hp => by obtain ⟨_, _, _, sm, _⟩ := hp; exact sqT_t (sm _ _ ha)) (fun i x σ H1 H2 hi hp hy => ?_) (fun σ H1 hp => ?_)
    · obtain ⟨y1, y2, rfl, sm, hall⟩ := hp
      obtain ⟨T, a1, b, rfl, nT, _, h1, hb, s2, hT⟩ := pair_at hy
      cases h1
      obtain ⟨dd, hd, hpd⟩ := hs.get' hb
      rw [List.getElem?_map] at hd
      obtain ⟨o, ho, rfl⟩ : ∃ o, ords[i]? = some o ∧ o.d = dd := by simpa using hd
      obtain ⟨oa, rfl, hoa⟩ := ROrd.of ((hpd.same sm).same s2)
      have ret : badOrd ords.length cells i o = true → Q (nV i) H2 := fun hb => by
        have := q H2 (sm.trans s2)
        rw [fwOrd, fst_some (i := i) ho (by rw [Nat.zero_add]; exact hb) fun j y hj ej => by rw [Nat.zero_add]; exact hall j y hj ej, Nat.zero_add] at this
        exact this
      have nxt : badOrd ords.length cells i o = false → ∃ y1 y2, [some (V.ref a), some (.int cells), some (V.int (i : Nat)), some (V.ref oa)] = [some (.ref a), some (.int cells), y1, y2] ∧ Same H H2 ∧ ∀ (j : Nat) (o : ROrd), j < i + 1 → ords[j]? = some o → badOrd ords.length cells j o = false := fun hb => by
        refine ⟨_, _, rfl, sm.trans s2, fun j y hj ej => ?_⟩
        by_cases hji : j < i
        · exact hall j y hji ej
        · have : j = i := by omega
          subst this
          rw [ho] at ej; cases ej
          exact hb
      refine ⟨T, _, rfl, sqT_t hT, rfl, _, _, rfl, _, _, rfl, rfl, ?_⟩
      refine ⟨_, rfl, rfl, _, rfl, ite2 (fun e => iteT ?_) (fun e => ?_)⟩
      · have e4 : (i : Int) = 4 := by injection of_decide_eq_true e
        have e4' : i = 4 := by omega
        exact ⟨_, rfl, ret (by simp [badOrd, e4'])⟩
      · have n4 : ¬ i = 4 := fun z => e (by rw [z]; rfl)
        refine ⟨_, rfl, _, rfl, _, rfl, a, _, rfl, .inr (sqT_t ((sm.trans s2) _ _ ha)), _, rfl, oa, o, i, _, _, rfl, hoa, _, rfl, ite2 (fun e => ⟨_, rfl, ret ?_⟩) (fun e => nxt ?_)⟩
        · rw [olen] at e; simp only [badOrd, e, Bool.or_true]
        · rw [olen] at e
          have e' : (!ordCan ords.length cells i o) = false := by simpa using e
          simp only [badOrd, e', decide_eq_false n4, Bool.or_false]
    · obtain ⟨y1, y2, rfl, sm, hall⟩ := hp
      have := q H1 sm
      rw [fwOrd, fst_none fun i x e => by
        rw [Nat.zero_add]
        exact hall i x (by have := (List.getElem?_eq_some_iff.mp e).1; omega) e] at this
      exact this
end
end Vt
namespace Vt
open PySem PySem.Spec PyProof.Rows L2
section
variable {P : Program} {w : World} {K : PySem.W.Frag} {mg : Str → Option Value} {base : Heap}
def countsK (cnt cells : Int) : List (Key × V) := [(.inr "cell", .int cells), (.inr "number", .int 10), (.inr "order", .int cnt), (.inr "line", .int (cells / 4))]
abbrev st_deed_can_be : Stmt := (topS 22)
abbrev nm_deed_can_be : List Str := ["deed", "counts", "word", "numbers", "kinds", "number", "kind"]
theorem sc_deed_can_be : FnScope ["deed", "counts", "word", "numbers", "kinds", "number", "kind"] ["deed", "counts"] (defScope st_deed_can_be) := ⟨rfl, rfl, rfl, by decide +kernel, rfl, by decide +kernel, by decide +kernel⟩
def spDeedCan (K : PySem.W.Frag) (w : World) (dd : Addr) : Sp := fun vs H Q _ => ∃ (a c : Addr) (d : RDeed) (cnt cells : Int), vs = [.ref a, .ref c] ∧ H a = some (.tup d.vs) ∧ d.nums.length ≤ 1000 ∧ H c = some (.dK (countsK cnt cells)) ∧
  (kindsOf d.word = none → KMiss K w dd d.word) ∧ ∀ H', Same H H' → Q (.bl (deedCan cnt cells d)) H'
theorem ok_deedcan {f dd : Addr} {fd : FuncData} (F : Fun K "deed_can_be" "deed_can_be" st_deed_can_be f fd) (Kd : Kinds K w mg dd) (z_len : mg "len" = none) (z_all : mg "all" = none) (z_zip : mg "zip" = none) :
    FnOk P w K mg base CX0 1 f fd ["deed", "counts"] (spDeedCan K w dd) := by
  have mc_DEEDS := Kd.at_
  refine F.ok sc_deed_can_be (fun vs H Q E h => ?_) (fun cdv A outer s H vs Q E hr h => ?_)
  · obtain ⟨a, c, d, cnt, cells, rfl, _⟩ := h
    rfl
  · obtain ⟨a, c, ⟨wd, nums⟩, cnt, cells, rfl, ha, hl, hc, hmiss, q⟩ := h
    dsimp only at hl hmiss
    refine ⟨_, (pss_cons (ps_asg (pv 0) (pg_star (i := 2) (j := 3) rfl sc_deed_can_be.nd rfl rfl rfl rfl))
  (pss_cons (ps_set (i := 4) sc_deed_can_be.nd rfl (Or.inl rfl) (pe_kget (pe_glob (v := .ref _) rfl mc_DEEDS rfl) (pv 2) ⟨rfl, rfl, rfl, rfl⟩))
  (pss_cons (ps_if (PW.pt (pw_or (pt_cmpR op_isN (pv 4) pe_non (nomark _)) (pw_or1 (pt_cmpR op_ne (pe_callB call_len_seq (by rfl) z_len (by decide +kernel) (pa_cons (pv 3) pa_nil)) (pe_callB call_len_seq (by rfl) z_len (by decide +kernel) (pa_cons (pv 4) pa_nil)) (nomark _))))) (pss_one (ps_ret pe_bl)) pss_nil)
  (pss_one (ps_ret (pe_callB (cr_all rfl) (by rfl) z_all (by decide +kernel) (pa_cons (pe_lc (own := [("number", 5), ("kind", 6)]) rfl sc_deed_can_be.nd (pi_zipM (by rfl) z_zip (pa_cons (pv 3) (pa_cons (pv 4) pa_nil))) (blkOk_by (own := [("number", 5), ("kind", 6)]) (N := nm_deed_can_be) (sc := defScope (topS 22)) (by decide +kernel)) (fun _ _ _ _ _ => (pg_tupk K (n := 2) rfl (pgs_cons (pg_name (i := 5) sc_deed_can_be.nd rfl (Or.inl rfl)) (pgs_cons (pg_name (i := 6) sc_deed_can_be.nd rfl (Or.inl rfl)) pgs_nil)))) (fun _ _ _ _ _ => pts_nil) (fun _ _ _ _ _ => (pe_chain op_le op_lt pe_int (pv 5) (pe_dget (hu_of hr) (pv 1) (pv 6) (fun _ _ => rfl))))) pa_nil))))))), ?_⟩
    refine ⟨_, rfl, a, .str wd, nums.map V.int, rfl, sqT_t ha, by rw [List.length_map]; exact hl, fun p np => ?_⟩
    have s1 : Same H (upd H p (.lst (nums.map V.int))) := same_new np
    have hp1 : (upd H p (.lst (nums.map V.int))) p = some (.lst (nums.map V.int)) := upd_same
    generalize upd H p (.lst (nums.map V.int)) = H1 at s1 hp1
    obtain ⟨es, n, hobj, hlit⟩ := Kd.obj
    refine ⟨dd, rfl, Kd.low, ⟨es, n, hobj, hlit⟩, _, rfl, wd, rfl, ?_⟩
    cases hk : kindsOf wd with
    | none =>
      refine .inr ⟨hmiss hk, ?_⟩
      refine ⟨_, rfl, rfl, _, rfl, iteT (iteT ?_)⟩
      have := q H1 s1
      rw [show deedCan cnt cells ⟨wd, nums⟩ = false by simp [deedCan, hk]] at this
      exact this
    | some ks =>
      obtain ⟨kt, hkd, hkt⟩ := Kd.hit wd ks hk
      have k2 := kinds_len hk
      refine .inl ⟨.ref kt, hkd, ?_⟩
      refine ⟨_, rfl, rfl, _, rfl, iteF ⟨_, rfl, p, _, rfl, .inl (sqL_l hp1), _, rfl, kt, _, rfl, .inr (hkt.sq _), rfl, _, rfl, ite2 (fun e => ?_) (fun e => ?_)⟩⟩
      · have hne : nums.length ≠ ks.length := fun z => by
          simp only [List.length_map, z] at e
          simp at e
        have := q H1 s1
        rw [show deedCan cnt cells ⟨wd, nums⟩ = false by simp only [deedCan, hk]; exact numsCan_len hne] at this
        exact this
      · have heq : nums.length = ks.length := by
          simp only [List.length_map] at e
          simp at e
          omega
        have hc1 := s1 _ _ hc
        refine ⟨_, rfl, _, rfl, p, kt, nums.map V.int, ks.map V.str, rfl, sqL_l hp1, hkt.sq _, fun D nD => ?_⟩
        have pD : p ≠ D := ne_of_none hp1 nD
        refine lc_it (walk_zipM (xs := nums.map V.int) (ys := ks.map V.str) (n := nums.length) (by simp [heq])) (fun i H' => ∃ bs : List Bool, bs.length = i ∧ H' D = some (.lst (bs.map V.bl)) ∧ Same H1 H' ∧
            ∀ (j : Nat) (n : Int) (k : Str), j < i → nums[j]? = some n → ks[j]? = some k → bs[j]? = some (decide (0 ≤ n) && decide (n < cap cnt cells k)))
          ⟨[], rfl, upd_same, same_new nD, fun j _ _ hj => absurd hj (by omega)⟩ (fun i H' _ hp => by obtain ⟨_, _, _, sm, _⟩ := hp; exact ⟨sqL_l (sm _ _ hp1), hkt.sq _⟩) (fun i x H2 H3 hi hp hy => ?_) (fun H2 hp => ?_)
        · obtain ⟨bs, b1, b2, sm, ball⟩ := hp
          obtain ⟨T, v1, v2, rfl, nT, _, e1, e2, s3, hT⟩ := pair_at hy
          obtain ⟨n, hn, rfl⟩ : ∃ n, nums[i]? = some n ∧ V.int n = v1 := by rw [List.getElem?_map] at e1; simpa using e1
          obtain ⟨k, hk2, rfl⟩ : ∃ k, ks[i]? = some k ∧ V.str k = v2 := by rw [List.getElem?_map] at e2; simpa using e2
          have TD : D ≠ T := ne_of_none b2 nT
          have hb3 : H3 D = some (.lst (bs.map V.bl)) := s3 _ _ b2
          have hget : DGet H3 c (.str k) (some (.int (cap cnt cells k))) := counts_at (ks := ks) (s3 _ _ (sm _ _ hc1)) (kinds_known hk k (List.mem_of_getElem? hk2))
          have fin : ∀ r : Bool, r = (decide (0 ≤ n) && decide (n < cap cnt cells k)) → ∃ acc, H3 D = some (.lst acc) ∧ acc.length < sizeLine ∧ ∃ bs : List Bool, bs.length = i + 1 ∧ (upd H3 D (.lst (acc ++ [.bl r]))) D = some (.lst (bs.map V.bl)) ∧ Same H1 (upd H3 D (.lst (acc ++ [.bl r]))) ∧
              ∀ (j : Nat) (n : Int) (k : Str), j < i + 1 → nums[j]? = some n → ks[j]? = some k → bs[j]? = some (decide (0 ≤ n) && decide (n < cap cnt cells k)) := fun r hr => by
            refine ⟨_, hb3, by rw [List.length_map]; exact fits (by omega), bs ++ [r], by simp [b1], by rw [upd_same, List.map_append]; rfl, fun u o hu => ?_, fun j n' k' hj f1 f2 => ?_⟩
            · rw [upd_ne (ne_of_none hu nD)]; exact s3 _ _ (sm _ _ hu)
            · by_cases hji : j < i
              · rw [List.getElem?_append_left (by omega)]
                exact ball j n' k' hji f1 f2
              · have : j = i := by omega
                subst this
                rw [hn] at f1; cases f1
                rw [hk2] at f2; cases f2
                rw [List.getElem?_append_right (by omega), b1, Nat.sub_self, hr]; rfl
          refine ⟨T, _, rfl, sqT_t hT, rfl, _, _, rfl, _, _, rfl, rfl, rfl, ?_⟩
          refine ⟨_, rfl, _, _, rfl, rfl, _, rfl, ?_⟩
          by_cases h0 : (0 : Int) ≤ n
          · rw [decide_eq_true h0]
            refine iteT ⟨_, rfl, _, rfl, c, _, rfl, hget, _, _, rfl, rfl, ?_⟩
            exact fin _ (by rw [decide_eq_true h0]; rfl)
          · rw [decide_eq_false h0]
            exact iteF (fin _ (by rw [decide_eq_false h0]; rfl))
        · obtain ⟨bs, b1, b2, sm, ball⟩ := hp
          refine ⟨D, bs, rfl, sqL_l b2, ?_⟩
          have := q H2 (s1.trans sm)
          rw [show deedCan cnt cells ⟨wd, nums⟩ = bs.all id by
            simp only [deedCan, hk]
            exact (numsCan_all heq bs b1 fun j n k e1 e2 => ball j n k (by have := (List.getElem?_eq_some_iff.mp e1).1; omega) e1 e2).symm] at this
          exact this
theorem starts_take {prog : List RDeed} {i : Nat} {d : RDeed} (h : prog[i]? = some d) : ((prog.take (i + 1)).filter rStart).length = ((prog.take i).filter rStart).length + (if rStart d then 1 else 0) := by
  rw [List.take_add_one, h]
  exact filter_app _ _ _
abbrev st_counts_of_things : Stmt := (topS 21)
abbrev nm_counts_of_things : List Str := ["order_count", "cell_count"]
theorem sc_counts_of_things : FnScope ["order_count", "cell_count"] ["order_count", "cell_count"] (defScope st_counts_of_things) := ⟨rfl, rfl, rfl, by decide +kernel, rfl, by decide +kernel, by decide +kernel⟩
def spCounts : Sp := fun vs H Q _ => ∃ (cnt cells : Int), vs = [.int cnt, .int cells] ∧ ∀ (c : Addr) H', H c = none → H' c = some (.dK (countsK cnt cells)) → Same H H' → Q (.ref c) H'
theorem ok_counts {f : Addr} {fd : FuncData} (F : Fun K "counts_of_things" "counts_of_things" st_counts_of_things f fd) (C : Consts K mg) : FnOk P w K mg base CX0 1 f fd ["order_count", "cell_count"] spCounts := by
  obtain ⟨tN, mc_NUMBERS⟩ := C.numbers
  obtain ⟨tL, mc_LINE⟩ := C.line
  refine F.ok sc_counts_of_things (fun vs H Q E h => ?_) (fun cdv A outer s H vs Q E hr h => ?_)
  · obtain ⟨cnt, cells, rfl, _⟩ := h
    rfl
  · obtain ⟨cnt, cells, rfl, q⟩ := h
    refine ⟨_, (pss_one (ps_ret (pe_disp (pps_cons pe_str (pv 1) (pps_cons pe_str (pe_glob (v := .int 10) rfl mc_NUMBERS ⟨_, rfl⟩) (pps_cons pe_str (pv 0) (pps_cons pe_str (pe_op op_fdiv (pv 1) (pe_glob (v := .int 4) rfl mc_LINE ⟨_, rfl⟩)) pps_nil)))) (by rfl) (by rfl) (fun z => by cases z) (by decide)))), ?_⟩
    refine fun c nc => ?_
    refine ⟨_, rfl, _, rfl, _, rfl, _, _, rfl, rfl, ⟨by decide, by decide⟩, upd_same, countsK cnt cells, rfl, (by show 4 ≤ 15; decide), ?_⟩
    refine q c _ nc ?_ ?_
    · rw [upd_same]; rfl
    · rw [upd_upd]; exact same_new nc
abbrev st_first_wrong_deed : Stmt := (topS 20)
abbrev nm_first_wrong_deed : List Str := ["program", "order_count", "cell_count", "counts", "starts", "at", "deed"]
theorem sc_first_wrong_deed : FnScope ["program", "order_count", "cell_count", "counts", "starts", "at", "deed"] ["program", "order_count", "cell_count"] (defScope st_first_wrong_deed) := ⟨rfl, rfl, rfl, by decide +kernel, rfl, by decide +kernel, by decide +kernel⟩
def spFwDeed (K : PySem.W.Frag) (w : World) (dd : Addr) : Sp := fun vs H Q _ => ∃ (a : Addr) (ps : List V) (prog : List RDeed) (cnt cells : Int), vs = [.ref a, .int cnt, .int cells] ∧ H a = some (.tup ps) ∧ Pds H ps (prog.map RDeed.d) ∧ (∀ d ∈ prog, d.nums.length ≤ 1000) ∧
  (∀ d ∈ prog, kindsOf d.word = none → KMiss K w dd d.word) ∧ ∀ H', Same H H' → Q (oV (fwDeed prog cnt cells)) H'
theorem ok_fwdeed {f dd : Addr} {fd : FuncData} (F : Fun K "first_wrong_deed" "first_wrong_deed" st_first_wrong_deed f fd) (C : Consts K mg) (c_deed_can_be : Callee P w K mg base "deed_can_be" 1 2 (spDeedCan K w dd)) (c_counts_of_things : Callee P w K mg base "counts_of_things" 1 2 spCounts) (z_enumerate : mg "enumerate" = none) :
    FnOk P w K mg base CX0 2 f fd ["program", "order_count", "cell_count"] (spFwDeed K w dd) := by
  obtain ⟨tN, mc_NUMBERS⟩ := C.numbers
  obtain ⟨tL, mc_LINE⟩ := C.line
  obtain ⟨tD, mc_MOST_DEEDS⟩ := C.deeds
  obtain ⟨tS, mc_MOST_STARTS⟩ := C.starts
  refine F.ok sc_first_wrong_deed (fun vs H Q E h => ?_) (fun cdv A outer s H vs Q E hr h => ?_)
  · obtain ⟨a, ps, prog, cnt, cells, rfl, _⟩ := h
    rfl
  · obtain ⟨a, ps, prog, cnt, cells, rfl, ha, hs, hnum, hmiss, q⟩ := h
    have plen : ps.length = prog.length := by rw [hs.len, List.length_map]
    refine ⟨_, (pss_cons (ps_set (i := 3) sc_first_wrong_deed.nd rfl (Or.inl rfl) (pe_cal c_counts_of_things hr (by first | decide | exact Nat.le_refl _) (pa_cons (pv 1) (pa_cons (pv 2) pa_nil))))
  (pss_cons (ps_set (i := 4) sc_first_wrong_deed.nd rfl (Or.inl rfl) pe_int)
  (pss_cons (ps_for PassesOwn.never rfl (pi_enumT (by rfl) z_enumerate (pa_cons (pv 0) pa_nil)) (pg_tup rfl (pgs_cons (pg_name (i := 5) sc_first_wrong_deed.nd rfl (Or.inl rfl)) (pgs_cons (pg_name (i := 6) sc_first_wrong_deed.nd rfl (Or.inl rfl)) pgs_nil)))
  (pss_cons (ps_if (PW.pt (pw_or (pt_cmpR op_eq (pv 5) (pe_glob (v := .int 60) rfl mc_MOST_DEEDS ⟨_, rfl⟩) (nomark _)) (pw_or1 (pt_not (pt_val (pe_cal c_deed_can_be hr (by first | decide | exact Nat.le_refl _) (pa_cons (pv 6) (pa_cons (pv 3) pa_nil)))))))) (pss_one (ps_ret (pv 5))) pss_nil)
  (pss_cut (ps_if (pt_cmpR op_eq (pe_ix ix_lt (pv 6) pe_int (fun _ _ => rfl)) pe_str (nomark _)) (pss_one (ps_aug (i := 4) sc_first_wrong_deed.nd rfl (Or.inl rfl) pe_int ip_add)) pss_nil)
  (pss_one (ps_if (pt_cmpR op_gt (pv 4) (pe_glob (v := .int 3) rfl mc_MOST_STARTS ⟨_, rfl⟩) (nomark _)) (pss_one (ps_ret (pv 5))) pss_nil)))))
  (pss_one (ps_ret pe_non))))), ?_⟩
    -- counts
    refine ⟨_, rfl, _, rfl, cnt, cells, rfl, fun c H1 nc hc1 s1 => ?_⟩
    refine ⟨_, rfl, a, rfl, .inr ⟨_, sqT_t (s1 _ _ ha), ?_⟩⟩
    refine for_it (walk_enumT (xs := ps)) (fun i σ H' => ∃ y1 y2, σ = [some (.ref a), some (.int cnt), some (.int cells), some (.ref c), some (.int (((prog.take i).filter rStart).length : Nat)), y1, y2] ∧ Same H1 H' ∧
        ∀ (j : Nat) (d : RDeed), j < i → prog[j]? = some d → badDeed prog cnt cells j d = false)
      ⟨_, _, rfl, Same.refl _, fun j n hj => absurd hj (by omega)⟩ (fun i σ H' _ hp => by obtain ⟨_, _, _, sm, _⟩ := hp; exact sqT_t ((s1.trans sm) _ _ ha)) (fun i x σ H2 H3 hi hp hy => ?_) (fun σ H2 hp => ?_)
    · obtain ⟨y1, y2, rfl, sm, hall⟩ := hp
      obtain ⟨T, a1, b, rfl, nT, _, h1, hb, s2, hT⟩ := pair_at hy
      cases h1
      obtain ⟨dx, hd, hpd⟩ := hs.get' hb
      rw [List.getElem?_map] at hd
      obtain ⟨d, ho, rfl⟩ : ∃ d, prog[i]? = some d ∧ d.d = dx := by simpa using hd
      have hmem : d ∈ prog := List.mem_of_getElem? ho
      have s13 : Same H H3 := (s1.trans sm).trans s2
      obtain ⟨oa, rfl, hoa⟩ := RDeed.of (hpd.same s13)
      have ret : ∀ H', Same H3 H' → badDeed prog cnt cells i d = true → Q (nV i) H' := fun H' s4 hb => by
        have := q H' (s13.trans s4)
        rw [fwDeed, fst_some (i := i) ho (by rw [Nat.zero_add]; exact hb) fun j y hj ej => by rw [Nat.zero_add]; exact hall j y hj ej, Nat.zero_add] at this
        exact this
      refine ⟨T, _, rfl, sqT_t hT, rfl, _, _, rfl, _, _, rfl, rfl, ?_⟩
      refine ⟨_, rfl, rfl, _, rfl, ite2 (fun e => iteT ?_) (fun e => ?_)⟩
      · have e4 : (i : Int) = 60 := by injection of_decide_eq_true e
        have e4' : i = 60 := by omega
        exact ⟨_, rfl, ret H3 (Same.refl _) (by simp [badDeed, e4'])⟩
      · have n4 : ¬ i = 60 := fun z => e (by rw [z]; rfl)
        refine ⟨_, rfl, _, rfl, oa, c, d, cnt, cells, rfl, hoa, hnum d hmem, (sm.trans s2) _ _ hc1, hmiss d hmem, fun H4 s4 => ⟨_, rfl, ite2 (fun e => ⟨_, rfl, ret H4 s4 ?_⟩) (fun e => ?_)⟩⟩
        · simp only [badDeed, e, Bool.or_true, Bool.true_or]
        have can : deedCan cnt cells d = true := by simpa using e
        -- if deed[0] == "start": starts += 1
        refine ⟨fun σ' H' => σ' = [some (.ref a), some (.int cnt), some (.int cells), some (.ref c), some (.int (((prog.take (i + 1)).filter rStart).length : Nat)), some (.int (i : Nat)), some (.ref oa)] ∧ H' = H4, ?_, fun σ' H' hM => ?_⟩
        · refine ⟨_, rfl, oa, _, 0, .str d.word, rfl, rfl, sqA_t (s4 _ _ hoa), at0, rfl, _, rfl, ite2 (fun e => ?_) (fun e => ?_)⟩
          · have ew : d.word = "start" := by injection of_decide_eq_true e
            refine ⟨_, rfl, _, _, rfl, rfl, ?_, rfl⟩
            rw [starts_take ho, if_pos (by simp [rStart, ew])]
            rfl
          · have ew : ¬ d.word = "start" := fun z => e (by rw [z]; exact decide_eq_true rfl)
            refine ⟨?_, rfl⟩
            rw [starts_take ho, if_neg (by simp [rStart, ew])]
            rfl
        · obtain ⟨rfl, rfl⟩ := hM
          refine ⟨_, rfl, _, _, rfl, rfl, _, rfl, ite2 (fun e => ⟨_, rfl, ret _ s4 ?_⟩) (fun e => ?_)⟩
          · have h3 : 3 < ((prog.take (i + 1)).filter rStart).length := by have := of_decide_eq_true e; omega
            simp only [badDeed, decide_eq_true h3, Bool.or_true]
          · have h3 : ¬ 3 < ((prog.take (i + 1)).filter rStart).length := fun z => e (decide_eq_true (by omega))
            refine ⟨_, _, rfl, (sm.trans s2).trans s4, fun j y hj ej => ?_⟩
            by_cases hji : j < i
            · exact hall j y hji ej
            · have : j = i := by omega
              subst this
              rw [ho] at ej; cases ej
              simp only [badDeed, can, decide_eq_false n4, decide_eq_false h3]; rfl
    · obtain ⟨y1, y2, rfl, sm, hall⟩ := hp
      have := q H2 (s1.trans sm)
      rw [fwDeed, fst_none fun i x e => by
        rw [Nat.zero_add]
        exact hall i x (by have := (List.getElem?_eq_some_iff.mp e).1; omega) e] at this
      exact this
end
end Vt
namespace Vt
open PySem PySem.Spec PyProof.Rows L2
/-! ### boards that can be -/
theorem kinds_deed (d : Deed) : ∃ ks, kindsOf d.word = some ks ∧ ks.length = d.args.length := by
  cases d
  · exact ⟨["cell", "number"], rfl, rfl⟩
  · exact ⟨["cell", "cell"], rfl, rfl⟩
  · exact ⟨["cell"], rfl, rfl⟩
  · exact ⟨["order"], rfl, rfl⟩
  · exact ⟨[], rfl, rfl⟩
  · exact ⟨["line"], rfl, rfl⟩
  · exact ⟨["line"], rfl, rfl⟩
theorem can_deed {d : Deed} {cnt cells : Nat} (h : DeedOk d cnt cells) : deedCan cnt cells d.raw = true := by
  have c1 : ∀ a b : Int, cap a b "cell" = b := fun _ _ => rfl
  have c2 : ∀ a b : Int, cap a b "number" = 10 := fun _ _ => rfl
  have c3 : ∀ a b : Int, cap a b "order" = a := fun _ _ => rfl
  have c4 : ∀ a b : Int, cap a b "line" = b / 4 := fun _ _ => rfl
  cases d with
  | set c n =>
    obtain ⟨h1, h2⟩ := h
    have e : kindsOf "set" = (some ["cell", "number"] : Option (List Str)) := by decide
    simp only [deedCan, Deed.raw, Deed.word, Deed.args, e, List.map_cons, List.map_nil, numsCan, c1, c2, Bool.and_true, Bool.and_eq_true, decide_eq_true_eq]
    omega
  | add c n =>
    obtain ⟨h1, h2⟩ := h
    have e : kindsOf "add" = (some ["cell", "cell"] : Option (List Str)) := by decide
    simp only [deedCan, Deed.raw, Deed.word, Deed.args, e, List.map_cons, List.map_nil, numsCan, c1, c2, Bool.and_true, Bool.and_eq_true, decide_eq_true_eq]
    omega
  | say c =>
    have h1 : c < cells := h
    have e : kindsOf "say" = (some ["cell"] : Option (List Str)) := by decide
    simp only [deedCan, Deed.raw, Deed.word, Deed.args, e, List.map_cons, List.map_nil, numsCan, c1, c2, Bool.and_true, Bool.and_eq_true, decide_eq_true_eq]
    omega
  | start c =>
    have h1 : c < cnt := h
    have e : kindsOf "start" = (some ["order"] : Option (List Str)) := by decide
    simp only [deedCan, Deed.raw, Deed.word, Deed.args, e, List.map_cons, List.map_nil, numsCan, c3, Bool.and_true, Bool.and_eq_true, decide_eq_true_eq]
    omega
  | wait =>
    have e : kindsOf "wait" = (some [] : Option (List Str)) := by decide
    simp only [deedCan, Deed.raw, Deed.word, Deed.args, e, List.map_nil, numsCan]
  | clean c =>
    have h1 : c < cells / 4 := h
    have e : kindsOf "clean" = (some ["line"] : Option (List Str)) := by decide
    simp only [deedCan, Deed.raw, Deed.word, Deed.args, e, List.map_cons, List.map_nil, numsCan, c4, Bool.and_true, Bool.and_eq_true, decide_eq_true_eq]
    omega
  | drop c =>
    have h1 : c < cells / 4 := h
    have e : kindsOf "drop" = (some ["line"] : Option (List Str)) := by decide
    simp only [deedCan, Deed.raw, Deed.word, Deed.args, e, List.map_cons, List.map_nil, numsCan, c4, Bool.and_true, Bool.and_eq_true, decide_eq_true_eq]
    omega
theorem can_ord {o : Ord} {at_ cnt cells : Nat} (h : OrdOk o at_ cnt cells) : ordCan cnt cells at_ o.raw = true := by
  obtain ⟨h1, h2, h3, h4, h5⟩ := h
  have hl : laterCan cnt at_ o.raw.later = true := by
    obtain ⟨s, g, m, l⟩ := o
    cases l with
    | none => rfl
    | some k =>
      have := h5 k rfl
      show (decide ((at_ : Int) < (k : Int)) && decide ((k : Int) < (cnt : Int))) = true
      rw [Bool.and_eq_true, decide_eq_true_eq, decide_eq_true_eq]
      omega
  simp only [ordCan, hl, Bool.and_true, Bool.and_eq_true, decide_eq_true_eq]
  simp only [Ord.raw]
  refine ⟨⟨⟨⟨⟨?_, ?_⟩, ?_⟩, ?_⟩, ?_⟩, ?_⟩ <;> omega
theorem ok_mem {B : Brd} (h : BrdOk B) : fwCell B.raw.mem = none := by
  have hl : B.raw.mem.length = B.mem.length := by simp [Brd.raw]
  rw [fwCell, if_pos (by rw [hl]; exact h.cells)]
  refine fst_none fun i x e => ?_
  obtain ⟨n, hn, rfl⟩ : ∃ n, B.mem[i]? = some n ∧ (n : Int) = x := by
    simp only [Brd.raw, List.getElem?_map] at e
    simpa using e
  have := h.nums n (List.mem_of_getElem? hn)
  simp [badNum]; omega
theorem ok_ords {B : Brd} (h : BrdOk B) : fwOrd B.raw.ords B.mem.length = none := by
  refine fst_none fun i x e => ?_
  obtain ⟨o, ho, rfl⟩ : ∃ o, B.ords[i]? = some o ∧ o.raw = x := by
    simp only [Brd.raw, List.getElem?_map] at e
    simpa using e
  have hl : B.raw.ords.length = B.ords.length := by simp [Brd.raw]
  have hi : i < B.ords.length := (List.getElem?_eq_some_iff.mp ho).1
  have := h.four
  rw [Nat.zero_add, badOrd, hl, can_ord (h.ords i o ho)]
  simp; omega
theorem rstart_raw (d : Deed) : rStart d.raw = isStart d := by
  have := word_start d
  simp only [rStart, Deed.raw]
  cases h : isStart d with
  | true => exact decide_eq_true (this.mpr h)
  | false => exact decide_eq_false fun z => by rw [this.mp z] at h; cases h
theorem ok_prog {B : Brd} (h : BrdOk B) : fwDeed B.raw.prog B.ords.length B.mem.length = none := by
  refine fst_none fun i x e => ?_
  obtain ⟨d, hd, rfl⟩ : ∃ d, B.prog[i]? = some d ∧ d.raw = x := by
    simp only [Brd.raw, List.getElem?_map] at e
    simpa using e
  have hi : i < B.prog.length := (List.getElem?_eq_some_iff.mp hd).1
  have h60 := h.sixty
  have hs : ((B.raw.prog.take (i + 1)).filter rStart).length ≤ 3 := by
    have e1 : (B.raw.prog.take (i + 1)).filter rStart = ((B.prog.take (i + 1)).filter isStart).map Deed.raw := by
      simp only [Brd.raw, ← List.map_take, List.filter_map]
      congr 1
      exact List.filter_congr fun d _ => rstart_raw d
    rw [e1, List.length_map]
    exact Nat.le_trans (List.Sublist.length_le ((List.take_sublist _ _).filter _)) h.starts
  rw [Nat.zero_add, badDeed, can_deed (h.prog d (List.mem_of_getElem? hd)), decide_eq_false (show ¬ i = 60 by omega), decide_eq_false (show ¬ 3 < _ by omega)]
  rfl
section
variable {P : Program} {w : World} {K : PySem.W.Frag} {mg : Str → Option Value} {base : Heap}
abbrev st_require_board : Stmt := (topS 16)
abbrev nm_require_board : List Str := ["board", "memory", "orders", "program", "wrong"]
theorem sc_require_board : FnScope ["board", "memory", "orders", "program", "wrong"] ["board"] (defScope st_require_board) := ⟨rfl, rfl, rfl, by decide +kernel, rfl, by decide +kernel, by decide +kernel⟩
/-- a board that can be is let through -/
def spReq : Sp := fun vs H Q _ => ∃ (v : V) (B : Brd), vs = [v] ∧ Pd H v B.d ∧ BrdOk B ∧ ∀ H', Same H H' → Q .non H'
theorem ok_req {f dd : Addr} {fd : FuncData} (F : Fun K "require_board" "require_board" st_require_board f fd) (c_first_wrong_cell : Callee P w K mg base "first_wrong_cell" 1 1 spFwCell) (c_first_wrong_order : Callee P w K mg base "first_wrong_order" 2 2 spFwOrd)
    (c_first_wrong_deed : Callee P w K mg base "first_wrong_deed" 2 3 (spFwDeed K w dd)) (z_len : mg "len" = none) : FnOk P w K mg base CX0 3 f fd ["board"] spReq := by
  refine F.ok sc_require_board (fun vs H Q E h => ?_) (fun cdv A outer s H vs Q E hr h => ?_)
  · obtain ⟨v, B, rfl, _⟩ := h
    rfl
  · obtain ⟨v, B, rfl, hB, ok, q⟩ := h
    rw [← raw_brd] at hB
    obtain ⟨a, m, o, p, os, ps, rfl, ha, hm, ho, hos, hp, hps⟩ := RBrd.of hB
    refine ⟨_, (pss_cons (ps_asg (pv 0) (pg_tup rfl (pgs_cons (pg_name (i := 1) sc_require_board.nd rfl (Or.inl rfl)) (pgs_cons (pg_name (i := 2) sc_require_board.nd rfl (Or.inl rfl)) (pgs_cons (pg_name (i := 3) sc_require_board.nd rfl (Or.inl rfl)) pgs_nil)))))
  (pss_cons (ps_set (i := 4) sc_require_board.nd rfl (Or.inl rfl) (pe_cal c_first_wrong_cell hr (by first | decide | exact Nat.le_refl _) (pa_cons (pv 1) pa_nil)))
  (pss_cons (ps_if (pt_cmpR op_notN (pv 4) pe_non (nomark _)) (pss_one ps_never) pss_nil)
  (pss_cons (ps_set (i := 4) sc_require_board.nd rfl (Or.inl rfl) (pe_cal c_first_wrong_order hr (by first | decide | exact Nat.le_refl _) (pa_cons (pv 2) (pa_cons (pe_callB call_len_seq (by rfl) z_len (by decide +kernel) (pa_cons (pv 1) pa_nil)) pa_nil))))
  (pss_cons (ps_if (pt_cmpR op_notN (pv 4) pe_non (nomark _)) (pss_one ps_never) pss_nil)
  (pss_cons (ps_set (i := 4) sc_require_board.nd rfl (Or.inl rfl) (pe_cal c_first_wrong_deed hr (by first | decide | exact Nat.le_refl _) (pa_cons (pv 3) (pa_cons (pe_callB call_len_seq (by rfl) z_len (by decide +kernel) (pa_cons (pv 2) pa_nil)) (pa_cons (pe_callB call_len_seq (by rfl) z_len (by decide +kernel) (pa_cons (pv 1) pa_nil)) pa_nil)))))
  (pss_one (ps_if (pt_cmpR op_notN (pv 4) pe_non (nomark _)) (pss_one ps_never) pss_nil)))))))), ?_⟩
    refine ⟨_, rfl, a, _, rfl, sqT_t ha, rfl, _, _, rfl, _, _, rfl, _, _, rfl, rfl, ?_⟩
    have ml : (B.raw.mem.map V.int).length = B.mem.length := by simp [Brd.raw]
    have ol : os.length = B.ords.length := by rw [hos.len]; simp [Brd.raw]
    refine ⟨_, rfl, m, _, rfl, hm, fun H1 s1 => ?_⟩
    rw [ok_mem ok]
    refine ⟨_, rfl, rfl, _, rfl, iteF ?_⟩
    refine ⟨_, rfl, _, rfl, m, _, rfl, .inr (sqT_t (s1 _ _ hm)), o, os, B.raw.ords, _, rfl, s1 _ _ ho, hos.same s1, fun H2 s2 => ?_⟩
    rw [show fwOrd B.raw.ords ((B.raw.mem.map V.int).length : Nat) = none by rw [ml]; exact ok_ords ok]
    refine ⟨_, rfl, rfl, _, rfl, iteF ?_⟩
    have s12 := s1.trans s2
    refine ⟨_, rfl, _, rfl, o, _, rfl, .inr (sqT_t (s12 _ _ ho)), _, rfl, m, _, rfl, .inr (sqT_t (s12 _ _ hm)), p, ps, B.raw.prog, _, _, rfl, s12 _ _ hp, hps.same s12, fun d hd => ?_, fun d hd hk => ?_, fun H3 s3 => ?_⟩
    · obtain ⟨d0, _, rfl⟩ := List.mem_map.mp hd
      have : d0.raw.nums.length = d0.args.length := by simp [Deed.raw]
      rw [this]
      cases d0 <;> simp [Deed.args]
    · obtain ⟨d0, _, rfl⟩ := List.mem_map.mp hd
      obtain ⟨ks, e, _⟩ := kinds_deed d0
      rw [show d0.raw.word = d0.word from rfl, e] at hk; cases hk
    rw [show fwDeed B.raw.prog (os.length : Nat) ((B.raw.mem.map V.int).length : Nat) = none by rw [ml, ol]; exact ok_prog ok]
    exact ⟨_, rfl, rfl, _, rfl, iteF (q H3 (s12.trans s3))⟩
end
end Vt
namespace Vt
open PySem PySem.Spec PyProof.Rows L2
/-! ### dicts whose keys are nested tuples -/
mutual
def nk : D → NestedKey
  | .non => .none
  | .bl b => .num (if b = true then 1 else 0)
  | .int i => .num i
  | .str x => .text x
  | .tup ds => .tup (nks ds)
  | .lst _ => .none
def nks : List D → List NestedKey
  | [] => []
  | d :: ds => nk d :: nks ds
end
section
variable {P : Program} {w : World} {H : Hp} {h : Heap}
mutual
theorem nk_is (ok : HOk P w H h) : ∀ {d : D} {v : V} {u : Value}, d.noL = true → Pd H v d → RelV v u → NestedIs h (nk d) u
  | .non, _, _, _, .non, r => by cases (show _ = Value.none from r); exact .none
  | .bl b, _, _, _, .bl _, r => by cases (show _ = Value.bool b from r); exact .bool rfl
  | .int i, _, _, _, .int _, r => by obtain ⟨t, rfl⟩ := r; exact .int i t
  | .str x, _, _, _, .str _, r => by obtain ⟨t, rfl⟩ := r; exact .text x t
  | .tup ds, _, _, n, .tup e hs, r => by
    cases r
    obtain ⟨_, its, rv, o, h1, h2, m, h3⟩ := (show ObjOk P w H h _ (.tup _) from ok _ _ e)
    exact .tup h1 h2 h3 (by simpa using nks_are ok (by rw [D.noL] at n; exact n) hs rv)
  | .lst ds, _, _, n, .lst _ _, _ => by rw [D.noL] at n; cases n
theorem nks_are (ok : HOk P w H h) : ∀ {ds : List D} {vs : List V} {us : List Value}, noLs ds = true → Pds H vs ds → Vals vs us → NestedAll h (nks ds) us
  | [], _, _, _, .nil, .nil => .nil
  | d :: ds, _, _, n, .cons p ps, .cons r rs => by
    rw [noLs, Bool.and_eq_true] at n
    exact .cons (nk_is ok n.1 p r) (nks_are ok n.2 ps rs)
end
mutual
theorem nk_dep : ∀ d : D, (nk d).depth ≤ d.dep
  | .non => Nat.le_refl _
  | .bl _ => Nat.le_refl _
  | .int _ => Nat.le_refl _
  | .str _ => Nat.le_refl _
  | .tup ds => by rw [nk, NestedKey.depth, D.dep]; exact Nat.succ_le_succ (nks_dep ds)
  | .lst ds => Nat.zero_le _
theorem nks_dep : ∀ ds : List D, NestedKey.depthAll (nks ds) ≤ deps ds
  | [] => Nat.le_refl _
  | d :: ds => by
    rw [nks, NestedKey.depthAll, deps]
    have := nk_dep d
    have := nks_dep ds
    omega
end
end
/-- an entry: the key, its tuple's address, the value -/
abbrev NEnt : Type := D × Addr × V
abbrev NRel : List NEnt → List (NestedKey × Addr × Value) → Prop := Paired fun p q => q.1 = nk p.1 ∧ q.2.1 = p.2.1 ∧ RelV p.2.2 q.2.2
def DN (P : Program) (w : World) (d : Addr) (es : List NEnt) : HO := .ext fun h => (d == sysModules) = false ∧ es.length ≤ sizeLine ∧ ∃ xs, NRel es xs ∧
  ∃ o ea ep, h.get? d = some o ∧ o.ExactDict ∧ o.data = .dict ea ep ∧ ea.toList = xs.map (entryOfKey (nestedKind P w)) ∧ (xs.map (·.1)).Nodup
/-- the keys' tuples stand -/
def KeysAt (H : Hp) (es : List NEnt) : Prop := ∀ e ∈ es, Pd H (.ref e.2.1) e.1 ∧ e.1.noL = true ∧ e.1.dep ≤ 8
def hasN (es : List NEnt) (k : D) : Bool := es.any fun e => decide (nk e.1 = nk k)
theorem dn_ok {P : Program} {w : World} {H : Hp} {h : Heap} {d : Addr} {es : List NEnt} (x : (d == sysModules) = false ∧ es.length ≤ sizeLine ∧ ∃ xs, NRel es xs ∧
    ∃ o ea ep, h.get? d = some o ∧ o.ExactDict ∧ o.data = .dict ea ep ∧ ea.toList = xs.map (entryOfKey (nestedKind P w)) ∧ (xs.map (·.1)).Nodup) : ObjOk P w H h d (DN P w d es) := by
  refine ⟨x, ?_, fun h1 h2 z k => ?_⟩
  · obtain ⟨_, _, _, _, o, _, _, e, _⟩ := x
    exact ⟨o, e⟩
  · obtain ⟨a, b, xs, r, o, ea, ep, e, c⟩ := z
    exact ⟨a, b, xs, r, o, ea, ep, k _ e, c⟩
theorem dn_raw {P : Program} {w : World} {H : Hp} {h : Heap} {d : Addr} {es : List NEnt} (ok : HOk P w H h) (e : Rd H d (DN P w d es)) : (d == sysModules) = false ∧ es.length ≤ sizeLine ∧ ∃ xs, NRel es xs ∧
    ∃ o ea ep, h.get? d = some o ∧ o.ExactDict ∧ o.data = .dict ea ep ∧ ea.toList = xs.map (entryOfKey (nestedKind P w)) ∧ (xs.map (·.1)).Nodup := by
  have x := e.ok ok
  exact x.1
theorem dn_at {P : Program} {w : World} {H : Hp} {h : Heap} {d : Addr} {es : List NEnt} (ok : HOk P w H h) (e : Rd H d (DN P w d es)) (ka : KeysAt H es) : (d == sysModules) = false ∧ es.length ≤ sizeLine ∧ ∃ xs, NRel es xs ∧ h.DictOfH (nestedKind P w) d xs := by
  obtain ⟨a, b, xs, r, o, ea, ep, e1, e2, e3, e4, e5⟩ := dn_raw ok e
  refine ⟨a, b, xs, r, o, ea, ep, e1, e2, e3, e4, fun x hx => ?_, e5⟩
  have all : ∀ {l : List NEnt} {m : List (NestedKey × Addr × Value)}, NRel l m → KeysAt H l → ∀ x ∈ m, (nestedKind P w).is h x.1 x.2.1 := by
    intro l m q
    induction q with
    | nil => intro _ x hx; exact nomatch hx
    | @cons p q ps qs hq t ih =>
      intro ka x hx
      rcases List.mem_cons.mp hx with e | hx
      · subst e
        obtain ⟨k1, k2, k3⟩ := ka p (by simp)
        rw [hq.1, hq.2.1]
        exact ⟨nk_is ok k2 k1 rfl, Nat.le_trans (nk_dep _) k3⟩
      · exact ih (fun e he => ka e (List.mem_cons_of_mem _ he)) x hx
  exact all r ka x hx
theorem nrel_has : ∀ {es : List NEnt} {xs : List (NestedKey × Addr × Value)} {k : D}, NRel es xs → (atKey xs (nk k)).isSome = hasN es k
  | _, _, k, .nil => rfl
  | _, _, k, .cons (a := p) (b := q) hq t => by
    obtain ⟨p1, p2, p3⟩ := p
    obtain ⟨q1, q2, q3⟩ := q
    obtain ⟨e1, e2, e3⟩ := hq
    dsimp only at e1 e2 e3
    subst e1
    have ih := nrel_has (k := k) t
    unfold hasN at ih ⊢
    unfold atKey at ih ⊢
    rw [List.any_cons, List.find?_cons]
    by_cases h : nk p1 = nk k
    · simp [h]
    · simp only [h, decide_false, Bool.false_or]
      exact ih
theorem KeysAt.same {H H' : Hp} {es : List NEnt} (s : Same H H') (k : KeysAt H es) : KeysAt H' es := fun e he => ⟨(k e he).1.same s, (k e he).2⟩
theorem dn_ne {P : Program} {w : World} {d : Addr} {es : List NEnt} {o : HO} (h : ∀ φ, o ≠ .ext φ) : DN P w d es ≠ o := fun z => h _ z.symm
section
variable {X : Cx} {pins : List (Addr × Obj)} {σ : L2.St} {H : Hp} {s : Shared} {d b : Addr} {es : List NEnt} {k : D} {v : V} {u r : Value} {A : Around} {E : Value → Shared → Prop}
theorem nd_room (hu : A.units + 64 < cLine) : (nestedKind X.prog X.w).room A.in1 := by
  show A.units + 1 + 8 < cLine
  omega
theorem nd_key (I : Inv X pins σ H s) (hk : Pd H (.ref b) k) (n : k.noL = true) (d8 : k.dep ≤ 8) : (nestedKind X.prog X.w).is s.heap (nk k) b := ⟨nk_is I.hok n hk rfl, Nat.le_trans (nk_dep _) d8⟩
theorem nd_notIn {Q : Value → Shared → Prop} (hu : A.units + 64 < cLine) (I : Inv X pins σ H s) (e : Rd H d (DN X.prog X.w d es)) (ka : KeysAt H es) (hk : Pd H (.ref b) k) (n : k.noL = true) (d8 : k.dep ≤ 8)
    (h : ∀ s', Inv X pins σ H s' → Q (.bool (!hasN es k)) s') : wpAny (model X.prog X.w) A (compareOp .NotIn (.ref b) (.ref d)) Q E s := by
  obtain ⟨hd, _, xs, r, dd⟩ := dn_at I.hok e ka
  refine wpAny_notIn_heap (nd_room hu) (nd_key I hk n d8) hd dd ?_
  rw [nrel_has r]
  exact h _ (I.tok _)
theorem nd_set {Q : Unit → Shared → Prop} (hu : A.units + 64 < cLine) (I : Inv X pins σ H s) (e : H d = some (DN X.prog X.w d es)) (ka : KeysAt H es) (hk : Pd H (.ref b) k) (n : k.noL = true) (d8 : k.dep ≤ 8) (hn : hasN es k = false) (hl : es.length < sizeLine)
    (rv : RelV v r) (h : ∀ s', Inv X pins σ (upd H d (DN X.prog X.w d (es ++ [(k, b, v)]))) s' → Q () s') : wpAny (model X.prog X.w) A (setItem (.ref d) (.ref b) r) Q E s := by
  obtain ⟨hd, z, xs, rel, dd⟩ := dn_at I.hok (.inl e) ka
  have hz : xs.length ≤ sizeLine := by rw [← Paired.length rel]; exact z
  have hno : atKey xs (nk k) = none := by
    have := nrel_has (k := k) rel
    rw [hn] at this
    cases h : atKey xs (nk k) with
    | none => rfl
    | some p => rw [h] at this; cases this
  refine wpAny_setItem_heap (hsz := hz) (nd_room hu) (nd_key I hk n d8) dd fun h' dd' hs => h _ ?_
  obtain ⟨q, ea, ep, hq, h2, h3, h4, _, h5⟩ := dd'
  rw [storedH_new hno] at h4 h5
  exact d_write I (by rw [e]; exact True.intro) hs ⟨q, hq⟩ (dn_ok ⟨hd, by rw [List.length_append]; exact hl, _, Paired.snoc rel ⟨rfl, rfl, rv⟩, q, ea, ep, hq, h2, h3, h4, h5⟩)
end
/-- y not in d -/
def tNNot (P : Program) (w : World) (ty td : TE) : TE := fun σ H Q => ty σ H fun y H1 => td σ H1 fun x H2 => ∃ (d b : Addr) (es : List NEnt) (k : D), x = .ref d ∧ y = .ref b ∧ Rd H2 d (DN P w d es) ∧ KeysAt H2 es ∧ Pd H2 (.ref b) k ∧ k.noL = true ∧ k.dep ≤ 8 ∧ Q (.bl (!hasN es k)) H2
/-- d[y] = v, y a new key -/
def sNPut (P : Program) (w : World) (td ty tv : TE) : TS := fun D σ H => tv σ H fun v H1 => td σ H1 fun x H2 => ty σ H2 fun y H3 => ∃ (d b : Addr) (es : List NEnt) (k : Vt.D), x = .ref d ∧ y = .ref b ∧ H3 d = some (DN P w d es) ∧ KeysAt H3 es ∧ Pd H3 (.ref b) k ∧ k.noL = true ∧ k.dep ≤ 8 ∧ hasN es k = false ∧ es.length < sizeLine ∧
  D.nx σ (upd H3 d (DN P w d (es ++ [(k, b, v)])))
def tNNew (P : Program) (w : World) : TE := fun _ H Q => ∀ p, H p = none → Q (.ref p) (upd H p (DN P w p []))
def tNDisp (P : Program) (w : World) (tk tv : TE) : TE := fun σ H Q => ∀ p, H p = none → tk σ (upd H p (DN P w p [])) fun y H1 => tv σ H1 fun v H2 => H2 p = some (DN P w p []) ∧ ∃ (b : Addr) (k : D), y = .ref b ∧ Pd H2 (.ref b) k ∧ k.noL = true ∧ k.dep ≤ 8 ∧ Q (.ref p) (upd H2 p (DN P w p [(k, b, v)]))
/-- d.items(), each a new pair -/
def Itn (P : Program) (w : World) (d : Addr) (o : Obj) (es : List NEnt) : It :=
  ⟨fun i H => H d = some (.frz o (DN P w d es)) ∧ i < es.length, fun i H x H' => ∃ T k b v, es[i]? = some (k, b, v) ∧ x = .ref T ∧ H T = none ∧ H' = upd H T (.tup [.ref b, v]), fun i H => H d = some (.frz o (DN P w d es)) ∧ es.length ≤ i⟩
def iNItems (P : Program) (w : World) (td : TE) : TI := fun σ H R => td σ H fun x H1 => ∃ d o es, x = .ref d ∧ H1 d = some (.frz o (DN P w d es)) ∧ R (Itn P w d o es) H1
theorem nrel_get : ∀ {es : List NEnt} {xs : List (NestedKey × Addr × Value)} {i : Nat} {k : D} {b : Addr} {v : V}, NRel es xs → es[i]? = some (k, b, v) → ∃ u, xs[i]? = some (nk k, b, u) ∧ RelV v u
  | _, _, _, _, _, _, .nil, e => by simp at e
  | _, _, 0, k, b, v, .cons (b := q) hq t, e => by
    simp only [List.getElem?_cons_zero, Option.some.injEq] at e
    subst e
    obtain ⟨q1, q2, q3⟩ := q
    obtain ⟨e1, e2, e3⟩ := hq
    dsimp only at e1 e2 e3
    subst e1 e2
    exact ⟨q3, rfl, e3⟩
  | _, _, i + 1, k, b, v, .cons hq t, e => by
    obtain ⟨u, h1, h2⟩ := nrel_get t (show _ = some (k, b, v) by simpa using e)
    exact ⟨u, by simpa using h1, h2⟩
theorem dn_frz {X : Cx} {pins : List (Addr × Obj)} {σ : L2.St} {H : Hp} {s : Shared} {d : Addr} {o : Obj} {es : List NEnt} (I : Inv X pins σ H s) (h : H d = some (.frz o (DN X.prog X.w d es))) :
    (d == sysModules) = false ∧ s.heap.get? d = some o ∧ o.ExactDict ∧ ∃ (ea : Array DictEntry) (ep : Nat), o.data = .dict ea ep ∧ ea.size = es.length ∧ ∀ (i : Nat) (k : D) (b : Addr) (v : V), es[i]? = some (k, b, v) → ∃ (hi : i < ea.size) (u : Value), ea[i].key = .ref b ∧ ea[i].val = u ∧ RelV v u := by
  obtain ⟨hd, x⟩ := I.hok d _ h
  obtain ⟨⟨hs, z, xs, r, o', ea, ep, ho, hx, hdt, he, hn⟩, _, _⟩ := x
  rw [hd] at ho
  cases ho
  have hz : ea.size = xs.length := size_of_entries he
  have hl : es.length = xs.length := Paired.length r
  refine ⟨hs, hd, hx, ea, ep, hdt, by rw [hz, hl], fun i k b v hk => ?_⟩
  obtain ⟨u, hu, ru⟩ := nrel_get r hk
  have hi : i < ea.size := by rw [hz]; exact (List.getElem?_eq_some_iff.mp hu).1
  have e := entry_at he i
  rw [Array.getElem?_eq_getElem hi, hu, Option.map_some] at e
  have e' := Option.some.inj e
  exact ⟨hi, u, by rw [e']; rfl, by rw [e']; rfl, ru⟩
theorem turn_itn {P : Program} {w : World} {K : PySem.W.Frag} {d : Addr} {o : Obj} {ea : Array DictEntry} {ep : Nat} {es : List NEnt} {elts : List Expr} {kk : Nat} {tpos : Pos} (it : Addr) (hod : o.data = .dict ea ep) :
    Turn P w K (.Tuple elts kk tpos) (Itn P w d o es) [it] it (fun i h => ∃ ok ov, IsItemIter h it d i es.length ep ok ov) where
  mem := by simp
  obj := fun i h st b hb => by
    have e : b = it := by simpa using hb
    subst e
    obtain ⟨ok, ov, e⟩ := st
    exact ⟨_, e, fun v z => nomatch z⟩
  keep := fun i h h' st k => let ⟨ok, ov, e⟩ := st; ⟨ok, ov, k it (by simp) _ e⟩
  item := by
    intro X hP hw hK hc i pins s σ H E I hf st hg
    subst hP hw hK
    obtain ⟨hd, hi⟩ := hg
    obtain ⟨hs, hgd, hx, ea', ep', hdt, hsz, hent⟩ := dn_frz I hd
    obtain ⟨rfl, rfl⟩ := dict_ep hod hdt
    obtain ⟨⟨k, b, v⟩, hkv⟩ : ∃ p, es[i]? = some p := ⟨es[i], List.getElem?_eq_getElem hi⟩
    obtain ⟨hia, u, hu1, hu2, ru⟩ := hent i k b v hkv
    obtain ⟨ok, ov, he⟩ := st
    rw [← hsz] at he
    have hlt : it < s.heap.objs.size := Heap.lt_size he
    refine wpAny_pyNext_items_item_raw he ⟨o, hgd, hx, hdt⟩ hia fun h' ho hT hz hk => ?_
    rw [hu1, hu2] at ho hT
    refine ⟨_, rfl, wpAny_letOwnedTupleGo_items (s := { s with heap := h' }) ho fun h'' he' sb => ?_⟩
    have hT2 := (sb.2 _ (Nat.ne_of_gt hlt)).trans hT
    have new : ObjOk X.prog X.w (upd H s.heap.objs.size (.tup [.ref b, v])) h'' s.heap.objs.size (.tup [.ref b, v]) :=
      ⟨by show 2 ≤ sizeLine; decide, [.ref b, u], .cons rfl (.cons ru .nil), ⟨_, hT2, rfl, _, rfl⟩⟩
    have I1 : Inv X pins σ (upd H s.heap.objs.size (.tup [.ref b, v])) { s with heap := h'' } :=
      I.turnedNew (t' := s.toks) (ch := [it]) (fun b ob hb e => (sb.2 b (by simpa using hb)).trans (hk b ob (by simpa using hb) e)) hf (Nat.le_refl _) new
    refine ⟨.ref s.heap.objs.size, _, I1, rfl, ⟨_, k, b, v, hkv, rfl, I.hok.fresh (Nat.le_refl _), rfl⟩, ⟨.ref b, u, ?_⟩, fun b hb => ?_⟩
    · rw [← hsz]; exact he'
    · have e : b = it := by simpa using hb
      rw [e, upd_ne (Nat.ne_of_lt hlt)]
      exact (hf it (by simp)).1
  done := by
    intro X hP hw hK hc i pins s σ H E I hf st hg
    subst hP hw hK
    obtain ⟨hd, hi⟩ := hg
    obtain ⟨f0, f1, f2, f3, f4, f5⟩ := hf it (by simp)
    obtain ⟨hs, hgd, hx, ea', ep', hdt, hsz, hent⟩ := dn_frz I hd
    obtain ⟨rfl, rfl⟩ := dict_ep hod hdt
    obtain ⟨ok, ov, he⟩ := st
    rw [← hsz] at he
    exact wpAny_pyNext_items_end_raw (I.ok.hd hc) he ⟨o, hgd, hx, hdt⟩ (by omega) fun h' eb => ⟨rfl, I.turned (t' := s.toks) (fun b ob hb e => eb b ob hb e) f0 f1 f3 f4 f5⟩
  self := fun A i s Q E st h => let ⟨_, _, e⟩ := st; PySem.W.kcp_self e h
theorem dn_empty {P : Program} {w : World} {H : Hp} (h : Heap) (hb : sysModules < h.objs.size) : ObjOk P w H (h.push { cls := .type "dict", data := .dict #[] }) h.objs.size (DN P w h.objs.size []) :=
  dn_ok ⟨beq_eq_false_iff_ne.mpr (Ne.symm (Nat.ne_of_lt hb)), Nat.zero_le _, [], .nil, _, #[], 0, Heap.get?_push_size _ rfl, ⟨rfl, rfl, rfl⟩, rfl, rfl, List.nodup_nil⟩
theorem ndisp_pairs {prog : Program} {w : World} {K : Type} [DecidableEq K] {knd : HeapKind prog w K} {A : Around} {E : Value → Shared → Prop} {s : Shared} {env : Env} {keys : List (Option Expr)} {values : List Expr} {pos : Pos} {pairs : List (Sem Value × Sem Value)} {Q : Value → Shared → Prop} (hu : knd.room A)
    (hshape : (evalEachOpt keys env).zip ((evalEach values env).map fun v => do let x ← v; standAt pos; pure x) = pairs.map fun p => (some p.1, p.2)) (h0 : pairs ≠ []) (hlen : pairs.length ≤ 15)
    (h : wpAny (model prog w) A (evalPairs pairs) (fun vs s₁ => ∃ ps, CarriesH knd s₁.heap vs ps ∧ s₁.heap.DictOfH knd s.heap.objs.size [] ∧
      ∀ h' tk, h'.DictOfH knd s.heap.objs.size (storedAllH [] ps) → Heap.SameBut s.heap.objs.size s₁.heap h' → Q (.ref s.heap.objs.size) { s₁ with heap := h', toks := tk }) E
      { s with heap := s.heap.push { cls := .type "dict", data := .dict #[] } }) :
    wpAny (model prog w) A (eval (.Dict keys values pos) env) Q E s := by
  rw [arm_eval_Dict, hshape, dictDisplay_pairs pairs h0 (by omega)]
  exact wpAny_bind (wpAny_standAt (wpAny_bind (wpAny_subDictH (knd := knd) (Q := fun d s' => wpAny (model prog w) A (pure (Value.ref d)) Q E s') hu hlen
    (wpAny_mono h (fun vs s₁ h₁ => by obtain ⟨ps, hc, hm, hq⟩ := h₁; exact ⟨ps, hc, hm, fun h' tk a b => wpAny_pure (hq h' tk a b)⟩) fun _ _ e => e))))
section
variable {X : Cx} {o i e value k1 v1 : Expr} {pos pos' apos cpos : Pos} {td ty tv tk : TE}
theorem pc_nnot (hu : X.A.units + 64 < cLine) (hi : PE X i ty) (ho : PE X o td) : PC X .NotIn i o (tNNot X.prog X.w ty td) := by
  refine ⟨fun pins s σ H Q I h => ?_⟩
  refine thn (hi.run pins s σ H _ I h) fun iv s1 ⟨y, H1, I1, ry, q1⟩ => thn (ho.run pins s1 σ H1 _ I1 q1) fun u s2 ⟨x, H2, I2, rx, d, b, es, k, ex, ey, g, ka, hk, n, d8, q2⟩ => ?_
  subst ex ey
  obtain rfl : u = Value.ref d := rx
  obtain rfl : iv = Value.ref b := ry
  exact nd_notIn hu I2 g ka hk n d8 fun s3 I3 => ⟨.bl (!hasN es k), H2, I3, rfl, q2⟩
theorem ps_nput (hu : X.A.units + 64 < cLine) (ho : PE X o td) (hi : PE X i ty) (hv : PE X value tv) (hs : swapsWith value (some (.Subscript o i pos')) pos.line X.env = pure false) :
    PS X (.Assign [.Subscript o i pos'] value pos) (sNPut X.prog X.w td ty tv) := by
  refine ⟨fun pins s σ H D I h => ?_⟩
  refine wpAny_Assign_Subscript (thn (hv.run pins s σ H _ I h) fun r s1 ⟨v, H1, I1, rv, q1⟩ => thn (ho.run pins s1 σ H1 _ I1 q1) fun u s2 ⟨x, H2, I2, rx, q2⟩ => thn (hi.run pins s2 σ H2 _ I2 q2) fun iv s3 ⟨y, H3, I3, ry, d, b, es, k, ex, ey, g, ka, hk, n, d8, hn, hl, q3⟩ => ?_) hs
  subst ex ey
  obtain rfl : u = Value.ref d := rx
  obtain rfl : iv = Value.ref b := ry
  exact nd_set hu I3 g ka hk n d8 hn hl rv fun s4 I4 => ⟨σ, _, I4, q3⟩
theorem pe_nnew : PE X (.Dict [] [] pos) (tNNew X.prog X.w) := ⟨fun pins s σ H Q I h =>
  wpAny_Dict_empty ⟨.ref s.heap.objs.size, _, I.laid (a := s.heap.objs.size) (o := DN X.prog X.w s.heap.objs.size []) (t' := s.toks) (fun _ _ q => Heap.get?_push_of_some _ q) (Nat.le_refl _) (dn_empty s.heap I.big), rfl, h _ (I.hok.fresh (Nat.le_refl _))⟩⟩
theorem pe_ndisp (hu : X.A.units + 64 < cLine) (hk : PE X k1 tk) (hv : PE X v1 tv) : PE X (.Dict [some k1] [v1] pos) (tNDisp X.prog X.w tk tv) := by
  refine ⟨fun pins s σ H Q I q => ?_⟩
  have hn := I.hok.fresh (Nat.le_refl s.heap.objs.size)
  have I1 := I.laid (a := s.heap.objs.size) (o := DN X.prog X.w s.heap.objs.size []) (h' := s.heap.push { cls := .type "dict", data := .dict #[] }) (t' := s.toks) (fun _ _ q => Heap.get?_push_of_some _ q) (Nat.le_refl _) (dn_empty s.heap I.big)
  have pp : PPs X pos [some k1] [v1] [(tk, tv)] := pps_cons hk hv pps_nil
  refine ndisp_pairs (knd := nestedKind X.prog X.w) (pairs := pairTrees [some k1] [v1] X.env pos) (show X.A.units + 8 < cLine by omega) (zip_pairTrees [some k1] [v1] X.env pos rfl rfl) (by simp [pairTrees]) (by simp [pairTrees])
    (thn (pp.run pins _ σ _ (fun ps H2 => match ps with
      | [(y, v)] => H2 s.heap.objs.size = some (DN X.prog X.w s.heap.objs.size []) ∧ ∃ (b : Addr) (k : D), y = .ref b ∧ Pd H2 (.ref b) k ∧ k.noL = true ∧ k.dep ≤ 8 ∧ Q (.ref s.heap.objs.size) (upd H2 s.heap.objs.size (DN X.prog X.w s.heap.objs.size [(k, b, v)]))
      | _ => False) I1 (q _ hn)) fun ws s2 ⟨ps, H2, I2, rel, q2⟩ => ?_)
  match ps, q2 with
  | [(y, v)], ⟨e, b, k, ey, hk2, n, d8, q2⟩ =>
    subst ey
    cases rel with
    | @cons _ p _ ws' hp t =>
      cases t
      obtain ⟨p1, p2⟩ := p
      obtain ⟨r1, r2⟩ := hp
      cases (show p1 = Value.ref b from r1)
      obtain ⟨hd, z, xs, rl, dd⟩ := dn_at I2.hok (.inl e) (fun e he => by cases he)
      cases rl
      refine ⟨[(nk k, b, p2)], ⟨rfl, rfl, nd_key I2 hk2 n d8, True.intro⟩, dd, fun h' tk' dd' hs => ⟨.ref s.heap.objs.size, _, ?_, rfl, q2⟩⟩
      obtain ⟨q, ea, ep, hq, h2, h3, h4, h6, h5⟩ := dd'
      exact d_write I2 (by rw [e]; exact True.intro) hs ⟨q, hq⟩ (dn_ok ⟨hd, by show 1 ≤ sizeLine; decide, [(nk k, b, p2)], .cons ⟨rfl, rfl, r2⟩ .nil, q, ea, ep, hq, h2, h3, h4, h5⟩)
theorem pi_nitems {elts : List Expr} {kk : Nat} {tpos : Pos} (he : PE X e td) (hbase : attributeBase e "items" X.env (eval e X.env) = eval e X.env := by rfl) (hline : (apos.endLine == cpos.line) = true := by rfl) :
    PI X (.Tuple elts kk tpos) (.Call (.Attribute e "items" apos) [] [] cpos) (iNItems X.prog X.w td) := by
  refine ⟨fun pins s σ H R I h => ?_⟩
  refine wpAny_Call_method (T := "dict") (id := "dict.items") hbase rfl hline F.plainAttrs_dict F.slot_dict_items F.type_dict_items (thn (he.run pins s σ H _ I h) fun u s1 ⟨x, H1, I1, rx, d, o, es, ex, hd, q⟩ => ?_)
  subst ex
  obtain rfl : u = Value.ref d := rx
  obtain ⟨hs, hgd, hx, ea, ep, hdt, hsz, hent⟩ := dn_frz I1 hd
  have raw : s1.heap.DictRaw d ea ep := ⟨o, hgd, hx, hdt⟩
  refine ⟨raw.typeIs, fun b z => by cases z; exact ⟨o, hgd, hx.2.1⟩, ?_⟩
  have I2 : Inv X pins σ H1 { s1 with heap := s1.heap.push { cls := .type "dict_items", data := .fields #[.ref d] } } := I1.kept (t' := s1.toks) fun b ob q => Heap.get?_push_of_some _ q
  have fin : wpAny (model X.prog X.w) X.A (pyIter (.ref s1.heap.objs.size)) (PIE X pins σ (.Tuple elts kk tpos) R) X.xe { s1 with heap := s1.heap.push { cls := .type "dict_items", data := .fields #[.ref d] } } := by
    refine wpAny_pyIter_items_raw (d := d) ⟨_, Heap.get?_push_size _ rfl, rfl, rfl⟩ (raw.at fun ob q => Heap.get?_push_of_some _ q) (pi_one (tk := s1.toks) I2 _ (turn_itn _ hdt) ⟨.none, .none, ?_⟩ q)
    rw [hsz]
    exact Heap.get?_push_size _ rfl
  show wpAny _ _ (callWith cpos (.builtin "dict.items") [.ref d] [] []) _ X.xe s1
  exact method_meetsIn F.slot_dict_items F.entry_dict_items rfl (PySem.evalArgs_none ⟨rfl, raw.typeIs, F.args_dict_items_1 _, _, meets_dict_items_raw d hs, ⟨⟨ea, ep, raw⟩, fin⟩⟩)
theorem walk_nitems {P : Program} {w : World} {d : Addr} {ob : Obj} {es : List NEnt} : Walk (Itn P w d ob es) es.length (fun H => H d = some (.frz ob (DN P w d es))) (fun i H x H' => ∃ T k b v, es[i]? = some (k, b, v) ∧ x = .ref T ∧ H T = none ∧ H' = upd H T (.tup [.ref b, v])) :=
  ⟨fun i H hi h => ⟨h, hi⟩, fun H h => ⟨h, Nat.le_refl _⟩, fun i H x H' hi h y => y⟩
end
end Vt
namespace Vt
open PySem PySem.Spec PyProof.Rows L2
/-! ### a def of a class that says super().m(..) first: its frame -/
abbrev nfS (name qual : Str) (st : Stmt) (cda cc : Addr) : NdefX.NF := ⟨name, qual, defArgs st, defBody st, defScope st, [("__class__", cc)], cda⟩
theorem cells_S {K : PySem.W.Frag} {h base : Heap} {H : Hp} {cc D : Addr} {cl : Value} {cld : Option Addr} {csl : Array (Option Value)} (X : K.In base) (bs : ∀ b o, base.get? b = some o → h.get? b = some o ∧ H b = none) (hcell : K.lookup cc = some ⟨cl, cld, .cell (some (.ref D)), csl⟩) :
    NdefX.CellsAt [("__class__", cc)] ["__class__"] [none] h H := by
  obtain ⟨e1, e2⟩ := bs cc _ (X _ _ hcell)
  have one : ∀ y c, [(("__class__" : Str), cc)].lookup y = some c → y = "__class__" ∧ c = cc := fun y c z => by
    have z' := PySem.mem_of_lookup z
    rw [List.mem_singleton] at z'
    injection z' with a b
    exact ⟨a, b⟩
  refine ⟨rfl, fun y c z => ?_, fun x y c z1 z2 => ?_, fun i y z => ?_⟩
  · obtain ⟨_, rfl⟩ := one y c z
    exact ⟨e2, some (.ref D), ⟨_, e1, rfl⟩⟩
  · rw [(one x c z1).1, (one y c z2).1]
  · cases i with
    | zero =>
      simp only [List.getElem?_cons_zero, Option.some.injEq] at z
      subst z
      exact ⟨cc, rfl, fun v q => by cases q⟩
    | succ i => simp at z
/-- what the text must be, so that super() is the built-in one, asked in this module -/
structure SupOk (P : Program) (K : PySem.W.Frag) (mg : Str → Option Value) (sc : Scope) (cda : Addr) : Prop where
  code : ∃ ccl cdd vs ccs file tf, K.lookup cda = some ⟨ccl, cdd, .fields vs, ccs⟩ ∧ vs[2]? = some (.str file tf) ∧ ((P.main.file : Str) == file) = true
  top : (P.main.scope.names.lookup ("super" : Str)).isSome = false
  none_ : mg "super" = none
  ks : sc.names.lookup ("super" : Str) = some .globalImplicit
  kc : sc.names.lookup ("__class__" : Str) = some .free
  any : PySem.W.nsIn K cStatics "thirdparty.any" = some none
section
variable {CX : CXT} {P : Program} {w : World} {K : PySem.W.Frag} {mg : Str → Option Value} {base : Heap} {N ps : List Str} {f cda cc D C x : Addr} {name qual : Str} {st : Stmt} {A : Around} {outer : List Env} {s0 s : Shared} {H0 H : Hp} {E : XK} {pins : List (Addr × Obj)} {σ : L2.St}
  {cl oc : Value} {cld od : Option Addr} {csl osl : Array (Option Value)} {fd : FuncData} {ar : Arg} {cdD : ClassData} {ox : Obj} {odx : Option Obj}
/-- super(): the object that asks the classes behind D -/
theorem super_at {body : List Stmt} {p0 p1 : Pos} {attr : Str} {whole : Sem Value} {Q : Value → Shared → Prop} (S : SupOk P K mg (defScope st) cda) (lf : K.lookup f = some ⟨oc, od, .func fd, osl⟩) (hp : (fd.params.posonlyargs ++ fd.params.args).head? = some ar) (hka : (defScope st).names.lookup ar.arg = some .local) (hk : (defScope st).kind = .function)
    (hcell : K.lookup cc = some ⟨cl, cld, .cell (some (.ref D)), csl⟩) (hD : PySem.W.clsIn K D = some cdD) (hsub : PySem.W.mroIn K C (.ref D) = some true) (hat : (attr == ("__class__" : Str)) = false)
    (I : Inv (NdefX.ncx CX P w K mg base N (nfS name qual st cda cc) f A outer s0 H0 E) pins σ H s) (hN : N[0]? = some ar.arg) (hσ : σ[0]? = some (some (.ref x))) (J : PySem.W.InstAt s.heap x ox C odx)
    (h : ∀ so s', Inv (NdefX.ncx CX P w K mg base N (nfS name qual st cda cc) f A outer s0 H0 E) ((so, PySem.W.ks_superObj D x C) :: pins) σ H s' → (∀ b o, s.heap.get? b = some o → s'.heap.get? b = some o) → Q (.ref so) s') :
    PySem.wpAt (model P w) (NdefX.ncx CX P w K mg base N (nfS name qual st cda cc) f A outer s0 H0 E).A (.func body (NdefX.ncx CX P w K mg base N (nfS name qual st cda cc) f A outer s0 H0 E).env)
      (attributeBase (.Call (.Name "super" p0) [] [] p1) attr (NdefX.ncx CX P w K mg base N (nfS name qual st cda cc) f A outer s0 H0 E).env whole) Q (NdefX.ncx CX P w K mg base N (nfS name qual st cda cc) f A outer s0 H0 E).xe s := by
  have X := I.kIn
  obtain ⟨ccl, cdd, vs, ccs, file, tf, hcode, hvs, hfile⟩ := S.code
  obtain ⟨m, hn, hl⟩ := I.loc
  obtain ⟨u, ru, lk⟩ := hl 0 ar.arg (.ref x) hN hσ (.inl hka)
  obtain rfl : u = Value.ref x := ru
  have hv : m ar.arg = some (.ref x) := by
    rcases lk with ⟨_, z⟩ | ⟨z, _⟩
    · exact z
    · have z' : (defScope st).names.lookup ar.arg = some .cell ∨ (defScope st).names.lookup ar.arg = some .free := z
      rw [hka] at z'
      rcases z' with z' | z' <;> cases z'
  obtain ⟨oD, hD1, hD2⟩ : ∃ oD, s.heap.get? D = some oD ∧ oD.data = .cls cdD := by
    unfold PySem.W.clsIn at hD
    split at hD
    · rename_i c d cd' sl ho
      cases hD
      exact ⟨_, X _ _ ho, rfl⟩
    · cases hD
  obtain ⟨mb, hb1, hb2⟩ := I.mod.blt
  refine ks_wpAt_super_base (env := (NdefX.ncx CX P w K mg base N (nfS name qual st cda cc) f A outer s0 H0 E).env) S.ks S.kc hat rfl (X _ _ lf) rfl hp rfl (X _ _ hcode) rfl hvs hfile S.top ?_
  refine PySem.W.ks_loadName_global hk S.ks (Calls.loadGlobal_builtin (by exact I.mod.glob.keeps I.bk) S.none_ (by exact hb1.keeps I.bk) ((hb2 _ (by decide +kernel)).trans (by first | exact PySem.W.boot_super | kernel_rfl)) ⟨rfl, ?_⟩)
  refine wpAny_loadName_free hk S.kc rfl ⟨_, X _ _ hcell, rfl⟩ ?_
  refine wpAny_loadName_local hk hka hn hv ?_
  refine ks_wpAny_isType_cls hD1 hD2 ⟨rfl, ?_⟩
  obtain ⟨hp', g, d, t, os⟩ := s
  refine ks_wpAny_call_super hD1 hD2 J.at_ J.cls (fun c e => ?_) (PySem.W.looks_mroIn X hsub) (fun h' e k => ?_)
  · have := J.no
    unfold PySem.W.notCls at this
    rw [e] at this
    exact Bool.noConfusion this
  · exact h _ _ (ClX.pin_new (t' := t) I k (Nat.le_refl _) e (fun v z => nomatch z)) k
/-- what a class must be, so that super().m finds the def at f2 behind D -/
structure SupM (K : PySem.W.Frag) (C D : Addr) (m : Str) (f2 : Addr) : Prop where
  sub : PySem.W.mroIn K C (.ref D) = some true
  at_ : PySem.W.ks_superIn K C D m = some (some (.ref f2))
  ty : PySem.W.typeIn K (.ref f2) = some (.type "function")
  fn : PySem.W.fnIn K f2 = true
abbrev startS (N : List Str) (vs : List V) : L2.St := NdefX.startF N vs [none]
/-- a def of a class whose first statement is super().m(..), m a def of a class behind -/
theorem fnS_own {k k2 f2 : Nat} {sp sp2 : Sp} {fd2 : FuncData} {ps2 : List Str} {dV kV doc pm ct : Value} {an : Option Addr} {m : Str} {p0 p1 apos pos epos : Pos} {e : Expr} {es : List Expr} {rest : List Stmt}
    (lk : K.lookup f = some ⟨oc, od, .func (PySem.W.fnX name qual (defArgs st) (defBody st) (defScope st) [("__class__", cc)] dV kV doc pm an (.ref cda) ct), osl⟩) (hcd : PySem.W.codeIn K (.ref cda) qual = true) (hbd : defBody st = .Expr (.Call (.Attribute (.Call (.Name "super" p0) [] [] p1) m apos) (e :: es) [] pos) epos :: rest)
    (S : NdefX.NScope N ps ["__class__"] (defScope st)) (SO : SupOk P K mg (defScope st) cda) (hp : ((defArgs st).posonlyargs ++ (defArgs st).args).head? = some ar) (hN : N[0]? = some ar.arg) (h0 : ps[0]? = some ar.arg)
    (hcell : K.lookup cc = some ⟨cl, cld, .cell (some (.ref D)), csl⟩) (hD : PySem.W.clsIn K D = some cdD) (hm1 : (m == ("__class__" : Str)) = false)
    (F2 : FnOk P w K mg base CX0 k2 f2 fd2 ps2 sp2) (b2 : Binds K fd2 ps2 []) (hk2 : k2 ≤ k)
    (len : ∀ vs H Q E, sp vs H Q E → vs.length = ps.length)
    (hst : ∀ env, starEach (e :: es) env = (false, eval e env) :: starEach es env) (hpl : ∀ env, (backTo pos (starEach es env)).any (·.1) = false)
    (hev : ∀ env, ∃ pl : Sem Bool, eval (.Call (.Attribute (.Call (.Name "super" p0) [] [] p1) m apos) (e :: es) [] pos) env = (do
      let ov ← attributeBase (.Call (.Name "super" p0) [] [] p1) m env (eval (.Call (.Name "super" p0) [] [] p1) env)
      standAt apos.atName
      let (f, first) ← holding [ov] (getMethod ov m pl)
      callWith pos f first (backTo pos (starEach (e :: es) env)) []))
    (hsw : ∀ env, swapsWith (.Call (.Attribute (.Call (.Name "super" p0) [] [] p1) m apos) (e :: es) [] pos) none epos.line env = pure false)
    (hbody : ∀ (A : Around) (outer : List Env) (s : Shared) (H : Hp) (vs : List V) (Q : VK) (E : XK), Room k (A.deeper (NdefX.envF (nfS name qual st cda cc) f s.heap.objs.size)) → sp vs H Q E →
      ∃ (ta : TA) (t : TS), L2.PA (NdefX.ncx CX0 P w K mg base N (nfS name qual st cda cc) f A outer s H E) (e :: es) ta ∧ PSs (NdefX.ncx CX0 P w K mg base N (nfS name qual st cda cc) f A outer s H E) rest t ∧
        ∃ (x C dx : Addr) (fs : List (Str × V)), (startS N vs)[0]? = some (some (.ref x)) ∧ H x = some (.ins C dx fs) ∧ SupM K C D m f2 ∧
          ta (startS N vs) H fun ws H1 => sp2 (.ref x :: ws) H1 (fun _ H2 => t { nx := fun _ H' => Q .non H', rt := Q } (startS N vs) H2) E0) :
    FnOk P w K mg base CX0 (k + 1) f (PySem.W.fnX name qual (defArgs st) (defBody st) (defScope st) [("__class__", cc)] dV kV doc pm an (.ref cda) ct) ps sp := by
  refine ⟨len, fun A outer s H args us vs Q E hr e0 hb r hsp => ?_⟩
  have hl := len _ _ _ _ hsp
  have KX : K.In s.heap := e0.mod.kin.keeps fun b o e => (e0.bs b o e).1
  have lim : s.heap.NoLimit := e0.mod.nolimit.keeps fun b o e => (e0.bs b o e).1
  obtain ⟨ta, t, hpa, hps, x, C, dx, fs, hx0, hxi, sm, rd⟩ := hbody A outer s H vs Q E (hr.deeper _) hsp
  refine ks_codeAny_call_defAt (fd := PySem.W.fnX name qual (defArgs st) (defBody st) (defScope st) [("__class__", cc)] dV kV doc pm an (.ref cda) ct) (body := defBody st) (binds := ps.zip us) hr.depth (KX _ _ lk) rfl lim (PySem.W.codeRec_of KX hcd) rfl hb S.nocell
    (fun y hy => S.par y.1 (List.of_mem_zip hy).1) (fun h₁ hns hk => ?_) S.co S.gen S.kind
  have I := NdefX.inv_startN (CX := CX0) (E := E) (F := nfS name qual st cda cc) (f := f) (tk := s.toks + (ps.zip us).length) S hr.hd e0 hl r (cells_S e0.mod.kin e0.bs hcell) hns hk
  have hr' : Room k (A.deeper (NdefX.envF (nfS name qual st cda cc) f s.heap.objs.size)) := hr.deeper _
  have fin : ∀ (fl : Flow) (s' : Shared), SP (NdefX.ncx CX0 P w K mg base N (nfS name qual st cda cc) f A outer s H E) [] { nx := fun _ H' => Q .non H', rt := Q } fl s' → CR CX0 outer P w H s Q E (.ok (.ret (match fl with | .ret v => v | _ => .none))) s' := fun fl s' hs => by
    have fin0 : ∀ {σ' : L2.St} {H' : Hp} {v : V} {u : Value}, Inv (NdefX.ncx CX0 P w K mg base N (nfS name qual st cda cc) f A outer s H E) [] σ' H' s' → RelV v u → Q v H' → CE outer P w H s Q u s' :=
      fun {σ' H' v u} J rv q => ⟨v, H', J.os, J.bare, J.base, J.hok, rv, q⟩
    cases fl with
    | ret u =>
      obtain ⟨v, σ', H', J, rv, q⟩ := hs
      exact fin0 J rv q
    | next =>
      obtain ⟨σ', H', J, q⟩ := hs
      exact fin0 (v := V.non) (u := Value.none) J rfl q
    | brk =>
      obtain ⟨_, _, _, q⟩ := hs
      exact False.elim q
    | cont =>
      obtain ⟨_, _, _, q⟩ := hs
      exact False.elim q
  obtain ⟨pl, hev'⟩ := hev (NdefX.ncx CX0 P w K mg base N (nfS name qual st cda cc) f A outer s H E).env
  have go : PySem.wpAt (model P w) (NdefX.ncx CX0 P w K mg base N (nfS name qual st cda cc) f A outer s H E).A (.func (defBody st) (NdefX.ncx CX0 P w K mg base N (nfS name qual st cda cc) f A outer s H E).env)
      (execs (defBody st) (NdefX.ncx CX0 P w K mg base N (nfS name qual st cda cc) f A outer s H E).env) (SP (NdefX.ncx CX0 P w K mg base N (nfS name qual st cda cc) f A outer s H E) [] { nx := fun _ H' => Q .non H', rt := Q }) (NdefX.ncx CX0 P w K mg base N (nfS name qual st cda cc) f A outer s H E).xe { s with heap := h₁, toks := s.toks + (ps.zip us).length } := by
    rw [hbd]
    refine ks_wpAt_execs_cons (ks_wpAt_Expr_any (ks_wpAt_MethodCall ?_ hev') (by show ((defScope st).kind == .module && _) = false; rw [S.kind]; rfl) (hsw _))
    obtain ⟨hdx, hz, ndx, hgx, mA, hnsx, rlx, _⟩ := (show ObjOk P w H h₁ x (.ins C dx fs) from I.hok x _ hxi)
    obtain ⟨odx, hodx, _⟩ := lookIn_ns hnsx
    have J : PySem.W.InstAt h₁ x (PySem.W.instObj C dx) C (some odx) := ⟨hgx, rfl, rfl, hodx⟩
    refine super_at SO lk hp (S.par _ (List.mem_of_getElem? h0)) S.kind hcell hD sm.sub hm1 I hN hx0 J fun so s1 I1 k1 => ?_
    have X1 := I1.kIn
    have hso := ClX.pin_at I1
    have J1 := J.at_
    cases hc : PySem.W.clsIn K C with
    | none =>
      have z := sm.at_
      unfold PySem.W.ks_superIn at z
      rw [hc] at z; cases z
    | some cd =>
      have z := sm.at_
      unfold PySem.W.ks_superIn at z
      rw [hc] at z
      obtain ⟨of, hof, hofc⟩ : ∃ of, s1.heap.get? f2 = some of ∧ of.cls = .type "function" := by
        have ht' : (K.lookup f2).map (·.cls) = some (.type "function") := sm.ty
        cases q : K.lookup f2 with
        | none => rw [q] at ht'; cases ht'
        | some of => rw [q] at ht'; exact ⟨of, X1 _ _ q, Option.some.inj ht'⟩
      obtain ⟨hp1, g1, d1, t1, os1⟩ := s1
      refine ks_wpAny_getMethod_super hso (PySem.W.looks_opaque X1 SO.any) (l₀ := cd.mro) ?_ rfl X1 z hof hofc (PySem.W.ks_ne I.kIn J hc) hm1 ?_
      · exact fun A Q E s k q => wpAny_bind ((PySem.W.looks_clsIn X1 hc) A _ E s k (wpAny_pure q))
      · have I2 := ClX.met_new (g := f2) (C := x) I1
        refine ClX.callwith_cm I2 (ClX.base_none I1 (Nat.le_refl _)) sm.fn ?_ (hst _) (hpl _)
        refine thn (hpa.run pos _ _ _ _ _ I2 rd) fun ws s3 ⟨vs2, H1, I3, r3, q3⟩ => ⟨⟨ClX.pin_at I3, I3.kIn⟩, ?_⟩
        have r4 : Vals (.ref x :: vs2) (.ref x :: ws) := .cons rfl r3
        have hl2 : (Value.ref x :: ws).length = ps2.length := by rw [← r4.length]; exact F2.len _ _ _ _ q3
        refine wpAny_call (PySem.W.method_call (ClX.pin_at I3) (codeAny_mono (F2.run _ _ s3 H1 ⟨.ref x :: ws, []⟩ (.ref x :: ws) (.ref x :: vs2) _ _ (hr'.mono hk2) I3.env0 (by
          have := b2 s3 (.ref x :: ws) I3.kIn (by rw [List.append_nil]; exact hl2)
          rw [List.append_nil] at this; exact this) r4 q3) fun r s' hq => ?_))
        cases r with
        | error e => exact (show False from hq).elim
        | ok fl =>
          cases fl with
          | ret u =>
            obtain ⟨v, H', J', _, q⟩ := ClX.unpinE (ClX.unpinE (I3.after hq))
            exact wpAt_of_wpAny (hps.run [] s' _ H' _ J' q)
          | next => exact False.elim hq
          | brk => exact False.elim hq
          | cont => exact False.elim hq
  exact ks_wpAt_mono go (fun fl s' hl => fin fl s' hl) fun _ _ y => y
end
end Vt
namespace Vt
open PySem PySem.Spec PyProof.Rows L2 L2H
/-- a def called while one exception is handled: as FnH, for that one alone -/
structure FnP (P : Program) (w : World) (K : PySem.W.Frag) (mg : Str → Option Value) (base : Heap) (k : Nat) (f : Addr) (fd : FuncData) (ps : List Str) (p : Addr × Obj) (sp : Sp) : Prop where
  len : ∀ (vs : List V) (H : Hp) (Q : VK) (E : XK), sp vs H Q E → vs.length = ps.length
  run : ∀ (A : Around) (outer : List Env) (s : Shared) (H : Hp) (args : Args) (us : List Value) (vs : List V) (Q : VK) (E : XK), RoomH k A → Hot1 A p → PinOk outer H s p → Env0 P w K mg base A outer s H → BindsTo s fd args (ps.zip us) → Vals vs us → sp vs H Q E →
    codeAny (model P w) A (Code.call (Value.ref f) args) (CR CX0 outer P w H s Q E) s
theorem fn_ofP {P : Program} {w : World} {K : PySem.W.Frag} {mg : Str → Option Value} {base : Heap} {k : Nat} {f : Addr} {name qual : Str} {params : Arguments} {body : List Stmt} {scope : PySem.Scope} {dV kV doc pm cdv ct oc : Value} {an od : Option Addr} {osl : Array (Option Value)} {N ps : List Str} {sp : Sp} {p : Addr × Obj}
    (lk : K.lookup f = some ⟨oc, od, .func (PySem.W.fnOf name qual params body scope dV kV doc pm an cdv ct), osl⟩) (hcd : PySem.W.codeIn K cdv qual = true) (S : FnScope N ps scope) (len : ∀ (vs : List V) (H : Hp) (Q : VK) (E : XK), sp vs H Q E → vs.length = ps.length)
    (hbody : ∀ (A : Around) (outer : List Env) (s : Shared) (H : Hp) (vs : List V) (Q : VK) (E : XK), Hot1 A p → RoomH k (A.deeper (envOfC qual scope s.heap.objs.size f cdv)) → sp vs H Q E →
      ∃ t, PSs (cxH CX0 P w K mg base N qual scope f cdv A outer s H E p) body t ∧ t { nx := fun _ H' => Q .non H', rt := Q } (L2.start N vs) H) :
    FnP P w K mg base (k + 1) f (PySem.W.fnOf name qual params body scope dV kV doc pm an cdv ct) ps p sp := by
  refine ⟨len, fun A outer s H args us vs Q E hr hot pk e0 hb r hsp => ?_⟩
  have hl := len _ _ _ _ hsp
  have KX : K.In s.heap := e0.mod.kin.keeps fun b o e => (e0.bs b o e).1
  have lim : s.heap.NoLimit := e0.mod.nolimit.keeps fun b o e => (e0.bs b o e).1
  obtain ⟨t, hps, ht⟩ := hbody A outer s H vs Q E hot (hr.deeper _) hsp
  refine Att.call_fn KX lim lk hcd hr.depth hb (List.all_eq_true.mpr fun y hy => ?_) (fun s1 inc => ?_) S.co S.gen S.kind
  · rcases S.par y.1 (List.of_mem_zip hy).1 with h | h <;> rw [h] <;> rfl
  · have I := inv_startH (CX := CX0) (E := E) S pk e0 hl r inc
    have fin0 : ∀ {σ' : L2.St} {H' : Hp} {v : V} {u : Value} {s' : Shared}, Inv (cxH CX0 P w K mg base N qual scope f cdv A outer s H E p) [] σ' H' s' → RelV v u → Q v H' → CE outer P w H s Q u s' :=
      fun {σ' H' v u s'} J rv q => ⟨v, H', J.os, J.bare, J.base, J.hok, rv, q⟩
    refine wpAny_mono (hps.run [] s1 _ H _ I ht) (fun fl s' hs => ?_) (fun e s' h => h)
    cases fl with
    | ret u =>
      obtain ⟨v, σ', H', J, rv, q⟩ := hs
      exact fin0 J rv q
    | next =>
      obtain ⟨σ', H', J, q⟩ := hs
      exact fin0 (v := V.non) (u := Value.none) J rfl q
    | brk =>
      obtain ⟨_, _, _, q⟩ := hs
      exact False.elim q
    | cont =>
      obtain ⟨_, _, _, q⟩ := hs
      exact False.elim q
theorem run_fnP {X : Cx} {k : Nat} {f : Addr} {fd : FuncData} {ps : List Str} {sp : Sp} {p : Addr × Obj} {pins : List (Addr × Obj)} {σ : L2.St} {H : Hp} {s : Shared} {Q : VK} {us : List Value} {vs : List V} (F : FnP X.prog X.w X.K X.mg X.base k f fd ps p sp) (hr : RoomH k X.A) (hot : Hot1 X.A p) (hp : p ∈ X.pn) (b : Binds X.K fd ps []) (I : Inv X pins σ H s) (rv : Vals vs us) (q : sp vs H Q E0) :
    wpAny (model X.prog X.w) X.A (call (.ref f) us) (EP X pins σ Q) X.xe s := by
  obtain ⟨g1, g2, g3, g4, g5⟩ := I.pin p (List.mem_append.mpr (.inl hp))
  have hl : us.length = ps.length := by rw [← rv.length]; exact F.len _ _ _ _ q
  refine wpAny_call (codeAny_mono (F.run X.A X.stack s H ⟨us, []⟩ us vs Q E0 hr hot ⟨g1, g2, ?_, g5⟩ I.env0 (by
    have := b s us I.kIn (by rw [List.append_nil]; exact hl)
    rw [List.append_nil] at this; exact this) rv q) fun r s' hq => ?_)
  · rcases I.ok.stk with e | ⟨e, ef⟩
    · rw [e]; exact g4
    · rw [e]
      intro m
      have m' : p.1 ∈ X.env.locals :: frs X.outer := by
        have z : frs (X.env :: X.outer) = X.env.locals :: frs X.outer := by
          show List.filterMap (fun x => x.frame) (X.env :: X.outer) = _
          rw [List.filterMap_cons, ef]; rfl
        rw [← z]; exact m
      rcases List.mem_cons.mp m' with h | h
      · exact g3 h
      · exact g4 h
  · cases r with
    | error e => exact (show False from hq).elim
    | ok fl =>
      cases fl with
      | ret u => exact I.after hq
      | next => exact False.elim hq
      | brk => exact False.elim hq
      | cont => exact False.elim hq
/-- f(e, ..), f such a def -/
theorem pe_callP {X : Cx} {k : Nat} {f : Addr} {fd : FuncData} {ps : List Str} {sp : Sp} {p : Addr × Obj} {x : Str} {q pos : Pos} {e : Expr} {es : List Expr} {t : TA} (F : FnP X.prog X.w X.K X.mg X.base k f fd ps p sp) (hr : RoomH k X.A) (hot : Hot1 X.A p) (hp : p ∈ X.pn) (hg : Gl X x) (hm : X.mg x = some (.ref f)) (hk : PySem.W.keepIn X.K (.ref f) = true) (b : Binds X.K fd ps []) (ha : L2.PA X (e :: es) t)
    (hd : (x == ("__debug__" : Str)) = false := by decide) (he : starEach (e :: es) X.env = (false, eval e X.env) :: starEach es X.env := by rfl) (hpl : (backTo pos (starEach es X.env)).any (·.1) = false := by rfl) :
    PE X (.Call (.Name x q) (e :: es) [] pos) (tCall sp [] E0 t) := by
  refine ⟨fun pins s σ H Q I h => wpAny_Call_NameR ?_⟩
  refine thn ((pe_glob (v := .ref f) (pos := q) hg hm rfl hd).run pins s σ H (fun v H' => v = .ref f ∧ H' = H) I ⟨rfl, rfl⟩) fun u s1 ⟨v, H1, I1, rv, ev, eH⟩ => ?_
  subst ev eH
  cases (show u = Value.ref f from rv)
  refine PySem.W.callWith_K I1.kIn hk (thn (ha.run pos pins s1 σ _ _ I1 h) fun ws s2 ⟨vs2, H2, I2, r2, q2⟩ => ⟨I2.kIn, ?_⟩) he hpl
  have q3 : sp vs2 H2 Q E0 := by
    have q4 : sp (vs2 ++ []) H2 Q E0 := q2
    rw [List.append_nil] at q4; exact q4
  exact run_fnP F hr hot hp b I2 r2 q3
end Vt
namespace Vt
open PySem PySem.Spec PyProof.Rows L2 L2H
/-- a def that runs while a is handled stands as in the suite of a -/
theorem ok_suite {Y : Cx} {a : Addr} (hA : Y.A.mark (some (.ref a)) = Y.A) (h : Y.Ok) : (Y.suite a Y.pn).Ok :=
  ⟨h.mod, h.kind, h.glob, h.blt, h.above, h.inj, h.has, h.cab, (fun z => by cases z), by show (Y.A.mark (some (.ref a))).frames = _; rw [hA]; exact h.frames, h.stk, h.exf, h.bs, h.bsz, h.noex, h.exfs, h.funs, h.frf⟩
theorem inv_suite {Y : Cx} {a : Addr} {pins : List (Addr × Obj)} {σ : L2.St} {H : Hp} {s : Shared} (hA : Y.A.mark (some (.ref a)) = Y.A) (I : Inv Y pins σ H s) : Inv (Y.suite a Y.pn) pins σ H s :=
  ⟨ok_suite hA I.ok, I.os, I.bare, I.base, I.loc, I.cell, I.free, I.freeC, I.pin, I.hok, I.len⟩
theorem suite_inv {Y : Cx} {a : Addr} {pins : List (Addr × Obj)} {σ : L2.St} {H : Hp} {s : Shared} (h : Y.Ok) (I : Inv (Y.suite a Y.pn) pins σ H s) : Inv Y pins σ H s :=
  ⟨h, I.os, I.bare, I.base, I.loc, I.cell, I.free, I.freeC, I.pin, I.hok, I.len⟩
theorem callr_suite {Y : Cx} {a : Addr} {v : Value} {r : List V → Hp → VK → Prop} (hA : Y.A.mark (some (.ref a)) = Y.A) (h : CallR (Y.suite a Y.pn) v r) : CallR Y v r := by
  intro pins s σ H xs us Q I rv hr
  have w := h pins s σ H xs us Q (inv_suite hA I) rv hr
  have w' : wpAny (model Y.prog Y.w) (Y.A.mark (some (.ref a))) (call v us) (EP (Y.suite a Y.pn) pins σ Q) (fun _ _ => False) s := w
  rw [hA] at w'
  exact wpAny_mono w' (fun u s' ⟨x, H', J, q1, q2⟩ => ⟨x, H', suite_inv I.ok J, q1, q2⟩) fun _ _ z => z.elim
/-- isinstance of the exception, in such a def -/
theorem call_isP {Y : Cx} {a D : Addr} {oe : Obj} (hA : Y.A.mark (some (.ref a)) = Y.A) (hpn : Y.pn = [(a, oe)]) (C : ExcC Y.K D) (hz : Zc (.ref D) none oe) (hf : ∃ vs, oe.data = .fields vs) : CallR Y (.builtin "isinstance") (rIsE Y.K D a) := by
  refine callr_suite hA ?_
  rw [hpn]
  exact call_isE C hz hf
theorem mark_same {A : Around} {v : Value} (h : A.handled = some v) : A.mark (some v) = A := by
  unfold Around.mark
  cases A
  simp only at h
  subst h
  rfl
theorem mark_hot {A : Around} {p : Addr × Obj} {env : Env} (h : Hot1 A p) : (A.deeper env).mark (some (.ref p.1)) = A.deeper env := mark_same h.1
end Vt
namespace Vt
open PySem PySem.Spec PyProof.Rows L2
/-! ### defs that may raise, their calls -/
structure CalleeN (P : Program) (w : World) (K : PySem.W.Frag) (mg : Str → Option Value) (base : Heap) (x : Str) (k : Nat) (n : Nat) (sp : Sp) : Prop where
  ex : ∃ (f : Addr) (fd : FuncData) (ps : List Str), FnOk P w K mg base (L2N.CX P w) k f fd ps sp ∧ mg x = some (.ref f) ∧ PySem.W.keepIn K (.ref f) = true ∧ Binds K fd ps []
theorem pe_calN {X : Cx} {W : WX} {x : Str} {k j n : Nat} {sp : Sp} {p pos : Pos} {e : Expr} {es : List Expr} {t : TA} (C : CalleeN X.prog X.w X.K X.mg X.base x k n sp) (hr : Room j X.A) (hk : k ≤ j) (tk : L2N.Takes X W) (ha : L2.PA X (e :: es) t) (hg : Gl X x := by rfl)
    (hdb : (x == ("__debug__" : Str)) = false := by decide) (he : starEach (e :: es) X.env = (false, eval e X.env) :: starEach es X.env := by rfl) (hpl : (backTo pos (starEach es X.env)).any (·.1) = false := by rfl) :
    PE X (.Call (.Name x p) (e :: es) [] pos) (tCallS sp (WE W) t) := by
  have ⟨f, fd, ps, F, hm, hkp, hb⟩ := C.ex
  exact pe_callS F (hr.mono hk) hg hm hkp hb (fun σ => L2N.passAt tk σ) ha hdb he hpl
theorem takesN0 {X : Cx} : L2N.Takes X (fun _ _ _ _ => False) := fun _ _ x => by
  obtain ⟨_, _, _, _, _, _, _, _, _, _, _, _, _, _, _, _, z⟩ := x
  exact z.elim
theorem okN {P : Program} {w : World} {K : PySem.W.Frag} {mg : Str → Option Value} {base : Heap} {x qual : Str} {st : Stmt} {f : Addr} {fd : FuncData} {N ps : List Str} {k : Nat} {sp : Sp} (F : Fun K x qual st f fd) (S : FnScope N ps (defScope st)) (len : ∀ (vs : List V) (H : Hp) (Q : VK) (E : XK), sp vs H Q E → vs.length = ps.length)
    (hbody : ∀ (cdv : Value) (A : Around) (outer : List Env) (s : Shared) (H : Hp) (vs : List V) (Q : VK) (E : XK), Room k (A.deeper (envOfC qual (defScope st) s.heap.objs.size f cdv)) → sp vs H Q E →
      ∃ t, PSs (cxOf (L2N.CX P w) P w K mg base N qual (defScope st) f cdv A outer s H E) (defBody st) t ∧ t { nx := fun _ H' => Q .non H', rt := Q } (L2.start N vs) H) : FnOk P w K mg base (L2N.CX P w) (k + 1) f fd ps sp := by
  obtain ⟨oc, od, kV, doc, pm, an, cdv, ct, osl, rfl, lk, hcd⟩ := F.ex
  exact fn_of lk hcd S len fun A outer s H vs Q E hr hsp => hbody cdv A outer s H vs Q E hr hsp
/-! ### a def that is called while an exception is handled, of what it knows of that one -/
structure CalleeP (P : Program) (w : World) (K : PySem.W.Frag) (mg : Str → Option Value) (base : Heap) (x : Str) (k : Nat) (sp : Value → Option Addr → Addr → Sp) : Prop where
  ex : ∃ (f : Addr) (fd : FuncData) (ps : List Str), mg x = some (.ref f) ∧ PySem.W.keepIn K (.ref f) = true ∧ Binds K fd ps [] ∧
    ∀ (p : Addr × Obj) (cls : Value) (d : Option Addr), L2N.Zn cls d p.2 → (∃ vs, p.2.data = .fields vs) → FnP P w K mg base k f fd ps p (sp cls d p.1)
theorem pe_calP {X : Cx} {sp : Value → Option Addr → Addr → Sp} {a : Addr} {oe : Obj} {cls : Value} {d : Option Addr} {x : Str} {k j : Nat} {p pos : Pos} {e : Expr} {es : List Expr} {t : TA} (C : CalleeP X.prog X.w X.K X.mg X.base x k sp)
    (hr : L2H.RoomH j X.A) (hk : k ≤ j) (hh : X.A.handled = some (.ref a)) (hp : (a, oe) ∈ X.pn) (hz : L2N.Zn cls d oe) (hf : ∃ vs, oe.data = .fields vs) (ha : L2.PA X (e :: es) t) (hg : Gl X x := by rfl)
    (hdb : (x == ("__debug__" : Str)) = false := by decide) (he : starEach (e :: es) X.env = (false, eval e X.env) :: starEach es X.env := by rfl) (hpl : (backTo pos (starEach es X.env)).any (·.1) = false := by rfl) :
    PE X (.Call (.Name x p) (e :: es) [] pos) (tCall (sp cls d a) [] E0 t) := by
  have ⟨f, fd, ps, hm, hkp, hb, F⟩ := C.ex
  obtain ⟨vs, hv⟩ := hf
  exact pe_callP (F (a, oe) cls d hz ⟨vs, hv⟩) (hr.mono hk) ⟨hh, vs, hv, hz.2.2 vs hv⟩ hp hg hm hkp hb ha hdb he hpl
/-! ### how often a flat value stands in a list -/
def rCntF (K : PySem.W.Frag) : V → List V → Hp → VK → Prop := fun x xs H Q => ∃ (p : Addr) (ys : List V) (y : V), x = .ref p ∧ xs = [y] ∧ SqL K H p ys ∧ flatV y = true ∧ ys.all flatV = true ∧ Q (.int (ys.countP (fun z => eqV z y) : Nat)) H
theorem count_eqU {y : V} : ∀ {ys : List V} {us : List Value}, Vals ys us → ys.all flatV = true → us.countP (eqU y) = ys.countP (fun z => eqV z y)
  | _, _, .nil, _ => rfl
  | z :: ys, u :: us, .cons r t, f => by
    rw [List.all_cons, Bool.and_eq_true] at f
    rw [List.countP_cons, List.countP_cons, count_eqU t f.2, eqU_of r f.1]
theorem mt_countF {X : Cx} : MtR X "list.count" (rCntF X.K) := by
  intro pins s σ H x xs v us Q I rx rxs h
  obtain ⟨p, ys, y, rfl, rfl, hs, fy, fys, q⟩ := h
  cases rx
  obtain ⟨uy, rfl, ry⟩ := rxs.one
  obtain ⟨its, rv, ⟨⟨cls, dd, data, sl⟩, n, ho, hc, hdn, hd⟩, hlen⟩ := I.list hs
  simp only at hc hd
  subst hc hd
  refine call_meets PySem.F.slot_list_count ⟨_, ho, rfl⟩ PySem.F.entry_list_count (PySem.F.args_list_count_2 _ _)
    (SeqAt.list_countAt p its.toArray n dd sl uy (eqU y)) ⟨ho, fun u' hu' => mem_eqAt ry fy rv fys u' (by simpa using hu'), ?_⟩
  have ec : its.toArray.toList.countP (eqU y) = ys.countP (fun z => eqV z y) := count_eqU rv fys
  refine ⟨.int (ys.countP (fun z => eqV z y) : Nat), H, I.tok _, ⟨s.toks, ?_⟩, q⟩
  show Value.int ((its.toArray.toList.countP (eqU y) : Nat) : Int) s.toks = Value.int ((ys.countP (fun z => eqV z y) : Nat) : Int) s.toks
  rw [ec]
end Vt
namespace Vt
open PySem PySem.Spec PyProof.Rows L2
/-! ### the defs as they stand behind the top -/
def Found (K : PySem.W.Frag) (x : Str) (st : Stmt) (f : Addr) : Prop := ∃ (oc : Value) (od : Option Addr) (kV doc pm : Value) (an : Option Addr) (cdv ct : Value) (osl : Array (Option Value)),
  PySem.W.nsIn K mainGlobals x = some (some (.ref f)) ∧ K.lookup f = some ⟨oc, od, .func (PySem.W.fnOf x x (defArgs st) (defBody st) (defScope st) .none kV doc pm an cdv ct), osl⟩ ∧ PySem.W.codeIn K cdv x = true ∧ PySem.W.keepIn K (.ref f) = true
theorem found_mk {K : PySem.W.Frag} {x : Str} {st : Stmt} {f : Addr} {oc : Value} {od an : Option Addr} {kV doc pm cdv ct : Value} {osl : Array (Option Value)} (a : PySem.W.nsIn K mainGlobals x = some (some (.ref f)))
    (l : K.lookup f = some ⟨oc, od, .func (PySem.W.fnOf x x (defArgs st) (defBody st) (defScope st) .none kV doc pm an cdv ct), osl⟩) (c : PySem.W.codeIn K cdv x = true) (k : PySem.W.keepIn K (.ref f) = true) : ∃ f, Found K x st f :=
  ⟨f, oc, od, kV, doc, pm, an, cdv, ct, osl, a, l, c, k⟩
theorem callee_mk {P : Program} {w : World} {K : PySem.W.Frag} {mg : Str → Option Value} {base h : Heap} {x : Str} {st : Stmt} {k n : Nat} {sp : Sp} {ps : List Str} (X : K.In h) (G : h.Ns mainGlobals mg) (hf : ∃ f, Found K x st f)
    (ok : ∀ (f : Addr) (fd : FuncData), Fun K x x st f fd → FnOk P w K mg base CX0 k f fd ps sp)
    (hb : ∀ (kV doc pm : Value) (an : Option Addr) (cdv ct : Value) (us : List Value), us.length = ps.length → bindArgs (PySem.W.fnOf x x (defArgs st) (defBody st) (defScope st) .none kV doc pm an cdv ct) ⟨us, []⟩ = pure (ps.zip us)) : Callee P w K mg base x k n sp := by
  obtain ⟨f, oc, od, kV, doc, pm, an, cdv, ct, osl, a, l, c, kp⟩ := hf
  have F := fun_mk (st := st) l c kp
  exact ⟨f, _, ps, ok f _ F, PySem.W.mg_of X G a, kp, F.binds hb⟩
/-- a tuple of the written part, as it stands -/
theorem ktup_mk {K : PySem.W.Frag} {a : Addr} {xs : List V} {od : Option Addr} {its : Array Value} {n : Nat} {sl : Array (Option Value)} (l : K.lookup a = some ⟨.type "tuple", od, .seq its n, sl⟩) (hz : its.size ≤ sizeLine) (hv : Vals xs its.toList) : KTup K a xs :=
  ⟨_, its, n, l, rfl, rfl, hz, hv⟩
theorem kinds_mk {K : PySem.W.Frag} {w : World} {mg : Str → Option Value} {dd k1 k2 k3 k4 k5 k6 k7 : Addr} {es : Array DictEntry} {n : Nat} (m : mg "DEEDS" = some (.ref dd)) (low : (dd == sysModules) = false) (l : K.lookup dd = some ⟨.type "dict", none, .dict es n, #[]⟩) (kl : PySem.W.KeysLit w.params es.toList)
    (a1 : PySem.W.nsIn K dd "set" = some (some (.ref k1))) (a2 : PySem.W.nsIn K dd "add" = some (some (.ref k2))) (a3 : PySem.W.nsIn K dd "say" = some (some (.ref k3))) (a4 : PySem.W.nsIn K dd "start" = some (some (.ref k4)))
    (a5 : PySem.W.nsIn K dd "wait" = some (some (.ref k5))) (a6 : PySem.W.nsIn K dd "clean" = some (some (.ref k6))) (a7 : PySem.W.nsIn K dd "drop" = some (some (.ref k7)))
    (t1 : KTup K k1 [.str "cell", .str "number"]) (t2 : KTup K k2 [.str "cell", .str "cell"]) (t3 : KTup K k3 [.str "cell"]) (t4 : KTup K k4 [.str "order"]) (t5 : KTup K k5 []) (t6 : KTup K k6 [.str "line"]) (t7 : KTup K k7 [.str "line"]) : Kinds K w mg dd := by
  refine ⟨m, low, ⟨es, n, l, kl⟩, fun z ks h => ?_⟩
  have kd : ∀ (x : Str) (k : Addr), PySem.W.nsIn K dd x = some (some (.ref k)) → KDct K w dd x (.ref k) := fun x k e => ⟨es, n, _, l, kl, e, rfl⟩
  unfold kindsOf at h
  split at h
  · rename_i e; subst e; cases h; exact ⟨k1, kd _ _ a1, t1⟩
  split at h
  · rename_i e; subst e; cases h; exact ⟨k2, kd _ _ a2, t2⟩
  split at h
  · rename_i e; subst e; cases h; exact ⟨k3, kd _ _ a3, t3⟩
  split at h
  · rename_i e; subst e; cases h; exact ⟨k4, kd _ _ a4, t4⟩
  split at h
  · rename_i e; subst e; cases h; exact ⟨k5, kd _ _ a5, t5⟩
  split at h
  · rename_i e; subst e; cases h; exact ⟨k6, kd _ _ a6, t6⟩
  split at h
  · rename_i e; subst e; cases h; exact ⟨k7, kd _ _ a7, t7⟩
  cases h
end Vt
namespace Vt
open PySem PySem.Spec PyProof.Rows L2
/-- a def of a class, of a text that says super(): as it stands -/
def FoundS (K : PySem.W.Frag) (C D : Addr) (x q : Str) (st : Stmt) (f cda cc : Addr) : Prop := ∃ (oc : Value) (od : Option Addr) (kV doc pm : Value) (an : Option Addr) (ct : Value) (osl : Array (Option Value)) (cl : Value) (cld : Option Addr) (csl : Array (Option Value)) (cdD : ClassData),
  PySem.W.findIn K (.ref C) x = some (some (.ref f)) ∧ K.lookup f = some ⟨oc, od, .func (PySem.W.fnX x q (defArgs st) (defBody st) (defScope st) [("__class__", cc)] .none kV doc pm an (.ref cda) ct), osl⟩ ∧ PySem.W.codeIn K (.ref cda) q = true ∧ PySem.W.isFn K (.ref f) = true ∧ K.lookup cc = some ⟨cl, cld, .cell (some (.ref D)), csl⟩ ∧ PySem.W.clsIn K D = some cdD
/-- the code record of the def, with its file -/
def CodeAt (P : Program) (K : PySem.W.Frag) (cda : Addr) : Prop := ∃ ccl cdd vs ccs file tf, K.lookup cda = some ⟨ccl, cdd, .fields vs, ccs⟩ ∧ vs[2]? = some (.str file tf) ∧ ((P.main.file : Str) == file) = true
theorem founds_mk {P : Program} {K : PySem.W.Frag} {C D : Addr} {x q : Str} {st : Stmt} {f cda cc : Addr} {oc : Value} {od an : Option Addr} {kV doc pm ct : Value} {osl : Array (Option Value)} {cl : Value} {cld : Option Addr} {csl : Array (Option Value)} {cdD : ClassData}
    {ccl : Value} {cdd : Option Addr} {vs : Array Value} {ccs : Array (Option Value)} {file : Str} {tf : Tok}
    (a : PySem.W.findIn K (.ref C) x = some (some (.ref f))) (l : K.lookup f = some ⟨oc, od, .func (PySem.W.fnX x q (defArgs st) (defBody st) (defScope st) [("__class__", cc)] .none kV doc pm an (.ref cda) ct), osl⟩) (c : PySem.W.codeIn K (.ref cda) q = true) (i : PySem.W.isFn K (.ref f) = true)
    (l2 : K.lookup cc = some ⟨cl, cld, .cell (some (.ref D)), csl⟩) (d : PySem.W.clsIn K D = some cdD) (l3 : K.lookup cda = some ⟨ccl, cdd, .fields vs, ccs⟩) (v2 : vs[2]? = some (.str file tf)) (fe : ((P.main.file : Str) == file) = true) : ∃ f cda cc, FoundS K C D x q st f cda cc ∧ CodeAt P K cda :=
  ⟨f, cda, cc, ⟨oc, od, kV, doc, pm, an, ct, osl, cl, cld, csl, cdD, a, l, c, i, l2, d⟩, ⟨ccl, cdd, vs, ccs, file, tf, l3, v2, fe⟩⟩
end Vt
namespace Vt
open PySem PySem.Spec PyProof.Rows L2
/-! ### an own exception whose __init__ says super().__init__(x) first -/
section
variable {prog : Program} {w : World} {A : Around} {h : Heap} {g : Array GenState} {d : Drawn} {t : Nat} {os : OsState} {E : Value → Shared → Prop}
theorem call_mwV {nm q : Str} {C N u e t0 : Addr} {bs bm : List Value} {hdct : Bool} {sn : List Str} {sub : List Value} {ab : Bool} {col : Option Bool} {dd : Option Addr} {k0 k1 k2 k3 k5 : Option Value} {rest : List Value} {Q : Value → Shared → Prop}
    (hC : h.get? C = some (excClassObj nm q C N bs bm hdct sn sub ab col dd k0 k1 k2 k3 k5 "ValueError.__new__")) (he : h.get? e = some (PySem.HandSPX.excO C t0)) (hu : h.get? u = some (PySem.W.kxs_mw "ValueError.__init__" e)) (hrest : rest.length ≤ sizeLine)
    (hq : ∀ h' t1, (∀ b o, b ≠ e → h.get? b = some o → h'.get? b = some o) → h'.get? e = some (PySem.HandSPX.excO C t1) → Q .none ⟨h', g, d, t, os⟩) :
    wpAny (model prog w) A (call (.ref u) rest) Q E ⟨h, g, d, t, os⟩ := by
  refine wpAny_call (codeAny_of_tree ?_)
  show wpAny _ A.in1 (callAny (.ref u) ⟨rest, []⟩) _ _ _
  simp only [callAny]
  refine wpAny_bind (wpAny_load hu ?_)
  simp only [PySem.W.kxs_mw, show (Value.type "method-wrapper" == Value.type "method" || Value.type "method-wrapper" == Value.type "builtin_function_or_method" || Value.type "method-wrapper" == Value.type "method-wrapper") = true by decide, if_true]
  refine PySem.W.KFB.if_so (by decide) ?_
  refine wpAny_bind (PySem.W.check_bound_init F.excBase_ValueError.toExcCallFacts hC he rfl ?_)
  refine wpAny_bind (wpAny_pure (wpAny_pure ?_))
  refine ⟨plainId_quiet F.excBase_ValueError.init.plain _, codeAny_builtin F.excBase_ValueError.initEntry ?_⟩
  rw [Around.under_plainId F.excBase_ValueError.init.plain _]
  refine PySem.W.exc_init_tree (cls := .ref C) (t0 := t0) (dv := none) (c2 := .none) (c3 := .none) (b4 := .bool false) he hrest fun h' k e' t' => ?_
  exact hq h' _ k e'
end
/-- the class behind is a built-in one: its __init__ -/
structure SupX (K : PySem.W.Frag) (C D : Addr) : Prop where
  sub : PySem.W.mroIn K C (.ref D) = some true
  at_ : PySem.W.ks_superIn K C D "__init__" = some (some (.builtin "ValueError.__init__"))
  ve : PySem.W.subIn K (.ref C) (.type "ValueError") = some true
section
variable {CX : CXT} {P : Program} {w : World} {K : PySem.W.Frag} {mg : Str → Option Value} {base : Heap} {N ps : List Str} {f cda cc D C x : Addr} {name qual : Str} {st : Stmt} {A : Around} {outer : List Env} {s0 s : Shared} {H0 H : Hp} {E : XK} {pins : List (Addr × Obj)} {σ : L2.St}
  {cl oc : Value} {cld od : Option Addr} {csl osl : Array (Option Value)} {fd : FuncData} {ar : Arg} {cdD : ClassData} {ox : Obj} {odx : Option Obj}
/-- a def of an own exception whose first statement is super().__init__(..) -/
theorem fnS_exc {k : Nat} {sp : Sp} {dV kV doc pm ct : Value} {an : Option Addr} {p0 p1 apos pos epos : Pos} {e : Expr} {es : List Expr} {rest : List Stmt}
    (lk : K.lookup f = some ⟨oc, od, .func (PySem.W.fnX name qual (defArgs st) (defBody st) (defScope st) [("__class__", cc)] dV kV doc pm an (.ref cda) ct), osl⟩) (hcd : PySem.W.codeIn K (.ref cda) qual = true) (hbd : defBody st = .Expr (.Call (.Attribute (.Call (.Name "super" p0) [] [] p1) "__init__" apos) (e :: es) [] pos) epos :: rest)
    (S : NdefX.NScope N ps ["__class__"] (defScope st)) (SO : SupOk P K mg (defScope st) cda) (hp : ((defArgs st).posonlyargs ++ (defArgs st).args).head? = some ar) (hN : N[0]? = some ar.arg) (h0 : ps[0]? = some ar.arg)
    (hcell : K.lookup cc = some ⟨cl, cld, .cell (some (.ref D)), csl⟩) (hD : PySem.W.clsIn K D = some cdD)
    (len : ∀ vs H Q E, sp vs H Q E → vs.length = ps.length)
    (hst : ∀ env, starEach (e :: es) env = (false, eval e env) :: starEach es env) (hpl : ∀ env, (backTo pos (starEach es env)).any (·.1) = false)
    (hev : ∀ env, ∃ pl : Sem Bool, eval (.Call (.Attribute (.Call (.Name "super" p0) [] [] p1) "__init__" apos) (e :: es) [] pos) env = (do
      let ov ← attributeBase (.Call (.Name "super" p0) [] [] p1) "__init__" env (eval (.Call (.Name "super" p0) [] [] p1) env)
      standAt apos.atName
      let (f, first) ← holding [ov] (getMethod ov "__init__" pl)
      callWith pos f first (backTo pos (starEach (e :: es) env)) []))
    (hsw : ∀ env, swapsWith (.Call (.Attribute (.Call (.Name "super" p0) [] [] p1) "__init__" apos) (e :: es) [] pos) none epos.line env = pure false)
    (hbody : ∀ (A : Around) (outer : List Env) (s : Shared) (H : Hp) (vs : List V) (Q : VK) (E : XK), Room k (A.deeper (NdefX.envF (nfS name qual st cda cc) f s.heap.objs.size)) → sp vs H Q E →
      ∃ (ta : TA) (t : TS), L2.PA (NdefX.ncx CX0 P w K mg base N (nfS name qual st cda cc) f A outer s H E) (e :: es) ta ∧ PSs (NdefX.ncx CX0 P w K mg base N (nfS name qual st cda cc) f A outer s H E) rest t ∧
        ∃ (x C : Addr), (startS N vs)[0]? = some (some (.ref x)) ∧ H x = some (exo x C none) ∧ OexC K C ∧ SupX K C D ∧
          ta (startS N vs) H fun ws H1 => ws.length ≤ 1000 ∧ H1 x = some (exo x C none) ∧ t { nx := fun _ H' => Q .non H', rt := Q } (startS N vs) H1) :
    FnOk P w K mg base CX0 (k + 1) f (PySem.W.fnX name qual (defArgs st) (defBody st) (defScope st) [("__class__", cc)] dV kV doc pm an (.ref cda) ct) ps sp := by
  refine ⟨len, fun A outer s H args us vs Q E hr e0 hb r hsp => ?_⟩
  have hl := len _ _ _ _ hsp
  have KX : K.In s.heap := e0.mod.kin.keeps fun b o e => (e0.bs b o e).1
  have lim : s.heap.NoLimit := e0.mod.nolimit.keeps fun b o e => (e0.bs b o e).1
  obtain ⟨ta, t, hpa, hps, x, C, hx0, hxi, hO, sm, rd⟩ := hbody A outer s H vs Q E (hr.deeper _) hsp
  refine ks_codeAny_call_defAt (fd := PySem.W.fnX name qual (defArgs st) (defBody st) (defScope st) [("__class__", cc)] dV kV doc pm an (.ref cda) ct) (body := defBody st) (binds := ps.zip us) hr.depth (KX _ _ lk) rfl lim (PySem.W.codeRec_of KX hcd) rfl hb S.nocell
    (fun y hy => S.par y.1 (List.of_mem_zip hy).1) (fun h₁ hns hk => ?_) S.co S.gen S.kind
  have I := NdefX.inv_startN (CX := CX0) (E := E) (F := nfS name qual st cda cc) (f := f) (tk := s.toks + (ps.zip us).length) S hr.hd e0 hl r (cells_S e0.mod.kin e0.bs hcell) hns hk
  have hr' : Room k (A.deeper (NdefX.envF (nfS name qual st cda cc) f s.heap.objs.size)) := hr.deeper _
  have fin : ∀ (fl : Flow) (s' : Shared), SP (NdefX.ncx CX0 P w K mg base N (nfS name qual st cda cc) f A outer s H E) [] { nx := fun _ H' => Q .non H', rt := Q } fl s' → CR CX0 outer P w H s Q E (.ok (.ret (match fl with | .ret v => v | _ => .none))) s' := fun fl s' hs => by
    have fin0 : ∀ {σ' : L2.St} {H' : Hp} {v : V} {u : Value}, Inv (NdefX.ncx CX0 P w K mg base N (nfS name qual st cda cc) f A outer s H E) [] σ' H' s' → RelV v u → Q v H' → CE outer P w H s Q u s' :=
      fun {σ' H' v u} J rv q => ⟨v, H', J.os, J.bare, J.base, J.hok, rv, q⟩
    cases fl with
    | ret u =>
      obtain ⟨v, σ', H', J, rv, q⟩ := hs
      exact fin0 J rv q
    | next =>
      obtain ⟨σ', H', J, q⟩ := hs
      exact fin0 (v := V.non) (u := Value.none) J rfl q
    | brk =>
      obtain ⟨_, _, _, q⟩ := hs
      exact False.elim q
    | cont =>
      obtain ⟨_, _, _, q⟩ := hs
      exact False.elim q
  obtain ⟨pl, hev'⟩ := hev (NdefX.ncx CX0 P w K mg base N (nfS name qual st cda cc) f A outer s H E).env
  have go : PySem.wpAt (model P w) (NdefX.ncx CX0 P w K mg base N (nfS name qual st cda cc) f A outer s H E).A (.func (defBody st) (NdefX.ncx CX0 P w K mg base N (nfS name qual st cda cc) f A outer s H E).env)
      (execs (defBody st) (NdefX.ncx CX0 P w K mg base N (nfS name qual st cda cc) f A outer s H E).env) (SP (NdefX.ncx CX0 P w K mg base N (nfS name qual st cda cc) f A outer s H E) [] { nx := fun _ H' => Q .non H', rt := Q }) (NdefX.ncx CX0 P w K mg base N (nfS name qual st cda cc) f A outer s H E).xe { s with heap := h₁, toks := s.toks + (ps.zip us).length } := by
    rw [hbd]
    refine ks_wpAt_execs_cons (ks_wpAt_Expr_any (ks_wpAt_MethodCall ?_ hev') (by show ((defScope st).kind == .module && _) = false; rw [S.kind]; rfl) (hsw _))
    obtain ⟨t1, hgx⟩ := exo_at I.hok hxi
    have J : PySem.W.InstAt h₁ x (PySem.HandSPX.excO C t1) C none := ⟨hgx, rfl, rfl, trivial⟩
    refine super_at SO lk hp (S.par _ (List.mem_of_getElem? h0)) S.kind hcell hD sm.sub (by decide) I hN hx0 J fun so s1 I1 k1 => ?_
    have X1 := I1.kIn
    have hso := ClX.pin_at I1
    cases hc : PySem.W.clsIn K C with
    | none =>
      have z := sm.at_
      unfold PySem.W.ks_superIn at z
      rw [hc] at z; cases z
    | some cd =>
      have z := sm.at_
      unfold PySem.W.ks_superIn at z
      rw [hc] at z
      obtain ⟨t2, hgx1⟩ := exo_at I1.hok hxi
      have J1 : PySem.W.InstAt s1.heap x (PySem.HandSPX.excO C t2) C none := ⟨hgx1, rfl, rfl, trivial⟩
      have hI : PySem.W.Looks (model P w) s1.heap (isInstance (.ref x) (.type "ValueError")) true := J1.type.andThen (PySem.W.looks_subIn X1 sm.ve)
      obtain ⟨hp1, g1, d1, t1', os1⟩ := s1
      refine PySem.W.kxs_getMethod PySem.W.kxs_ValueError hso (PySem.W.looks_opaque X1 SO.any) (l₀ := cd.mro) ?_ rfl X1 z hI (PySem.W.ks_ne I.kIn J hc) (by decide) ?_
      · exact fun A Q E s k q => wpAny_bind ((PySem.W.looks_clsIn X1 hc) A _ E s k (wpAny_pure q))
      · have I2 := ClX.pin_new (o := PySem.W.kxs_mw "ValueError.__init__" x) (t' := t1' + 1) I1 (fun b u z => Heap.get?_push_of_some _ z) (Nat.le_refl _) (Heap.get?_push_size hp1 rfl) (fun v z => nomatch z)
        have he := hst (NdefX.ncx CX0 P w K mg base N (nfS name qual st cda cc) f A outer s H E).env
        have hpl' := hpl (NdefX.ncx CX0 P w K mg base N (nfS name qual st cda cc) f A outer s H E).env
        rw [he]
        refine PySem.W.kxs_callWith (i := "ValueError.__init__") (x := x) (by show (false || (backTo pos (starEach es _)).any (·.1)) = false; rw [hpl']; rfl) (PySem.Calls.evalArgs_plain ?_)
        have w1 := hpa.run pos _ _ _ _ _ I2 rd
        rw [he] at w1
        refine thn w1 fun ws s3 ⟨vs2, H1, I3, r3, hlen, hx1, ht⟩ => ⟨ClX.pin_at I3, ?_⟩
        obtain ⟨nm, q, Nn, bs, bm, sn, sub, ab, col, dd, k0, k1', k2, k3, k5, hC, hbm⟩ := hO.cls
        obtain ⟨t3, hgx3⟩ := exo_at I3.hok hx1
        have hmw := ClX.pin_at I3
        have hus : ws.length ≤ sizeLine := by
          rw [← Paired.length r3, sizeLine_eq]
          omega
        obtain ⟨hp3, g3, d3, tk3, os3⟩ := s3
        refine call_mwV (I3.kIn _ _ hC) hgx3 hmw hus fun h' t4 k hx' => ?_
        have J3 := I3.write (t' := tk3) (x := x) (e := x) (o := exo x C none) (by rw [hx1]; exact True.intro) (.inl rfl) k ⟨_, hx'⟩ (exo_ok hx')
        have eu : upd H1 x (exo x C none) = H1 := by
          funext b
          by_cases hb : b = x
          · rw [hb, upd_same, hx1]
          · rw [upd_ne hb]
        rw [eu] at J3
        exact wpAt_of_wpAny (hps.run [] _ _ H1 _ (ClX.unpin (ClX.unpin J3)) ht)
  exact ks_wpAt_mono go (fun fl s' hl => fin fl s' hl) fun _ _ y => y
end
end Vt
namespace Vt
open PySem PySem.Spec PyProof.Rows L2
/-! ### raising an own exception with fields -/
section
variable {X : Cx} {e : Expr} {es : List Expr} {ta : TA} {p pos : Pos}
theorem mk_endN {pins : List (Addr × Obj)} {σ : L2.St} {H1 H2 : Hp} {Q : XK} {hp hp2 h2 : Heap} {g1 g2 : Array GenState} {d1 d2 : Drawn} {t1 t2 : Nat} {os1 os2 : OsState} {a C d : Addr} {fs : List (Str × V)} (T : Raises X (.ref C)) (I1 : Inv X pins σ H1 ⟨hp, g1, d1, t1, os1⟩)
    (ha : hp.objs.size ≤ a) (k : ∀ b o, hp.get? b = some o → hp2.get? b = some o) (un : Un (frs X.stack) [] (upd H1 a (exo a C none)) H2 hp2 h2) (hok : HOk X.prog X.w H2 h2) (ho : os2 = os1) (hb : AllBare g2)
    (ea : H2 a = some (exo a C (some d))) (ed : H2 d = some (exd d fs)) (hd1 : H1 d = none) (q : Q (.ref C) (some d) (upd (L2.del H2 a) d (.xd fs))) : L2N.MkP X pins σ Q (.ref a) ⟨h2, g2, d2, t2, os2⟩ := by
  obtain ⟨t0, G, J, kG, ge, hoe, na⟩ := mk_end0 (d2 := d2) (t2 := t2) I1 ha k un hok ho hb ea ed hd1
  exact ⟨a, _, _, ⟨G, g2, d2, t2, os2⟩, _, .ref C, some d, rfl, J, kG, ge, hoe, ⟨rfl, rfl, fun vs e => by cases e; rfl⟩, rfl, rfl, na, rfl, hb, T, q⟩
theorem pmk_oexN {x : Str} {C fI : Addr} {k : Nat} {fd : FuncData} {ps : List Str} {sp : Sp} {ds : List Value} {dvs : List V} (T : OexC X.K C) (iC : PySem.W.findIn X.K (.ref C) "__init__" = some (some (.ref fI))) (tI : PySem.W.typeIn X.K (.ref fI) = some (.type "function"))
    (F1 : FnOk X.prog X.w X.K X.mg X.base CX0 k fI fd ps sp) (hr : Room (k + 1) X.A) (hb : Binds X.K fd ps ds) (hd : Vals dvs ds) (hg : Gl X x) (hm : X.mg x = some (.ref C)) (ha : L2.PA X (e :: es) ta)
    (hdb : (x == ("__debug__" : Str)) = false := by decide) (he : starEach (e :: es) X.env = (false, eval e X.env) :: starEach es X.env := by rfl) (hpl : (backTo pos (starEach es X.env)).any (·.1) = false := by rfl) :
    L2N.PMk X (.Call (.Name x p) (e :: es) [] pos) (tMkO C sp dvs ta) := by
  intro pins s σ H Q I h
  obtain ⟨nm, q, N, bs, bm, sn, sub, ab, col, dd, k0, k1, k2, k3, k5, hC, hbm⟩ := T.cls
  refine wpAny_Call_Name_kw (ld_glob I hg hm ?_ hdb)
  refine PySem.W.callWith_K (h₀ := X.base) I.ok.mod.kin T.kC (thn (ha.run pos pins s σ H _ I h) fun us s1 ⟨vs, H1, I1, r1, hz, q1⟩ => ⟨I1.kIn, ?_⟩) he hpl
  show wpAny _ _ (call (.ref C) us) _ _ _
  obtain ⟨hp, g, dr, tk, os⟩ := s1
  have hsz : hp.objs.size ≤ hp.objs.size + 1 := Nat.le_succ _
  have hn : H1 (hp.objs.size + 1) = none := I1.hok.fresh hsz
  have hq := q1 (hp.objs.size + 1) hn
  have kk : ∀ b o, hp.get? b = some o → ((hp.push (PySem.W.kdv_tup us)).push (PySem.HandSPX.excO C hp.objs.size)).get? b = some o := fun b o e => Heap.get?_push_of_some _ (Heap.get?_push_of_some _ e)
  have hget : ((hp.push (PySem.W.kdv_tup us)).push (PySem.HandSPX.excO C hp.objs.size)).get? (hp.objs.size + 1) = some (PySem.HandSPX.excO C hp.objs.size) := by heap_get
  have I2 : Inv X pins σ (upd H1 (hp.objs.size + 1) (exo (hp.objs.size + 1) C none)) ⟨(hp.push (PySem.W.kdv_tup us)).push (PySem.HandSPX.excO C hp.objs.size), g, dr, tk, os⟩ :=
    I1.laid (t' := tk) (a := hp.objs.size + 1) (o := exo (hp.objs.size + 1) C none) (h' := (hp.push (PySem.W.kdv_tup us)).push (PySem.HandSPX.excO C hp.objs.size)) kk hsz (exo_ok hget)
  have r2 : Vals (V.ref (hp.objs.size + 1) :: (vs ++ dvs)) (Value.ref (hp.objs.size + 1) :: (us ++ ds)) := .cons rfl (r1.append hd)
  have hl : (Value.ref (hp.objs.size + 1) :: us ++ ds).length = ps.length := by
    have e := r2.length
    rw [F1.len _ _ _ _ hq] at e
    exact e.symm
  have hus : us.length ≤ sizeLine := by
    rw [← Paired.length r1, sizeLine_eq]
    omega
  refine wpAny_call (PySem.HandSPX.call_own F.excBase_ValueError (fun Y => PySem.HandSPX.refsVE_contains Y bm hbm) (I1.kIn _ _ hC) (PySem.W.looks_findIn I1.kIn iC) (fun self => PySem.W.bind_fn I1.kIn self tI) hus
    (codeAny_mono (F1.run _ X.stack _ _ ⟨Value.ref (hp.objs.size + 1) :: us, []⟩ (Value.ref (hp.objs.size + 1) :: (us ++ ds)) _ _ (fun _ _ _ => False) (hr.make C us []) (I2.env0.make C us []) (hb _ (Value.ref (hp.objs.size + 1) :: us) I2.kIn hl) r2 hq) fun r s' hq' => ?_))
  cases r with
  | error er => exact (show False from hq').elim
  | ok fl =>
    cases fl with
    | ret u =>
      obtain ⟨v, H2, os2, bare2, un2, hok2, rv, ev, d, fs, ea, ed, hd1, q2⟩ := hq'
      subst ev
      obtain ⟨h2, g2, d2, t2, os'⟩ := s'
      exact ⟨rv, mk_endN (raises_own T.exC T.tyC) I1 hsz kk un2 hok2 os2 bare2 ea ed hd1 q2⟩
    | next => exact False.elim hq'
    | brk => exact False.elim hq'
    | cont => exact False.elim hq'
end
/-- a class whose instances are made by its own __init__ -/
structure MakesX (P : Program) (w : World) (K : PySem.W.Frag) (mg : Str → Option Value) (base : Heap) (x : Str) (C : Addr) (k : Nat) (sp : Sp) : Prop where
  T : OexC K C
  m : mg x = some (.ref C)
  ex : ∃ (fI : Addr) (fd : FuncData) (ps : List Str), PySem.W.findIn K (.ref C) "__init__" = some (some (.ref fI)) ∧ PySem.W.typeIn K (.ref fI) = some (.type "function") ∧ FnOk P w K mg base CX0 k fI fd ps sp ∧ Binds K fd ps []
theorem pmk_mk {X : Cx} {e : Expr} {es : List Expr} {ta : TA} {p pos : Pos} {x : Str} {C : Addr} {k j : Nat} {sp : Sp} (M : MakesX X.prog X.w X.K X.mg X.base x C k sp) (hr : Room (j + 1) X.A) (hk : k ≤ j) (ha : L2.PA X (e :: es) ta) (hg : Gl X x := by rfl)
    (hdb : (x == ("__debug__" : Str)) = false := by decide) (he : starEach (e :: es) X.env = (false, eval e X.env) :: starEach es X.env := by rfl) (hpl : (backTo pos (starEach es X.env)).any (·.1) = false := by rfl) :
    L2N.PMk X (.Call (.Name x p) (e :: es) [] pos) (tMkO C sp [] ta) := by
  obtain ⟨fI, fd, ps, h1, h2, F, b⟩ := M.ex
  exact pmk_oexN M.T h1 h2 F (hr.mono (Nat.succ_le_succ hk)) b .nil hg M.m ha hdb he hpl
/-! ### the promises of the two kinds of __init__ -/
/-- its two fields -/
def fs2 (word : Str) (n : Int) : List (Str × V) := [("number", .int n), ("word", .str word)]
def spX2 (C : Addr) : Sp := fun vs H Q _ => ∃ (x : Addr) (word : Str) (n : Int), vs = [.ref x, .str word, .int n] ∧ H x = some (exo x C none) ∧ word.length ≤ 20 ∧ 0 ≤ n ∧ n < 1000 ∧
  ∀ dx, H dx = none → dx ≠ x → Q .non (upd (upd (upd H dx (exd dx [("word", .str word)])) x (exo x C (some dx))) dx (exd dx (fs2 word n)))
/-- its one field -/
def spX1 (C : Addr) (fld : Str) : Sp := fun vs H Q _ => ∃ (x : Addr) (n : Int), vs = [.ref x, .int n] ∧ H x = some (exo x C none) ∧ 0 ≤ n ∧ n < 1000 ∧
  ∀ dx, H dx = none → dx ≠ x → Q .non (upd (upd H dx (exd dx [(fld, .int n)])) x (exo x C (some dx)))
theorem rd_x2 {C : Addr} {word : Str} {n : Int} {H1 : Hp} {Q : XK} (h0 : word.length ≤ 20) (h1 : 0 ≤ n) (h2 : n < 1000) (q : ∀ d, H1 d = none → Q (.ref C) (some d) (upd H1 d (.xd (fs2 word n)))) :
    ([V.str word, V.int n] : List V).length ≤ 1000 ∧ ∀ a, H1 a = none → spX2 C (.ref a :: ([V.str word, V.int n] ++ [])) (upd H1 a (exo a C none))
      (fun v H2 => v = .non ∧ ∃ (d : Addr) (fs : List (Str × V)), H2 a = some (exo a C (some d)) ∧ H2 d = some (exd d fs) ∧ H1 d = none ∧ Q (.ref C) (some d) (upd (L2.del H2 a) d (.xd fs))) (fun _ _ _ => False) := by
  refine ⟨by show 2 ≤ 1000; decide, fun a na => ⟨a, word, n, rfl, upd_same, h0, h1, h2, fun dx hd ne => ⟨rfl, dx, fs2 word n, ?_, upd_same, ?_, ?_⟩⟩⟩
  · rw [upd_ne ne.symm, upd_same]
  · rw [upd_ne ne] at hd; exact hd
  · have e : upd (L2.del (upd (upd (upd (upd H1 a (exo a C none)) dx (exd dx [("word", .str word)])) a (exo a C (some dx))) dx (exd dx (fs2 word n))) a) dx (.xd (fs2 word n)) = upd H1 dx (.xd (fs2 word n)) := by
      funext b
      by_cases hb : b = dx
      · rw [hb, upd_same, upd_same]
      · rw [upd_ne hb, upd_ne hb]
        by_cases hb2 : b = a
        · rw [hb2, L2.del_same, na]
        · rw [L2.del_ne hb2, upd_ne hb, upd_ne hb2, upd_ne hb, upd_ne hb2]
    rw [e]
    rw [upd_ne ne] at hd
    exact q dx hd
theorem rd_x1 {C : Addr} {fld : Str} {n : Int} {H1 : Hp} {Q : XK} (h1 : 0 ≤ n) (h2 : n < 1000) (q : ∀ d, H1 d = none → Q (.ref C) (some d) (upd H1 d (.xd [(fld, .int n)]))) :
    ([V.int n] : List V).length ≤ 1000 ∧ ∀ a, H1 a = none → spX1 C fld (.ref a :: ([V.int n] ++ [])) (upd H1 a (exo a C none))
      (fun v H2 => v = .non ∧ ∃ (d : Addr) (fs : List (Str × V)), H2 a = some (exo a C (some d)) ∧ H2 d = some (exd d fs) ∧ H1 d = none ∧ Q (.ref C) (some d) (upd (L2.del H2 a) d (.xd fs))) (fun _ _ _ => False) := by
  refine ⟨by show 1 ≤ 1000; decide, fun a na => ⟨a, n, rfl, upd_same, h1, h2, fun dx hd ne => ⟨rfl, dx, [(fld, .int n)], upd_same, ?_, ?_, ?_⟩⟩⟩
  · rw [upd_ne ne, upd_same]
  · rw [upd_ne ne] at hd; exact hd
  · have e : upd (L2.del (upd (upd (upd H1 a (exo a C none)) dx (exd dx [(fld, .int n)])) a (exo a C (some dx))) a) dx (.xd [(fld, .int n)]) = upd H1 dx (.xd [(fld, .int n)]) := by
      funext b
      by_cases hb : b = dx
      · rw [hb, upd_same, upd_same]
      · rw [upd_ne hb, upd_ne hb]
        by_cases hb2 : b = a
        · rw [hb2, L2.del_same, na]
        · rw [L2.del_ne hb2, upd_ne hb2, upd_ne hb, upd_ne hb2]
    rw [e]
    rw [upd_ne ne] at hd
    exact q dx hd
/-- a number below a thousand, written, is short -/
theorem dig_short {n : Int} (h1 : 0 ≤ n) (h2 : n < 1000) : ((toString n : String) : Str).length ≤ 3 := by
  have key : ∀ m : Fin 1000, ((toString ((m.val : Nat) : Int) : String) : Str).length ≤ 3 := by decide +kernel
  have e : n = ((n.toNat : Nat) : Int) := by omega
  rw [e]
  exact key ⟨n.toNat, by omega⟩
section
variable {P : Program} {w : World} {K : PySem.W.Frag} {mg : Str → Option Value} {base : Heap}
abbrev st_BadBoard___init__ : Stmt := (inClass (topS 2) 0)
abbrev st_BadFence___init__ : Stmt := (inClass (topS 3) 0)
abbrev st_BadText___init__ : Stmt := (inClass (topS 6) 0)
theorem bb_scope : NdefX.NScope ["self", "word", "number", "__class__"] ["self", "word", "number"] ["__class__"] (defScope st_BadBoard___init__) := NdefX.nscope_by (by decide +kernel)
theorem bf_scope : NdefX.NScope ["self", "number", "__class__"] ["self", "number"] ["__class__"] (defScope st_BadFence___init__) := NdefX.nscope_by (by decide +kernel)
theorem bt_scope : NdefX.NScope ["self", "row", "__class__"] ["self", "row"] ["__class__"] (defScope st_BadText___init__) := NdefX.nscope_by (by decide +kernel)
/-- what the class must be -/
structure XCls (K : PySem.W.Frag) (C : Addr) (fs : List Str) : Prop where
  T : OexC K C
  S : SupX K C C
  no : ∀ f ∈ fs, PySem.W.findIn K (.ref C) f = some none
end
end Vt
namespace Vt
open PySem PySem.Spec PyProof.Rows L2
section
variable {P : Program} {w : World} {K : PySem.W.Frag} {mg : Str → Option Value} {base : Heap}
theorem word_short {word : Str} {n : Nat} (h : word.length ≤ n) : word.length ≤ n := h
theorem xapp_len (a b : Str) : (a ++ b).length = a.length + b.length := by
  show (a.cps ++ b.cps).size = a.cps.size + b.cps.size
  exact Array.size_append
theorem ex_len {n : Int} (h0 : 0 ≤ n) (h1 : n < 1000) : n.natAbs.log2 < 1920 := by
  have h : n.natAbs < 1000 := by omega
  by_cases z : n.natAbs = 0
  · rw [z]; decide
  · have : n.natAbs.log2 < 10 := (Nat.log2_lt z).mpr (by omega)
    omega
set_option maxHeartbeats 0 in
theorem bb_make {C f cda cc : Addr} (hm : mg "BadBoard" = some (.ref C)) (XC : XCls K C ["word", "number"]) (F : FoundS K C C "__init__" "BadBoard.__init__" st_BadBoard___init__ f cda cc) (tI : PySem.W.typeIn K (.ref f) = some (.type "function")) (hc : CodeAt P K cda)
    (top : (P.main.scope.names.lookup ("super" : Str)).isSome = false) (z_super : mg "super" = none) (any : PySem.W.nsIn K cStatics "thirdparty.any" = some none) : MakesX P w K mg base "BadBoard" C 1 (spX2 C) := by
  obtain ⟨oc, od, kV, doc, pm, an, ct, osl, cl, cld, csl, cdD, a, l, hcd, i, l2, d⟩ := F
  refine ⟨XC.T, hm, f, _, ["self", "word", "number"], a, tI, fnS_exc (k := 0) (sp := spX2 C) l hcd (hbd := by rfl) bb_scope ⟨hc, top, z_super, by decide +kernel, by decide +kernel, any⟩ (by rfl) (by rfl) (by rfl) l2 d (fun vs H Q E h => ?_) (fun _ => rfl) (fun _ => rfl) (fun _ => ⟨_, rfl⟩) (fun _ => rfl) (fun A outer s H vs Q E hr h => ?_), .all fun us hl => ?_⟩
  · obtain ⟨x, word, n, rfl, _⟩ := h
    rfl
  · obtain ⟨x, word, n, rfl, hx, hw, h0, h1, q⟩ := h
    refine ⟨_, _, pa_cons (pe_joined (.cons (pe_fmt (pv 1)) (.cons pe_str (.cons (pe_fmt (pv 2)) .nil)))) pa_nil, pss_cons (ps_ost (pv 0) (pv 1)) (pss_one (ps_ost (pv 0) (pv 2))), x, C, rfl, hx, XC.T, XC.S, ?_⟩
    have d3 := dig_short h0 h1
    refine ⟨_, rfl, .inl ⟨word, rfl, Nat.le_trans hw (by decide), word, rfl, ?_, _, rfl, ?_, _, rfl, .inr ⟨n, rfl, ex_len h0 h1, _, rfl, ?_, ?_⟩⟩⟩
    · rw [xapp_len]
      exact Nat.le_trans (Nat.add_le_add (Nat.le_refl _) hw) (by decide +kernel)
    · rw [xapp_len, xapp_len]
      exact Nat.le_trans (Nat.add_le_add (Nat.add_le_add (Nat.le_refl _) hw) (Nat.le_refl _)) (by decide +kernel)
    · rw [xapp_len, xapp_len, xapp_len]
      exact Nat.le_trans (Nat.add_le_add (Nat.add_le_add (Nat.add_le_add (Nat.le_refl _) hw) (Nat.le_refl _)) d3) (by decide +kernel)
    refine ⟨by show 1 ≤ 1000; decide, hx, ?_⟩
    refine ⟨_, rfl, _, rfl, x, C, rfl, XC.T, XC.no _ (by simp), .inl ⟨hx, fun dx hd ne => ?_⟩⟩
    refine ⟨_, rfl, _, rfl, x, C, rfl, XC.T, XC.no _ (by simp), .inr ⟨dx, _, upd_same, by rw [upd_ne ne, upd_same], by show 1 ≤ 900; decide, ?_⟩⟩
    exact q dx hd ne
  · match us, hl with
    | [_, _, _], _ => rfl
set_option maxHeartbeats 0 in
theorem bf_make {C f cda cc : Addr} (hm : mg "BadFence" = some (.ref C)) (XC : XCls K C ["number"]) (F : FoundS K C C "__init__" "BadFence.__init__" st_BadFence___init__ f cda cc) (tI : PySem.W.typeIn K (.ref f) = some (.type "function")) (hc : CodeAt P K cda)
    (top : (P.main.scope.names.lookup ("super" : Str)).isSome = false) (z_super : mg "super" = none) (any : PySem.W.nsIn K cStatics "thirdparty.any" = some none) : MakesX P w K mg base "BadFence" C 1 (spX1 C "number") := by
  obtain ⟨oc, od, kV, doc, pm, an, ct, osl, cl, cld, csl, cdD, a, l, hcd, i, l2, d⟩ := F
  refine ⟨XC.T, hm, f, _, ["self", "number"], a, tI, fnS_exc (k := 0) (sp := spX1 C "number") l hcd (hbd := by rfl) bf_scope ⟨hc, top, z_super, by decide +kernel, by decide +kernel, any⟩ (by rfl) (by rfl) (by rfl) l2 d (fun vs H Q E h => ?_) (fun _ => rfl) (fun _ => rfl) (fun _ => ⟨_, rfl⟩) (fun _ => rfl) (fun A outer s H vs Q E hr h => ?_), .all fun us hl => ?_⟩
  · obtain ⟨x, n, rfl, _⟩ := h
    rfl
  · obtain ⟨x, n, rfl, hx, h0, h1, q⟩ := h
    refine ⟨_, _, pa_cons (pe_joined (.cons pe_str (.cons (pe_fmt (pv 1)) (.cons pe_str .nil)))) pa_nil, pss_one (ps_ost (pv 0) (pv 1)), x, C, rfl, hx, XC.T, XC.S, ?_⟩
    have d3 := dig_short h0 h1
    refine ⟨_, rfl, ?_, _, rfl, .inr ⟨n, rfl, ex_len h0 h1, _, rfl, ?_, _, rfl, ?_, ?_⟩⟩
    · decide +kernel
    · rw [xapp_len]
      exact Nat.le_trans (Nat.add_le_add (Nat.le_refl _) d3) (by decide +kernel)
    · rw [xapp_len, xapp_len]
      exact Nat.le_trans (Nat.add_le_add (Nat.add_le_add (Nat.le_refl _) d3) (Nat.le_refl _)) (by decide +kernel)
    refine ⟨by show 1 ≤ 1000; decide, hx, ?_⟩
    refine ⟨_, rfl, _, rfl, x, C, rfl, XC.T, XC.no _ (by simp), .inl ⟨hx, fun dx hd ne => ?_⟩⟩
    exact q dx hd ne
  · match us, hl with
    | [_, _], _ => rfl
set_option maxHeartbeats 0 in
theorem bt_make {C f cda cc : Addr} (hm : mg "BadText" = some (.ref C)) (XC : XCls K C ["row"]) (F : FoundS K C C "__init__" "BadText.__init__" st_BadText___init__ f cda cc) (tI : PySem.W.typeIn K (.ref f) = some (.type "function")) (hc : CodeAt P K cda)
    (top : (P.main.scope.names.lookup ("super" : Str)).isSome = false) (z_super : mg "super" = none) (any : PySem.W.nsIn K cStatics "thirdparty.any" = some none) : MakesX P w K mg base "BadText" C 1 (spX1 C "row") := by
  obtain ⟨oc, od, kV, doc, pm, an, ct, osl, cl, cld, csl, cdD, a, l, hcd, i, l2, d⟩ := F
  refine ⟨XC.T, hm, f, _, ["self", "row"], a, tI, fnS_exc (k := 0) (sp := spX1 C "row") l hcd (hbd := by rfl) bt_scope ⟨hc, top, z_super, by decide +kernel, by decide +kernel, any⟩ (by rfl) (by rfl) (by rfl) l2 d (fun vs H Q E h => ?_) (fun _ => rfl) (fun _ => rfl) (fun _ => ⟨_, rfl⟩) (fun _ => rfl) (fun A outer s H vs Q E hr h => ?_), .all fun us hl => ?_⟩
  · obtain ⟨x, n, rfl, _⟩ := h
    rfl
  · obtain ⟨x, n, rfl, hx, h0, h1, q⟩ := h
    refine ⟨_, _, pa_cons (pe_joined (.cons pe_str (.cons (pe_fmt (pv 1)) (.cons pe_str .nil)))) pa_nil, pss_one (ps_ost (pv 0) (pv 1)), x, C, rfl, hx, XC.T, XC.S, ?_⟩
    have d3 := dig_short h0 h1
    refine ⟨_, rfl, ?_, _, rfl, .inr ⟨n, rfl, ex_len h0 h1, _, rfl, ?_, _, rfl, ?_, ?_⟩⟩
    · decide +kernel
    · rw [xapp_len]
      exact Nat.le_trans (Nat.add_le_add (Nat.le_refl _) d3) (by decide +kernel)
    · rw [xapp_len, xapp_len]
      exact Nat.le_trans (Nat.add_le_add (Nat.add_le_add (Nat.le_refl _) d3) (Nat.le_refl _)) (by decide +kernel)
    refine ⟨by show 1 ≤ 1000; decide, hx, ?_⟩
    refine ⟨_, rfl, _, rfl, x, C, rfl, XC.T, XC.no _ (by simp), .inl ⟨hx, fun dx hd ne => ?_⟩⟩
    exact q dx hd ne
  · match us, hl with
    | [_, _], _ => rfl
end
end Vt
namespace Vt
open PySem PySem.Spec PyProof.Rows L2 L2H
/-! ### isinstance of an exception that may have fields -/
/-- its dict, if it has one, stands -/
def DOk (d : Option Addr) (H : Hp) : Prop := ∀ dd, d = some dd → ∃ fs, H dd = some (.xd fs)
theorem DOk.same {d : Option Addr} {H H' : Hp} (h : DOk d H) (s : Same H H') : DOk d H' := fun dd e => by
  obtain ⟨fs, q⟩ := h dd e
  exact ⟨fs, s _ _ q⟩
def rIsX (K : PySem.W.Frag) (D a : Addr) (d : Option Addr) : List V → Hp → VK → Prop := fun xs H Q => ∃ (c : V) (cv : Value) (b : Bool), xs = [.ref a, c] ∧ (∀ u, RelV c u → u = cv) ∧ PySem.W.kitOne K (.ref D) cv = some b ∧ DOk d H ∧ Q (.bl b) H
theorem call_isX {X : Cx} {a D : Addr} {oe : Obj} {pn : List (Addr × Obj)} {d : Option Addr} (C : ExcC X.K D) (hz : Zc (.ref D) d oe) (hf : ∃ vs, oe.data = .fields vs) : CallR (X.suite a ((a, oe) :: pn)) (.builtin "isinstance") (rIsX X.K D a d) := by
  intro pins s σ H xs us Q I r h
  obtain ⟨c, cv, b, rfl, hcv, e, dok, q⟩ := h
  cases r with
  | cons rx rr =>
    cases rr with
    | cons rt rr =>
      cases rr
      cases rx
      have ec := hcv _ rt
      subst ec
      obtain ⟨hget, _⟩ := I.pin (a, oe) (List.mem_append.mpr (.inl List.mem_cons_self))
      obtain ⟨vs, hv⟩ := hf
      obtain ⟨cd, hc, _⟩ := PySem.W.any_some C.hd
      have hcl : (PySem.W.clsIn X.K D).isSome = true := by rw [hc]; rfl
      obtain ⟨od, J⟩ : ∃ od, PySem.W.InstAt s.heap a oe D od := by
        obtain ⟨oc, oda, odt, osl⟩ := oe
        obtain ⟨h1, h2⟩ := hz
        dsimp only at h1 h2 hv
        subst h1 h2 hv
        cases oda with
        | none => exact ⟨none, hget, rfl, rfl, trivial⟩
        | some dd =>
          obtain ⟨fs, hdd⟩ := dok dd rfl
          have hx : ObjOk X.prog X.w H s.heap dd (.xd fs) := I.hok dd _ hdd
          obtain ⟨mA, hns, hr⟩ := hx
          obtain ⟨od, ho, _⟩ := lookIn_ns hns
          exact ⟨some od, hget, rfl, rfl, ho⟩
      exact PySem.W.kia_one (PySem.W.kitx_exc hcl C.hg C.hk C.hs C.ha C.hn C.ht C.hm) I.kIn J e (fun z => nomatch z) fun tk => ⟨.bl b, H, I.kept (t' := tk) fun _ _ z => z, rfl, q⟩
theorem call_isXP {Y : Cx} {a D : Addr} {oe : Obj} {d : Option Addr} (hA : Y.A.mark (some (.ref a)) = Y.A) (hpn : Y.pn = [(a, oe)]) (C : ExcC Y.K D) (hz : Zc (.ref D) d oe) (hf : ∃ vs, oe.data = .fields vs) : CallR Y (.builtin "isinstance") (rIsX Y.K D a d) := by
  refine callr_suite hA ?_
  rw [hpn]
  exact call_isX C hz hf
end Vt
namespace Vt
open PySem PySem.Spec PyProof.Rows L2 L2H
/-! ### the asker's _law_class -/
/-- the five classes at their places -/
structure Clss (mg : Str → Option Value) (C : Nat → Addr) : Prop where
  g0 : mg "BadBoard" = some (.ref (C 0))
  g1 : mg "BadFence" = some (.ref (C 1))
  g2 : mg "NotSure" = some (.ref (C 2))
  g3 : mg "BadCount" = some (.ref (C 3))
  g4 : mg "BadText" = some (.ref (C 4))
/-- a class that isinstance knows: the j-th one -/
structure IsCls (K : PySem.W.Frag) (C : Nat → Addr) (j : Nat) : Prop where
  exc : ExcC K (C j)
  is0 : PySem.W.kitOne K (.ref (C j)) (.ref (C 0)) = some (decide (j = 0))
  is1 : PySem.W.kitOne K (.ref (C j)) (.ref (C 1)) = some (decide (j = 1))
  is2 : PySem.W.kitOne K (.ref (C j)) (.ref (C 2)) = some (decide (j = 2))
  is3 : PySem.W.kitOne K (.ref (C j)) (.ref (C 3)) = some (decide (j = 3))
  is4 : PySem.W.kitOne K (.ref (C j)) (.ref (C 4)) = some (decide (j = 4))
  isV : PySem.W.kitOne K (.ref (C j)) (.type "ValueError") = some true
def clsWords : List Str := ["BadBoard", "BadFence", "NotSure", "BadCount", "BadText"]
def clsBools (j : Nat) : List V := [.bl (decide (j = 0)), .bl (decide (j = 1)), .bl (decide (j = 2)), .bl (decide (j = 3)), .bl (decide (j = 4))]
section
variable {P : Program} {w : World} {K : PySem.W.Frag} {mg : Str → Option Value} {base : Heap}
abbrev st_law_class : Stmt := (topS 35)
abbrev nm_law_class : List Str := ["_law_e", "_law_kinds_here", "_law_words"]
theorem sc_law_class : FnScope ["_law_e", "_law_kinds_here", "_law_words"] ["_law_e"] (defScope st_law_class) := ⟨rfl, rfl, rfl, by decide +kernel, rfl, by decide +kernel, by decide +kernel⟩
/-- the handled exception is of the j-th class -/
def spClassD (K : PySem.W.Frag) (C : Nat → Addr) (cls : Value) (d : Option Addr) (a : Addr) : Sp := fun vs H Q _ => ∃ (j : Nat) (z : Str), IsCls K C j ∧ clsWords[j]? = some z ∧ cls = .ref (C j) ∧ DOk d H ∧ vs = [.ref a] ∧ ∀ (H' : Hp), Same H H' → Q (.str z) H'
theorem bools_one : ∀ j : Nat, j < 5 → (clsBools j).all flatV = true ∧ (clsBools j).countP (fun z => eqV z (.bl true)) = 1 ∧ (clsBools j)[j]? = some (.bl true) ∧ ∀ (m : Nat) (z' : V), m < j → (clsBools j)[m]? = some z' → eqV z' (.bl true) = false := by
  intro j hj
  refine ⟨rfl, ?_, ?_, fun m z' hm hz => ?_⟩
  · rcases (show j = 0 ∨ j = 1 ∨ j = 2 ∨ j = 3 ∨ j = 4 by omega) with rfl | rfl | rfl | rfl | rfl <;> decide +kernel
  · rcases (show j = 0 ∨ j = 1 ∨ j = 2 ∨ j = 3 ∨ j = 4 by omega) with rfl | rfl | rfl | rfl | rfl <;> rfl
  · have : ∃ i, z' = .bl (decide (j = i)) ∧ i = m := by
      rcases (show m = 0 ∨ m = 1 ∨ m = 2 ∨ m = 3 by omega) with rfl | rfl | rfl | rfl <;> exact ⟨_, (Option.some.inj hz).symm, rfl⟩
    obtain ⟨i, rfl, rfl⟩ := this
    rw [decide_eq_false (by omega)]
    rfl
set_option maxHeartbeats 0 in
theorem ok_classD {f : Addr} {C : Nat → Addr} (G : Clss mg C) {oc : Value} {od : Option Addr} {kV doc pm cdv ct : Value} {an : Option Addr} {osl : Array (Option Value)} (lk : K.lookup f = some ⟨oc, od, .func (PySem.W.fnOf "_law_class" "_law_class" (defArgs st_law_class) (defBody st_law_class) (defScope st_law_class) .none kV doc pm an cdv ct), osl⟩)
    (hcd : PySem.W.codeIn K cdv "_law_class" = true) (z_isinstance : mg "isinstance" = none) (z_VE : mg "ValueError" = none) (p : Addr × Obj) (cls : Value) (d : Option Addr) (hz : L2N.Zn cls d p.2) (hf : ∃ vs, p.2.data = .fields vs) :
    FnP P w K mg base 1 f (PySem.W.fnOf "_law_class" "_law_class" (defArgs st_law_class) (defBody st_law_class) (defScope st_law_class) .none kV doc pm an cdv ct) ["_law_e"] p (spClassD K C cls d p.1) := by
  refine fn_ofP lk hcd sc_law_class (fun vs H Q E h => ?_) (fun A outer s H vs Q E hot hr h => ?_)
  · obtain ⟨j, z, _, _, _, _, rfl, _⟩ := h
    rfl
  · obtain ⟨j, z, hc, hw, rfl, dok, rfl, q⟩ := h
    have hj : j < 5 := by
      have := (List.getElem?_eq_some_iff.mp hw).1
      exact this
    obtain ⟨b1, b2, b3, b4⟩ := bools_one j hj
    have hA := mark_hot (env := envOfC "_law_class" (defScope st_law_class) s.heap.objs.size f cdv) hot
    have cI : CallR (cxH CX0 P w K mg base ["_law_e", "_law_kinds_here", "_law_words"] "_law_class" (defScope st_law_class) f cdv A outer s H E p) (.builtin "isinstance") (rIsX K (C j) p.1 d) := call_isXP hA rfl hc.exc ⟨hz.1, hz.2.1⟩ hf
    refine ⟨_, (pss_cons (ps_set (i := 1) sc_law_class.nd rfl (Or.inl rfl) (pe_lst (pa_cons (pe_callB cI (by rfl) z_isinstance (by decide +kernel) (pa_cons (pv 0) (pa_cons (pe_glob (v := .ref _) rfl G.g0 rfl) pa_nil)))
        (pa_cons (pe_callB cI (by rfl) z_isinstance (by decide +kernel) (pa_cons (pv 0) (pa_cons (pe_glob (v := .ref _) rfl G.g1 rfl) pa_nil)))
        (pa_cons (pe_callB cI (by rfl) z_isinstance (by decide +kernel) (pa_cons (pv 0) (pa_cons (pe_glob (v := .ref _) rfl G.g2 rfl) pa_nil)))
        (pa_cons (pe_callB cI (by rfl) z_isinstance (by decide +kernel) (pa_cons (pv 0) (pa_cons (pe_glob (v := .ref _) rfl G.g3 rfl) pa_nil))) pa_nil))))))
      (pss_cons (ps_expr (pe_bm PySem.F.plainAttrs_list PySem.F.slot_list_append PySem.F.type_list_append mt_append (pv 1) (pa_cons (pe_callB cI (by rfl) z_isinstance (by decide +kernel) (pa_cons (pv 0) (pa_cons (pe_glob (v := .ref _) rfl G.g4 rfl) pa_nil))) pa_nil)))
      (pss_cons (ps_set (i := 2) sc_law_class.nd rfl (Or.inl rfl) (pe_lst (pa_cons pe_str (pa_cons pe_str (pa_cons pe_str (pa_cons pe_str (pa_cons pe_str pa_nil)))))))
      (pss_one (ps_ret (pe_ifExp (PW.pt (pw_and (pt_cmpR op_eq (pe_bm PySem.F.plainAttrs_list PySem.F.slot_list_count PySem.F.type_list_count mt_countF (pv 1) (pa_cons pe_bl pa_nil)) pe_int (nomark _)) (pw_and1 (pt_val (pe_callB cI (by rfl) z_isinstance (by decide +kernel) (pa_cons (pv 0) (pa_cons (pe_bltn (v := .ty "ValueError") rfl z_VE (by decide +kernel) rfl) pa_nil)))))))
        (pe_ix ix_lt (pv 2) (pe_bm PySem.F.plainAttrs_list PySem.F.slot_list_index PySem.F.type_list_index mt_index (pv 1) (pa_cons pe_bl pa_nil)) (fun _ _ => rfl)) pe_str)))))), ?_⟩
    refine ⟨_, rfl, _, .ref (C 0), _, rfl, (fun u h => h), hc.is0, dok, ?_⟩
    refine ⟨_, rfl, _, .ref (C 1), _, rfl, (fun u h => h), hc.is1, dok, ?_⟩
    refine ⟨_, rfl, _, .ref (C 2), _, rfl, (fun u h => h), hc.is2, dok, ?_⟩
    refine ⟨_, rfl, _, .ref (C 3), _, rfl, (fun u h => h), hc.is3, dok, ?_⟩
    refine ⟨by show 4 ≤ sizeLine; decide, fun L nL => ?_⟩
    refine ⟨_, rfl, .inl ⟨rfl, _, sqL_l upd_same⟩, ?_⟩
    refine ⟨_, rfl, _, .ref (C 4), _, rfl, (fun u h => h), hc.is4, dok.same (same_new nL), ?_⟩
    refine ⟨L, [.bl (decide (j = 0)), .bl (decide (j = 1)), .bl (decide (j = 2)), .bl (decide (j = 3))], _, rfl, rfl, upd_same, by show 4 < sizeLine; decide, ?_⟩
    refine ⟨by show 5 ≤ sizeLine; decide, fun M nM => ?_⟩
    have nLM : L ≠ M := fun z => by
      rw [← z, upd_same] at nM
      cases nM
    have hL : ∀ {H0 : Hp} {o : HO}, upd (upd H0 L (.lst (clsBools j))) M o L = some (.lst (clsBools j)) := fun {H0 o} => by rw [upd_ne nLM, upd_same]
    have sLM : ∀ {o : HO}, Same H (upd (upd (upd H L (.lst [.bl (decide (j = 0)), .bl (decide (j = 1)), .bl (decide (j = 2)), .bl (decide (j = 3))])) L (.lst (clsBools j))) M o) := fun {o} b u e => by
      have n1 : b ≠ L := ne_of_none e nL
      have n2 : b ≠ M := fun z => by
        rw [← z, upd_ne n1, upd_ne n1, e] at nM
        cases nM
      rw [upd_ne n2, upd_ne n1, upd_ne n1]
      exact e
    refine ⟨_, rfl, .inl ⟨rfl, _, sqL_l hL⟩, ?_⟩
    refine ⟨L, clsBools j, .bl true, rfl, rfl, sqL_l hL, rfl, b1, ?_⟩
    rw [b2]
    refine ⟨rfl, _, rfl, Eq.mpr (if_pos (decide_eq_true rfl)) ?_⟩
    refine ⟨_, rfl, _, .type "ValueError", _, rfl, (fun u h => h), hc.isV, DOk.same dok sLM, _, rfl, Eq.mpr (if_pos rfl) ?_⟩
    refine ⟨_, rfl, _, rfl, .inl ⟨rfl, _, sqL_l hL⟩, ?_⟩
    refine ⟨L, clsBools j, .bl true, j, .bl true, rfl, rfl, sqL_l hL, rfl, b1, b3, rfl, b4, ?_⟩
    refine ⟨M, clsWords.map V.str, (j : Nat), .str z, rfl, rfl, sqA_l upd_same, ?_, ?_⟩
    · exact atI_nat (by rw [List.getElem?_map, hw]; rfl)
    · exact q _ sLM
end
end Vt
namespace Vt
open PySem PySem.Spec PyProof.Rows L2
/-! ### what is refused with a board: the first that is wrong in it -/
def wrongB (R : RBrd) : Option (Str × Nat) :=
  match fwCell R.mem with
  | some i => some ("memory", i)
  | none => match fwOrd R.ords R.mem.length with
    | some i => some ("orders", i)
    | none => match fwDeed R.prog R.ords.length R.mem.length with
      | some i => some ("program", i)
      | none => none
theorem wrong_ok {B : Brd} (ok : BrdOk B) : wrongB B.raw = none := by
  have h1 : B.raw.mem.length = B.mem.length := by simp [Brd.raw]
  have h2 : B.raw.ords.length = B.ords.length := by simp [Brd.raw]
  simp only [wrongB, ok_mem ok, h1, ok_ords ok, h2, ok_prog ok]
/-- a board as handed in, that the reader of deeds can read -/
structure RawOk (K : PySem.W.Frag) (w : World) (dd : Addr) (R : RBrd) : Prop where
  nums : ∀ d ∈ R.prog, d.nums.length ≤ 1000
  miss : ∀ d ∈ R.prog, kindsOf d.word = none → KMiss K w dd d.word
  small : ∀ z n, wrongB R = some (z, n) → n < 1000
theorem raw_ok {K : PySem.W.Frag} {w : World} {dd : Addr} {B : Brd} (h : B.prog.length < 1000) (h2 : B.mem.length < 1000) (h3 : B.ords.length < 1000) : (∀ d ∈ B.raw.prog, d.nums.length ≤ 1000) ∧ (∀ d ∈ B.raw.prog, kindsOf d.word = none → KMiss K w dd d.word) := by
  refine ⟨fun d hd => ?_, fun d hd hk => ?_⟩
  · obtain ⟨d0, _, rfl⟩ := List.mem_map.mp hd
    have : d0.raw.nums.length = d0.args.length := by simp [Deed.raw]
    rw [this]
    cases d0 <;> simp [Deed.args]
  · obtain ⟨d0, _, rfl⟩ := List.mem_map.mp hd
    obtain ⟨ks, e, _⟩ := kinds_deed d0
    rw [show d0.raw.word = d0.word from rfl, e] at hk; cases hk
section
variable {P : Program} {w : World} {K : PySem.W.Frag} {mg : Str → Option Value} {base : Heap}
/-- a board is let through, or refused by the first that is wrong in it -/
def spReqX (K : PySem.W.Frag) (w : World) (dd BB : Addr) : Sp := fun vs H Q E => ∃ (v : V) (R : RBrd), vs = [v] ∧ Pd H v R.d ∧ RawOk K w dd R ∧ (wrongB R = none → ∀ H', Same H H' → Q .non H') ∧
  (∀ z n, wrongB R = some (z, n) → ∀ (H' : Hp) (d : Addr), Same H H' → H' d = some (.xd (fs2 z (n : Nat))) → E (.ref BB) (some d) H')
theorem ok_reqX {f dd BB : Addr} {fd : FuncData} (F : Fun K "require_board" "require_board" st_require_board f fd) (k_BadBoard : MakesX P w K mg base "BadBoard" BB 1 (spX2 BB)) (c_first_wrong_cell : Callee P w K mg base "first_wrong_cell" 1 1 spFwCell) (c_first_wrong_order : Callee P w K mg base "first_wrong_order" 2 2 spFwOrd)
    (c_first_wrong_deed : Callee P w K mg base "first_wrong_deed" 2 3 (spFwDeed K w dd)) (z_len : mg "len" = none) : FnOk P w K mg base (L2N.CX P w) 3 f fd ["board"] (spReqX K w dd BB) := by
  refine okN F sc_require_board (fun vs H Q E h => ?_) (fun cdv A outer s H vs Q E hr h => ?_)
  · obtain ⟨v, R, rfl, _⟩ := h
    rfl
  · obtain ⟨v, R, rfl, hB, rok, q0, q1⟩ := h
    obtain ⟨a, m, o, p, os, ps, rfl, ha, hm, ho, hos, hp, hps⟩ := RBrd.of hB
    refine ⟨_, (pss_cons (ps_asg (pv 0) (pg_tup rfl (pgs_cons (pg_name (i := 1) sc_require_board.nd rfl (Or.inl rfl)) (pgs_cons (pg_name (i := 2) sc_require_board.nd rfl (Or.inl rfl)) (pgs_cons (pg_name (i := 3) sc_require_board.nd rfl (Or.inl rfl)) pgs_nil)))))
  (pss_cons (ps_set (i := 4) sc_require_board.nd rfl (Or.inl rfl) (pe_cal c_first_wrong_cell hr (by first | decide | exact Nat.le_refl _) (pa_cons (pv 1) pa_nil)))
  (pss_cons (ps_if (pt_cmpR op_notN (pv 4) pe_non (nomark _)) (pss_one (L2N.ps_raise rfl (L2N.takes_of rfl rfl rfl rfl) (pmk_mk k_BadBoard hr (by first | decide | exact Nat.le_refl _) (pa_cons pe_str (pa_cons (pv 4) pa_nil))))) pss_nil)
  (pss_cons (ps_set (i := 4) sc_require_board.nd rfl (Or.inl rfl) (pe_cal c_first_wrong_order hr (by first | decide | exact Nat.le_refl _) (pa_cons (pv 2) (pa_cons (pe_callB call_len_seq (by rfl) z_len (by decide +kernel) (pa_cons (pv 1) pa_nil)) pa_nil))))
  (pss_cons (ps_if (pt_cmpR op_notN (pv 4) pe_non (nomark _)) (pss_one (L2N.ps_raise rfl (L2N.takes_of rfl rfl rfl rfl) (pmk_mk k_BadBoard hr (by first | decide | exact Nat.le_refl _) (pa_cons pe_str (pa_cons (pv 4) pa_nil))))) pss_nil)
  (pss_cons (ps_set (i := 4) sc_require_board.nd rfl (Or.inl rfl) (pe_cal c_first_wrong_deed hr (by first | decide | exact Nat.le_refl _) (pa_cons (pv 3) (pa_cons (pe_callB call_len_seq (by rfl) z_len (by decide +kernel) (pa_cons (pv 2) pa_nil)) (pa_cons (pe_callB call_len_seq (by rfl) z_len (by decide +kernel) (pa_cons (pv 1) pa_nil)) pa_nil)))))
  (pss_one (ps_if (pt_cmpR op_notN (pv 4) pe_non (nomark _)) (pss_one (L2N.ps_raise rfl (L2N.takes_of rfl rfl rfl rfl) (pmk_mk k_BadBoard hr (by first | decide | exact Nat.le_refl _) (pa_cons pe_str (pa_cons (pv 4) pa_nil))))) pss_nil)))))))), ?_⟩
    refine ⟨_, rfl, a, _, rfl, sqT_t ha, rfl, _, _, rfl, _, _, rfl, _, _, rfl, rfl, ?_⟩
    have ml : (R.mem.map V.int).length = R.mem.length := by rw [List.length_map]
    have ol : os.length = R.ords.length := by rw [hos.len, List.length_map]
    refine ⟨_, rfl, m, _, rfl, hm, fun H1 s1 => ?_⟩
    cases e1 : fwCell R.mem with
    | some i =>
      have ew : wrongB R = some (("memory" : Str), i) := by simp only [wrongB, e1]
      refine ⟨_, rfl, rfl, _, rfl, iteT ⟨_, rfl, ?_⟩⟩
      exact rd_x2 (word := "memory") (n := (i : Nat)) (by decide) (by omega) (by have := rok.small _ _ ew; omega) (fun d hd => q1 _ _ ew _ d (s1.trans (same_new hd)) upd_same)
    | none =>
    refine ⟨_, rfl, rfl, _, rfl, iteF ?_⟩
    refine ⟨_, rfl, _, rfl, m, _, rfl, .inr (sqT_t (s1 _ _ hm)), o, os, R.ords, _, rfl, s1 _ _ ho, hos.same s1, fun H2 s2 => ?_⟩
    rw [ml]
    cases e2 : fwOrd R.ords (R.mem.length : Nat) with
    | some i =>
      have ew : wrongB R = some (("orders" : Str), i) := by simp only [wrongB, e1, e2]
      refine ⟨_, rfl, rfl, _, rfl, iteT ⟨_, rfl, ?_⟩⟩
      exact rd_x2 (word := "orders") (n := (i : Nat)) (by decide) (by omega) (by have := rok.small _ _ ew; omega) (fun d hd => q1 _ _ ew _ d ((s1.trans s2).trans (same_new hd)) upd_same)
    | none =>
    refine ⟨_, rfl, rfl, _, rfl, iteF ?_⟩
    have s12 := s1.trans s2
    refine ⟨_, rfl, _, rfl, o, _, rfl, .inr (sqT_t (s12 _ _ ho)), _, rfl, m, _, rfl, .inr (sqT_t (s12 _ _ hm)), p, ps, R.prog, _, _, rfl, s12 _ _ hp, hps.same s12, rok.nums, rok.miss, fun H3 s3 => ?_⟩
    rw [ml, ol]
    cases e3 : fwDeed R.prog (R.ords.length : Nat) (R.mem.length : Nat) with
    | some i =>
      have ew : wrongB R = some (("program" : Str), i) := by simp only [wrongB, e1, e2, e3]
      refine ⟨_, rfl, rfl, _, rfl, iteT ⟨_, rfl, ?_⟩⟩
      exact rd_x2 (word := "program") (n := (i : Nat)) (by decide) (by omega) (by have := rok.small _ _ ew; omega) (fun d hd => q1 _ _ ew _ d ((s12.trans s3).trans (same_new hd)) upd_same)
    | none =>
    exact ⟨_, rfl, rfl, _, rfl, iteF (q0 (by simp only [wrongB, e1, e2, e3]) H3 (s12.trans s3))⟩
end
end Vt
namespace Vt
open PySem PySem.Spec PyProof.Rows L2
/-! ### data that is alike -/
mutual
def D.sm : D → Bool
  | .lst ds => decide (ds.length ≤ 100000) && smAll ds
  | .tup ds => decide (ds.length ≤ 100000) && smAll ds
  | _ => true
def smAll : List D → Bool
  | [] => true
  | d :: ds => d.sm && smAll ds
end
theorem sm_get : ∀ {ds : List D} {i : Nat} {d : D}, smAll ds = true → ds[i]? = some d → d.sm = true
  | [], _, _, _, e => by simp at e
  | x :: r, 0, d, h, e => by
    simp only [List.getElem?_cons_zero, Option.some.injEq] at e
    rw [smAll, Bool.and_eq_true] at h
    subst e; exact h.1
  | x :: r, i + 1, d, h, e => by
    rw [smAll, Bool.and_eq_true] at h
    exact sm_get (ds := r) (i := i) h.2 (by simpa using e)
theorem sm_map {α : Type} {f : α → D} (h : ∀ x, (f x).sm = true) : ∀ xs : List α, smAll (xs.map f) = true
  | [] => by rw [List.map_nil, smAll]
  | x :: r => by rw [List.map_cons, smAll, h x, sm_map h r]; rfl
theorem sm_nD (n : Nat) : (nD n).sm = true := by simp [nD, D.sm]
end Vt
namespace Vt
open PySem PySem.Spec PyProof.Rows L2
section
variable {P : Program} {w : World} {K : PySem.W.Frag} {mg : Str → Option Value} {base : Heap}
abbrev st_law_alike : Stmt := (topS 34)
abbrev nm_law_alike : List Str := ["_law_found", "_law_due_here", "_law_k"]
theorem sc_law_alike : FnScope ["_law_found", "_law_due_here", "_law_k"] ["_law_found", "_law_due_here"] (defScope st_law_alike) := ⟨rfl, rfl, rfl, by decide +kernel, rfl, by decide +kernel, by decide +kernel⟩
def spAlike (n : Nat) : Sp := fun vs H Q _ => ∃ (u v : V) (d : D), vs = [u, v] ∧ Pd H u d ∧ Pd H v d ∧ d.dep < n ∧ d.sm = true ∧ Q (.bl true) H
/-- the alike of tuples or lists, from their lengths on -/
theorem alike_go {f : Addr} {fd : FuncData} (F : Fun K "_law_alike" "_law_alike" st_law_alike f fd) (n : Nat) (c_law_alike : Callee P w K mg base "_law_alike" n 2 (spAlike n)) (z_len : mg "len" = none) (z_range : mg "range" = none) (z_isinstance : mg "isinstance" = none)
    (z_bool : mg "bool" = none) (z_int : mg "int" = none) (z_str : mg "str" = none) (z_tuple : mg "tuple" = none) (z_list : mg "list" = none) : FnOk P w K mg base CX0 (n + 1) f fd ["_law_found", "_law_due_here"] (spAlike (n + 1)) := by
  refine F.ok sc_law_alike (fun vs H Q E h => ?_) (fun cdv A outer s H vs Q E hr h => ?_)
  · obtain ⟨u, v, d, rfl, _⟩ := h
    rfl
  · obtain ⟨u, v, d, rfl, hu, hv, hd, hs, q⟩ := h
    refine ⟨_, (pss_cons (ps_if (pt_cmpR op_isN (pv 1) pe_non (nomark _)) (pss_one (ps_ret (pe_cmpR op_isN (pv 0) pe_non (nomark _)))) pss_nil)
  (pss_cons (ps_if (pt_val (pe_callB call_isi (by rfl) z_isinstance (by decide +kernel) (pa_cons (pv 1) (pa_cons (pe_bltn (v := .ty "bool") rfl z_bool (by decide +kernel) rfl) pa_nil)))) (pss_one (ps_ret (pe_and (pe_callB call_isi (by rfl) z_isinstance (by decide +kernel) (pa_cons (pv 0) (pa_cons (pe_bltn (v := .ty "bool") rfl z_bool (by decide +kernel) rfl) pa_nil))) (pe_one (pe_cmpR op_eq (pv 0) (pv 1) (nomark _)))))) pss_nil)
  (pss_cons (ps_if (pt_val (pe_callB call_isi (by rfl) z_isinstance (by decide +kernel) (pa_cons (pv 1) (pa_cons (pe_bltn (v := .ty "int") rfl z_int (by decide +kernel) rfl) pa_nil)))) (pss_one (ps_ret (pe_and (pe_callB call_isi (by rfl) z_isinstance (by decide +kernel) (pa_cons (pv 0) (pa_cons (pe_bltn (v := .ty "int") rfl z_int (by decide +kernel) rfl) pa_nil))) (pe_and (pe_not (pe_callB call_isi (by rfl) z_isinstance (by decide +kernel) (pa_cons (pv 0) (pa_cons (pe_bltn (v := .ty "bool") rfl z_bool (by decide +kernel) rfl) pa_nil)))) (pe_one (pe_cmpR op_eq (pv 0) (pv 1) (nomark _))))))) pss_nil)
  (pss_cons (ps_if (pt_val (pe_callB call_isi (by rfl) z_isinstance (by decide +kernel) (pa_cons (pv 1) (pa_cons (pe_bltn (v := .ty "str") rfl z_str (by decide +kernel) rfl) pa_nil)))) (pss_one (ps_ret (pe_and (pe_callB call_isi (by rfl) z_isinstance (by decide +kernel) (pa_cons (pv 0) (pa_cons (pe_bltn (v := .ty "str") rfl z_str (by decide +kernel) rfl) pa_nil))) (pe_one (pe_cmpR op_eq (pv 0) (pv 1) (nomark _)))))) pss_nil)
  (pss_cons (ps_if (PW.pt (pw_or (pt_cmpR op_ne (pe_callB call_isi (by rfl) z_isinstance (by decide +kernel) (pa_cons (pv 1) (pa_cons (pe_bltn (v := .ty "tuple") rfl z_tuple (by decide +kernel) rfl) pa_nil))) (pe_callB call_isi (by rfl) z_isinstance (by decide +kernel) (pa_cons (pv 0) (pa_cons (pe_bltn (v := .ty "tuple") rfl z_tuple (by decide +kernel) rfl) pa_nil))) (nomark _)) (pw_or1 (pt_cmpR op_ne (pe_callB call_isi (by rfl) z_isinstance (by decide +kernel) (pa_cons (pv 1) (pa_cons (pe_bltn (v := .ty "list") rfl z_list (by decide +kernel) rfl) pa_nil))) (pe_callB call_isi (by rfl) z_isinstance (by decide +kernel) (pa_cons (pv 0) (pa_cons (pe_bltn (v := .ty "list") rfl z_list (by decide +kernel) rfl) pa_nil))) (nomark _))))) (pss_one (ps_ret pe_bl)) pss_nil)
  (pss_cons (ps_if (pt_cmpR op_ne (pe_callB call_len_seq (by rfl) z_len (by decide +kernel) (pa_cons (pv 0) pa_nil)) (pe_callB call_len_seq (by rfl) z_len (by decide +kernel) (pa_cons (pv 1) pa_nil)) (nomark _)) (pss_one (ps_ret pe_bl)) pss_nil)
  (pss_cons (ps_for PassesOwn.never rfl (pi_range1 (by rfl) z_range (pa_cons (pe_callB call_len_seq (by rfl) z_len (by decide +kernel) (pa_cons (pv 1) pa_nil)) pa_nil)) (pg_name (i := 2) sc_law_alike.nd rfl (Or.inl rfl))
  (pss_one (ps_if (pt_not (pt_val (pe_cal c_law_alike hr (by first | decide | exact Nat.le_refl _) (pa_cons (pe_ix ix_lt (pv 0) (pv 2) (fun _ _ => rfl)) (pa_cons (pe_ix ix_lt (pv 1) (pv 2) (fun _ _ => rfl)) pa_nil))))) (pss_one (ps_ret pe_bl)) pss_nil)))
  (pss_one (ps_ret pe_bl))))))))), ?_⟩
    cases d with
    | non =>
      cases hu; cases hv
      exact ⟨_, rfl, rfl, _, rfl, iteT ⟨_, rfl, rfl, q⟩⟩
    | bl b =>
      cases hu; cases hv
      refine ⟨_, rfl, rfl, _, rfl, iteF ?_⟩
      refine ⟨_, rfl, _, _, .type "bool", _, true, rfl, .ty _, .base (.bl b), kit_ty (by decide +kernel), _, rfl, iteT ?_⟩
      refine ⟨_, rfl, _, _, .type "bool", _, true, rfl, .ty _, .base (.bl b), kit_ty (by decide +kernel), _, rfl, iteT ?_⟩
      refine ⟨_, rfl, _, rfl, rfl, ?_⟩
      rw [decide_eq_true rfl]; exact q
    | int i =>
      cases hu; cases hv
      refine ⟨_, rfl, rfl, _, rfl, iteF ?_⟩
      refine ⟨_, rfl, _, _, .type "int", _, false, rfl, .ty _, .base (.int i), kit_ty (by decide +kernel), _, rfl, iteF ?_⟩
      refine ⟨_, rfl, _, _, .type "int", _, true, rfl, .ty _, .base (.int i), kit_ty (by decide +kernel), _, rfl, iteT ?_⟩
      refine ⟨_, rfl, _, _, .type "int", _, true, rfl, .ty _, .base (.int i), kit_ty (by decide +kernel), _, rfl, iteT ?_⟩
      refine ⟨_, rfl, _, _, .type "int", _, false, rfl, .ty _, .base (.int i), kit_ty (by decide +kernel), _, rfl, _, rfl, iteT ?_⟩
      refine ⟨_, rfl, _, rfl, rfl, ?_⟩
      rw [decide_eq_true rfl]; exact q
    | str x =>
      cases hu; cases hv
      refine ⟨_, rfl, rfl, _, rfl, iteF ?_⟩
      refine ⟨_, rfl, _, _, .type "str", _, false, rfl, .ty _, .base (.str x), kit_ty (by decide +kernel), _, rfl, iteF ?_⟩
      refine ⟨_, rfl, _, _, .type "str", _, false, rfl, .ty _, .base (.str x), kit_ty (by decide +kernel), _, rfl, iteF ?_⟩
      refine ⟨_, rfl, _, _, .type "str", _, true, rfl, .ty _, .base (.str x), kit_ty (by decide +kernel), _, rfl, iteT ?_⟩
      refine ⟨_, rfl, _, _, .type "str", _, true, rfl, .ty _, .base (.str x), kit_ty (by decide +kernel), _, rfl, iteT ?_⟩
      refine ⟨_, rfl, _, rfl, rfl, ?_⟩
      rw [decide_eq_true rfl]; exact q
    | tup ds =>
      simp only [D.sm, Bool.and_eq_true, decide_eq_true_eq] at hs
      rw [D.dep] at hd
      cases hu with
      | tup ha hxs =>
        cases hv with
        | tup hb hys =>
          rename_i a xs b ys
          refine ⟨_, rfl, rfl, _, rfl, iteF ?_⟩
          refine ⟨_, rfl, _, _, .type "tuple", _, false, rfl, .ty _, .base (.tup hb), kit_ty (by decide +kernel), _, rfl, iteF ?_⟩
          refine ⟨_, rfl, _, _, .type "tuple", _, false, rfl, .ty _, .base (.tup hb), kit_ty (by decide +kernel), _, rfl, iteF ?_⟩
          refine ⟨_, rfl, _, _, .type "tuple", _, false, rfl, .ty _, .base (.tup hb), kit_ty (by decide +kernel), _, rfl, iteF ?_⟩
          refine ⟨_, rfl, _, _, .type "tuple", _, true, rfl, .ty _, .base (.tup hb), kit_ty (by decide +kernel), _, rfl, _, _, .type "tuple", _, true, rfl, .ty _, .base (.tup ha), kit_ty (by decide +kernel), rfl, _, rfl, iteF ?_⟩
          refine ⟨_, rfl, _, _, .type "tuple", _, false, rfl, .ty _, .base (.tup hb), kit_ty (by decide +kernel), _, rfl, _, _, .type "tuple", _, false, rfl, .ty _, .base (.tup ha), kit_ty (by decide +kernel), rfl, _, rfl, iteF ?_⟩
          refine ⟨_, rfl, a, _, rfl, .inr (sqT_t ha), _, rfl, b, _, rfl, .inr (sqT_t hb), rfl, _, rfl, ite2 (fun e => ?_) (fun _ => ?_)⟩
          · rw [hxs.len, hys.len] at e
            simp at e
          · refine ⟨_, rfl, b, _, rfl, .inr (sqT_t hb), _, rfl, by omega, by have := hys.len; omega, ?_⟩
            refine for_it (walk_range (lo := 0) (n := (ys.length : Int).toNat)) (fun i σ H' => ∃ y, σ = [some (.ref a), some (.ref b), y] ∧ H' = H) ⟨_, rfl, rfl⟩ (fun _ _ _ _ _ => trivial) (fun i x σ H1 H2 hi hp hy => ?_) (fun σ H1 hp => ?_)
            · obtain ⟨y, rfl, rfl⟩ := hp
              obtain ⟨rfl, rfl⟩ := hy
              have hi' : i < ys.length := by simpa using hi
              obtain ⟨d, hd1, py⟩ := hys.get' (List.getElem?_eq_getElem hi')
              obtain ⟨x, hx, px⟩ := hxs.get hd1
              have e0 : ((0 : Int) + (i : Int)) = (i : Nat) := by omega
              refine ⟨_, rfl, _, rfl, a, xs, (0 + (i : Int)), x, rfl, rfl, sqA_t ha, by rw [e0]; exact atI_nat hx, _, rfl, _, rfl, b, ys, (0 + (i : Int)), _, rfl, rfl, sqA_t hb, by rw [e0]; exact atI_nat (List.getElem?_eq_getElem hi'), ?_⟩
              refine ⟨_, _, d, rfl, px, py, by have := deps_get hd1; omega, sm_get hs.2 hd1, _, rfl, iteF ?_⟩
              exact ⟨_, rfl, rfl⟩
            · obtain ⟨y, rfl, rfl⟩ := hp
              exact q
    | lst ds =>
      simp only [D.sm, Bool.and_eq_true, decide_eq_true_eq] at hs
      rw [D.dep] at hd
      cases hu with
      | lst ha hxs =>
        cases hv with
        | lst hb hys =>
          rename_i a xs b ys
          refine ⟨_, rfl, rfl, _, rfl, iteF ?_⟩
          refine ⟨_, rfl, _, _, .type "list", _, false, rfl, .ty _, .base (.lst hb), kit_ty (by decide +kernel), _, rfl, iteF ?_⟩
          refine ⟨_, rfl, _, _, .type "list", _, false, rfl, .ty _, .base (.lst hb), kit_ty (by decide +kernel), _, rfl, iteF ?_⟩
          refine ⟨_, rfl, _, _, .type "list", _, false, rfl, .ty _, .base (.lst hb), kit_ty (by decide +kernel), _, rfl, iteF ?_⟩
          refine ⟨_, rfl, _, _, .type "list", _, false, rfl, .ty _, .base (.lst hb), kit_ty (by decide +kernel), _, rfl, _, _, .type "list", _, false, rfl, .ty _, .base (.lst ha), kit_ty (by decide +kernel), rfl, _, rfl, iteF ?_⟩
          refine ⟨_, rfl, _, _, .type "list", _, true, rfl, .ty _, .base (.lst hb), kit_ty (by decide +kernel), _, rfl, _, _, .type "list", _, true, rfl, .ty _, .base (.lst ha), kit_ty (by decide +kernel), rfl, _, rfl, iteF ?_⟩
          refine ⟨_, rfl, a, _, rfl, .inl (sqL_l ha), _, rfl, b, _, rfl, .inl (sqL_l hb), rfl, _, rfl, ite2 (fun e => ?_) (fun _ => ?_)⟩
          · rw [hxs.len, hys.len] at e
            simp at e
          · refine ⟨_, rfl, b, _, rfl, .inl (sqL_l hb), _, rfl, by omega, by have := hys.len; omega, ?_⟩
            refine for_it (walk_range (lo := 0) (n := (ys.length : Int).toNat)) (fun i σ H' => ∃ y, σ = [some (.ref a), some (.ref b), y] ∧ H' = H) ⟨_, rfl, rfl⟩ (fun _ _ _ _ _ => trivial) (fun i x σ H1 H2 hi hp hy => ?_) (fun σ H1 hp => ?_)
            · obtain ⟨y, rfl, rfl⟩ := hp
              obtain ⟨rfl, rfl⟩ := hy
              have hi' : i < ys.length := by simpa using hi
              obtain ⟨d, hd1, py⟩ := hys.get' (List.getElem?_eq_getElem hi')
              obtain ⟨x, hx, px⟩ := hxs.get hd1
              have e0 : ((0 : Int) + (i : Int)) = (i : Nat) := by omega
              refine ⟨_, rfl, _, rfl, a, xs, (0 + (i : Int)), x, rfl, rfl, sqA_l ha, by rw [e0]; exact atI_nat hx, _, rfl, _, rfl, b, ys, (0 + (i : Int)), _, rfl, rfl, sqA_l hb, by rw [e0]; exact atI_nat (List.getElem?_eq_getElem hi'), ?_⟩
              refine ⟨_, _, d, rfl, px, py, by have := deps_get hd1; omega, sm_get hs.2 hd1, _, rfl, iteF ?_⟩
              exact ⟨_, rfl, rfl⟩
            · obtain ⟨y, rfl, rfl⟩ := hp
              exact q
end
end Vt
namespace Vt
open PySem PySem.Spec PyProof.Rows L2
def kindWords : List Str := ["set", "set", "add", "say", "say", "start", "start", "wait", "clean", "drop"]
section
variable {P : Program} {w : World} {K : PySem.W.Frag} {mg : Str → Option Value} {base : Heap}
abbrev st_law_kinds : Stmt := (topS 48)
abbrev nm_law_kinds : List Str := []
theorem sc_law_kinds : FnScope [] [] (defScope st_law_kinds) := ⟨rfl, rfl, rfl, by decide +kernel, rfl, by decide +kernel, by decide +kernel⟩
def spKinds (ws : List Str) : Sp := fun vs H Q _ => vs = [] ∧ ∀ (H' : Hp) (p : Addr), Same H H' → H p = none → H' p = some (.lst (ws.map V.str)) → Q (.ref p) H'
theorem ok_kinds {f : Addr} {fd : FuncData} (F : Fun K "_law_kinds" "_law_kinds" st_law_kinds f fd) : FnOk P w K mg base CX0 1 f fd [] (spKinds kindWords) := by
  refine F.ok sc_law_kinds (fun vs H Q E h => ?_) (fun cdv A outer s H vs Q E hr h => ?_)
  · obtain ⟨rfl, _⟩ := h
    rfl
  · obtain ⟨rfl, q⟩ := h
    refine ⟨_, (pss_one (ps_ret (pe_lst (pa_cons pe_str (pa_cons pe_str (pa_cons pe_str (pa_cons pe_str (pa_cons pe_str (pa_cons pe_str (pa_cons pe_str (pa_cons pe_str (pa_cons pe_str (pa_cons pe_str pa_nil))))))))))))), ?_⟩
    exact ⟨by show 10 ≤ sizeLine; decide, fun p np => q _ p (same_new np) np upd_same⟩
end
end Vt
namespace Vt
open PySem PySem.Spec PyProof.Rows L2
theorem iteT' {p q : Prop} {b : Bool} (e : b = true) (h : p) : if b = true then p else q := by rw [if_pos e]; exact h
theorem iteF' {p q : Prop} {b : Bool} (e : b = false) (h : q) : if b = true then p else q := by rw [if_neg (by rw [e]; decide)]; exact h
theorem inV2 {w a b : Str} : inV (.str w) [.str a, .str b] = decide (w = a ∨ w = b) := by
  unfold inV
  simp only [List.any_cons, List.any_nil, eqV, Bool.or_false]
  rw [Bool.eq_iff_iff, Bool.or_eq_true, decide_eq_true_iff, beq_iff_eq, beq_iff_eq]
  constructor <;> (rintro (h | h) <;> simp [h])
theorem inV3 {w a b c : Str} : inV (.str w) [.str a, .str b, .str c] = decide (w = a ∨ w = b ∨ w = c) := by
  unfold inV
  simp only [List.any_cons, List.any_nil, eqV, Bool.or_false]
  rw [Bool.eq_iff_iff, Bool.or_eq_true, Bool.or_eq_true, decide_eq_true_iff, beq_iff_eq, beq_iff_eq, beq_iff_eq]
  constructor <;> (rintro (h | h | h) <;> simp [h])
end Vt
namespace Vt
open PySem PySem.Spec PyProof.Rows L2
theorem sl_tupk {X : Cx} (K : PySem.W.Frag) (h : X.K = K := by rfl) : SlR X (rSlT K) := by
  subst h
  exact sl_tup
/-! ### boards as texts -/
def nT (n : Nat) : Str := Str.ofString (toString (n : Int))
def oT : Option Nat → Str
  | none => "-"
  | some n => nT n
def Small (os : List (Option Nat)) : Prop := ∀ o ∈ os, ∀ n, o = some n → n < 17
def rowT (w : Str) (os : List (Option Nat)) : Str := Txt.join " " (w :: os.map oT)
def Ord.nums (o : Ord) : List (Option Nat) := [some o.src, some o.goal, some o.many, o.later]
def ordRow (o : Ord) : Str := rowT "order" o.nums
def deedRow (d : Deed) : Str := rowT d.word (d.args.map some)
def rowsT (B : Brd) : List Str := rowT "memory" (B.mem.map some) :: (B.ords.map ordRow ++ B.prog.map deedRow)
def textT (B : Brd) : Str := Txt.join "\n" (rowsT B)
def plainW (z : Str) : Bool := (TL.tl z).all fun c => decide (33 ≤ c) && decide (c < 128)
theorem num_plain : ∀ n : Nat, n < 17 → plainW (nT n) = true := by decide +kernel
theorem num_len : ∀ n : Nat, n < 17 → (nT n).length ≤ 2 ∧ 0 < (nT n).length := by decide +kernel
theorem num_int : ∀ n : Nat, n < 17 → intText? (nT n) = some (n : Int) := by decide +kernel
theorem num_digit : ∀ n : Nat, n < 17 → Txt.isdigit (nT n) = true ∧ Txt.isascii (nT n) = true := by decide +kernel
theorem num_dash : ∀ n : Nat, n < 17 → decide (nT n = ("-" : Str)) = false := by decide +kernel
theorem num_head : ∀ n : Nat, n < 17 → ∃ c, (nT n).cps.toList[0]? = some c ∧ (decide (nT n = ("0" : Str)) = true ∨ decide ((⟨#[c]⟩ : Str) = ("0" : Str)) = false) := by
  intro n hn
  have h : ∀ n : Nat, n < 17 → ((nT n).cps.toList.headD 0 = 48 → decide (nT n = ("0" : Str)) = true) := by decide +kernel
  cases e : (nT n).cps.toList with
  | nil =>
    have := (num_len n hn).2
    rw [TL.len_tl] at this
    simp [e] at this
  | cons c r =>
    refine ⟨c, rfl, ?_⟩
    by_cases hc : c = 48
    · have := h n hn
      rw [e] at this
      exact .inl (this hc)
    · refine .inr (decide_eq_false fun z => hc ?_)
      have e0 : ("0" : Str) = ⟨#[48]⟩ := by decide +kernel
      rw [e0] at z
      injection z with z
      simpa using z
theorem oT_plain {os : List (Option Nat)} (h : Small os) : ∀ p ∈ os.map oT, plainW p = true := fun p hp => by
  obtain ⟨o, ho, rfl⟩ := List.mem_map.mp hp
  cases o with
  | none => decide +kernel
  | some n => exact num_plain n (h _ ho n rfl)
theorem oT_len {os : List (Option Nat)} (h : Small os) : ∀ p ∈ os.map oT, p.length ≤ 2 := fun p hp => by
  obtain ⟨o, ho, rfl⟩ := List.mem_map.mp hp
  cases o with
  | none => decide +kernel
  | some n => exact (num_len n (h _ ho n rfl)).1
theorem plain_no {z : Str} (h : plainW z = true) {c : Nat} (hc : c < 33) : ¬ c ∈ TL.tl z := fun m => by
  have := List.all_eq_true.mp h c m
  simp at this; omega
theorem word_plain (d : Deed) : plainW d.word = true ∧ d.word.length ≤ 6 := by
  have h : ∀ w ∈ (["set", "add", "say", "start", "wait", "clean", "drop"] : List Str), plainW w = true ∧ w.length ≤ 6 := by decide +kernel
  refine h _ ?_
  cases d <;> simp [Deed.word]
theorem split_row {w : Str} {os : List (Option Nat)} (hw : plainW w = true) (h : Small os) : Txt.split (rowT w os) " " = w :: os.map oT := by
  refine TL.split_join (y := " ") (s := 32) (S := []) (by decide +kernel) (by decide +kernel) (by simp) fun p hp => ?_
  rcases List.mem_cons.mp hp with rfl | hp
  · exact plain_no hw (by decide)
  · exact plain_no (oT_plain h p hp) (by decide)
theorem join_one (y p : Str) : Txt.join y [p] = p := rfl
theorem join_two (y p q : Str) (r : List Str) : Txt.join y (p :: q :: r) = Txt.join y ((p ++ y ++ q) :: r) := rfl
theorem join_snoc (y : Str) : ∀ (ps : List Str) (p q : Str), Txt.join y (p :: (ps ++ [q])) = Txt.join y (p :: ps) ++ y ++ q
  | [], p, q => rfl
  | a :: r, p, q => by
    rw [List.cons_append, join_two, join_two, join_snoc y r]
theorem app_len (a b : Str) : (a ++ b).length = a.length + b.length := by
  show (Str.append a b).cps.size = a.cps.size + b.cps.size
  simp [Str.append]
theorem tl_app (a b : Str) : TL.tl (a ++ b) = TL.tl a ++ TL.tl b := by
  show (Str.append a b).cps.toList = a.cps.toList ++ b.cps.toList
  simp [Str.append]
theorem join_len (y : Str) (k : Nat) : ∀ (ps : List Str) (p : Str), (∀ q ∈ ps, q.length ≤ k) → (Txt.join y (p :: ps)).length ≤ p.length + ps.length * (k + y.length)
  | [], p, _ => by rw [join_one]; simp
  | a :: r, p, h => by
    rw [join_two]
    have h1 := join_len y k r (p ++ y ++ a) fun q hq => h q (List.mem_cons_of_mem _ hq)
    have h2 := h a (List.mem_cons_self ..)
    rw [app_len, app_len] at h1
    have e : (a :: r).length * (k + y.length) = r.length * (k + y.length) + (k + y.length) := by rw [List.length_cons, Nat.succ_mul]
    omega
theorem join_mem (y : Str) (c : Nat) (hy : ¬ c ∈ TL.tl y) : ∀ (ps : List Str) (p : Str), ¬ c ∈ TL.tl p → (∀ q ∈ ps, ¬ c ∈ TL.tl q) → ¬ c ∈ TL.tl (Txt.join y (p :: ps))
  | [], p, hp, _ => by rw [join_one]; exact hp
  | a :: r, p, hp, h => by
    rw [join_two]
    refine join_mem y c hy r _ ?_ fun q hq => h q (List.mem_cons_of_mem _ hq)
    rw [tl_app, tl_app]
    intro m
    rcases List.mem_append.mp m with m | m
    · rcases List.mem_append.mp m with m | m
      · exact hp m
      · exact hy m
    · exact h a (List.mem_cons_self ..) m
theorem row_line {w : Str} {os : List (Option Nat)} (hw : plainW w = true) (h : Small os) : ¬ 10 ∈ TL.tl (rowT w os) :=
  join_mem " " 10 (by decide +kernel) _ _ (plain_no hw (by decide)) fun q hq => plain_no (oT_plain h q hq) (by decide)
theorem row_len {w : Str} {os : List (Option Nat)} (hw : w.length ≤ 6) (h : Small os) : (rowT w os).length ≤ 6 + 3 * os.length := by
  have := join_len " " 2 (os.map oT) w (oT_len h)
  rw [List.length_map, show (" " : Str).length = 1 by decide +kernel] at this
  unfold rowT; omega
theorem row_snoc {w : Str} {os : List (Option Nat)} {o : Option Nat} : rowT w (os ++ [o]) = rowT w os ++ " " ++ oT o := by
  unfold rowT
  rw [List.map_append]; exact join_snoc _ _ _ _
/-- boards' numbers are small -/
theorem mem_small {B : Brd} (ok : BrdOk B) : Small (B.mem.map some) := fun o ho n e => by
  obtain ⟨m, hm, rfl⟩ := List.mem_map.mp ho
  cases e
  have := ok.nums _ hm; omega
theorem ord_small {B : Brd} (ok : BrdOk B) {i : Nat} {o : Ord} (h : B.ords[i]? = some o) : Small o.nums := fun x hx n e => by
  have k := ok.ords i o h
  have c : B.mem.length ≤ 16 := by
    rcases ok.cells with h | h | h | h <;> omega
  have f := ok.four
  obtain ⟨k1, k2, k3, k4, k5⟩ := k
  simp only [Ord.nums, List.mem_cons, List.not_mem_nil, or_false] at hx
  rcases hx with rfl | rfl | rfl | rfl
  · cases e; omega
  · cases e; omega
  · cases e; omega
  · have := k5 n e; omega
theorem deed_small {B : Brd} (ok : BrdOk B) {d : Deed} (h : d ∈ B.prog) : Small (d.args.map some) := fun x hx n e => by
  have k := ok.prog d h
  have c : B.mem.length ≤ 16 := by rcases ok.cells with h | h | h | h <;> omega
  have f := ok.four
  obtain ⟨m, hm, rfl⟩ := List.mem_map.mp hx
  cases e
  cases d <;> simp only [Deed.args, List.mem_cons, List.not_mem_nil, or_false] at hm <;> simp only [DeedOk] at k
  all_goals first | omega | (rcases hm with rfl | rfl <;> omega)
theorem rows_all {B : Brd} (ok : BrdOk B) : ∀ r ∈ rowsT B, ¬ 10 ∈ TL.tl r ∧ r.length ≤ 54 := fun r hr => by
  have c : B.mem.length ≤ 16 := by
    rcases ok.cells with h | h | h | h <;> omega
  unfold rowsT at hr
  rcases List.mem_cons.mp hr with rfl | hr
  · have h := mem_small ok
    have l := row_len (w := "memory") (by decide +kernel) h
    rw [List.length_map] at l
    exact ⟨row_line (by decide +kernel) h, by omega⟩
  · rcases List.mem_append.mp hr with hr | hr
    · obtain ⟨o, ho, rfl⟩ := List.mem_map.mp hr
      obtain ⟨i, hi⟩ := List.mem_iff_getElem?.mp ho
      have h := ord_small ok hi
      have l := row_len (w := "order") (by decide +kernel) h
      simp only [Ord.nums, List.length_cons, List.length_nil] at l
      exact ⟨row_line (by decide +kernel) h, by unfold ordRow Ord.nums; omega⟩
    · obtain ⟨d, hd, rfl⟩ := List.mem_map.mp hr
      have h := deed_small ok hd
      obtain ⟨w1, w2⟩ := word_plain d
      have l := row_len w2 h
      have a : d.args.length ≤ 2 := by cases d <;> simp [Deed.args]
      rw [List.length_map] at l
      exact ⟨row_line w1 h, by unfold deedRow; omega⟩
theorem split_text {B : Brd} (ok : BrdOk B) : Txt.split (textT B) "\n" = rowsT B :=
  TL.split_join (y := "\n") (s := 10) (S := []) (by decide +kernel) (by decide +kernel) (by simp [rowsT]) fun p hp => (rows_all ok p hp).1
theorem rows_len {B : Brd} (ok : BrdOk B) : (rowsT B).length ≤ 65 := by
  have := ok.four
  have := ok.sixty
  simp only [rowsT, List.length_cons, List.length_append, List.length_map]; omega
theorem text_len {B : Brd} (ok : BrdOk B) : (textT B).length ≤ 4000 := by
  have h := join_len "\n" 54 (B.ords.map ordRow ++ B.prog.map deedRow) (rowT "memory" (B.mem.map some)) fun q hq => (rows_all ok q (List.mem_cons_of_mem _ hq)).2
  have h2 := (rows_all ok (rowT "memory" (B.mem.map some)) (List.mem_cons_self ..)).2
  have h3 := rows_len ok
  rw [show ("\n" : Str).length = 1 by decide +kernel] at h
  unfold textT rowsT
  simp only [rowsT, List.length_cons] at h3
  omega
theorem sum_le (k : Nat) : ∀ ps : List Str, (∀ q ∈ ps, q.length ≤ k) → (ps.map (·.length)).sum ≤ ps.length * k
  | [], _ => by simp
  | a :: r, h => by
    have h1 := sum_le k r fun q hq => h q (List.mem_cons_of_mem _ hq)
    have h2 := h a (List.mem_cons_self ..)
    simp only [List.map_cons, List.sum_cons, List.length_cons, Nat.succ_mul]
    omega
end Vt
namespace Vt
open PySem PySem.Spec PyProof.Rows L2
/-! ### d.update(e), both of int and text keys -/
def tDUpd (td te : TE) : TE := fun σ H Q => td σ H fun x H1 => ∃ a, x = .ref a ∧ IsD H1 a ∧ te σ H1 fun y H2 => ∃ b kvs more, y = .ref b ∧ a ≠ b ∧ H2 a = some (.dK kvs) ∧ H2 b = some (.dK more) ∧ kvs.length + more.length ≤ sizeLine ∧ Q .non (upd H2 a (.dK (mergeK kvs more)))
section
variable {X : Cx} {o e : Expr} {apos cpos : Pos} {td ty : TE}
theorem pe_dupd (ho : PE X o td) (he : PE X e ty) (m : M1 X o "update" apos e cpos) : PE X (.Call (.Attribute o "update" apos) [e] [] cpos) (tDUpd td ty) := by
  refine ⟨fun pins s σ H Q I h => ?_⟩
  refine wpAny_Call_method m.base m.few m.line PySem.F.plainAttrs_dict PySem.F.slot_dict_update PySem.F.type_dict_update (thn (ho.run pins s σ H _ I h) fun u s1 ⟨x, H1, I1, rx, a, ex, d, q1⟩ => ?_)
  subst ex
  obtain rfl : u = Value.ref a := rx
  obtain ⟨t1, t2, _⟩ := isD_at I1 d
  refine ⟨t1, t2, ?_⟩
  rw [m.trees]
  refine Calls.callWith_builtin rfl (Calls.evalArgs_plain (Calls.spliced_cons (thn (he.run pins s1 σ H1 _ I1 q1) fun iv s2 ⟨y, H2, I2, ry, b, kvs, more, ey, ne, ea, eb, hz, q2⟩ => Calls.spliced_nil ?_)))
  subst ey
  obtain rfl : iv = Value.ref b := ry
  obtain ⟨z1, hd1, vs1, rel1, dd1⟩ := dk_of I2.hok ea
  obtain ⟨z2, hd2, vs2, rel2, dd2⟩ := dk_of I2.hok eb
  refine call_meetsIn PySem.F.slot_dict_update dd1.typeIs PySem.F.entry_dict_update (PySem.F.args_dict_update_2 _ _) (meets_dict_update (mixKind X.prog X.w) a b ne hd2)
    ⟨vs1, vs2, dd1, dd2, by rw [← rel1.length, ← rel2.length]; exact hz, fun h' dd' dd2' hs => ⟨.non, _, ?_, rfl, q2⟩⟩
  have he : ∃ q, h'.get? a = some q := let ⟨q, _, _, hq, _⟩ := dd'; ⟨q, hq⟩
  exact d_write I2 (by rw [ea]; exact True.intro) hs he (dk_new (Nat.le_trans (length_mergeK more kvs) hz) hd1 (KV.merge rel2 rel1) dd')
end
end Vt
namespace Vt
open PySem PySem.Spec PyProof.Rows L2
theorem call_list_ofk {X : Cx} (K : PySem.W.Frag) (h : X.K = K := by rfl) : CallR X (.type "list") (fun xs H Q => ∃ p ys, xs = [.ref p] ∧ (SqL K H p ys ∨ SqT K H p ys) ∧ ∀ l, H l = none → Q (.ref l) (upd H l (.lst ys))) := by
  subst h
  exact call_list_of
theorem call_tuple_ofk {X : Cx} (K : PySem.W.Frag) (h : X.K = K := by rfl) : CallR X (.type "tuple") (fun xs H Q => ∃ p ys, xs = [.ref p] ∧ ((SqL K H p ys ∧ ∀ l, H l = none → Q (.ref l) (upd H l (.tup ys))) ∨ (SqT K H p ys ∧ Q (.ref p) H))) := by
  subst h
  exact call_tuple_of
/-- xs != [], whatever the items are -/
def rNeNil : R2 := fun x y H Q => ∃ a b xs, x = .ref a ∧ y = .ref b ∧ H a = some (.lst xs) ∧ H b = some (.lst []) ∧ Q (.bl (!xs.isEmpty)) H
theorem op_neNil {X : Cx} (hu : X.A.units + 64 < cLine) : OpR X (compareOp .NotEq) rNeNil := by
  intro pins s σ H x y v u Q I rx ry h
  obtain ⟨a, b, xs, rfl, rfl, hA, hB, q⟩ := h
  cases rx
  cases ry
  obtain ⟨z, its, n, r, hl, e⟩ := I.lstM hA
  obtain ⟨z2, its2, n2, r2, hl2, e2⟩ := I.lstM hB
  cases r2
  have l1 : s.heap.IsList a its.toArray := ⟨_, e, rfl, n, rfl⟩
  have l2 : s.heap.IsList b ([] : List Value).toArray := ⟨_, e2, rfl, n2, rfl⟩
  have key : SeqAt.RcNeAt X.A s (.ref a) (.ref b) (!xs.isEmpty) := by
    cases its with
    | nil =>
      cases r
      exact SeqAt.RcNeAt.lists (e := fun _ => true) l1 l2 rfl (by omega) (fun j h1 _ => absurd h1 (by simp))
    | cons i t =>
      cases r
      exact SeqAt.RcNeAt.lists_lengths l1 l2 (by simp) (by omega)
  exact key _ _ _ _ ⟨.bl _, H, I, rfl, q⟩
theorem valV_get {kvs : List (Key × V)} : ∀ {j : Nat} {k : Key} {v : V}, (kvs.map (·.1)).Nodup → kvs[j]? = some (k, v) → valV kvs k = some v := by
  induction kvs with
  | nil => intro j k v _ h; simp at h
  | cons p r ih =>
    intro j k v nd h
    obtain ⟨n1, n2⟩ := List.nodup_cons.mp (show (p.1 :: r.map (·.1)).Nodup from nd)
    cases j with
    | zero =>
      simp only [List.getElem?_cons_zero, Option.some.injEq] at h
      subst h; exact valV_pos rfl
    | succ j =>
      have h' : r[j]? = some (k, v) := by simpa using h
      rw [valV_neg (fun z => n1 (by rw [z]; exact List.mem_map.mpr ⟨(k, v), List.mem_of_getElem? h', rfl⟩))]
      exact ih n2 h'
theorem mergeK_nil : ∀ {more kvs : List (Key × V)}, ((kvs ++ more).map (·.1)).Nodup → mergeK kvs more = kvs ++ more
  | [], kvs, _ => by rw [List.append_nil]; rfl
  | p :: r, kvs, nd => by
    have hn : valV kvs p.1 = none := by
      cases e : valV kvs p.1 with
      | none => rfl
      | some v =>
        exfalso
        rw [List.map_append, List.nodup_append] at nd
        have hm : p.1 ∈ kvs.map (·.1) := by
          have := valV_any p.1 kvs
          rw [e] at this
          obtain ⟨q, hq, hq2⟩ := List.any_eq_true.mp this
          exact List.mem_map.mpr ⟨q, hq, of_decide_eq_true hq2⟩
        exact nd.2.2 _ hm _ (by simp) rfl
    have hp : putK kvs p.1 p.2 = kvs ++ [p] := by
      unfold putK
      rw [if_neg (by rw [valV_any, hn]; simp)]
    show mergeK (putK kvs p.1 p.2) r = _
    rw [hp, mergeK_nil (by rw [List.append_assoc]; exact nd), List.append_assoc]; rfl
end Vt
namespace Vt
open PySem PySem.Spec PyProof.Rows L2
/-! ### any text read as a board -/
theorem cap_two {y : Str} {s : Nat} (ey : TL.tl y = [s]) : y.length = 1 := by rw [TL.len_tl, ey]; rfl
theorem spl_one_join {s : Nat} : ∀ (l acc : List Nat), TL.joinL [s] (TL.spl [s] 0 acc l) = acc ++ l ∧ TL.spl [s] 0 acc l ≠ []
  | [], acc => by rw [TL.spl_nil, List.append_nil]; exact ⟨rfl, by simp⟩
  | c :: r, acc => by
    by_cases h : c = s
    · subst h
      rw [TL.spl_hit (by show ((c :: r).take 1 == [c]) = true; simp)]
      obtain ⟨h1, h2⟩ := spl_one_join (s := c) r []
      refine ⟨?_, by simp⟩
      show TL.joinL [c] (acc :: TL.spl [c] 0 [] r) = _
      cases e : TL.spl [c] 0 [] r with
      | nil => exact absurd e h2
      | cons p q =>
        rw [e] at h1
        show acc ++ ([c] ++ TL.joinL [c] (p :: q)) = _
        rw [h1]; simp
    · rw [TL.spl_miss (TL.pre_of_head [] r h)]
      obtain ⟨h1, h2⟩ := spl_one_join (s := s) r (acc ++ [c])
      exact ⟨by rw [h1, List.append_assoc]; rfl, h2⟩
theorem join_split {x y : Str} {s : Nat} (ey : TL.tl y = [s]) (hk : y.cps.all (· < 256) = true) : Txt.join y (Txt.split x y) = x ∧ Txt.split x y ≠ [] := by
  have e := TL.split_spl x y (by rw [ey]; simp) (TL.kind_ok hk)
  rw [ey] at e
  obtain ⟨h1, h2⟩ := spl_one_join (s := s) (TL.tl x) []
  refine ⟨TL.ext_tl ?_, fun z => h2 ?_⟩
  · rw [TL.join_eq, TL.tl_join, ey, e, h1]; rfl
  · rw [← e, z]; rfl
/-- how long a joined text is -/
def jl (ys : List Str) : Nat := (ys.map (·.length)).sum + (ys.length - 1)
theorem join_cons (y p : Str) (hy : y.length = 1) : ∀ (ps : List Str), (Txt.join y (p :: ps)).length = p.length + (ps.map fun q => q.length + 1).sum
  | [] => by rw [join_one]; simp
  | a :: r => by
    rw [join_two, join_cons y _ hy r, app_len, app_len, hy, List.map_cons, List.sum_cons]; omega
theorem sum_one : ∀ ps : List Str, (ps.map fun q => q.length + 1).sum = (ps.map (·.length)).sum + ps.length
  | [] => rfl
  | a :: r => by simp only [List.map_cons, List.sum_cons, List.length_cons, sum_one r]; omega
theorem join_jl {y : Str} (hy : y.length = 1) : ∀ ys : List Str, (Txt.join y ys).length = jl ys
  | [] => rfl
  | p :: ps => by
    rw [join_cons y p hy, sum_one, jl]
    simp only [List.map_cons, List.sum_cons, List.length_cons]; omega
theorem nl_ok : TL.tl ("\n" : Str) = [10] ∧ ("\n" : Str).cps.all (· < 256) = true := ⟨by decide +kernel, by decide +kernel⟩
theorem bl_ok : TL.tl (" " : Str) = [32] ∧ (" " : Str).cps.all (· < 256) = true := ⟨by decide +kernel, by decide +kernel⟩
/-- the rows of a text -/
theorem rows_jl (x : Str) : jl (Txt.split x "\n") = x.length ∧ Txt.split x "\n" ≠ [] := by
  obtain ⟨h1, h2⟩ := join_split (x := x) nl_ok.1 nl_ok.2
  exact ⟨by rw [← join_jl (cap_two nl_ok.1), h1], h2⟩
theorem words_jl (x : Str) : jl (Txt.split x " ") = x.length ∧ Txt.split x " " ≠ [] := by
  obtain ⟨h1, h2⟩ := join_split (x := x) bl_ok.1 bl_ok.2
  exact ⟨by rw [← join_jl (cap_two bl_ok.1), h1], h2⟩
theorem jl_len {ys : List Str} : ys.length ≤ jl ys + 1 := by unfold jl; omega
theorem jl_mem {ys : List Str} {p : Str} (h : p ∈ ys) : p.length ≤ jl ys := by
  have : p.length ≤ (ys.map (·.length)).sum := by
    induction ys with
    | nil => cases h
    | cons a r ih =>
      simp only [List.map_cons, List.sum_cons]
      rcases List.mem_cons.mp h with rfl | h
      · omega
      · have := ih h; omega
  unfold jl; omega
theorem jl_sum {ys : List Str} : (ys.map (·.length)).sum ≤ jl ys := by unfold jl; omega
/-! ### words -/
def digs (z : Str) : Bool := z.cps.toList.all fun c => decide (48 ≤ c) && decide (c ≤ 57)
def numOk (z : Str) : Bool := decide (z.length ≠ 0) && decide (z.length ≤ 9) && digs z && (decide (z = ("0" : Str)) || decide (z.cps.toList[0]? ≠ some 48))
def numN (z : Str) : Nat := NumText.digitsVal z.cps.toList
theorem num_text {z : Str} (h : digs z = true) (h0 : z.length ≠ 0) (h9 : z.length ≤ 9) : intText? z = some ((numN z : Nat) : Int) := by
  refine PySem.intText_digits (fun c hc => ?_) (fun e => h0 ?_) (by omega)
  · have := List.all_eq_true.mp h c hc
    simpa using this
  · rw [TL.len_tl, TL.tl, e]; rfl
theorem digs_is {z : Str} : (Txt.isascii z && Txt.isdigit z) = (decide (z.length ≠ 0) && digs z) := by
  have key : ∀ l : List Nat, ((l.all fun c => decide (c < 128)) && l.all Unicode.isDigit) = l.all fun c => decide (48 ≤ c) && decide (c ≤ 57) := by
    have k : ∀ n : _root_.Fin 128, Unicode.isDigit n.val = (decide (48 ≤ n.val) && decide (n.val ≤ 57)) := by decide +kernel
    intro l
    induction l with
    | nil => rfl
    | cons c r ih =>
      simp only [List.all_cons]
      rw [← ih]
      by_cases hc : c < 128
      · have := k ⟨c, hc⟩
        dsimp only at this
        rw [this, decide_eq_true hc]
        cases (r.all fun c => decide (c < 128)) <;> cases (r.all Unicode.isDigit) <;> cases decide (48 ≤ c) <;> cases decide (c ≤ 57) <;> rfl
      · rw [decide_eq_false hc, show decide (c ≤ 57) = false from decide_eq_false (by omega)]
        simp
  have e := key z.cps.toList
  have g1 : Txt.isascii z = z.cps.toList.all fun c => decide (c < 128) := by
    unfold Txt.isascii
    rw [← Array.all_toList]
  have g2 : Txt.isdigit z = (decide (z.length ≠ 0) && z.cps.toList.all Unicode.isDigit) := by
    unfold Txt.isdigit
    rw [← Array.all_toList]
    congr 1
    by_cases h : z.length = 0
    · simp [h]
    · simp [h]; omega
  rw [g1, g2, digs, ← e]
  cases decide (z.length ≠ 0) <;> cases (z.cps.toList.all fun c => decide (c < 128)) <;> cases (z.cps.toList.all Unicode.isDigit) <;> rfl
theorem num_not_dash {z : Str} (h : numOk z = true) : z ≠ ("-" : Str) := fun e => by
  rw [e] at h
  exact absurd h (by decide +kernel)
/-- what a word of an order's end says -/
def numO (z : Str) : Option Int := if numOk z = true then some (numN z : Int) else none
theorem numO_ok {z : Str} (h : numOk z = true) : numO z = some (numN z : Int) := if_pos h
theorem dash_no : numOk ("-" : Str) = false := by decide +kernel
def wordsOk (z : Str) (ws : List Str) : Bool :=
  if z = "order" then decide (ws.length = 4) && (ws.take 3).all numOk && (decide (ws[3]? = some ("-" : Str)) || (ws.drop 3).all numOk)
  else if z = "memory" then ws.all numOk
  else match kindsOf z with
    | none => false
    | some ks => decide (ws.length = ks.length) && ws.all numOk
def numsOf (ws : List Str) : List Int := ws.map fun w => (numN w : Int)
def ordOf (ws : List Str) : ROrd := ⟨numN (ws.getD 0 ""), numN (ws.getD 1 ""), numN (ws.getD 2 ""), numO (ws.getD 3 "")⟩
def addRow (R : RBrd) (z : Str) (ws : List Str) : RBrd :=
  if z = "memory" then { R with mem := numsOf ws } else if z = "order" then { R with ords := R.ords ++ [ordOf ws] } else { R with prog := R.prog ++ [⟨z, numsOf ws⟩] }
def headW (r : Str) : Str := (Txt.split r " ").headD ""
def tailW (r : Str) : List Str := (Txt.split r " ").tail
theorem split_words (r : Str) : Txt.split r " " = headW r :: tailW r := by
  have h := (words_jl r).2
  unfold headW tailW
  cases e : Txt.split r " " with
  | nil => exact absurd e h
  | cons a b => rfl
def rowBad (R : RBrd) (i : Nat) (r : Str) : Bool := !wordsOk (headW r) (tailW r) || (decide (headW r = "memory") != decide (i = 0)) || (decide (headW r = "order") && decide (R.prog ≠ []))
/-- the number of the first row that is not so, or the board -/
def readR : Nat → RBrd → List Str → Nat ⊕ RBrd
  | _, R, [] => .inr R
  | i, R, r :: rs => if rowBad R i r = true then .inl i else readR (i + 1) (addRow R (headW r) (tailW r)) rs
def noBrd : RBrd := ⟨[], [], []⟩
/-- the words' values in the order in which they stand -/
def valsW (z : Str) (ws : List Str) : List (Option Int) := ws.map numO
theorem vals_nums {ws : List Str} (h : ws.all numOk = true) : ws.map (fun w => iV (numO w)) = (numsOf ws).map V.int := by
  unfold numsOf
  rw [List.map_map]
  refine List.map_congr_left fun w hw => ?_
  rw [numO_ok (List.all_eq_true.mp h w hw)]; rfl
theorem four_of {ws : List Str} (h : ws.length = 4) : ∃ a b c d, ws = [a, b, c, d] := by
  match ws, h with
  | [a, b, c, d], _ => exact ⟨a, b, c, d, rfl⟩
theorem vals_ord {ws : List Str} (h : wordsOk "order" ws = true) : ws.map (fun w => iV (numO w)) = (ordOf ws).vs ∧ ws.length = 4 := by
  rw [wordsOk, if_pos rfl, Bool.and_eq_true, Bool.and_eq_true, decide_eq_true_eq] at h
  obtain ⟨⟨h4, h3⟩, _⟩ := h
  obtain ⟨a, b, c, d, rfl⟩ := four_of h4
  have g : numOk a = true ∧ numOk b = true ∧ numOk c = true := by simpa using h3
  obtain ⟨ga, gb, gc⟩ := g
  refine ⟨?_, rfl⟩
  simp only [List.map_cons, List.map_nil, ordOf, ROrd.vs, numO_ok ga, numO_ok gb, numO_ok gc]
  rfl
end Vt
namespace Vt
open PySem PySem.Spec PyProof.Rows L2
/-- the table of deeds, of a word that is none of them too -/
def MissD (K : PySem.W.Frag) (dd : Addr) : Prop := ∀ z : Str, kindsOf z = none → PySem.W.nsIn K dd z = some none
def keysKnown (l : List DictEntry) : Bool := l.all fun e => match e.key with
  | .str x _ => (kindsOf x).isSome
  | _ => false
theorem miss_mk {K : PySem.W.Frag} {dd : Addr} {cls : Value} {d : Option Addr} {es : Array DictEntry} {n : Nat} {sl : Array (Option Value)} (l : K.lookup dd = some ⟨cls, d, .dict es n, sl⟩) (h : keysKnown es.toList = true) : MissD K dd := by
  intro z hz
  have hk : ∀ e ∈ es.toList, ∃ x t, e.key = .str x t ∧ (kindsOf x).isSome = true := fun e he => by
    have := List.all_eq_true.mp h e he
    cases ek : e.key with
    | str x t =>
      rw [ek] at this
      exact ⟨x, t, rfl, this⟩
    | _ => rw [ek] at this; cases this
  have h1 : es.toList.find? (·.key.isStr z) = none := by
    rw [List.find?_eq_none]
    intro e he
    obtain ⟨x, t, ek, hx⟩ := hk e he
    rw [ek]
    intro hs
    have : x = z := by simpa [Value.isStr] using hs
    rw [this, hz] at hx
    cases hx
  have h2 : es.toList.any (·.refKey) = false := by
    rw [List.any_eq_false]
    intro e he
    obtain ⟨x, t, ek, _⟩ := hk e he
    unfold DictEntry.refKey
    rw [ek]
    simp
  unfold PySem.W.nsIn
  rw [l]
  dsimp only
  rw [h1]
  dsimp only
  rw [h2]
  rfl
theorem numOk_is {z : Str} : numOk z = (Txt.isascii z && Txt.isdigit z && decide (z.length ≤ 9) && (decide (z = ("0" : Str)) || decide (z.cps.toList[0]? ≠ some 48))) := by
  rw [digs_is]
  unfold numOk
  cases decide (z.length ≠ 0) <;> cases decide (z.length ≤ 9) <;> cases digs z <;> rfl
theorem one_sign {c : Nat} : decide ((V.str (⟨#[c]⟩ : Str)) = V.str "0") = decide (c = 48) := by
  have e0 : ("0" : Str) = ⟨#[48]⟩ := by decide +kernel
  rw [e0]
  by_cases h : c = 48
  · subst h; rw [decide_eq_true rfl, decide_eq_true rfl]
  · rw [decide_eq_false h]
    refine decide_eq_false fun z => h ?_
    injection z with z
    injection z with z
    simpa using z
section
variable {P : Program} {w : World} {K : PySem.W.Frag} {mg : Str → Option Value} {base : Heap}
abbrev st_is_number : Stmt := (topS 29)
abbrev nm_is_number : List Str := ["word"]
theorem sc_is_number : FnScope ["word"] ["word"] (defScope st_is_number) := ⟨rfl, rfl, rfl, by decide +kernel, rfl, by decide +kernel, by decide +kernel⟩
def spIsNumX : Sp := fun vs H Q _ => ∃ z : Str, vs = [.str z] ∧ z.length ≤ 1000 ∧ Q (.bl (numOk z)) H
theorem ok_isnumX {f : Addr} {fd : FuncData} (F : Fun K "is_number" "is_number" st_is_number f fd) (m_fig : ∃ t, mg "MOST_FIGURES" = some (.int 9 t)) (z_len : mg "len" = none) : FnOk P w K mg base CX0 1 f fd ["word"] spIsNumX := by
  obtain ⟨tF, mc_MOST_FIGURES⟩ := m_fig
  refine F.ok sc_is_number (fun vs H Q E h => ?_) (fun cdv A outer s H vs Q E hr h => ?_)
  · obtain ⟨z, rfl, _⟩ := h
    rfl
  · obtain ⟨z, rfl, hl, q⟩ := h
    refine ⟨_, (pss_cons (ps_if (PW.pt (pw_or (pt_not (pt_val (pe_m0 PySem.F.slot_str_isascii PySem.F.type_str_isascii mt_isascii (pv 0)))) (pw_or (pt_not (pt_val (pe_m0 PySem.F.slot_str_isdigit PySem.F.type_str_isdigit mt_isdigit (pv 0)))) (pw_or1 (pt_cmpR op_gt (pe_callB call_len_str (by rfl) z_len (by decide +kernel) (pa_cons (pv 0) pa_nil)) (pe_glob (v := .int 9) rfl mc_MOST_FIGURES ⟨_, rfl⟩) (nomark _)))))) (pss_one (ps_ret pe_bl)) pss_nil)
  (pss_one (ps_ret (pe_or (pe_cmpR op_eq (pv 0) pe_str (nomark _)) (pe_one (pe_cmpR op_ne (pe_ix ix_str (pv 0) pe_int (fun _ _ => rfl)) pe_str (nomark _))))))), ?_⟩
    have ln : z.length ≤ sizeLine := fits' (by omega)
    rw [numOk_is] at q
    refine ⟨_, rfl, ⟨_, rfl⟩, z, rfl, rfl, trivial, ?_⟩
    cases ha : Txt.isascii z with
    | false =>
      rw [ha] at q
      exact ⟨_, rfl, iteT q⟩
    | true =>
    rw [ha] at q
    refine ⟨_, rfl, iteF ⟨_, rfl, ⟨_, rfl⟩, z, rfl, rfl, trivial, ?_⟩⟩
    cases hd : Txt.isdigit z with
    | false =>
      rw [hd] at q
      exact ⟨_, rfl, iteT q⟩
    | true =>
    rw [hd] at q
    refine ⟨_, rfl, iteF ⟨_, rfl, z, rfl, ln, _, _, rfl, rfl, _, rfl, ?_⟩⟩
    by_cases h9 : z.length ≤ 9
    · rw [decide_eq_true h9] at q
      refine iteF' (decide_eq_false (by omega)) ?_
      refine ⟨_, rfl, rfl, _, rfl, ite2 (fun e => ?_) (fun e => ?_)⟩
      · have e' : z = "0" := by
          have := of_decide_eq_true e
          injection this
        rw [decide_eq_true e'] at q
        exact q
      · have e' : ¬ z = "0" := fun y => e (decide_eq_true (by rw [y]))
        rw [decide_eq_false e'] at q
        have hne : z.length ≠ 0 := by
          intro h0
          have := digs_is (z := z)
          rw [ha, hd, decide_eq_false (by simpa using h0)] at this
          cases this
        obtain ⟨c, hc⟩ : ∃ c, z.cps.toList[0]? = some c := by
          rw [TL.len_tl] at hne
          cases ez : z.cps.toList with
          | nil => exact absurd (by rw [TL.tl, ez]; rfl) hne
          | cons c r => exact ⟨c, rfl⟩
        have a0 : atI z.cps.toList 0 = some c := atI_nat (j := 0) hc
        refine ⟨_, rfl, z, 0, c, rfl, rfl, ln, a0, rfl, ?_⟩
        rw [one_sign]
        rw [hc] at q
        have e3 : (true && true && true && (false || decide (some c ≠ some 48))) = !decide (c = 48) := by
          by_cases hc8 : c = 48 <;> simp [hc8]
        rw [e3] at q
        exact q
    · rw [decide_eq_false h9] at q
      exact iteT' (decide_eq_true (by omega)) q
abbrev st_all_are_numbers : Stmt := (topS 28)
abbrev nm_all_are_numbers : List Str := ["words", "word"]
theorem sc_all_are_numbers : FnScope ["words", "word"] ["words"] (defScope st_all_are_numbers) := ⟨rfl, rfl, rfl, by decide +kernel, rfl, by decide +kernel, by decide +kernel⟩
def spAllNumX : Sp := fun vs H Q _ => ∃ (l : Addr) (ws : List Str), vs = [.ref l] ∧ H l = some (.lst (ws.map V.str)) ∧ (∀ z ∈ ws, z.length ≤ 1000) ∧ ws.length ≤ 1001 ∧ ∀ H', Same H H' → Q (.bl (ws.all numOk)) H'
theorem ok_allnumX {f : Addr} {fd : FuncData} (F : Fun K "all_are_numbers" "all_are_numbers" st_all_are_numbers f fd) (c_is_number : Callee P w K mg base "is_number" 1 1 spIsNumX) (z_all : mg "all" = none) : FnOk P w K mg base CX0 2 f fd ["words"] spAllNumX := by
  refine F.ok sc_all_are_numbers (fun vs H Q E h => ?_) (fun cdv A outer s H vs Q E hr h => ?_)
  · obtain ⟨l, ws, rfl, _⟩ := h
    rfl
  · obtain ⟨l, ws, rfl, hl, hs, hlen, q⟩ := h
    refine ⟨_, (pss_one (ps_ret (pe_callB (cr_all rfl) (by rfl) z_all (by decide +kernel) (pa_cons (pe_lc (own := [("word", 1)]) rfl sc_all_are_numbers.nd (pi_lt (pv 0)) (blkOk_by (own := [("word", 1)]) (N := nm_all_are_numbers) (sc := defScope (topS 28)) (by decide +kernel)) (fun _ _ _ _ _ => (pg_name (i := 1) sc_all_are_numbers.nd rfl (Or.inl rfl))) (fun _ _ _ _ _ => pts_nil) (fun _ _ _ _ _ => (pe_cal c_is_number hr (by first | decide | exact Nat.le_refl _) (pa_cons (pv 1) pa_nil)))) pa_nil)))), ?_⟩
    refine ⟨_, rfl, l, rfl, .inl ⟨_, sqL_l hl, fun D nD => ?_⟩⟩
    refine lc_it (walk_list (xs := ws.map V.str)) (fun j H' => H' D = some (.lst (((ws.take j).map numOk).map V.bl)) ∧ Same H H')
      ⟨upd_same, same_new nD⟩ (fun j H' _ hp => sqL_l (hp.2 _ _ hl)) (fun j x H4 H5 hj hp hy => ?_) (fun H4 hp => ?_)
    · obtain ⟨hD, s4⟩ := hp
      obtain ⟨rfl, hx⟩ := hy
      rw [List.getElem?_map] at hx
      obtain ⟨z, hz, rfl⟩ : ∃ z, ws[j]? = some z ∧ V.str z = x := by simpa using hx
      have tk : ws.take (j + 1) = ws.take j ++ [z] := by rw [List.take_add_one, hz]; rfl
      refine ⟨rfl, iteT (B := True) ⟨_, rfl, z, rfl, hs z (List.mem_of_getElem? hz), _, hD, fits ?_, ?_, fun b u e => ?_⟩⟩
      · have := List.length_take_le' j ws
        simp only [List.length_map]; omega
      · rw [upd_same, tk, List.map_append, List.map_append]; rfl
      · rw [upd_ne (ne_of_none e nD)]; exact s4 _ _ e
    · obtain ⟨hD, s4⟩ := hp
      rw [List.length_map, List.take_length] at hD
      refine ⟨D, _, rfl, sqL_l hD, ?_⟩
      have e : (ws.map numOk).all id = ws.all numOk := by rw [List.all_map]; rfl
      rw [e]
      exact q _ s4
abbrev st_words_are_so : Stmt := (topS 27)
abbrev nm_words_are_so : List Str := ["word", "words"]
theorem sc_words_are_so : FnScope ["word", "words"] ["word", "words"] (defScope st_words_are_so) := ⟨rfl, rfl, rfl, by decide +kernel, rfl, by decide +kernel, by decide +kernel⟩
def spWordsX : Sp := fun vs H Q _ => ∃ (z : Str) (l : Addr) (ws : List Str), vs = [.str z, .ref l] ∧ H l = some (.lst (ws.map V.str)) ∧ (∀ z ∈ ws, z.length ≤ 1000) ∧ ws.length ≤ 1001 ∧ ∀ H', Same H H' → Q (.bl (wordsOk z ws)) H'
theorem ok_wordsX {f dd : Addr} {fd : FuncData} (F : Fun K "words_are_so" "words_are_so" st_words_are_so f fd) (Kd : Kinds K w mg dd) (Md : MissD K dd) (c_all_are_numbers : Callee P w K mg base "all_are_numbers" 2 1 spAllNumX) (c_is_number : Callee P w K mg base "is_number" 1 1 spIsNumX)
    (m_ord : ∃ t, mg "ORDER_NUMBERS" = some (.int 4 t)) (z_len : mg "len" = none) : FnOk P w K mg base CX0 3 f fd ["word", "words"] spWordsX := by
  obtain ⟨tO, mc_ORDER_NUMBERS⟩ := m_ord
  obtain ⟨mc_DEEDS, low, ⟨es, nn, hlk, hkl⟩, hit⟩ := Kd
  have DD : KDict K w dd es nn := ⟨hlk, hkl, low⟩
  refine F.ok sc_words_are_so (fun vs H Q E h => ?_) (fun cdv A outer s H vs Q E hr h => ?_)
  · obtain ⟨z, l, ws, rfl, _⟩ := h
    rfl
  · obtain ⟨z, l, ws, rfl, hl, hs, hlen, q⟩ := h
    refine ⟨_, (pss_cons (ps_if (pt_cmpR op_eq (pv 0) pe_str (nomark _)) (pss_cons (ps_if (pt_cmpR op_ne (pe_callB call_len_seq (by rfl) z_len (by decide +kernel) (pa_cons (pv 1) pa_nil)) (pe_glob (v := .int 4) rfl mc_ORDER_NUMBERS ⟨_, rfl⟩) (nomark _)) (pss_one (ps_ret pe_bl)) pss_nil)
  (pss_one (ps_ret (pe_and (pe_cal c_all_are_numbers hr (by first | decide | exact Nat.le_refl _) (pa_cons (pe_slice sl_list (pv 1) po_none (po_some (pe_un un_neg pe_int))) pa_nil)) (pe_one (pe_or (pe_cmpR op_eq (pe_ix ix_lt (pv 1) (pe_un un_neg pe_int) (fun _ _ => rfl)) pe_str (nomark _)) (pe_one (pe_cal c_is_number hr (by first | decide | exact Nat.le_refl _) (pa_cons (pe_ix ix_lt (pv 1) (pe_un un_neg pe_int) (fun _ _ => rfl)) pa_nil))))))))) pss_nil)
  (pss_cons (ps_if (pt_cmpR op_eq (pv 0) pe_str (nomark _)) (pss_one (ps_ret (pe_cal c_all_are_numbers hr (by first | decide | exact Nat.le_refl _) (pa_cons (pv 1) pa_nil)))) pss_nil)
  (pss_one (ps_ret (pe_and (pe_cmpR (op_in_kd DD) (pv 0) (pe_glob (v := .ref _) rfl mc_DEEDS rfl) (by rfl)) (pe_and (pe_cmpR op_eq (pe_callB call_len_seq (by rfl) z_len (by decide +kernel) (pa_cons (pv 1) pa_nil)) (pe_callB call_len_seq (by rfl) z_len (by decide +kernel) (pa_cons (pe_ix ix_kdict (pe_glob (v := .ref _) rfl mc_DEEDS rfl) (pv 0) (fun _ _ => rfl)) pa_nil)) (nomark _)) (pe_one (pe_cal c_all_are_numbers hr (by first | decide | exact Nat.le_refl _) (pa_cons (pv 1) pa_nil))))))))), ?_⟩
    refine ⟨_, rfl, rfl, _, rfl, ite2 (fun e => ?_) (fun e => ?_)⟩
    · have ez : z = "order" := by have := of_decide_eq_true e; injection this
      subst ez
      clear e
      rw [wordsOk, if_pos rfl] at q
      refine ⟨_, rfl, l, _, rfl, .inl (sqL_l hl), rfl, _, rfl, ?_⟩
      rw [List.length_map]
      by_cases h4 : ws.length = 4
      · obtain ⟨a, b, c, d, rfl⟩ := four_of h4
        refine iteF' (by rw [h4]; rfl) ?_
        refine ⟨_, rfl, _, rfl, _, rfl, l, _, rfl, sqL_l hl, fun p np => ?_⟩
        have cut : cutV (([a, b, c, d] : List Str).map V.str) none (some (-1)) = ([a, b, c] : List Str).map V.str := rfl
        rw [cut]
        have s1 := same_new (o := .lst (([a, b, c] : List Str).map V.str)) np
        refine ⟨p, [a, b, c], rfl, upd_same, fun y hy => hs y (by simp only [List.mem_cons, List.not_mem_nil, or_false] at hy ⊢; rcases hy with h | h | h <;> simp [h]), by simp, fun H2 s2 => ?_⟩
        have s12 := s1.trans s2
        have hl2 := s12 _ _ hl
        have q' : ∀ H', Same H H' → Q (.bl (([a, b, c] : List Str).all numOk && (decide (d = ("-" : Str)) || numOk d))) H' := fun H' s' => by
          have := q H' s'
          have e1 : (decide (([a, b, c, d] : List Str).length = 4) && (([a, b, c, d] : List Str).take 3).all numOk && (decide (([a, b, c, d] : List Str)[3]? = some ("-" : Str)) || (([a, b, c, d] : List Str).drop 3).all numOk)) = (([a, b, c] : List Str).all numOk && (decide (d = ("-" : Str)) || numOk d)) := by
            have : decide (([a, b, c, d] : List Str)[3]? = some ("-" : Str)) = decide (d = ("-" : Str)) := by
              by_cases h : d = "-"
              · subst h; rfl
              · rw [decide_eq_false h]
                exact decide_eq_false fun z => h (Option.some.inj z)
            rw [this]
            show (true && ([a, b, c] : List Str).all numOk && (decide (d = "-") || ([d] : List Str).all numOk)) = _
            rw [Bool.true_and]
            simp only [List.all_cons, List.all_nil, Bool.and_true]
          rw [e1] at this
          exact this
        cases hall : ([a, b, c] : List Str).all numOk with
        | false =>
          rw [hall] at q'
          exact ⟨_, rfl, iteF (q' _ s12)⟩
        | true =>
        rw [hall] at q'
        refine ⟨_, rfl, iteT ?_⟩
        have at3 : atI (([a, b, c, d] : List Str).map V.str) (-1) = some (.str d) := rfl
        refine ⟨_, rfl, _, rfl, l, _, (-1), _, rfl, rfl, sqA_l hl2, at3, rfl, _, rfl, ite2 (fun e => ?_) (fun e => ?_)⟩
        · have ed : d = "-" := by have := of_decide_eq_true e; injection this
          rw [decide_eq_true ed] at q'
          exact q' _ s12
        · have ed : ¬ d = "-" := fun y => e (decide_eq_true (by rw [y]))
          rw [decide_eq_false ed] at q'
          exact ⟨_, rfl, _, rfl, l, _, (-1), _, rfl, rfl, sqA_l hl2, at3, d, rfl, hs d (by simp), q' _ s12⟩
      · have e4 : (decide (ws.length = 4) && (ws.take 3).all numOk && (decide (ws[3]? = some ("-" : Str)) || (ws.drop 3).all numOk)) = false := by
          rw [decide_eq_false h4]; rfl
        rw [e4] at q
        refine iteT' ?_ (q H (Same.refl H))
        rw [decide_eq_false (show ¬ V.int (ws.length : Nat) = V.int 4 from fun y => h4 (by injection y with y; omega))]; rfl
    have nz : ¬ z = "order" := fun y => e (decide_eq_true (by rw [y]))
    clear e
    rw [wordsOk, if_neg nz] at q
    refine ⟨_, rfl, rfl, _, rfl, ite2 (fun e => ?_) (fun e => ?_)⟩
    · have ez : z = "memory" := by have := of_decide_eq_true e; injection this
      rw [if_pos ez] at q
      exact ⟨_, rfl, l, ws, rfl, hl, hs, hlen, q⟩
    have nz2 : ¬ z = "memory" := fun y => e (decide_eq_true (by rw [y]))
    clear e
    rw [if_neg nz2] at q
    cases hk : kindsOf z with
    | none =>
      rw [hk] at q
      exact ⟨_, rfl, _, _, rfl, rfl, Md z hk, _, rfl, iteF (q H (Same.refl H))⟩
    | some ks =>
      rw [hk] at q
      obtain ⟨kt, kd, kt2⟩ := hit _ ks hk
      have kd' := kd
      obtain ⟨es', n', u, _, _, hu, _⟩ := kd'
      refine ⟨_, rfl, _, _, rfl, rfl, hu, _, rfl, iteT ?_⟩
      refine ⟨_, rfl, l, _, rfl, .inl (sqL_l hl), _, rfl, dd, z, .ref kt, rfl, rfl, kd, kt, _, rfl, .inr (kt2.sq _), rfl, _, rfl, ?_⟩
      rw [List.length_map, List.length_map]
      by_cases he : ws.length = ks.length
      · have q' : ∀ H', Same H H' → Q (.bl (ws.all numOk)) H' := fun H' s' => by
          have := q H' s'
          dsimp only at this
          rw [decide_eq_true he] at this
          exact this
        refine iteT' (decide_eq_true (by rw [he])) ?_
        exact ⟨_, rfl, l, ws, rfl, hl, hs, hlen, q'⟩
      · have q' := q H (Same.refl H)
        dsimp only at q'
        rw [decide_eq_false he] at q'
        refine iteF' (decide_eq_false fun y => he (by injection y with y; omega)) q'
abbrev st_number_of : Stmt := (topS 30)
abbrev nm_number_of : List Str := ["figures"]
theorem sc_number_of : FnScope ["figures"] ["figures"] (defScope st_number_of) := ⟨rfl, rfl, rfl, by decide +kernel, rfl, by decide +kernel, by decide +kernel⟩
def spNumOfX : Sp := fun vs H Q _ => ∃ z : Str, vs = [.str z] ∧ (z = "-" ∨ numOk z = true) ∧ Q (iV (numO z)) H
theorem ok_numofX {f : Addr} {fd : FuncData} (F : Fun K "number_of" "number_of" st_number_of f fd) (z_int : mg "int" = none) : FnOk P w K mg base CX0 1 f fd ["figures"] spNumOfX := by
  refine F.ok sc_number_of (fun vs H Q E h => ?_) (fun cdv A outer s H vs Q E hr h => ?_)
  · obtain ⟨z, rfl, _⟩ := h
    rfl
  · obtain ⟨z, rfl, hs, q⟩ := h
    refine ⟨_, (pss_one (ps_ret (pe_ifExp (pt_cmpR op_eq (pv 0) pe_str (nomark _)) pe_non (pe_callTy call_int_str (by rfl) z_int (by decide +kernel) (pa_cons (pv 0) pa_nil))))), ?_⟩
    refine ⟨_, rfl, rfl, _, rfl, ite2 (fun e => ?_) (fun e => ?_)⟩
    · have ez : z = "-" := by have := of_decide_eq_true e; injection this
      subst ez
      rw [numO, if_neg (by rw [dash_no]; decide)] at q
      exact q
    · have ez : ¬ z = "-" := fun y => e (decide_eq_true (by rw [y]))
      have ok := hs.resolve_left ez
      rw [numO_ok ok] at q
      have ok' := ok
      unfold numOk at ok'
      simp only [Bool.and_eq_true, decide_eq_true_eq] at ok'
      obtain ⟨⟨⟨h0, h9⟩, hd⟩, _⟩ := ok'
      exact ⟨_, rfl, z, (numN z : Int), rfl, num_text hd h0 h9, by omega, q⟩
end
end Vt
namespace Vt
open PySem PySem.Spec PyProof.Rows L2
theorem fst_lt {α : Type} {p : Nat → α → Bool} : ∀ {xs : List α} {k i : Nat}, fst p k xs = some i → k ≤ i ∧ i < k + xs.length ∧ ∃ x, xs[i - k]? = some x ∧ p i x = true ∧ ∀ j y, j < i - k → xs[j]? = some y → p (k + j) y = false
  | [], k, i, h => by cases h
  | x :: r, k, i, h => by
    rw [fst] at h
    split at h
    · rename_i hp
      cases h
      exact ⟨Nat.le_refl _, by simp, x, by rw [Nat.sub_self]; rfl, hp, fun j y hj => absurd hj (by omega)⟩
    · rename_i hn
      obtain ⟨h1, h2, y, h3, h4, h5⟩ := fst_lt h
      refine ⟨by omega, by simp only [List.length_cons]; omega, y, ?_, h4, fun j z hj hz => ?_⟩
      · rw [show i - k = (i - (k + 1)) + 1 by omega, List.getElem?_cons_succ]; exact h3
      · cases j with
        | zero =>
          rw [List.getElem?_cons_zero] at hz
          cases hz
          simpa using hn
        | succ j =>
          rw [List.getElem?_cons_succ] at hz
          have := h5 j z (by omega) hz
          rw [show k + (j + 1) = k + 1 + j by omega]; exact this
theorem fst_le {α : Type} {p : Nat → α → Bool} {xs : List α} {i m : Nat} (hp : ∀ x, p m x = true) (h : fst p 0 xs = some i) : i ≤ m := by
  obtain ⟨_, h2, _, _, _, h5⟩ := fst_lt h
  rcases Nat.lt_or_ge m i with hm | hm
  · obtain ⟨y, hy⟩ : ∃ y, xs[m]? = some y := ⟨xs[m]'(by omega), List.getElem?_eq_getElem _⟩
    have := h5 m y (by omega) hy
    rw [Nat.zero_add, hp] at this
    cases this
  · exact hm
theorem wrong_small {R : RBrd} {z : Str} {n : Nat} (h : wrongB R = some (z, n)) : n ≤ 60 := by
  unfold wrongB at h
  cases e1 : fwCell R.mem with
  | some i =>
    rw [e1] at h
    simp only [Option.some.injEq, Prod.mk.injEq] at h
    unfold fwCell at e1
    split at e1
    · have := (fst_lt e1).2.1
      omega
    · cases e1; omega
  | none =>
    rw [e1] at h
    dsimp only at h
    cases e2 : fwOrd R.ords R.mem.length with
    | some i =>
      rw [e2] at h
      simp only [Option.some.injEq, Prod.mk.injEq] at h
      have := fst_le (m := 4) (fun x => by simp [badOrd]) e2
      omega
    | none =>
      rw [e2] at h
      dsimp only at h
      cases e3 : fwDeed R.prog R.ords.length R.mem.length with
      | some i =>
        rw [e3] at h
        simp only [Option.some.injEq, Prod.mk.injEq] at h
        have := fst_le (m := 60) (fun x => by simp [badDeed]) e3
        omega
      | none => rw [e3] at h; cases h
/-- a board read from words -/
structure Told (R : RBrd) : Prop where
  kn : ∀ d ∈ R.prog, (kindsOf d.word).isSome = true
  len : ∀ d ∈ R.prog, ∃ ks, kindsOf d.word = some ks ∧ d.nums.length = ks.length
  nn : (∀ n ∈ R.mem, 0 ≤ n) ∧ (∀ o ∈ R.ords, 0 ≤ o.src ∧ 0 ≤ o.goal ∧ 0 ≤ o.many ∧ ∀ k, o.later = some k → 0 ≤ k) ∧ ∀ d ∈ R.prog, ∀ n ∈ d.nums, 0 ≤ n
theorem told0 : Told noBrd := ⟨(fun d h => by cases h), (fun d h => by cases h), (fun n h => by cases h), (fun o h => by cases h), fun d h => by cases h⟩
theorem nums_nn (ws : List Str) : ∀ n ∈ numsOf ws, 0 ≤ n := fun n hn => by
  obtain ⟨w, _, rfl⟩ := List.mem_map.mp hn
  omega
theorem told_add {R : RBrd} {z : Str} {ws : List Str} (h : Told R) (hw : wordsOk z ws = true) : Told (addRow R z ws) := by
  unfold addRow
  split
  · exact ⟨h.kn, h.len, nums_nn ws, h.nn.2⟩
  · rename_i n1
    split
    · refine ⟨h.kn, h.len, h.nn.1, fun o ho => ?_, h.nn.2.2⟩
      rcases List.mem_append.mp ho with ho | ho
      · exact h.nn.2.1 o ho
      · rw [List.mem_singleton.mp ho]
        refine ⟨by show (0 : Int) ≤ (numN _ : Int); omega, by show (0 : Int) ≤ (numN _ : Int); omega, by show (0 : Int) ≤ (numN _ : Int); omega, fun k hk => ?_⟩
        have hk' : numO (ws.getD 3 "") = some k := hk
        unfold numO at hk'
        split at hk'
        · cases hk'; omega
        · cases hk'
    · rename_i n2
      rw [wordsOk, if_neg n2, if_neg n1] at hw
      cases ek : kindsOf z with
      | none => rw [ek] at hw; cases hw
      | some ks =>
        rw [ek] at hw
        dsimp only at hw
        rw [Bool.and_eq_true, decide_eq_true_eq] at hw
        refine ⟨fun d hd => ?_, fun d hd => ?_, h.nn.1, h.nn.2.1, fun d hd => ?_⟩
        · rcases List.mem_append.mp hd with hd | hd
          · exact h.kn d hd
          · rw [List.mem_singleton.mp hd]
            show (kindsOf z).isSome = true
            rw [ek]; rfl
        · rcases List.mem_append.mp hd with hd | hd
          · exact h.len d hd
          · rw [List.mem_singleton.mp hd]
            exact ⟨ks, ek, by show (numsOf ws).length = ks.length; unfold numsOf; rw [List.length_map]; exact hw.1⟩
        · rcases List.mem_append.mp hd with hd | hd
          · exact h.nn.2.2 d hd
          · rw [List.mem_singleton.mp hd]
            exact nums_nn ws
theorem told_read : ∀ {rs : List Str} {i : Nat} {R S : RBrd}, Told R → readR i R rs = .inr S → Told S
  | [], i, R, S, h, e => by
    rw [readR] at e
    cases e
    exact h
  | r :: rs, i, R, S, h, e => by
    rw [readR] at e
    split at e
    · cases e
    · rename_i hb
      refine told_read (told_add h ?_) e
      unfold rowBad at hb
      cases hw : wordsOk (headW r) (tailW r) with
      | true => rfl
      | false => rw [hw] at hb; exact absurd rfl hb
theorem told_raw {K : PySem.W.Frag} {w : World} {dd : Addr} {R : RBrd} (h : Told R) : RawOk K w dd R := by
  refine ⟨fun d hd => ?_, fun d hd hk => ?_, fun z n e => by have := wrong_small e; omega⟩
  · obtain ⟨ks, e, l⟩ := h.len d hd
    have := kinds_len e
    omega
  · have := h.kn d hd
    rw [hk] at this; cases this
theorem words_each {z : Str} {ws : List Str} (h : wordsOk z ws = true) : ∀ y ∈ ws, y = "-" ∨ numOk y = true := by
  unfold wordsOk at h
  split at h
  · rw [Bool.and_eq_true, Bool.and_eq_true, decide_eq_true_eq] at h
    obtain ⟨⟨h4, h3⟩, hl⟩ := h
    obtain ⟨a, b, c, d, rfl⟩ := four_of h4
    have g : numOk a = true ∧ numOk b = true ∧ numOk c = true := by simpa using h3
    have gd : d = "-" ∨ numOk d = true := by simpa using hl
    intro y hy
    simp only [List.mem_cons, List.not_mem_nil, or_false] at hy
    rcases hy with rfl | rfl | rfl | rfl
    · exact .inr g.1
    · exact .inr g.2.1
    · exact .inr g.2.2
    · exact gd
  · split at h
    · exact fun y hy => .inr (List.all_eq_true.mp h y hy)
    · split at h
      · cases h
      · rw [Bool.and_eq_true] at h
        exact fun y hy => .inr (List.all_eq_true.mp h.2 y hy)
/-- what is told of a text that is not so -/
def EText (BT : Addr) (E : XK) (H : Hp) (i : Nat) : Prop := ∀ (H' : Hp) (d : Addr), Same H H' → H' d = some (.xd [("row", .int (i : Nat))]) → E (.ref BT) (some d) H'
def EBrd (BB : Addr) (E : XK) (H : Hp) (z : Str) (n : Nat) : Prop := ∀ (H' : Hp) (d : Addr), Same H H' → H' d = some (.xd (fs2 z (n : Nat))) → E (.ref BB) (some d) H'
theorem pds_nums {H : Hp} (ns : List Int) : Pds H (ns.map V.int) (ns.map D.int) := by
  induction ns with
  | nil => exact .nil
  | cons n r ih => exact .cons (.int n) ih
theorem noL_rord (o : ROrd) : o.d.noL = true := by
  obtain ⟨s, g, m, l⟩ := o
  cases l <;> rfl
theorem noLs_nums : ∀ ns : List Int, noLs (ns.map D.int) = true
  | [] => rfl
  | n :: r => by rw [List.map_cons, noLs, noLs_nums r]; rfl
theorem noL_rdeed (d : RDeed) : d.d.noL = true := by
  rw [RDeed.d, D.noL, noLs, noLs_nums]; rfl
section
variable {P : Program} {w : World} {K : PySem.W.Frag} {mg : Str → Option Value} {base : Heap}
abbrev st_read_board : Stmt := (topS 26)
abbrev nm_read_board : List Str := ["text", "memory", "orders", "program", "at", "row", "word", "words", "numbers", "figures", "board"]
theorem sc_read_board : FnScope ["text", "memory", "orders", "program", "at", "row", "word", "words", "numbers", "figures", "board"] ["text"] (defScope st_read_board) := ⟨rfl, rfl, rfl, by decide +kernel, rfl, by decide +kernel, by decide +kernel⟩
def spReadX (K : PySem.W.Frag) (w : World) (dd BB BT : Addr) : Sp := fun vs H Q E => ∃ x : Str, vs = [.str x] ∧ x.length ≤ 990 ∧
  (∀ i, readR 0 noBrd (Txt.split x "\n") = .inl i → EText BT E H i) ∧
  (∀ R, readR 0 noBrd (Txt.split x "\n") = .inr R → (∀ z n, wrongB R = some (z, n) → EBrd BB E H z n) ∧ (wrongB R = none → ∀ (H' : Hp) (v : V), Same H H' → Pd H' v R.d → Q v H'))
set_option maxHeartbeats 0 in
theorem ok_readX {f dd BB BT : Addr} {fd : FuncData} (F : Fun K "read_board" "read_board" st_read_board f fd) (k_BadText : MakesX P w K mg base "BadText" BT 1 (spX1 BT "row")) (c_words_are_so : Callee P w K mg base "words_are_so" 3 2 spWordsX) (c_number_of : Callee P w K mg base "number_of" 1 1 spNumOfX) (c_require_board : CalleeN P w K mg base "require_board" 3 1 (spReqX K w dd BB))
    (z_enumerate : mg "enumerate" = none) (z_tuple : mg "tuple" = none) : FnOk P w K mg base (L2N.CX P w) 4 f fd ["text"] (spReadX K w dd BB BT) := by
  refine okN F sc_read_board (fun vs H Q E h => ?_) (fun cdv A outer s H vs Q E hr h => ?_)
  · obtain ⟨x, rfl, _⟩ := h
    rfl
  · obtain ⟨x, rfl, xl, qT, qB⟩ := h
    refine ⟨_, (pss_cons (ps_set (i := 1) sc_read_board.nd rfl (Or.inl rfl) (pe_tup pa_nil))
  (pss_cons (ps_set (i := 2) sc_read_board.nd rfl (Or.inl rfl) (pe_lst pa_nil))
  (pss_cons (ps_set (i := 3) sc_read_board.nd rfl (Or.inl rfl) (pe_lst pa_nil))
  (pss_cons (ps_for (passes_of rfl) rfl (pi_enumT (by rfl) z_enumerate (pa_cons (pe_split (pv 0) pe_str) pa_nil)) (pg_tup rfl (pgs_cons (pg_name (i := 4) sc_read_board.nd rfl (Or.inl rfl)) (pgs_cons (pg_name (i := 5) sc_read_board.nd rfl (Or.inl rfl)) pgs_nil)))
  (pss_cons (ps_asg (pe_split (pv 5) pe_str) (pg_starL (i := 6) (j := 7) rfl sc_read_board.nd rfl rfl rfl rfl))
  (pss_cons (ps_if (PW.pt (pw_or (pt_not (pt_val (pe_cal c_words_are_so hr (by first | decide | exact Nat.le_refl _) (pa_cons (pv 6) (pa_cons (pv 7) pa_nil))))) (pw_or1 (pt_cmpR op_ne (pe_cmpR op_eq (pv 6) pe_str (nomark _)) (pe_cmpR op_eq (pv 4) pe_int (nomark _)) (nomark _))))) (pss_one (L2N.ps_raise rfl (L2N.takes_of rfl rfl rfl rfl) (pmk_mk k_BadText hr (by first | decide | exact Nat.le_refl _) (pa_cons (pv 4) pa_nil)))) pss_nil)
  (pss_cons (ps_set (i := 8) sc_read_board.nd rfl (Or.inl rfl) (pe_callTy call_tuple_of (by rfl) z_tuple (by decide +kernel) (pa_cons (pe_lc (own := [("figures", 9)]) rfl sc_read_board.nd (pi_lt (pv 7)) (blkOk_by (own := [("figures", 9)]) (N := nm_read_board) (sc := defScope (topS 26)) (by decide +kernel)) (fun _ _ _ _ _ => (pg_name (i := 9) sc_read_board.nd rfl (Or.inl rfl))) (fun _ _ _ _ _ => pts_nil) (fun _ _ _ _ _ => (pe_cal c_number_of hr (by first | decide | exact Nat.le_refl _) (pa_cons (pv 9) pa_nil)))) pa_nil)))
  (pss_one (ps_if (pt_cmpR op_eq (pv 6) pe_str (nomark _)) (pss_one (ps_set (i := 1) sc_read_board.nd rfl (Or.inl rfl) (pv 8))) (pss_one (ps_if (pt_cmpR op_ne (pv 6) pe_str (nomark _)) (pss_one (ps_expr (pe_bm PySem.F.plainAttrs_list PySem.F.slot_list_append PySem.F.type_list_append mt_append (pv 3) (pa_cons (pe_tup (pa_cons (pv 6) (StX.pa_star (pv 8) pa_nil))) pa_nil)))) (pss_one (ps_if (pt_truth (pv 3) (fun _ => rfl)) (pss_one (L2N.ps_raise rfl (L2N.takes_of rfl rfl rfl rfl) (pmk_mk k_BadText hr (by first | decide | exact Nat.le_refl _) (pa_cons (pv 4) pa_nil)))) (pss_one (ps_expr (pe_bm PySem.F.plainAttrs_list PySem.F.slot_list_append PySem.F.type_list_append mt_append (pv 2) (pa_cons (pv 8) pa_nil))))))))))))))
  (pss_cons (ps_set (i := 10) sc_read_board.nd rfl (Or.inl rfl) (pe_tup (pa_cons (pv 1) (pa_cons (pe_callTy call_tuple_of (by rfl) z_tuple (by decide +kernel) (pa_cons (pv 2) pa_nil)) (pa_cons (pe_callTy call_tuple_of (by rfl) z_tuple (by decide +kernel) (pa_cons (pv 3) pa_nil)) pa_nil)))))
  (pss_cons (ps_expr (pe_calN c_require_board hr (by first | decide | exact Nat.le_refl _) (L2N.takes_of rfl rfl rfl rfl) (pa_cons (pv 10) pa_nil)))
  (pss_one (ps_ret (pv 10))))))))), ?_⟩
    obtain ⟨jx, _⟩ := rows_jl x
    refine ⟨Nat.zero_le _, fun M nM => ⟨Nat.zero_le _, fun O nO => ⟨Nat.zero_le _, fun G nG => ?_⟩⟩⟩
    have e1 := same_new (o := .tup []) nM
    have e2 := same_new (o := .lst []) nO
    have e3 := same_new (o := .lst []) nG
    have hM : (upd (upd (upd H M (.tup [])) O (.lst [])) G (.lst [])) M = some (.tup []) := e3 _ _ (e2 _ _ upd_same)
    have hO : (upd (upd (upd H M (.tup [])) O (.lst [])) G (.lst [])) O = some (.lst []) := e3 _ _ upd_same
    have hG : (upd (upd (upd H M (.tup [])) O (.lst [])) G (.lst [])) G = some (.lst []) := upd_same
    have OG : O ≠ G := fun z => by rw [← z, upd_same] at nG; cases nG
    have nO0 : H O = none := by
      cases z : H O with
      | none => rfl
      | some u => rw [e1 _ _ z] at nO; cases nO
    have nG0 : H G = none := by
      cases z : H G with
      | none => rfl
      | some u => rw [e2 _ _ (e1 _ _ z)] at nG; cases nG
    have s1 : Same H (upd (upd (upd H M (.tup [])) O (.lst [])) G (.lst [])) := (e1.trans e2).trans e3
    generalize upd (upd (upd H M (.tup [])) O (.lst [])) G (.lst []) = H1 at hM hO hG s1
    refine ⟨_, rfl, ⟨_, rfl⟩, x, "\n", rfl, rfl, by decide +kernel, fits' (by omega), fun p np => ?_⟩
    generalize hrows : Txt.split x "\n" = rows at qT qB jx
    have rl : rows.length ≤ 991 := by
      have := jl_len (ys := rows); omega
    have s2 := same_new (o := .lst (rows.map V.str)) np
    refine ⟨p, rfl, .inl ⟨_, sqL_l upd_same, ?_⟩⟩
    have hM2 := s2 _ _ hM
    have hO2 := s2 _ _ hO
    have hG2 := s2 _ _ hG
    have hp2 : (upd H1 p (.lst (rows.map V.str))) p = some (.lst (rows.map V.str)) := upd_same
    have pO : p ≠ O := (ne_of_none hO np).symm
    have pG : p ≠ G := (ne_of_none hG np).symm
    generalize upd H1 p (.lst (rows.map V.str)) = H2 at s2 hM2 hO2 hG2 hp2
    have nO2 : ∀ {H' : Hp}, But [O, G] H2 H' → Same H H' := fun {H'} bt b u e => by
      refine bt b u (fun m => ?_) (s2 _ _ (s1 _ _ e))
      rcases List.mem_cons.mp m with rfl | m
      · rw [nO0] at e; cases e
      · rw [List.mem_singleton.mp m, nG0] at e; cases e
    refine for_it (walk_enum (xs := rows.map V.str)) (fun i σ H' => ∃ (y1 : V) (y4 y5 y6 y7 y8 y9 y10 : Option V) (os ps : List V) (R : RBrd), σ = [some (.str x), some y1, some (.ref O), some (.ref G), y4, y5, y6, y7, y8, y9, y10] ∧ readR 0 noBrd rows = readR i R (rows.drop i) ∧
        Pd H' y1 (.tup (R.mem.map D.int)) ∧ H' O = some (.lst os) ∧ Pds H' os (R.ords.map ROrd.d) ∧ H' G = some (.lst ps) ∧ Pds H' ps (R.prog.map RDeed.d) ∧ R.ords.length ≤ i ∧ R.prog.length ≤ i ∧ But [O, G] H2 H')
      ⟨_, _, _, _, _, _, _, _, [], [], noBrd, rfl, rfl, .tup hM2 .nil, hO2, .nil, hG2, .nil, Nat.le_refl _, Nat.le_refl _, But.refl⟩ (fun i σ H' _ hp => by obtain ⟨_, _, _, _, _, _, _, _, _, _, _, _, _, _, _, _, _, _, _, _, bt⟩ := hp; exact sqL_l (bt _ _ (by simp [pO, pG]) hp2)) (fun i x0 σ H3 H4 hi hp hy => ?_) (fun σ H3 hp => ?_)
    · obtain ⟨y1, y4, y5, y6, y7, y8, y9, y10, os, ps, R, rfl, hrd, hm, hO3, hos, hG3, hps, lo, lp, bt⟩ := hp
      obtain ⟨T, a1, b, rfl, nT, _, h1, hb, s4, hT⟩ := pair_at hy
      cases h1
      rw [List.getElem?_map] at hb
      obtain ⟨r, hr0, rfl⟩ : ∃ r, rows[i]? = some r ∧ V.str r = b := by simpa using hb
      have il := (List.getElem?_eq_some_iff.mp hr0).1
      have dr : rows.drop i = r :: rows.drop (i + 1) := by
        rw [List.drop_eq_getElem_cons il, (List.getElem?_eq_some_iff.mp hr0).2]
      rw [dr, readR] at hrd
      have rlen : r.length ≤ 990 := by
        have := jl_mem (List.mem_of_getElem? hr0)
        omega
      have bt4 : But [O, G] H2 H4 := bt.trans (Same.but s4)
      have hm4 := hm.same s4
      have hos4 := hos.same s4
      have hps4 := hps.same s4
      have hO4 := s4 _ _ hO3
      have hG4 := s4 _ _ hG3
      refine ⟨T, _, rfl, sqT_t hT, rfl, _, _, rfl, _, _, rfl, rfl, ?_⟩
      -- word, *words = row.split(" ")
      refine ⟨_, rfl, ⟨_, rfl⟩, _, " ", rfl, rfl, by decide +kernel, fits' (by omega), fun q1 nq1 => ?_⟩
      have sw := split_words r
      obtain ⟨jw, _⟩ := words_jl r
      rw [sw] at jw ⊢
      have wl : (tailW r).length ≤ 990 := by
        have := jl_len (ys := headW r :: tailW r)
        rw [List.length_cons] at this; omega
      have wm : ∀ y ∈ tailW r, y.length ≤ 1000 := fun y hy => by
        have := jl_mem (ys := headW r :: tailW r) (List.mem_cons_of_mem _ hy)
        omega
      have s5 := same_new (o := .lst ((headW r :: tailW r).map V.str)) nq1
      refine ⟨q1, .str (headW r), (tailW r).map V.str, rfl, sqL_l upd_same, by rw [List.length_map]; omega, fun q2 nq2 => ?_⟩
      have s6 := same_new (o := .lst ((tailW r).map V.str)) nq2
      have hq2 : (upd (upd H4 q1 (.lst ((headW r :: tailW r).map V.str))) q2 (.lst ((tailW r).map V.str))) q2 = some (.lst ((tailW r).map V.str)) := upd_same
      have s56 : Same H4 (upd (upd H4 q1 (.lst ((headW r :: tailW r).map V.str))) q2 (.lst ((tailW r).map V.str))) := s5.trans s6
      generalize upd (upd H4 q1 (.lst ((headW r :: tailW r).map V.str))) q2 (.lst ((tailW r).map V.str)) = H6 at s56 hq2
      generalize hz : headW r = z at *
      generalize hws : tailW r = ws at *
      have bad : rowBad R i r = (!wordsOk z ws || (decide (z = "memory") != decide (i = 0)) || (decide (z = "order") && decide (R.prog ≠ []))) := by unfold rowBad; rw [hz, hws]
      have raise : ∀ {H' : Hp}, Same H4 H' → rowBad R i r = true → ∀ d, H' d = none → E (.ref BT) (some d) (upd H' d (.xd [("row", .int (i : Nat))])) := fun {H'} s' hb d hd => by
        rw [hb, if_pos rfl] at hrd
        exact qT i hrd _ d (nO2 ((bt4.trans (Same.but s')).trans (Same.but (same_new hd)))) upd_same
      refine ⟨_, rfl, _, rfl, z, q2, ws, rfl, hq2, wm, by omega, fun H7 s7 => ?_⟩
      cases hwk : wordsOk z ws with
      | false =>
        refine ⟨_, rfl, iteT ⟨_, rfl, ?_⟩⟩
        exact rd_x1 (fld := "row") (n := (i : Nat)) (by omega) (by omega) (raise (s56.trans s7) (by rw [bad, hwk]; rfl))
      | true =>
      refine ⟨_, rfl, iteF ?_⟩
      have first : decide (V.bl (decide (V.str z = V.str "memory")) = V.bl (decide (V.int (i : Nat) = V.int 0))) = !(decide (z = "memory") != decide (i = 0)) := by
        have g1 : decide (V.str z = V.str "memory") = decide (z = "memory") := by
          by_cases h : z = "memory"
          · subst h; rw [decide_eq_true rfl, decide_eq_true rfl]
          · rw [decide_eq_false h, decide_eq_false fun y => h (by injection y)]
        have g2 : decide (V.int (i : Nat) = V.int 0) = decide (i = 0) := by
          by_cases h : i = 0
          · subst h; rfl
          · rw [decide_eq_false h, decide_eq_false fun y => h (by injection y with y; omega)]
        rw [g1, g2]
        cases decide (z = "memory") <;> cases decide (i = 0) <;> rfl
      refine ⟨_, rfl, rfl, _, rfl, rfl, rfl, _, rfl, ?_⟩
      rw [first]
      cases hne : (decide (z = "memory") != decide (i = 0)) with
      | true =>
        refine iteT ⟨_, rfl, ?_⟩
        exact rd_x1 (fld := "row") (n := (i : Nat)) (by omega) (by omega) (raise (s56.trans s7) (by rw [bad, hwk, hne]; rfl))
      | false =>
      refine iteF ?_
      -- numbers
      have hq27 := s7 _ _ hq2
      refine ⟨_, rfl, q2, rfl, .inl ⟨_, sqL_l hq27, fun D nD => ?_⟩⟩
      have each := words_each hwk
      refine lc_it (walk_list (xs := ws.map V.str)) (fun j H' => H' D = some (.lst ((ws.take j).map fun y => iV (numO y))) ∧ Same H7 H')
        ⟨upd_same, same_new nD⟩ (fun j H' _ hp => sqL_l (hp.2 _ _ hq27)) (fun j x1 H8 H9 hj hp hy => ?_) (fun H8 hp => ?_)
      · obtain ⟨hD, s8⟩ := hp
        obtain ⟨rfl, hx⟩ := hy
        rw [List.getElem?_map] at hx
        obtain ⟨o, ho, rfl⟩ : ∃ o, ws[j]? = some o ∧ V.str o = x1 := by simpa using hx
        have tk : ws.take (j + 1) = ws.take j ++ [o] := by rw [List.take_add_one, ho]; rfl
        refine ⟨rfl, iteT (B := True) ⟨_, rfl, o, rfl, each o (List.mem_of_getElem? ho), _, hD, fits ?_, ?_, fun b u e => ?_⟩⟩
        · have := List.length_take_le' j ws
          simp only [List.length_map]; omega
        · rw [upd_same, tk, List.map_append]; rfl
        · rw [upd_ne (ne_of_none e nD)]; exact s8 _ _ e
      obtain ⟨hD, s8⟩ := hp
      rw [List.length_map, List.take_length] at hD
      refine ⟨D, _, rfl, .inl ⟨sqL_l hD, fun N nN => ?_⟩⟩
      have s9 := same_new (o := .tup (ws.map fun y => iV (numO y))) nN
      have hN : (upd H8 N (.tup (ws.map fun y => iV (numO y)))) N = some (.tup (ws.map fun y => iV (numO y))) := upd_same
      have s49 : Same H4 (upd H8 N (.tup (ws.map fun y => iV (numO y)))) := ((s56.trans s7).trans s8).trans s9
      generalize upd H8 N (.tup (ws.map fun y => iV (numO y))) = H9 at s49 hN
      have bt9 : But [O, G] H2 H9 := bt4.trans (Same.but s49)
      have hO9 := s49 _ _ hO4
      have hG9 := s49 _ _ hG4
      have hos9 := hos4.same s49
      have hps9 := hps4.same s49
      have hm9 := hm4.same s49
      have osl : os.length ≤ 991 := by
        rw [hos9.len, List.length_map]; omega
      have psl : ps.length ≤ 991 := by
        rw [hps9.len, List.length_map]; omega
      clear first
      have next : (decide (z = "order") && decide (R.prog ≠ [])) = false → readR 0 noBrd rows = readR (i + 1) (addRow R z ws) (rows.drop (i + 1)) := fun hb => by
        rw [hrd, if_neg (by rw [bad, hwk, hne, hb]; decide)]
      refine ⟨_, rfl, rfl, _, rfl, ite2 (fun e => ?_) (fun e => ?_)⟩
      · have ez : z = "memory" := by have := of_decide_eq_true e; injection this
        have hall : ws.all numOk = true := by
          rw [wordsOk, if_neg (by rw [ez]; decide), if_pos ez] at hwk; exact hwk
        have no : ¬ z = "order" := by rw [ez]; decide
        refine ⟨_, rfl, ?_⟩
        refine ⟨_, _, _, _, _, _, _, _, os, ps, addRow R z ws, rfl, next (by rw [decide_eq_false no]; rfl), ?_⟩
        rw [show addRow R z ws = { R with mem := numsOf ws } from by unfold addRow; rw [if_pos ez]]
        rw [vals_nums hall] at hN
        exact ⟨.tup hN (pds_nums _), hO9, hos9, hG9, hps9, Nat.le_succ_of_le lo, Nat.le_succ_of_le lp, bt9⟩
      have nm : ¬ z = "memory" := fun y => e (decide_eq_true (by rw [y]))
      clear e
      refine ⟨_, rfl, rfl, _, rfl, ite2 (fun e => ?_) (fun e => ?_)⟩
      · have no : ¬ z = "order" := fun y => by
          rw [y] at e
          exact absurd e (by decide)
        have hall : ws.all numOk = true := by
          rw [wordsOk, if_neg no, if_neg nm] at hwk
          cases ek : kindsOf z with
          | none => rw [ek] at hwk; cases hwk
          | some ks =>
            rw [ek] at hwk
            dsimp only at hwk
            rw [Bool.and_eq_true] at hwk
            exact hwk.2
        rw [vals_nums hall] at hN
        refine ⟨_, rfl, .inl ⟨rfl, _, sqL_l hG9⟩, _, rfl, _, rfl, N, _, rfl, .inl (sqT_t hN), fits' (by simp only [numsOf, List.length_cons, List.length_append, List.length_map, List.length_nil]; omega), fun U nU => ?_⟩
        have s10 := same_new (o := .tup (.str z :: ((numsOf ws).map V.int ++ []))) nU
        have bG : But [G] (upd H9 U (.tup (.str z :: ((numsOf ws).map V.int ++ [])))) (upd (upd H9 U (.tup (.str z :: ((numsOf ws).map V.int ++ [])))) G (.lst (ps ++ [.ref U]))) := But.set (by simp)
        have hG10 := s10 _ _ hG9
        have ls : Lsts (upd H9 U (.tup (.str z :: ((numsOf ws).map V.int ++ [])))) [G] := fun c hc => ⟨ps, by rw [List.mem_singleton.mp hc]; exact hG10⟩
        have UG : U ≠ G := (ne_of_none hG9 nU).symm
        refine ⟨G, ps, _, rfl, rfl, hG10, fits (by omega), ?_⟩
        refine ⟨_, _, _, _, _, _, _, _, os, ps ++ [.ref U], addRow R z ws, rfl, next (by rw [decide_eq_false no]; rfl), ?_⟩
        rw [show addRow R z ws = { R with prog := R.prog ++ [⟨z, numsOf ws⟩] } from by unfold addRow; rw [if_neg nm, if_neg no]]
        refine ⟨Pd.but bG ls (by rw [D.noL, noLs_nums]) (hm9.same s10), bG.at1 (s10 _ _ hO9) OG, Pds.but bG ls (noLs_map noL_rord _) (hos9.same s10), upd_same, ?_, Nat.le_succ_of_le lo, by show (R.prog ++ [_]).length ≤ i + 1; rw [List.length_append, List.length_singleton]; omega, (bt9.trans (Same.but s10)).trans (bG.mono (by simp))⟩
        show Pds _ _ ((R.prog ++ [(⟨z, numsOf ws⟩ : RDeed)]).map RDeed.d)
        rw [List.map_append]
        refine Pds.app (Pds.but bG ls (noLs_map noL_rdeed _) (hps9.same s10)) (.cons (.tup (by rw [upd_ne UG]; exact upd_same) (.cons (.str _) ?_)) .nil)
        rw [List.append_nil]
        exact pds_nums _
      · have zo : z = "order" := by
          by_cases h : z = "order"
          · exact h
          · exfalso
            refine e ?_
            rw [decide_eq_false fun y => h (by injection y)]; rfl
        clear e
        refine ⟨_, rfl, _, .inl ⟨ps, sqL_l hG9, rfl⟩, ?_⟩
        cases hpp : R.prog with
        | cons d0 dr0 =>
          have pne : ps.isEmpty = false := by
            cases ps with
            | nil =>
              have := hps9.len
              rw [hpp] at this
              simp at this
            | cons _ _ => rfl
          rw [pne]
          refine iteT ⟨_, rfl, ?_⟩
          exact rd_x1 (fld := "row") (n := (i : Nat)) (by omega) (by omega) (raise s49 (by rw [bad, hwk, hne, zo, hpp]; rfl))
        | nil =>
          have pe : ps = [] := by
            have := hps9.len
            rw [hpp] at this
            exact List.length_eq_zero_iff.mp this
          subst pe
          refine iteF ?_
          rw [zo] at hwk
          obtain ⟨vo, w4⟩ := vals_ord hwk
          rw [vo] at hN
          refine ⟨_, rfl, .inl ⟨rfl, _, sqL_l hO9⟩, _, rfl, O, os, _, rfl, rfl, hO9, fits (by omega), ?_⟩
          have bO : But [O] H9 (upd H9 O (.lst (os ++ [.ref N]))) := But.set (by simp)
          have ls : Lsts H9 [O] := fun c hc => ⟨os, by rw [List.mem_singleton.mp hc]; exact hO9⟩
          refine ⟨_, _, _, _, _, _, _, _, os ++ [.ref N], [], addRow R z ws, rfl, next (by rw [hpp]; simp), ?_⟩
          rw [show addRow R z ws = { R with ords := R.ords ++ [ordOf ws] } from by unfold addRow; rw [if_neg nm, if_pos zo]]
          refine ⟨Pd.but bO ls (by rw [D.noL, noLs_nums]) hm9, upd_same, ?_, bO.at1 hG9 OG.symm, ?_, by show (R.ords ++ [_]).length ≤ i + 1; rw [List.length_append, List.length_singleton]; omega, Nat.le_succ_of_le lp, bt9.trans (bO.mono (by simp))⟩
          · show Pds _ _ ((R.ords ++ [ordOf ws]).map ROrd.d)
            rw [List.map_append]
            refine Pds.app (Pds.but bO ls (noLs_map noL_rord _) hos9) (.cons (.tup (bO _ _ (fun m => by
              rw [List.mem_singleton.mp m, hO9] at hN; cases hN) hN) ?_) .nil)
            refine .cons (.int _) (.cons (.int _) (.cons (.int _) (.cons ?_ .nil)))
            cases (ordOf ws).later with
            | none => exact .non
            | some k => exact .int k
          · show Pds _ _ (R.prog.map RDeed.d)
            rw [hpp]; exact .nil
    · obtain ⟨y1, y4, y5, y6, y7, y8, y9, y10, os, ps, R, rfl, hrd, hm, hO3, hos, hG3, hps, lo, lp, bt⟩ := hp
      rw [List.length_map] at hrd lo lp
      rw [List.drop_length, readR] at hrd
      obtain ⟨qe, qn⟩ := qB R hrd
      have rok : RawOk K w dd R := told_raw (told_read told0 hrd)
      refine ⟨_, rfl, _, rfl, O, _, rfl, .inl ⟨sqL_l hO3, fun N1 nN1 => ?_⟩⟩
      have t1 := same_new (o := .tup os) nN1
      refine ⟨_, rfl, G, _, rfl, .inl ⟨sqL_l (t1 _ _ hG3), fun N2 nN2 => ?_⟩⟩
      have t2 := same_new (o := .tup ps) nN2
      refine ⟨by show 3 ≤ sizeLine; decide, fun N3 nN3 => ?_⟩
      have t3 := same_new (o := .tup [y1, .ref N1, .ref N2]) nN3
      have t13 := (t1.trans t2).trans t3
      have hB : Pd (upd (upd (upd H3 N1 (.tup os)) N2 (.tup ps)) N3 (.tup [y1, .ref N1, .ref N2])) (.ref N3) R.d :=
        .tup upd_same (.cons (hm.same t13) (.cons (.tup (t3 _ _ (t2 _ _ upd_same)) (hos.same t13)) (.cons (.tup (t3 _ _ upd_same) (hps.same t13)) .nil)))
      have s03 := nO2 (bt.trans (Same.but t13))
      refine ⟨_, rfl, .ref N3, R, rfl, hB, rok, fun ew H5 s5 => ?_, fun z n ew H5 d s5 hd => qe z n ew H5 d (s03.trans s5) hd⟩
      exact ⟨_, rfl, qn ew H5 (.ref N3) (s03.trans s5) (hB.same s5)⟩
end
end Vt
namespace Vt
open PySem PySem.Spec PyProof.Rows L2
/-- xs == [], whatever the items are -/
def rEqNil : R2 := fun x y H Q => ∃ a b xs, x = .ref a ∧ y = .ref b ∧ H a = some (.lst xs) ∧ H b = some (.lst []) ∧ Q (.bl xs.isEmpty) H
theorem op_eqNil {X : Cx} (hu : X.A.units + 64 < cLine) : OpR X (compareOp .Eq) rEqNil := by
  intro pins s σ H x y v u Q I rx ry h
  obtain ⟨a, b, xs, rfl, rfl, hA, hB, q⟩ := h
  cases rx
  cases ry
  obtain ⟨z, its, n, r, hl, e⟩ := I.lstM hA
  obtain ⟨z2, its2, n2, r2, hl2, e2⟩ := I.lstM hB
  cases r2
  have l1 : s.heap.IsList a its.toArray := ⟨_, e, rfl, n, rfl⟩
  have l2 : s.heap.IsList b ([] : List Value).toArray := ⟨_, e2, rfl, n2, rfl⟩
  have key : SeqAt.RcAt X.A s (.ref a) (.ref b) xs.isEmpty := by
    cases its with
    | nil =>
      cases r
      exact SeqAt.RcAt.lists (e := fun _ => true) l1 l2 rfl (by omega) (fun j h1 _ => absurd h1 (by simp))
    | cons i t =>
      cases r
      exact SeqAt.RcAt.lists_lengths l1 l2 (by simp) (by omega)
  exact key _ _ _ _ ⟨.bl _, H, I, rfl, q⟩
theorem digit_in (c : Nat) : decide (c ∈ ("0123456789" : Str).cps.toList) = (decide (48 ≤ c) && decide (c ≤ 57)) := by
  have e : ("0123456789" : Str).cps.toList = [48, 49, 50, 51, 52, 53, 54, 55, 56, 57] := by decide +kernel
  rw [e]
  by_cases h : 48 ≤ c ∧ c ≤ 57
  · rw [decide_eq_true h.1, decide_eq_true h.2]
    refine decide_eq_true ?_
    obtain ⟨h1, h2⟩ := h
    rcases (show c = 48 ∨ c = 49 ∨ c = 50 ∨ c = 51 ∨ c = 52 ∨ c = 53 ∨ c = 54 ∨ c = 55 ∨ c = 56 ∨ c = 57 by omega) with rfl | rfl | rfl | rfl | rfl | rfl | rfl | rfl | rfl | rfl <;> decide
  · have : (decide (48 ≤ c) && decide (c ≤ 57)) = false := by
      rw [Bool.and_eq_false_iff]
      by_cases h1 : 48 ≤ c
      · exact .inr (decide_eq_false fun h2 => h ⟨h1, h2⟩)
      · exact .inl (decide_eq_false h1)
    rw [this]
    refine decide_eq_false fun m => h ?_
    simp only [List.mem_cons, List.not_mem_nil, or_false] at m
    omega
theorem filt_digs (l : List Nat) : (l.filter fun c => !(decide (48 ≤ c) && decide (c ≤ 57))).isEmpty = l.all fun c => decide (48 ≤ c) && decide (c ≤ 57) := by
  induction l with
  | nil => rfl
  | cons c r ih =>
    rw [List.all_cons, ← ih]
    cases h : (decide (48 ≤ c) && decide (c ≤ 57)) with
    | true => rw [List.filter_cons_of_neg (by rw [h]; decide)]; rfl
    | false => rw [List.filter_cons_of_pos (by rw [h]; rfl)]; rfl
theorem filt_num (l : List Str) : (l.filter fun z => !numOk z).isEmpty = l.all numOk := by
  induction l with
  | nil => rfl
  | cons c r ih =>
    rw [List.all_cons, ← ih]
    cases h : numOk c with
    | true => rw [List.filter_cons_of_neg (by rw [h]; decide)]; rfl
    | false => rw [List.filter_cons_of_pos (by rw [h]; rfl)]; rfl
/-- so many words stand behind a word -/
def manyW (z : Str) : Option Nat := if z = "order" then some 4 else (kindsOf z).map List.length
def countsW : List (Key × V) := [(.inr "order", .int 4), (.inr "set", .int 2), (.inr "add", .int 2), (.inr "say", .int 1), (.inr "start", .int 1), (.inr "wait", .int 0), (.inr "clean", .int 1), (.inr "drop", .int 1)]
theorem counts_val (z : Str) : valV countsW (.inr z) = (manyW z).map fun n => V.int (n : Nat) := by
  unfold countsW manyW kindsOf
  have ne : ∀ {a b : Str}, ¬ b = a → ¬ (Sum.inr a : Key) = .inr b := fun h e => h (by injection e with e; exact e.symm)
  by_cases h0 : z = "order"
  · subst h0; rfl
  rw [valV_neg (ne h0), if_neg h0]
  by_cases h1 : z = "set"
  · subst h1; rfl
  rw [valV_neg (ne h1), if_neg h1]
  by_cases h2 : z = "add"
  · subst h2; rfl
  rw [valV_neg (ne h2), if_neg h2]
  by_cases h3 : z = "say"
  · subst h3; rfl
  rw [valV_neg (ne h3), if_neg h3]
  by_cases h4 : z = "start"
  · subst h4; rfl
  rw [valV_neg (ne h4), if_neg h4]
  by_cases h5 : z = "wait"
  · subst h5; rfl
  rw [valV_neg (ne h5), if_neg h5]
  by_cases h6 : z = "clean"
  · subst h6; rfl
  rw [valV_neg (ne h6), if_neg h6]
  by_cases h7 : z = "drop"
  · subst h7; rfl
  rw [valV_neg (ne h7), if_neg h7]
  rfl
theorem many_mem : manyW "memory" = none := by decide
theorem many_ord : manyW "order" = some 4 := by decide
theorem ws_ok_many {z : Str} {ws : List Str} {n : Nat} (h : manyW z = some n) (hz : ¬ z = "order") : wordsOk z ws = (decide (ws.length = n) && ws.all numOk) := by
  have hm : ¬ z = "memory" := fun e => by rw [e, many_mem] at h; cases h
  unfold manyW at h
  rw [if_neg hz] at h
  rw [wordsOk, if_neg hz, if_neg hm]
  cases e : kindsOf z with
  | none => rw [e] at h; cases h
  | some ks =>
    rw [e] at h
    cases h
    rfl
theorem ws_not {z : Str} {ws : List Str} (h : manyW z = none) (hm : ¬ z = "memory") : wordsOk z ws = false := by
  have hz : ¬ z = "order" := fun e => by rw [e, many_ord] at h; cases h
  unfold manyW at h
  rw [if_neg hz] at h
  rw [wordsOk, if_neg hz, if_neg hm]
  cases e : kindsOf z with
  | none => rfl
  | some ks => rw [e] at h; cases h
section
variable {P : Program} {w : World} {K : PySem.W.Frag} {mg : Str → Option Value} {base : Heap}
abbrev st_law_number : Stmt := (topS 41)
abbrev nm_law_number : List Str := ["_law_word", "_law_sign"]
theorem sc_law_number : FnScope ["_law_word", "_law_sign"] ["_law_word"] (defScope st_law_number) := ⟨rfl, rfl, rfl, by decide +kernel, rfl, by decide +kernel, by decide +kernel⟩
def spLNum : Sp := fun vs H Q _ => ∃ z : Str, vs = [.str z] ∧ z.length ≤ 1000 ∧ ∀ H', Same H H' → Q (iV (numO z)) H'
set_option maxHeartbeats 0 in
theorem ok_lnum {f : Addr} {fd : FuncData} (F : Fun K "_law_number" "_law_number" st_law_number f fd) (z_len : mg "len" = none) (z_int : mg "int" = none) : FnOk P w K mg base CX0 1 f fd ["_law_word"] spLNum := by
  refine F.ok sc_law_number (fun vs H Q E h => ?_) (fun cdv A outer s H vs Q E hr h => ?_)
  · obtain ⟨z, rfl, _⟩ := h
    rfl
  · obtain ⟨z, rfl, hl, q⟩ := h
    refine ⟨_, (pss_cons (ps_if (PW.pt (pw_or (pt_cmpR op_eq (pv 0) pe_str (nomark _)) (pw_or (pt_cmpR op_gt (pe_callB call_len_str (by rfl) z_len (by decide +kernel) (pa_cons (pv 0) pa_nil)) pe_int (nomark _)) (pw_or1 (pt_cmpR (op_neNil hr.units) (pe_lc (own := [("_law_sign", 1)]) rfl sc_law_number.nd (pi_str (pv 0)) (blkOk_by (own := [("_law_sign", 1)]) (N := nm_law_number) (sc := defScope (topS 41)) (by decide +kernel)) (fun _ _ _ _ _ => (pg_name (i := 1) sc_law_number.nd rfl (Or.inl rfl))) (fun _ _ _ _ _ => (pts_one (pt_cmpR op_notIn_sign (pv 1) pe_str (by rfl)))) (fun _ _ _ _ _ => (pv 1))) (pe_lst pa_nil) (nomark _)))))) (pss_one (ps_ret pe_non)) pss_nil)
  (pss_one (ps_ret (pe_ifExp (PW.pt (pw_and (pt_cmpR op_eq (pe_ix ix_str (pv 0) pe_int (fun _ _ => rfl)) pe_str (nomark _)) (pw_and1 (pt_cmpR op_ne (pv 0) pe_str (nomark _))))) pe_non (pe_callTy call_int_str (by rfl) z_int (by decide +kernel) (pa_cons (pv 0) pa_nil)))))), ?_⟩
    have ln : z.length ≤ sizeLine := fits' (by omega)
    have non : numOk z = false → ∀ H', Same H H' → Q .non H' := fun hn H' s' => by
      have := q H' s'
      rw [numO, if_neg (by rw [hn]; decide)] at this
      exact this
    refine ⟨_, rfl, rfl, _, rfl, ite2 (fun e => ?_) (fun e => ?_)⟩
    · have ez : z = "" := by have := of_decide_eq_true e; injection this
      exact non (by rw [ez]; decide +kernel) H (Same.refl H)
    have nz : z.length ≠ 0 := fun h0 => e (decide_eq_true (by
      have : z = "" := TL.ext_tl (by
        have h1 := (TL.len0_tl z).mp h0
        rw [h1]; decide +kernel)
      rw [this]))
    clear e
    refine ⟨_, rfl, z, rfl, ln, _, _, rfl, rfl, _, rfl, ?_⟩
    by_cases h9 : z.length ≤ 9
    · refine iteF' (decide_eq_false (by omega)) ?_
      -- the signs that are none of figures
      refine ⟨_, rfl, z, rfl, fun D nD => ?_⟩
      refine lc_it (walk_str (z := z)) (fun j H' => H' D = some (.lst (((z.cps.toList.take j).filter fun c => !(decide (48 ≤ c) && decide (c ≤ 57))).map fun c => V.str ⟨#[c]⟩)) ∧ Same H H')
        ⟨upd_same, same_new nD⟩ (fun _ _ _ _ => trivial) (fun j x H4 H5 hj hp hy => ?_) (fun H4 hp => ?_)
      · obtain ⟨hD, s4⟩ := hp
        obtain ⟨rfl, c, hc, rfl⟩ := hy
        have hc' : z.cps.toList[j]? = some c := by rw [Array.getElem?_toList]; exact hc
        have tk : z.cps.toList.take (j + 1) = z.cps.toList.take j ++ [c] := by rw [List.take_add_one, hc']; rfl
        refine ⟨rfl, _, rfl, c, "0123456789", rfl, rfl, _, rfl, ?_⟩
        rw [digit_in]
        cases hb : (decide (48 ≤ c) && decide (c ≤ 57)) with
        | true =>
          refine iteF ⟨?_, s4⟩
          rw [tk, List.filter_append, List.filter_cons_of_neg (by rw [hb]; decide), List.filter_nil, List.append_nil]; exact hD
        | false =>
          refine iteT ⟨_, rfl, _, hD, fits ?_, ?_, fun b u e => ?_⟩
          · rw [List.length_map]
            have h1 := List.length_filter_le (fun c => !(decide (48 ≤ c) && decide (c ≤ 57))) (z.cps.toList.take j)
            have h2 := List.length_take_le' j z.cps.toList
            have h3 : z.cps.toList.length = z.length := Array.length_toList
            omega
          · rw [upd_same, tk, List.filter_append, List.filter_cons_of_pos (by rw [hb]; rfl), List.filter_nil, List.map_append]; rfl
          · rw [upd_ne (ne_of_none e nD)]; exact s4 _ _ e
      obtain ⟨hD, s4⟩ := hp
      have hz9 : z.cps.toList.take z.cps.size = z.cps.toList := List.take_of_length_le (by rw [Array.length_toList]; exact Nat.le_refl _)
      rw [hz9] at hD
      refine ⟨Nat.zero_le _, fun E0 nE0 => ?_⟩
      have sE := same_new (o := .lst []) nE0
      have s5 := s4.trans sE
      refine ⟨D, E0, _, rfl, rfl, sE _ _ hD, upd_same, ?_⟩
      have em : ((z.cps.toList.filter fun c => !(decide (48 ≤ c) && decide (c ≤ 57))).map fun c => V.str ⟨#[c]⟩).isEmpty = digs z := by
        rw [show ∀ l : List Nat, (l.map fun c => V.str ⟨#[c]⟩).isEmpty = l.isEmpty from fun l => by cases l <;> rfl, filt_digs]; rfl
      rw [em]
      cases hd : digs z with
      | false =>
        refine ⟨_, rfl, iteT ?_⟩
        exact non (by unfold numOk; rw [hd]; simp) _ s5
      | true =>
      refine ⟨_, rfl, iteF ?_⟩
      obtain ⟨c, hc⟩ : ∃ c, z.cps.toList[0]? = some c := by
        rw [TL.len_tl] at nz
        cases ez : z.cps.toList with
        | nil => exact absurd (by rw [TL.tl, ez]; rfl) nz
        | cons c r => exact ⟨c, rfl⟩
      have a0 : atI z.cps.toList 0 = some c := atI_nat (j := 0) hc
      have key : numOk z = (decide (z = ("0" : Str)) || !decide (c = 48)) := by
        unfold numOk
        rw [decide_eq_true nz, decide_eq_true h9, hd, hc]
        by_cases hc8 : c = 48 <;> simp [hc8]
      have yes : numOk z = true → Q (.int (numN z : Nat)) (upd H4 E0 (.lst [])) := fun hn => by
        have := q _ s5
        rw [numO_ok hn] at this
        exact this
      refine ⟨_, rfl, z, 0, c, rfl, rfl, ln, a0, rfl, _, rfl, ?_⟩
      rw [one_sign]
      by_cases hc8 : c = 48
      · rw [decide_eq_true hc8]
        refine iteT ⟨_, rfl, rfl, _, rfl, ?_⟩
        by_cases h0 : z = "0"
        · refine iteF' (by rw [h0]; rfl) ⟨_, rfl, z, (numN z : Int), rfl, num_text hd nz h9, by omega, yes (by rw [key, decide_eq_true h0]; rfl)⟩
        · refine iteT' (by rw [decide_eq_false fun y => h0 (by injection y)]; rfl) ?_
          exact non (by rw [key, decide_eq_false h0, decide_eq_true hc8]; rfl) _ s5
      · rw [decide_eq_false hc8]
        exact iteF ⟨_, rfl, z, (numN z : Int), rfl, num_text hd nz h9, by omega, yes (by rw [key, decide_eq_false hc8, Bool.not_false, Bool.or_true])⟩
    · refine iteT' (decide_eq_true (by omega)) (non ?_ H (Same.refl H))
      unfold numOk
      rw [decide_eq_false h9]; simp
abbrev st_law_is_row : Stmt := (topS 42)
abbrev nm_law_is_row : List Str := ["_law_words", "_law_counts", "_law_many", "_law_word"]
theorem sc_law_is_row : FnScope ["_law_words", "_law_counts", "_law_many", "_law_word"] ["_law_words"] (defScope st_law_is_row) := ⟨rfl, rfl, rfl, by decide +kernel, rfl, by decide +kernel, by decide +kernel⟩
def spLRow : Sp := fun vs H Q _ => ∃ (a : Addr) (z : Str) (ws : List Str), vs = [.ref a] ∧ H a = some (.lst ((z :: ws).map V.str)) ∧ (∀ y ∈ ws, y.length ≤ 1000) ∧ ws.length ≤ 1001 ∧ ∀ H', Same H H' → Q (.bl (wordsOk z ws)) H'
set_option maxHeartbeats 0 in
theorem ok_lrow {f : Addr} {fd : FuncData} (F : Fun K "_law_is_row" "_law_is_row" st_law_is_row f fd) (c_law_number : Callee P w K mg base "_law_number" 1 1 spLNum) (z_len : mg "len" = none) : FnOk P w K mg base CX0 2 f fd ["_law_words"] spLRow := by
  refine F.ok sc_law_is_row (fun vs H Q E h => ?_) (fun cdv A outer s H vs Q E hr h => ?_)
  · obtain ⟨a, z, ws, rfl, _⟩ := h
    rfl
  · obtain ⟨a, z, ws, rfl, ha, hs, hlen, q⟩ := h
    refine ⟨_, (pss_cons (ps_set (i := 1) sc_law_is_row.nd rfl (Or.inl rfl) (pe_disp (pps_cons pe_str pe_int (pps_cons pe_str pe_int (pps_cons pe_str pe_int (pps_cons pe_str pe_int (pps_cons pe_str pe_int (pps_cons pe_str pe_int (pps_cons pe_str pe_int (pps_cons pe_str pe_int pps_nil)))))))) (by rfl) (by rfl) (fun z => by cases z) (by decide)))
  (pss_cons (ps_set (i := 2) sc_law_is_row.nd rfl (Or.inl rfl) (pe_dget2 (hu_of hr) (pv 1) (pe_ix ix_lt (pv 0) pe_int (fun _ _ => rfl)) (pe_op op_sub (pe_callB call_len_seq (by rfl) z_len (by decide +kernel) (pa_cons (pv 0) pa_nil)) pe_int) ⟨rfl, rfl, rfl, rfl⟩))
  (pss_cons (ps_if (PW.pt (pw_or (PW.pt (pw_and (pt_cmp (pc_dnotin (hu_of hr) (pe_ix ix_lt (pv 0) pe_int (fun _ _ => rfl)) (pv 1))) (pw_and1 (pt_cmpR op_ne (pe_ix ix_lt (pv 0) pe_int (fun _ _ => rfl)) pe_str (nomark _))))) (pw_or1 (pt_cmpR op_ne (pv 2) (pe_op op_sub (pe_callB call_len_seq (by rfl) z_len (by decide +kernel) (pa_cons (pv 0) pa_nil)) pe_int) (nomark _))))) (pss_one (ps_ret pe_bl)) pss_nil)
  (pss_cut (ps_if (PW.pt (pw_and (pt_cmpR op_eq (pe_ix ix_lt (pv 0) pe_int (fun _ _ => rfl)) pe_str (nomark _)) (pw_and1 (pt_cmpR op_eq (pe_ix ix_lt (pv 0) pe_int (fun _ _ => rfl)) pe_str (nomark _))))) (pss_one (ps_set (i := 0) sc_law_is_row.nd rfl (Or.inl rfl) (pe_slice sl_list (pv 0) po_none (po_some pe_int)))) pss_nil)
  (pss_one (ps_ret (pe_cmpR (op_eqNil hr.units) (pe_lc (own := [("_law_word", 3)]) rfl sc_law_is_row.nd (pi_lt (pe_slice sl_list (pv 0) (po_some pe_int) po_none)) (blkOk_by (own := [("_law_word", 3)]) (N := nm_law_is_row) (sc := defScope (topS 42)) (by decide +kernel)) (fun _ _ _ _ _ => (pg_name (i := 3) sc_law_is_row.nd rfl (Or.inl rfl))) (fun _ _ _ _ _ => (pts_one (pt_cmpR op_isN (pe_cal c_law_number hr (by first | decide | exact Nat.le_refl _) (pa_cons (pv 3) pa_nil)) pe_non (nomark _)))) (fun _ _ _ _ _ => (pv 3))) (pe_lst pa_nil) (nomark _)))))))), ?_⟩
    refine fun c nc => ⟨upd_same, countsW, rfl, by show 8 ≤ 15; decide, ?_⟩
    have em : mergeK [] countsW = countsW := rfl
    rw [em, upd_upd]
    have s1 := same_new (o := .dK countsW) nc
    have hc : (upd H c (.dK countsW)) c = some (.dK countsW) := upd_same
    have ha1 := s1 _ _ ha
    generalize upd H c (.dK countsW) = H1 at s1 hc ha1
    have a0 : atI ((z :: ws).map V.str) 0 = some (.str z) := at0
    refine ⟨_, rfl, c, rfl, .inl ⟨_, .inl hc⟩, _, rfl, a, _, 0, .str z, rfl, rfl, sqA_l ha1, a0, ?_⟩
    refine ⟨_, rfl, a, _, rfl, .inl (sqL_l ha1), _, _, rfl, rfl, _, DGet.k (k := .inr z) hc, ?_⟩
    have wl : (((z :: ws).map V.str).length : Int) - 1 = (ws.length : Nat) := by rw [List.length_map, List.length_cons]; omega
    rw [counts_val]
    cases hm : manyW z with
    | some n =>
      dsimp only [Option.map_some, Option.getD_some]
      refine ⟨_, rfl, a, _, 0, .str z, rfl, rfl, sqA_l ha1, a0, _, rfl, c, _, rfl, DGet.k (k := .inr z) hc, _, rfl, ?_⟩
      rw [counts_val, hm]
      refine iteF ⟨_, rfl, _, rfl, a, _, rfl, .inl (sqL_l ha1), _, _, rfl, rfl, rfl, _, rfl, ?_⟩
      have e1 : (!decide (V.int (n : Nat) = V.int ((((z :: ws).map V.str).length : Int) - 1))) = !decide (ws.length = n) := by
        rw [wl]
        congr 1
        by_cases h : ws.length = n
        · rw [decide_eq_true h, h]; exact decide_eq_true rfl
        · rw [decide_eq_false h]; exact decide_eq_false fun y => h (by injection y with y; omega)
      by_cases hn : ws.length = n
      · refine iteF' (e1.trans (by rw [decide_eq_true hn]; rfl)) ?_
        refine ⟨fun σ' H' => ∃ (ra : Addr) (us : List Str) (y2 y3 y4 : Option V), σ' = [some (.ref ra), y2, y3, y4] ∧ H' ra = some (.lst ((z :: us).map V.str)) ∧ (∀ y ∈ us, y ∈ ws) ∧ us.length ≤ ws.length ∧ wordsOk z ws = us.all numOk ∧ Same H H', ?_, fun σ' H' hM => ?_⟩
        · by_cases hz : z = "order"
          · subst hz
            rw [many_ord] at hm
            cases hm
            obtain ⟨w1, w2, w3, d, rfl⟩ := four_of hn
            have a4 : atI ((("order" : Str) :: ([w1, w2, w3, d] : List Str)).map V.str) 4 = some (.str d) := atI_nat (j := 4) rfl
            have okW : wordsOk "order" [w1, w2, w3, d] = (([w1, w2, w3] : List Str).all numOk && (decide (d = ("-" : Str)) || numOk d)) := by
              rw [wordsOk, if_pos rfl]
              have : decide (([w1, w2, w3, d] : List Str)[3]? = some ("-" : Str)) = decide (d = ("-" : Str)) := by
                by_cases h : d = "-"
                · subst h; rfl
                · rw [decide_eq_false h]
                  exact decide_eq_false fun z => h (Option.some.inj z)
              rw [this]
              show (true && ([w1, w2, w3] : List Str).all numOk && (decide (d = "-") || ([d] : List Str).all numOk)) = _
              rw [Bool.true_and]
              simp only [List.all_cons, List.all_nil, Bool.and_true]
            refine ⟨_, rfl, a, _, 0, .str "order", rfl, rfl, sqA_l ha1, a0, rfl, _, rfl, iteT' rfl ⟨_, rfl, a, _, 4, .str d, rfl, rfl, sqA_l ha1, a4, rfl, _, rfl, ?_⟩⟩
            by_cases hd : d = "-"
            · refine iteT' (by rw [hd]; rfl) ⟨_, rfl, 4, rfl, a, _, rfl, sqL_l ha1, fun p np => ?_⟩
              have cut : cutV ((("order" : Str) :: ([w1, w2, w3, d] : List Str)).map V.str) none (some 4) = (("order" : Str) :: ([w1, w2, w3] : List Str)).map V.str := rfl
              rw [cut]
              refine ⟨p, [w1, w2, w3], _, _, _, rfl, upd_same, fun y hy => ?_, by simp, ?_, s1.trans (same_new np)⟩
              · simp only [List.mem_cons, List.not_mem_nil, or_false] at hy ⊢
                rcases hy with h | h | h <;> simp [h]
              · rw [okW, decide_eq_true hd, Bool.true_or, Bool.and_true]
            · refine iteF' (by rw [decide_eq_false fun y => hd (by injection y)]) ?_
              refine ⟨a, [w1, w2, w3, d], _, _, _, rfl, ha1, fun y hy => hy, Nat.le_refl _, ?_, s1⟩
              rw [okW, decide_eq_false hd, Bool.false_or]
              simp only [List.all_cons, List.all_nil, Bool.and_true, Bool.and_assoc]
          · refine ⟨_, rfl, a, _, 0, .str z, rfl, rfl, sqA_l ha1, a0, rfl, _, rfl, iteF' (by rw [decide_eq_false fun y => hz (by injection y)]) ?_⟩
            refine ⟨a, ws, _, _, _, rfl, ha1, fun y hy => hy, Nat.le_refl _, ?_, s1⟩
            rw [ws_ok_many hm hz, decide_eq_true hn]; rfl
        · obtain ⟨ra, us, y2, y3, y4, rfl, hra, hus, lus, eok, s2⟩ := hM
          refine ⟨_, rfl, _, rfl, ra, _, rfl, sqL_l hra, fun p np => ?_⟩
          have cut : cutV ((z :: us).map V.str) (some 1) none = us.map V.str := by
            rw [cutV, HT.sIx_none, show (some (1 : Int)) = some ((1 : Nat) : Int) from rfl, HT.sIx_nat, List.length_map, List.length_cons, Nat.min_eq_left (by omega), List.map_cons, List.drop_succ_cons, List.drop_zero, List.take_of_length_le (by rw [List.length_map]; omega)]
          rw [cut]
          have s3 := same_new (o := .lst (us.map V.str)) np
          have hp3 : (upd H' p (.lst (us.map V.str))) p = some (.lst (us.map V.str)) := upd_same
          generalize upd H' p (.lst (us.map V.str)) = H3 at s3 hp3
          refine ⟨p, rfl, .inl ⟨_, sqL_l hp3, fun D nD => ?_⟩⟩
          refine lc_it (walk_list (xs := us.map V.str)) (fun j H' => H' D = some (.lst (((us.take j).filter fun y => !numOk y).map V.str)) ∧ Same H3 H')
            ⟨upd_same, same_new nD⟩ (fun j H' _ hp => sqL_l (hp.2 _ _ hp3)) (fun j x H4 H5 hj hp hy => ?_) (fun H4 hp => ?_)
          · obtain ⟨hD, s4⟩ := hp
            obtain ⟨rfl, hx⟩ := hy
            rw [List.getElem?_map] at hx
            obtain ⟨y, hy0, rfl⟩ : ∃ y, us[j]? = some y ∧ V.str y = x := by simpa using hx
            have tk : us.take (j + 1) = us.take j ++ [y] := by rw [List.take_add_one, hy0]; rfl
            refine ⟨rfl, _, rfl, y, rfl, hs y (hus y (List.mem_of_getElem? hy0)), fun H6 s6 => ⟨rfl, _, rfl, ?_⟩⟩
            have e6 : decide (iV (numO y) = V.non) = !numOk y := by
              cases hn : numOk y with
              | true => rw [numO_ok hn]; rfl
              | false => rw [numO, if_neg (by rw [hn]; decide)]; rfl
            rw [e6]
            cases hb : numOk y with
            | true =>
              refine iteF ⟨?_, s4.trans s6⟩
              rw [tk, List.filter_append, List.filter_cons_of_neg (by rw [hb]; decide), List.filter_nil, List.append_nil]; exact s6 _ _ hD
            | false =>
              refine iteT ⟨_, rfl, _, s6 _ _ hD, fits ?_, ?_, fun b u e => ?_⟩
              · rw [List.length_map]
                have h1 := List.length_filter_le (fun y => !numOk y) (us.take j)
                have h2 := List.length_take_le' j us
                omega
              · rw [upd_same, tk, List.filter_append, List.filter_cons_of_pos (by rw [hb]; rfl), List.filter_nil, List.map_append]; rfl
              · rw [upd_ne (ne_of_none e nD)]; exact s6 _ _ (s4 _ _ e)
          obtain ⟨hD, s4⟩ := hp
          rw [List.length_map, List.take_length] at hD
          refine ⟨Nat.zero_le _, fun E0 nE0 => ?_⟩
          have sE := same_new (o := .lst []) nE0
          refine ⟨D, E0, _, rfl, rfl, sE _ _ hD, upd_same, ?_⟩
          have em2 : ((us.filter fun y => !numOk y).map V.str).isEmpty = wordsOk z ws := by
            rw [eok, ← filt_num]
            cases us.filter fun y => !numOk y <;> rfl
          rw [em2]
          exact q _ (s2.trans (s3.trans (s4.trans sE)))
      · refine iteT' (e1.trans (by rw [decide_eq_false hn]; rfl)) ?_
        have := q H1 s1
        by_cases hz : z = "order"
        · subst hz
          rw [many_ord] at hm
          cases hm
          rw [wordsOk, if_pos rfl, decide_eq_false hn] at this
          exact this
        · rw [ws_ok_many hm hz, decide_eq_false hn] at this
          exact this
    | none =>
      dsimp only [Option.map_none, Option.getD_none]
      refine ⟨_, rfl, a, _, 0, .str z, rfl, rfl, sqA_l ha1, a0, _, rfl, c, _, rfl, DGet.k (k := .inr z) hc, _, rfl, ?_⟩
      rw [counts_val, hm]
      refine iteT ⟨_, rfl, a, _, 0, .str z, rfl, rfl, sqA_l ha1, a0, rfl, _, rfl, ?_⟩
      by_cases hz : z = "memory"
      · refine iteF' (by rw [hz]; rfl) ?_
        refine ⟨_, rfl, _, rfl, a, _, rfl, .inl (sqL_l ha1), _, _, rfl, rfl, rfl, _, rfl, iteF' (by rw [decide_eq_true rfl]; rfl) ?_⟩
        refine ⟨fun σ' H' => ∃ (ra : Addr) (us : List Str) (y2 y3 y4 : Option V), σ' = [some (.ref ra), y2, y3, y4] ∧ H' ra = some (.lst ((z :: us).map V.str)) ∧ (∀ y ∈ us, y ∈ ws) ∧ us.length ≤ ws.length ∧ wordsOk z ws = us.all numOk ∧ Same H H', ?_, fun σ' H' hM => ?_⟩
        · have hzo : ¬ z = "order" := by rw [hz]; decide
          refine ⟨_, rfl, a, _, 0, .str z, rfl, rfl, sqA_l ha1, a0, rfl, _, rfl, iteF' (by rw [decide_eq_false fun y => hzo (by injection y)]) ?_⟩
          refine ⟨a, ws, _, _, _, rfl, ha1, fun y hy => hy, Nat.le_refl _, ?_, s1⟩
          rw [wordsOk, if_neg hzo, if_pos hz]
        · obtain ⟨ra, us, y2, y3, y4, rfl, hra, hus, lus, eok, s2⟩ := hM
          refine ⟨_, rfl, _, rfl, ra, _, rfl, sqL_l hra, fun p np => ?_⟩
          have cut : cutV ((z :: us).map V.str) (some 1) none = us.map V.str := by
            rw [cutV, HT.sIx_none, show (some (1 : Int)) = some ((1 : Nat) : Int) from rfl, HT.sIx_nat, List.length_map, List.length_cons, Nat.min_eq_left (by omega), List.map_cons, List.drop_succ_cons, List.drop_zero, List.take_of_length_le (by rw [List.length_map]; omega)]
          rw [cut]
          have s3 := same_new (o := .lst (us.map V.str)) np
          have hp3 : (upd H' p (.lst (us.map V.str))) p = some (.lst (us.map V.str)) := upd_same
          generalize upd H' p (.lst (us.map V.str)) = H3 at s3 hp3
          refine ⟨p, rfl, .inl ⟨_, sqL_l hp3, fun D nD => ?_⟩⟩
          refine lc_it (walk_list (xs := us.map V.str)) (fun j H' => H' D = some (.lst (((us.take j).filter fun y => !numOk y).map V.str)) ∧ Same H3 H')
            ⟨upd_same, same_new nD⟩ (fun j H' _ hp => sqL_l (hp.2 _ _ hp3)) (fun j x H4 H5 hj hp hy => ?_) (fun H4 hp => ?_)
          · obtain ⟨hD, s4⟩ := hp
            obtain ⟨rfl, hx⟩ := hy
            rw [List.getElem?_map] at hx
            obtain ⟨y, hy0, rfl⟩ : ∃ y, us[j]? = some y ∧ V.str y = x := by simpa using hx
            have tk : us.take (j + 1) = us.take j ++ [y] := by rw [List.take_add_one, hy0]; rfl
            refine ⟨rfl, _, rfl, y, rfl, hs y (hus y (List.mem_of_getElem? hy0)), fun H6 s6 => ⟨rfl, _, rfl, ?_⟩⟩
            have e6 : decide (iV (numO y) = V.non) = !numOk y := by
              cases hn : numOk y with
              | true => rw [numO_ok hn]; rfl
              | false => rw [numO, if_neg (by rw [hn]; decide)]; rfl
            rw [e6]
            cases hb : numOk y with
            | true =>
              refine iteF ⟨?_, s4.trans s6⟩
              rw [tk, List.filter_append, List.filter_cons_of_neg (by rw [hb]; decide), List.filter_nil, List.append_nil]; exact s6 _ _ hD
            | false =>
              refine iteT ⟨_, rfl, _, s6 _ _ hD, fits ?_, ?_, fun b u e => ?_⟩
              · rw [List.length_map]
                have h1 := List.length_filter_le (fun y => !numOk y) (us.take j)
                have h2 := List.length_take_le' j us
                omega
              · rw [upd_same, tk, List.filter_append, List.filter_cons_of_pos (by rw [hb]; rfl), List.filter_nil, List.map_append]; rfl
              · rw [upd_ne (ne_of_none e nD)]; exact s6 _ _ (s4 _ _ e)
          obtain ⟨hD, s4⟩ := hp
          rw [List.length_map, List.take_length] at hD
          refine ⟨Nat.zero_le _, fun E0 nE0 => ?_⟩
          have sE := same_new (o := .lst []) nE0
          refine ⟨D, E0, _, rfl, rfl, sE _ _ hD, upd_same, ?_⟩
          have em2 : ((us.filter fun y => !numOk y).map V.str).isEmpty = wordsOk z ws := by
            rw [eok, ← filt_num]
            cases us.filter fun y => !numOk y <;> rfl
          rw [em2]
          exact q _ (s2.trans (s3.trans (s4.trans sE)))
      · refine iteT' (by rw [decide_eq_false fun y => hz (by injection y)]; rfl) ?_
        have := q H1 s1
        rw [ws_not hm hz] at this
        exact this
end
end Vt
namespace Vt
open PySem PySem.Spec PyProof.Rows L2
theorem Pds.fore {H : Hp} : ∀ {vs : List V} {ds : List D} (n : Nat), Pds H vs ds → Pds H (vs.take n) (ds.take n)
  | _, _, 0, _ => .nil
  | _, _, n + 1, .nil => by rw [List.take_nil, List.take_nil]; exact .nil
  | _, _, n + 1, .cons h t => .cons h (Pds.fore n t)
theorem sl_fore {K : PySem.W.Frag} {H : Hp} {a : Addr} {xs : List V} {n : Nat} {k : Int} {Q : VK} (hk : k = (n : Int)) (ha : H a = some (.tup xs)) (q : ∀ (b : Addr) (H' : Hp), Same H H' → H' b = some (.tup (xs.take n)) → Q (.ref b) H') : rSlA K (.ref a) none (some k) H Q := by
  subst hk
  refine ⟨a, xs, rfl, sqT_t ha, fun h => ?_, fun h p np => ?_⟩
  · have h2 := h.2
    rw [HT.sIx_nat] at h2
    exact q a H (Same.refl _) (by rw [List.take_of_length_le (by omega)]; exact ha)
  · refine q p _ (same_new np) ?_
    rw [upd_same, cutV, HT.sIx_none, HT.sIx_nat, List.drop_zero, Nat.sub_zero]
    have : xs.take (min n xs.length) = xs.take n := by
      rw [← List.take_take, List.take_of_length_le (Nat.le_refl _)]
    rw [this]
/-- the first place, by a list of all -/
theorem fst_range {α : Type} {p : Nat → α → Bool} {xs : List α} {b : Nat → Bool} (hb : ∀ i x, xs[i]? = some x → b i = p i x) : ((List.range xs.length).filter b).head? = fst p 0 xs := by
  rw [List.head?_filter]
  cases e : fst p 0 xs with
  | none =>
    rw [List.find?_range_eq_none]
    intro i hi
    have h1 := of_fst_none e i (xs[i]) (List.getElem?_eq_getElem hi)
    rw [Nat.zero_add] at h1
    rw [hb i _ (List.getElem?_eq_getElem hi), h1]; rfl
  | some i =>
    obtain ⟨_, h2, x, h3, h4, h5⟩ := fst_lt e
    rw [Nat.sub_zero] at h3
    rw [List.find?_range_eq_some]
    refine ⟨by rw [hb i x h3]; exact h4, List.mem_range.mpr (by omega), fun j hj => ?_⟩
    have hj' : j < xs.length := by omega
    have := h5 j (xs[j]) (by omega) (List.getElem?_eq_getElem hj')
    rw [Nat.zero_add] at this
    rw [hb j _ (List.getElem?_eq_getElem hj'), this]; rfl
theorem ord_by {cnt cells : Int} {at_ : Nat} {o : ROrd} (h4 : at_ ≤ 4) (n1 : 0 ≤ o.src) (n2 : 0 ≤ o.goal) :
    (!badOrd cnt cells at_ o) = (decide (1 ≤ o.many) && decide (o.many ≤ 8) && !decide (cells < o.src + o.many) && !decide (cells < o.goal + o.many) && decide ((at_ : Int) < 4) && laterCan cnt at_ o.later) := by
  unfold badOrd ordCan
  rw [decide_eq_true n1, decide_eq_true n2]
  have e1 : decide (o.src ≤ cells - o.many) = !decide (cells < o.src + o.many) := by
    by_cases h : cells < o.src + o.many
    · rw [decide_eq_true h, decide_eq_false (by omega)]; rfl
    · rw [decide_eq_false h, decide_eq_true (by omega)]; rfl
  have e2 : decide (o.goal ≤ cells - o.many) = !decide (cells < o.goal + o.many) := by
    by_cases h : cells < o.goal + o.many
    · rw [decide_eq_true h, decide_eq_false (by omega)]; rfl
    · rw [decide_eq_false h, decide_eq_true (by omega)]; rfl
  have e3 : decide (at_ = 4) = !decide ((at_ : Int) < 4) := by
    by_cases h : at_ = 4
    · subst h; rfl
    · rw [decide_eq_false h, decide_eq_true (by omega)]; rfl
  rw [e1, e2, e3]
  cases decide (1 ≤ o.many) <;> cases decide (o.many ≤ 8) <;> cases decide (cells < o.src + o.many) <;> cases decide (cells < o.goal + o.many) <;> cases decide ((at_ : Int) < 4) <;> cases laterCan cnt at_ o.later <;> rfl
section
variable {P : Program} {w : World} {K : PySem.W.Frag} {mg : Str → Option Value} {base : Heap}
abbrev st_law_is_order : Stmt := (topS 43)
abbrev nm_law_is_order : List Str := ["_law_order_here", "_law_number_here", "_law_cells", "_law_many", "_law_source", "_law_goal", "_law_count", "_law_later"]
theorem sc_law_is_order : FnScope ["_law_order_here", "_law_number_here", "_law_cells", "_law_many", "_law_source", "_law_goal", "_law_count", "_law_later"] ["_law_order_here", "_law_number_here", "_law_cells", "_law_many"] (defScope st_law_is_order) := ⟨rfl, rfl, rfl, by decide +kernel, rfl, by decide +kernel, by decide +kernel⟩
def spLOrd : Sp := fun vs H Q _ => ∃ (a : Addr) (o : ROrd) (at_ : Nat) (cells cnt : Int), vs = [.ref a, nV at_, .int cells, .int cnt] ∧ H a = some (.tup o.vs) ∧ at_ ≤ 4 ∧ 0 ≤ o.src ∧ 0 ≤ o.goal ∧ Q (.bl (!badOrd cnt cells at_ o)) H
set_option maxHeartbeats 0 in
theorem ok_lord {f : Addr} {fd : FuncData} (F : Fun K "_law_is_order" "_law_is_order" st_law_is_order f fd) : FnOk P w K mg base CX0 1 f fd ["_law_order_here", "_law_number_here", "_law_cells", "_law_many"] spLOrd := by
  refine F.ok sc_law_is_order (fun vs H Q E h => ?_) (fun cdv A outer s H vs Q E hr h => ?_)
  · obtain ⟨a, o, at_, cells, cnt, rfl, _⟩ := h
    rfl
  · obtain ⟨a, ⟨src, goal, many, later⟩, at_, cells, cnt, rfl, ha, h4, n1, n2, q⟩ := h
    rw [ord_by h4 n1 n2] at q
    dsimp only at q
    refine ⟨_, (pss_cons (ps_asg (pv 0) (pg_tup rfl (pgs_cons (pg_name (i := 4) sc_law_is_order.nd rfl (Or.inl rfl)) (pgs_cons (pg_name (i := 5) sc_law_is_order.nd rfl (Or.inl rfl)) (pgs_cons (pg_name (i := 6) sc_law_is_order.nd rfl (Or.inl rfl)) (pgs_cons (pg_name (i := 7) sc_law_is_order.nd rfl (Or.inl rfl)) pgs_nil))))))
  (pss_cons (ps_if (PW.pt (pw_or (pt_not (pt_chain op_le op_le pe_int (pv 6) pe_int)) (pw_or (pt_cmpR op_gt (pe_op op_add (pv 4) (pv 6)) (pv 2) (nomark _)) (pw_or1 (pt_cmpR op_gt (pe_op op_add (pv 5) (pv 6)) (pv 2) (nomark _)))))) (pss_one (ps_ret pe_bl)) pss_nil)
  (pss_one (ps_ret (pe_and (pe_cmpR op_lt (pv 1) pe_int (nomark _)) (pe_one (pe_or (pe_cmpR op_isN (pv 7) pe_non (nomark _)) (pe_one (pe_chain op_lt op_lt (pv 1) (pv 7) (pv 3)))))))))), ?_⟩
    refine ⟨_, rfl, a, _, rfl, sqT_t ha, rfl, _, _, rfl, _, _, rfl, _, _, rfl, _, _, rfl, rfl, ?_⟩
    refine ⟨_, rfl, _, _, rfl, rfl, ?_⟩
    by_cases c1 : 1 ≤ many
    · rw [decide_eq_true c1] at q
      refine ⟨_, rfl, iteT' (decide_eq_true c1) ⟨_, _, rfl, rfl, _, rfl, ?_⟩⟩
      by_cases c2 : many ≤ 8
      · rw [decide_eq_true c2] at q
        refine iteF' (by rw [decide_eq_true c2]; rfl) ⟨_, rfl, _, rfl, _, _, rfl, rfl, _, rfl, _, _, rfl, rfl, _, rfl, ?_⟩
        by_cases c3 : cells < src + many
        · rw [decide_eq_true c3] at q
          exact iteT' (decide_eq_true c3) q
        · rw [decide_eq_false c3] at q
          refine iteF' (decide_eq_false c3) ⟨_, rfl, _, rfl, _, _, rfl, rfl, _, rfl, _, _, rfl, rfl, _, rfl, ?_⟩
          by_cases c4 : cells < goal + many
          · rw [decide_eq_true c4] at q
            exact iteT' (decide_eq_true c4) q
          · rw [decide_eq_false c4] at q
            refine iteF' (decide_eq_false c4) ⟨_, rfl, _, _, rfl, rfl, _, rfl, ?_⟩
            by_cases c5 : (at_ : Int) < 4
            · rw [decide_eq_true c5] at q
              refine iteT' (decide_eq_true c5) ⟨_, rfl, rfl, _, rfl, ?_⟩
              cases later with
              | none => exact iteT q
              | some k =>
                refine iteF ⟨_, rfl, _, rfl, _, _, rfl, rfl, ?_⟩
                have ek : laterCan cnt at_ (some k) = (decide ((at_ : Int) < k) && decide (k < cnt)) := rfl
                rw [ek] at q
                by_cases c6 : (at_ : Int) < k
                · rw [decide_eq_true c6] at q
                  exact ⟨_, rfl, iteT' (decide_eq_true c6) ⟨_, rfl, _, _, rfl, rfl, q⟩⟩
                · rw [decide_eq_false c6] at q
                  exact ⟨_, rfl, iteF' (decide_eq_false c6) q⟩
            · rw [decide_eq_false c5] at q
              exact iteF' (decide_eq_false c5) q
      · rw [decide_eq_false c2] at q
        exact iteT' (by rw [decide_eq_false c2]; rfl) q
    · rw [decide_eq_false c1] at q
      exact ⟨_, rfl, iteF' (decide_eq_false c1) ⟨_, rfl, iteT' rfl q⟩⟩
end
theorem filt_all {α : Type} {b : α → Bool} (l : List α) : (l.filter b).isEmpty = l.all fun x => !b x := by
  induction l with
  | nil => rfl
  | cons c r ih =>
    rw [List.all_cons, ← ih]
    cases h : b c with
    | true => rw [List.filter_cons_of_pos h]; rfl
    | false => rw [List.filter_cons_of_neg (by rw [h]; decide)]; rfl
def capBad (cnt cells : Int) (ns : List Int) (ks : List Str) (k : Nat) : Bool := decide (cap cnt cells (ks.getD k "") ≤ ns.getD k 0)
theorem nums_by {cnt cells : Int} {ns : List Int} {ks : List Str} (h : ns.length = ks.length) (nn : ∀ n ∈ ns, 0 ≤ n) : ((List.range ns.length).filter (capBad cnt cells ns ks)).isEmpty = numsCan cnt cells ns ks := by
  rw [filt_all, ← numsCan_all h ((List.range ns.length).map fun k => !capBad cnt cells ns ks k) (by rw [List.length_map, List.length_range]) (fun i n k hn hk => ?_), List.all_map]
  · rfl
  · have il := (List.getElem?_eq_some_iff.mp hn).1
    rw [List.getElem?_map, List.getElem?_range il]
    have n0 := nn n (List.mem_of_getElem? hn)
    show some (!decide (cap cnt cells (ks.getD i "") ≤ ns.getD i 0)) = _
    rw [List.getD_eq_getElem?_getD, List.getD_eq_getElem?_getD, hn, hk, decide_eq_true n0, Bool.true_and]
    show some (!decide (cap cnt cells k ≤ n)) = some (decide (n < cap cnt cells k))
    by_cases h : cap cnt cells k ≤ n
    · rw [decide_eq_true h, decide_eq_false (by omega)]; rfl
    · rw [decide_eq_false h, decide_eq_true (by omega)]; rfl
section
variable {P : Program} {w : World} {K : PySem.W.Frag} {mg : Str → Option Value} {base : Heap}
abbrev st_law_is_deed : Stmt := (topS 44)
abbrev nm_law_is_deed : List Str := ["_law_deed_here", "_law_cells", "_law_many", "_law_most", "_law_k"]
theorem sc_law_is_deed : FnScope ["_law_deed_here", "_law_cells", "_law_many", "_law_most", "_law_k"] ["_law_deed_here", "_law_cells", "_law_many"] (defScope st_law_is_deed) := ⟨rfl, rfl, rfl, by decide +kernel, rfl, by decide +kernel, by decide +kernel⟩
def spLDeed : Sp := fun vs H Q _ => ∃ (a : Addr) (d : RDeed) (cells cnt : Int) (ks : List Str), vs = [.ref a, .int cells, .int cnt] ∧ H a = some (.tup d.vs) ∧ kindsOf d.word = some ks ∧ d.nums.length = ks.length ∧ (∀ n ∈ d.nums, 0 ≤ n) ∧ ∀ H', Same H H' → Q (.bl (deedCan cnt cells d)) H'
set_option maxHeartbeats 0 in
theorem ok_ldeed {f : Addr} {fd : FuncData} (F : Fun K "_law_is_deed" "_law_is_deed" st_law_is_deed f fd) (z_len : mg "len" = none) (z_range : mg "range" = none) : FnOk P w K mg base CX0 1 f fd ["_law_deed_here", "_law_cells", "_law_many"] spLDeed := by
  refine F.ok sc_law_is_deed (fun vs H Q E h => ?_) (fun cdv A outer s H vs Q E hr h => ?_)
  · obtain ⟨a, d, cells, cnt, ks, rfl, _⟩ := h
    rfl
  · obtain ⟨a, ⟨z, ns⟩, cells, cnt, ks, rfl, ha, hk, hl, nn, q⟩ := h
    dsimp only at ha hk hl nn q
    have ek : deedCan cnt cells ⟨z, ns⟩ = ((List.range ns.length).filter (capBad cnt cells ns ks)).isEmpty := by
      rw [nums_by hl nn]
      unfold deedCan
      dsimp only
      rw [hk]
    rw [ek] at q
    have kl := kinds_len hk
    refine ⟨_, (pss_cons (ps_set (i := 3) sc_law_is_deed.nd rfl (Or.inr rfl) (pe_disp (pps_cons pe_str (pe_lst (pa_cons (pv 1) (pa_cons pe_int pa_nil))) (pps_cons pe_str (pe_lst (pa_cons (pv 1) (pa_cons (pv 1) pa_nil))) (pps_cons pe_str (pe_lst (pa_cons (pv 1) pa_nil)) (pps_cons pe_str (pe_lst (pa_cons (pv 2) pa_nil)) (pps_cons pe_str (pe_lst pa_nil) pps_nil))))) (by rfl) (by rfl) (fun z => by cases z) (by decide)))
  (pss_cons (ps_expr (pe_dupd (pv 3) (pe_disp (pps_cons pe_str (pe_lst (pa_cons (pe_op op_fdiv (pv 1) pe_int) pa_nil)) (pps_cons pe_str (pe_lst (pa_cons (pe_op op_fdiv (pv 1) pe_int) pa_nil)) pps_nil)) (by rfl) (by rfl) (fun z => by cases z) (by decide)) ⟨rfl, rfl, rfl, rfl⟩))
  (pss_one (ps_ret (pe_cmpR (op_eqNil hr.units) (pe_lc (own := [("_law_k", 4)]) rfl sc_law_is_deed.nd (pi_range1 (by rfl) z_range (pa_cons (pe_op op_sub (pe_callB call_len_seq (by rfl) z_len (by decide +kernel) (pa_cons (pv 0) pa_nil)) pe_int) pa_nil)) (blkOk_by (own := [("_law_k", 4)]) (N := nm_law_is_deed) (sc := defScope (topS 44)) (by decide +kernel)) (fun _ _ _ _ _ => (pg_name (i := 4) sc_law_is_deed.nd rfl (Or.inl rfl))) (fun _ _ _ _ _ => (pts_one (pt_cmpR op_ge (pe_ix (ix_ltk K) (pv 0) (pe_op op_add (pv 4) pe_int) (fun _ _ => rfl)) (pe_ix (ix_ltk K) (pe_dget (hu_of hr) (pv 3) (pe_ix (ix_ltk K) (pv 0) pe_int (fun _ _ => rfl)) (fun _ _ => rfl)) (pv 4) (fun _ _ => rfl)) (nomark _)))) (fun _ _ _ _ _ => (pv 4))) (pe_lst pa_nil) (nomark _)))))), ?_⟩
    refine fun c nc => ?_
    have s0 := same_new (o := .dK []) nc
    have hc0 : (upd H c (.dK [])) c = some (.dK []) := upd_same
    have ha0 := s0 _ _ ha
    generalize upd H c (.dK []) = H0 at s0 hc0 ha0
    refine ⟨_, rfl, by show 2 ≤ sizeLine; decide, fun L1 n1 => ?_⟩
    have s1 := same_new (o := .lst [.int cells, .int 10]) n1
    have l1 : (upd H0 L1 (.lst [.int cells, .int 10])) L1 = some (.lst [.int cells, .int 10]) := upd_same
    generalize upd H0 L1 (.lst [.int cells, .int 10]) = H1 at s1 l1
    refine ⟨_, rfl, _, rfl, by show 2 ≤ sizeLine; decide, fun L2 n2 => ?_⟩
    have s2 := same_new (o := .lst [.int cells, .int cells]) n2
    have l2 : (upd H1 L2 (.lst [.int cells, .int cells])) L2 = some (.lst [.int cells, .int cells]) := upd_same
    generalize upd H1 L2 (.lst [.int cells, .int cells]) = H2 at s2 l2
    refine ⟨_, rfl, by show 1 ≤ sizeLine; decide, fun L3 n3 => ?_⟩
    have s3 := same_new (o := .lst [.int cells]) n3
    have l3 : (upd H2 L3 (.lst [.int cells])) L3 = some (.lst [.int cells]) := upd_same
    generalize upd H2 L3 (.lst [.int cells]) = H3 at s3 l3
    refine ⟨_, rfl, by show 1 ≤ sizeLine; decide, fun L4 n4 => ?_⟩
    have s4 := same_new (o := .lst [.int cnt]) n4
    have l4 : (upd H3 L4 (.lst [.int cnt])) L4 = some (.lst [.int cnt]) := upd_same
    generalize upd H3 L4 (.lst [.int cnt]) = H4 at s4 l4
    refine ⟨Nat.zero_le _, fun L5 n5 => ?_⟩
    have s5 := same_new (o := .lst []) n5
    have l5 : (upd H4 L5 (.lst [])) L5 = some (.lst []) := upd_same
    generalize upd H4 L5 (.lst []) = H5 at s5 l5
    have t45 := s5
    have t35 := s4.trans t45
    have t25 := s3.trans t35
    have t15 := s2.trans t25
    have t05 := s1.trans t15
    refine ⟨t05 _ _ hc0, [(.inr "set", .ref L1), (.inr "add", .ref L2), (.inr "say", .ref L3), (.inr "start", .ref L4), (.inr "wait", .ref L5)], rfl, by show 5 ≤ 15; decide, ?_⟩
    have em : mergeK [] [((.inr "set" : Key), V.ref L1), (.inr "add", .ref L2), (.inr "say", .ref L3), (.inr "start", .ref L4), (.inr "wait", .ref L5)] = [(.inr "set", .ref L1), (.inr "add", .ref L2), (.inr "say", .ref L3), (.inr "start", .ref L4), (.inr "wait", .ref L5)] := rfl
    rw [em]
    have hc5 := t05 _ _ hc0
    have nc5 : ∀ {b : Addr} {us : List V}, H5 b = some (.lst us) → b ≠ c := fun e z => by rw [z, hc5] at e; cases e
    have ha5 : H5 a = some (.tup ((⟨z, ns⟩ : RDeed).vs)) := t05 _ _ ha0
    have ac : a ≠ c := fun y => by rw [y, hc5] at ha5; cases ha5
    have m1 := t15 _ _ l1
    have m2 := t25 _ _ l2
    have m3 := t35 _ _ l3
    have m4 := t45 _ _ l4
    have sB : Same H (upd H5 c (.dK [(.inr "set", .ref L1), (.inr "add", .ref L2), (.inr "say", .ref L3), (.inr "start", .ref L4), (.inr "wait", .ref L5)])) := fun b u e => by
      rw [upd_ne (ne_of_none e nc)]
      exact t05 _ _ (s0 _ _ e)
    have g1 : (upd H5 c (.dK [(.inr "set", .ref L1), (.inr "add", .ref L2), (.inr "say", .ref L3), (.inr "start", .ref L4), (.inr "wait", .ref L5)])) L1 = some (.lst [.int cells, .int 10]) := by rw [upd_ne (nc5 m1)]; exact m1
    have g2 : (upd H5 c (.dK [(.inr "set", .ref L1), (.inr "add", .ref L2), (.inr "say", .ref L3), (.inr "start", .ref L4), (.inr "wait", .ref L5)])) L2 = some (.lst [.int cells, .int cells]) := by rw [upd_ne (nc5 m2)]; exact m2
    have g3 : (upd H5 c (.dK [(.inr "set", .ref L1), (.inr "add", .ref L2), (.inr "say", .ref L3), (.inr "start", .ref L4), (.inr "wait", .ref L5)])) L3 = some (.lst [.int cells]) := by rw [upd_ne (nc5 m3)]; exact m3
    have g4 : (upd H5 c (.dK [(.inr "set", .ref L1), (.inr "add", .ref L2), (.inr "say", .ref L3), (.inr "start", .ref L4), (.inr "wait", .ref L5)])) L4 = some (.lst [.int cnt]) := by rw [upd_ne (nc5 m4)]; exact m4
    have g5 : (upd H5 c (.dK [(.inr "set", .ref L1), (.inr "add", .ref L2), (.inr "say", .ref L3), (.inr "start", .ref L4), (.inr "wait", .ref L5)])) L5 = some (.lst []) := by rw [upd_ne (nc5 l5)]; exact l5
    have ga : (upd H5 c (.dK [(.inr "set", .ref L1), (.inr "add", .ref L2), (.inr "say", .ref L3), (.inr "start", .ref L4), (.inr "wait", .ref L5)])) a = some (.tup ((⟨z, ns⟩ : RDeed).vs)) := by rw [upd_ne ac]; exact ha5
    have gc : (upd H5 c (.dK [(.inr "set", .ref L1), (.inr "add", .ref L2), (.inr "say", .ref L3), (.inr "start", .ref L4), (.inr "wait", .ref L5)])) c = some (.dK [(.inr "set", .ref L1), (.inr "add", .ref L2), (.inr "say", .ref L3), (.inr "start", .ref L4), (.inr "wait", .ref L5)]) := upd_same
    generalize upd H5 c (.dK [(.inr "set", .ref L1), (.inr "add", .ref L2), (.inr "say", .ref L3), (.inr "start", .ref L4), (.inr "wait", .ref L5)]) = H6 at sB g1 g2 g3 g4 g5 ga gc
    refine ⟨_, rfl, c, rfl, .inl ⟨_, .inl gc⟩, fun c2 nc2 => ?_⟩
    have u0 := same_new (o := .dK []) nc2
    have hd0 : (upd H6 c2 (.dK [])) c2 = some (.dK []) := upd_same
    generalize upd H6 c2 (.dK []) = H7 at u0 hd0
    refine ⟨_, rfl, _, _, rfl, rfl, ⟨by decide, by decide⟩, by show 1 ≤ sizeLine; decide, fun L6 n6 => ?_⟩
    have u1 := same_new (o := .lst [.int (cells / 4)]) n6
    have l6 : (upd H7 L6 (.lst [.int (cells / 4)])) L6 = some (.lst [.int (cells / 4)]) := upd_same
    generalize upd H7 L6 (.lst [.int (cells / 4)]) = H8 at u1 l6
    refine ⟨_, rfl, _, _, rfl, rfl, ⟨by decide, by decide⟩, by show 1 ≤ sizeLine; decide, fun L7 n7 => ?_⟩
    have u2 := same_new (o := .lst [.int (cells / 4)]) n7
    have l7 : (upd H8 L7 (.lst [.int (cells / 4)])) L7 = some (.lst [.int (cells / 4)]) := upd_same
    generalize upd H8 L7 (.lst [.int (cells / 4)]) = H9 at u2 l7
    have hd9 := u2 _ _ (u1 _ _ hd0)
    have u12 := u1.trans u2
    have u02 := u0.trans u12
    refine ⟨hd9, [(.inr "clean", .ref L6), (.inr "drop", .ref L7)], rfl, by show 2 ≤ 15; decide, ?_⟩
    have em2 : mergeK [] [((.inr "clean" : Key), V.ref L6), (.inr "drop", .ref L7)] = [(.inr "clean", .ref L6), (.inr "drop", .ref L7)] := rfl
    rw [em2]
    have nd9 : ∀ {b : Addr} {u : HO}, H6 b = some u → b ≠ c2 := fun e => ne_of_none e nc2
    have nl6 : L6 ≠ c2 := fun y => by rw [y, hd0] at n6; cases n6
    have nl7 : L7 ≠ c2 := fun y => by rw [y, u1 _ _ hd0] at n7; cases n7
    have k1 : ∀ {b : Addr} {u : HO}, H6 b = some u → (upd H9 c2 (.dK [(.inr "clean", .ref L6), (.inr "drop", .ref L7)])) b = some u := fun e => by rw [upd_ne (nd9 e)]; exact u02 _ _ e
    have k6 : (upd H9 c2 (.dK [(.inr "clean", .ref L6), (.inr "drop", .ref L7)])) L6 = some (.lst [.int (cells / 4)]) := by rw [upd_ne nl6]; exact u2 _ _ l6
    have k7 : (upd H9 c2 (.dK [(.inr "clean", .ref L6), (.inr "drop", .ref L7)])) L7 = some (.lst [.int (cells / 4)]) := by rw [upd_ne nl7]; exact l7
    have kc2 : (upd H9 c2 (.dK [(.inr "clean", .ref L6), (.inr "drop", .ref L7)])) c2 = some (.dK [(.inr "clean", .ref L6), (.inr "drop", .ref L7)]) := upd_same
    generalize upd H9 c2 (.dK [(.inr "clean", .ref L6), (.inr "drop", .ref L7)]) = H10 at k1 k6 k7 kc2
    have hc10 := k1 gc
    refine ⟨c2, _, _, rfl, nd9 gc, hc10, kc2, by show 7 ≤ sizeLine; decide, ?_⟩
    have em3 : mergeK [((.inr "set" : Key), V.ref L1), (.inr "add", .ref L2), (.inr "say", .ref L3), (.inr "start", .ref L4), (.inr "wait", .ref L5)] [(.inr "clean", .ref L6), (.inr "drop", .ref L7)] = [(.inr "set", .ref L1), (.inr "add", .ref L2), (.inr "say", .ref L3), (.inr "start", .ref L4), (.inr "wait", .ref L5), (.inr "clean", .ref L6), (.inr "drop", .ref L7)] := rfl
    rw [em3]
    have cs : ∀ {b : Addr} {u : HO}, H10 b = some u → (∀ kv, u ≠ .dK kv) → ∀ o, (upd H10 c o) b = some u := fun {b u} e nd o => by
      rw [upd_ne (fun y => by rw [y, hc10] at e; exact nd _ (Option.some.inj e).symm)]; exact e
    have ldk : ∀ us : List V, ∀ kv, HO.lst us ≠ .dK kv := fun _ _ y => by cases y
    obtain ⟨l, hv, hl2⟩ : ∃ l, valV [((.inr "set" : Key), V.ref L1), (.inr "add", .ref L2), (.inr "say", .ref L3), (.inr "start", .ref L4), (.inr "wait", .ref L5), (.inr "clean", .ref L6), (.inr "drop", .ref L7)] (.inr z) = some (.ref l) ∧ H10 l = some (.lst (ks.map fun k => V.int (cap cnt cells k))) := by
      unfold kindsOf at hk
      split at hk
      · rename_i e; subst e; cases hk; exact ⟨L1, rfl, k1 g1⟩
      split at hk
      · rename_i e; subst e; cases hk; exact ⟨L2, rfl, k1 g2⟩
      split at hk
      · rename_i e; subst e; cases hk; exact ⟨L3, rfl, k1 g3⟩
      split at hk
      · rename_i e; subst e; cases hk; exact ⟨L4, rfl, k1 g4⟩
      split at hk
      · rename_i e; subst e; cases hk; exact ⟨L5, rfl, k1 g5⟩
      split at hk
      · rename_i e; subst e; cases hk; exact ⟨L6, rfl, k6⟩
      split at hk
      · rename_i e; subst e; cases hk; exact ⟨L7, rfl, k7⟩
      · cases hk
    have hl11 := cs hl2 (ldk _) (.dK [(.inr "set", .ref L1), (.inr "add", .ref L2), (.inr "say", .ref L3), (.inr "start", .ref L4), (.inr "wait", .ref L5), (.inr "clean", .ref L6), (.inr "drop", .ref L7)])
    have ha11 := cs (k1 ga) (fun _ y => by cases y) (.dK [(.inr "set", .ref L1), (.inr "add", .ref L2), (.inr "say", .ref L3), (.inr "start", .ref L4), (.inr "wait", .ref L5), (.inr "clean", .ref L6), (.inr "drop", .ref L7)])
    have hc11 : (upd H10 c (.dK [(.inr "set", .ref L1), (.inr "add", .ref L2), (.inr "say", .ref L3), (.inr "start", .ref L4), (.inr "wait", .ref L5), (.inr "clean", .ref L6), (.inr "drop", .ref L7)])) c = some (.dK [(.inr "set", .ref L1), (.inr "add", .ref L2), (.inr "say", .ref L3), (.inr "start", .ref L4), (.inr "wait", .ref L5), (.inr "clean", .ref L6), (.inr "drop", .ref L7)]) := upd_same
    have s11 : Same H (upd H10 c (.dK [(.inr "set", .ref L1), (.inr "add", .ref L2), (.inr "say", .ref L3), (.inr "start", .ref L4), (.inr "wait", .ref L5), (.inr "clean", .ref L6), (.inr "drop", .ref L7)])) := fun b u e => by
      rw [upd_ne (ne_of_none e nc)]
      exact k1 (sB _ _ e)
    generalize upd H10 c (.dK [(.inr "set", .ref L1), (.inr "add", .ref L2), (.inr "say", .ref L3), (.inr "start", .ref L4), (.inr "wait", .ref L5), (.inr "clean", .ref L6), (.inr "drop", .ref L7)]) = H11 at hl11 ha11 hc11 s11
    have vl : ((⟨z, ns⟩ : RDeed).vs.length : Int) - 1 = (ns.length : Nat) := by
      show (((V.str z :: ns.map V.int).length : Nat) : Int) - 1 = _
      rw [List.length_cons, List.length_map]; omega
    refine ⟨_, rfl, a, _, rfl, .inr (sqT_t ha11), _, _, rfl, rfl, ?_⟩
    have nl : ns.length ≤ 2 := by omega
    refine ⟨_, rfl, by omega, by omega, fun D nD => ?_⟩
    rw [vl]
    refine lc_it (walk_range (lo := 0) (n := ((ns.length : Nat) : Int).toNat)) (fun j H' => H' D = some (.lst (((List.range j).filter (capBad cnt cells ns ks)).map nV)) ∧ Same H11 H')
      ⟨upd_same, same_new nD⟩ (fun _ _ _ _ => trivial) (fun j x H12 H13 hj hp hy => ?_) (fun H12 hp => ?_)
    · obtain ⟨hD, s12⟩ := hp
      obtain ⟨rfl, rfl⟩ := hy
      have jl : j < ns.length := by simpa using hj
      refine chgN (y := nV j) (congrArg V.int (Int.zero_add _)) ?_
      obtain ⟨n, hn⟩ : ∃ n, ns[j]? = some n := ⟨_, List.getElem?_eq_getElem jl⟩
      obtain ⟨k, hk'⟩ : ∃ k, ks[j]? = some k := ⟨_, List.getElem?_eq_getElem (by omega)⟩
      have a1 : atI ((⟨z, ns⟩ : RDeed).vs) ((j : Int) + 1) = some (.int n) := by
        have := atI_nat (xs := (⟨z, ns⟩ : RDeed).vs) (j := j + 1) (v := .int n) (by
          show (V.str z :: ns.map V.int)[j + 1]? = _
          rw [List.getElem?_cons_succ, List.getElem?_map, hn]; rfl)
        exact this
      have a2 : atI (ks.map fun k => V.int (cap cnt cells k)) (j : Nat) = some (.int (cap cnt cells k)) := atI_nat (by rw [List.getElem?_map, hk']; rfl)
      have eb : capBad cnt cells ns ks j = decide (cap cnt cells k ≤ n) := by
        unfold capBad
        rw [List.getD_eq_getElem?_getD, List.getD_eq_getElem?_getD, hn, hk']; rfl
      have rs : (List.range (j + 1)).filter (capBad cnt cells ns ks) = (List.range j).filter (capBad cnt cells ns ks) ++ (if capBad cnt cells ns ks j = true then [j] else []) := by
        rw [List.range_succ, List.filter_append]
        congr 1
        by_cases h : capBad cnt cells ns ks j = true
        · rw [if_pos h, List.filter_cons_of_pos h, List.filter_nil]
        · rw [if_neg h, List.filter_cons_of_neg h, List.filter_nil]
      refine ⟨rfl, _, rfl, _, rfl, _, _, rfl, rfl, a, _, _, .int n, rfl, rfl, sqA_t (s12 _ _ ha11), a1, ?_⟩
      refine ⟨_, rfl, _, rfl, a, _, 0, .str z, rfl, rfl, sqA_t (s12 _ _ ha11), at0, c, .ref l, rfl, by rw [← hv]; exact DGet.k (k := .inr z) (s12 _ _ hc11), ?_⟩
      refine ⟨_, rfl, l, _, _, _, rfl, rfl, sqA_l (s12 _ _ hl11), a2, _, _, rfl, rfl, _, rfl, ?_⟩
      by_cases hb : cap cnt cells k ≤ n
      · rw [decide_eq_true hb] at eb
        rw [eb, if_pos rfl] at rs
        refine iteT' (decide_eq_true hb) ⟨_, rfl, _, hD, fits ?_, ?_, fun b u e => ?_⟩
        · rw [List.length_map]
          have h1 := List.length_filter_le (capBad cnt cells ns ks) (List.range j)
          rw [List.length_range] at h1
          omega
        · rw [upd_same, rs, List.map_append]; rfl
        · rw [upd_ne (ne_of_none e nD)]; exact s12 _ _ e
      · rw [decide_eq_false hb] at eb
        rw [eb, if_neg (by decide), List.append_nil] at rs
        exact iteF' (decide_eq_false hb) ⟨by rw [rs]; exact hD, s12⟩
    · obtain ⟨hD, s12⟩ := hp
      rw [Int.toNat_natCast] at hD
      refine ⟨Nat.zero_le _, fun E0 nE0 => ?_⟩
      have sE := same_new (o := .lst []) nE0
      refine ⟨D, E0, _, rfl, rfl, sE _ _ hD, upd_same, ?_⟩
      have em4 : (((List.range ns.length).filter (capBad cnt cells ns ks)).map nV).isEmpty = ((List.range ns.length).filter (capBad cnt cells ns ks)).isEmpty := by
        cases (List.range ns.length).filter (capBad cnt cells ns ks) <;> rfl
      rw [em4]
      exact q _ (s11.trans (s12.trans sE))
end
end Vt
namespace Vt
open PySem PySem.Spec PyProof.Rows L2
/-- what is told of a board -/
def outB (R : RBrd) : D := match wrongB R with
  | some (z, n) => .tup [.str "BadBoard", .str z, .int (n : Nat)]
  | none => .tup [.str "told", R.d, .int 0]
theorem out_bad {R : RBrd} {z : Str} {n : Nat} (h : wrongB R = some (z, n)) : outB R = .tup [.str "BadBoard", .str z, .int (n : Nat)] := by unfold outB; rw [h]
theorem out_ok {R : RBrd} (h : wrongB R = none) : outB R = .tup [.str "told", R.d, .int 0] := by unfold outB; rw [h]
theorem inV4 {n : Int} : inV (.int n) [.int 4, .int 8, .int 12, .int 16] = decide (n = 4 ∨ n = 8 ∨ n = 12 ∨ n = 16) := by
  unfold inV
  simp only [List.any_cons, List.any_nil, eqV, Bool.or_false]
  rw [Bool.eq_iff_iff, Bool.or_eq_true, Bool.or_eq_true, Bool.or_eq_true, decide_eq_true_iff, beq_iff_eq, beq_iff_eq, beq_iff_eq, beq_iff_eq]
  constructor
  · rintro (h | h | h | h) <;> simp [h]
  · rintro (h | h | h | h) <;> simp [h]
def cellBad (mem : List Int) (k : Nat) : Bool := decide (9 < mem.getD k 0)
section
variable {P : Program} {w : World} {K : PySem.W.Frag} {mg : Str → Option Value} {base : Heap}
abbrev st_law_of_board : Stmt := (topS 45)
abbrev nm_law_of_board : List Str := ["_law_board_here", "_law_memory", "_law_orders", "_law_program", "_law_bad", "_law_k", "_law_starts", "_law_deed_here"]
theorem sc_law_of_board : FnScope ["_law_board_here", "_law_memory", "_law_orders", "_law_program", "_law_bad", "_law_k", "_law_starts", "_law_deed_here"] ["_law_board_here"] (defScope st_law_of_board) := ⟨rfl, rfl, rfl, by decide +kernel, rfl, by decide +kernel, by decide +kernel⟩
def spLOf : Sp := fun vs H Q _ => ∃ (v : V) (R : RBrd), vs = [v] ∧ Pd H v R.d ∧ Told R ∧ R.prog.length ≤ 60 ∧ R.ords.length ≤ 900 ∧ R.mem.length ≤ 1000 ∧ ∀ (H' : Hp) (u : V), Same H H' → Pd H' u (outB R) → Q u H'
set_option maxHeartbeats 0 in
theorem ok_lof {f : Addr} {fd : FuncData} (F : Fun K "_law_of_board" "_law_of_board" st_law_of_board f fd) (c_law_is_order : Callee P w K mg base "_law_is_order" 1 4 spLOrd) (c_law_is_deed : Callee P w K mg base "_law_is_deed" 1 3 spLDeed) (z_len : mg "len" = none) (z_range : mg "range" = none) : FnOk P w K mg base CX0 2 f fd ["_law_board_here"] spLOf := by
  refine F.ok sc_law_of_board (fun vs H Q E h => ?_) (fun cdv A outer s H vs Q E hr h => ?_)
  · obtain ⟨v, R, rfl, _⟩ := h
    rfl
  · obtain ⟨v, R, rfl, hB, told, p60, o900, m1000, q⟩ := h
    obtain ⟨a, m, o, p, os, ps, rfl, ha, hm, ho, hos, hp, hps⟩ := RBrd.of hB
    have ol : os.length = R.ords.length := by rw [hos.len, List.length_map]
    have pl : ps.length = R.prog.length := by rw [hps.len, List.length_map]
    have bad : ∀ (z : Str) (n : Nat) (H' : Hp), wrongB R = some (z, n) → Same H H' → ([V.str "BadBoard", V.str z, V.int (n : Nat)] : List V).length ≤ sizeLine ∧ ∀ T, H' T = none → Q (.ref T) (upd H' T (.tup [.str "BadBoard", .str z, .int (n : Nat)])) := fun z n H' e s' =>
      ⟨by show 3 ≤ sizeLine; decide, fun T nT => q _ _ (s'.trans (same_new nT)) (by rw [out_bad e]; exact .tup upd_same (.cons (.str _) (.cons (.str _) (.cons (.int _) .nil))))⟩
    refine ⟨_, (pss_cons (ps_asg (pv 0) (pg_tup rfl (pgs_cons (pg_name (i := 1) sc_law_of_board.nd rfl (Or.inr rfl)) (pgs_cons (pg_name (i := 2) sc_law_of_board.nd rfl (Or.inl rfl)) (pgs_cons (pg_name (i := 3) sc_law_of_board.nd rfl (Or.inl rfl)) pgs_nil)))))
  (pss_cons (ps_if (pt_cmpR op_notIn_seq (pe_callB call_len_seq (by rfl) z_len (by decide +kernel) (pa_cons (pv 1) pa_nil)) (pe_lst (pa_cons pe_int (pa_cons pe_int (pa_cons pe_int (pa_cons pe_int pa_nil))))) (by rfl)) (pss_one (ps_ret (pe_tup (pa_cons pe_str (pa_cons pe_str (pa_cons pe_int pa_nil)))))) pss_nil)
  (pss_cons (ps_setLc (i := 4) (own := [("_law_k", 5)]) rfl sc_law_of_board.nd rfl rfl (sw_true rfl rfl rfl (by decide +kernel)) (pi_range1 (by rfl) z_range (pa_cons (pe_callB call_len_seq (by rfl) z_len (by decide +kernel) (pa_cons (pv 1) pa_nil)) pa_nil)) (blkOk_by (own := [("_law_k", 5)]) (N := nm_law_of_board) (sc := defScope (topS 45)) (by decide +kernel)) (fun _ _ _ _ _ => (pg_name (i := 5) sc_law_of_board.nd rfl (Or.inl rfl))) (fun _ _ _ _ _ => (pts_one (pt_cmpR op_gt (pe_ix (ix_ltk K) (pv 1) (pv 5) (fun _ _ => rfl)) pe_int (nomark _)))) (fun _ _ _ _ _ => (pv 5)))
  (pss_cons (ps_if (pt_cmpR (op_neNil hr.units) (pv 4) (pe_lst pa_nil) (nomark _)) (pss_one (ps_ret (pe_tup (pa_cons pe_str (pa_cons pe_str (pa_cons (pe_ix ix_lt (pv 4) pe_int (fun _ _ => rfl)) pa_nil)))))) pss_nil)
  (pss_cons (ps_for PassesOwn.never rfl (pi_range1 (by rfl) z_range (pa_cons (pe_callB call_len_seq (by rfl) z_len (by decide +kernel) (pa_cons (pv 2) pa_nil)) pa_nil)) (pg_name (i := 5) sc_law_of_board.nd rfl (Or.inl rfl))
  (pss_one (ps_if (pt_not (pt_val (pe_cal c_law_is_order hr (by first | decide | exact Nat.le_refl _) (pa_cons (pe_ix ix_lt (pv 2) (pv 5) (fun _ _ => rfl)) (pa_cons (pv 5) (pa_cons (pe_callB call_len_seq (by rfl) z_len (by decide +kernel) (pa_cons (pv 1) pa_nil)) (pa_cons (pe_callB call_len_seq (by rfl) z_len (by decide +kernel) (pa_cons (pv 2) pa_nil)) pa_nil))))))) (pss_one (ps_ret (pe_tup (pa_cons pe_str (pa_cons pe_str (pa_cons (pv 5) pa_nil)))))) pss_nil)))
  (pss_cons (ps_for PassesOwn.never rfl (pi_range1 (by rfl) z_range (pa_cons (pe_callB call_len_seq (by rfl) z_len (by decide +kernel) (pa_cons (pv 3) pa_nil)) pa_nil)) (pg_name (i := 5) sc_law_of_board.nd rfl (Or.inl rfl))
  (pss_cons (ps_set (i := 6) sc_law_of_board.nd rfl (Or.inl rfl) (pe_callB call_len_seq (by rfl) z_len (by decide +kernel) (pa_cons (pe_lc (own := [("_law_deed_here", 7)]) rfl sc_law_of_board.nd (pi_lt (pe_slice sl_tupA (pv 3) po_none (po_some (pe_op op_add (pv 5) pe_int)))) (blkOk_by (own := [("_law_deed_here", 7)]) (N := nm_law_of_board) (sc := defScope (topS 45)) (by decide +kernel)) (fun _ _ _ _ _ => (pg_name (i := 7) sc_law_of_board.nd rfl (Or.inl rfl))) (fun _ _ _ _ _ => (pts_one (pt_cmpR op_eq (pe_ix (ix_ltk K) (pv 7) pe_int (fun _ _ => rfl)) pe_str (nomark _)))) (fun _ _ _ _ _ => (pv 7))) pa_nil)))
  (pss_one (ps_if (PW.pt (pw_or (pt_not (pt_val (pe_cal c_law_is_deed hr (by first | decide | exact Nat.le_refl _) (pa_cons (pe_ix ix_lt (pv 3) (pv 5) (fun _ _ => rfl)) (pa_cons (pe_callB call_len_seq (by rfl) z_len (by decide +kernel) (pa_cons (pv 1) pa_nil)) (pa_cons (pe_callB call_len_seq (by rfl) z_len (by decide +kernel) (pa_cons (pv 2) pa_nil)) pa_nil)))))) (pw_or1 (pt_cmpR op_gt (pv 6) pe_int (nomark _))))) (pss_one (ps_ret (pe_tup (pa_cons pe_str (pa_cons pe_str (pa_cons (pv 5) pa_nil)))))) pss_nil))))
  (pss_one (ps_ret (pe_tup (pa_cons pe_str (pa_cons (pv 0) (pa_cons pe_int pa_nil)))))))))))), ?_⟩
    refine ⟨_, rfl, a, _, rfl, sqT_t ha, rfl, _, _, rfl, _, _, rfl, _, _, rfl, rfl, ?_⟩
    refine ⟨_, rfl, m, _, rfl, .inr (sqT_t hm), by show 4 ≤ sizeLine; decide, fun L0 n0 => ?_⟩
    have s0 := same_new (o := .lst [.int 4, .int 8, .int 12, .int 16]) n0
    have h0 : (upd H L0 (.lst [.int 4, .int 8, .int 12, .int 16])) L0 = some (.lst [.int 4, .int 8, .int 12, .int 16]) := upd_same
    generalize upd H L0 (.lst [.int 4, .int 8, .int 12, .int 16]) = H0 at s0 h0
    refine ⟨L0, _, rfl, .inl (sqL_l h0), rfl, rfl, _, rfl, ?_⟩
    rw [inV4, List.length_map]
    by_cases hm4 : ((R.mem.length : Nat) : Int) = 4 ∨ ((R.mem.length : Nat) : Int) = 8 ∨ ((R.mem.length : Nat) : Int) = 12 ∨ ((R.mem.length : Nat) : Int) = 16
    · rw [decide_eq_true hm4]
      refine iteF ?_
      have ecell : fwCell R.mem = fst badNum 0 R.mem := by unfold fwCell; rw [if_pos (by omega)]
      have hfst : ((List.range R.mem.length).filter (cellBad R.mem)).head? = fwCell R.mem := by
        rw [ecell]
        refine fst_range fun i x hx => ?_
        have n0 := told.nn.1 x (List.mem_of_getElem? hx)
        unfold cellBad badNum
        rw [List.getD_eq_getElem?_getD, hx, decide_eq_true n0, Bool.true_and]
        show decide (9 < x) = !decide (x < 10)
        by_cases h : 9 < x
        · rw [decide_eq_true h, decide_eq_false (by omega)]; rfl
        · rw [decide_eq_false h, decide_eq_true (by omega)]; rfl
      have hm0 := s0 _ _ hm
      refine ⟨_, rfl, m, _, rfl, .inr (sqT_t hm0), _, rfl, by rw [List.length_map]; omega, by rw [List.length_map]; omega, fun D nD => ?_⟩
      rw [List.length_map]
      refine lc_it (walk_range (lo := 0) (n := ((R.mem.length : Nat) : Int).toNat)) (fun j H' => H' D = some (.lst (((List.range j).filter (cellBad R.mem)).map nV)) ∧ Same H0 H')
        ⟨upd_same, same_new nD⟩ (fun _ _ _ _ => trivial) (fun j x H1 H2 hj hp' hy => ?_) (fun H1 hp' => ?_)
      · obtain ⟨hD, s1⟩ := hp'
        obtain ⟨rfl, rfl⟩ := hy
        have jl : j < R.mem.length := by simpa using hj
        refine chgN (y := nV j) (congrArg V.int (Int.zero_add _)) ?_
        obtain ⟨n, hn⟩ : ∃ n, R.mem[j]? = some n := ⟨_, List.getElem?_eq_getElem jl⟩
        have a1 : atI (R.mem.map V.int) (j : Nat) = some (.int n) := atI_nat (by rw [List.getElem?_map, hn]; rfl)
        have eb : cellBad R.mem j = decide (9 < n) := by
          unfold cellBad
          rw [List.getD_eq_getElem?_getD, hn]; rfl
        have rs : (List.range (j + 1)).filter (cellBad R.mem) = (List.range j).filter (cellBad R.mem) ++ (if cellBad R.mem j = true then [j] else []) := by
          rw [List.range_succ, List.filter_append]
          congr 1
          by_cases h : cellBad R.mem j = true
          · rw [if_pos h, List.filter_cons_of_pos h, List.filter_nil]
          · rw [if_neg h, List.filter_cons_of_neg h, List.filter_nil]
        refine ⟨rfl, _, rfl, _, rfl, m, _, _, .int n, rfl, rfl, sqA_t (s1 _ _ hm0), a1, _, _, rfl, rfl, _, rfl, ?_⟩
        by_cases hb : 9 < n
        · rw [decide_eq_true hb] at eb
          rw [eb, if_pos rfl] at rs
          refine iteT' (decide_eq_true hb) ⟨_, rfl, _, hD, fits ?_, ?_, fun b u e => ?_⟩
          · rw [List.length_map]
            have h1 := List.length_filter_le (cellBad R.mem) (List.range j)
            rw [List.length_range] at h1
            omega
          · rw [upd_same, rs, List.map_append]; rfl
          · rw [upd_ne (ne_of_none e nD)]; exact s1 _ _ e
        · rw [decide_eq_false hb] at eb
          rw [eb, if_neg (by decide), List.append_nil] at rs
          exact iteF' (decide_eq_false hb) ⟨by rw [rs]; exact hD, s1⟩
      obtain ⟨hD, s1⟩ := hp'
      rw [Int.toNat_natCast] at hD
      -- if bad != []
      refine ⟨_, rfl, Nat.zero_le _, fun E0 nE0 => ?_⟩
      have sE := same_new (o := .lst []) nE0
      have hD2 := sE _ _ hD
      have hE2 : (upd H1 E0 (.lst [])) E0 = some (.lst []) := upd_same
      have s02 := s0.trans (s1.trans sE)
      generalize upd H1 E0 (.lst []) = H2 at sE hD2 hE2 s02
      refine ⟨D, E0, _, rfl, rfl, hD2, hE2, _, rfl, ?_⟩
      cases hf : (List.range R.mem.length).filter (cellBad R.mem) with
      | cons i0 r0 =>
        rw [hf] at hfst hD2
        have e1 : fwCell R.mem = some i0 := hfst.symm
        have ew : wrongB R = some (("memory" : Str), i0) := by simp only [wrongB, e1]
        refine iteT ⟨_, rfl, D, _, 0, nV i0, rfl, rfl, sqA_l hD2, at0, ?_⟩
        exact bad "memory" i0 H2 ew s02
      | nil =>
        rw [hf] at hfst
        have e1 : fwCell R.mem = none := hfst.symm
        refine iteF ?_
        -- orders
        refine ⟨_, rfl, o, _, rfl, .inr (sqT_t (s02 _ _ ho)), _, rfl, by omega, by omega, ?_⟩
        rw [ol]
        refine for_it (walk_range (lo := 0) (n := ((R.ords.length : Nat) : Int).toNat)) (fun i σ H' => ∃ (y4 y5 y6 y7 : Option V), σ = [some (.ref a), some (.ref m), some (.ref o), some (.ref p), y4, y5, y6, y7] ∧ Same H H' ∧ ∀ (j : Nat) (x : ROrd), j < i → R.ords[j]? = some x → badOrd (R.ords.length : Nat) (R.mem.length : Nat) j x = false)
          ⟨_, _, _, _, rfl, s02, fun j x hj => absurd hj (Nat.not_lt_zero _)⟩ (fun _ _ _ _ _ => trivial) (fun i x σ H3 H4 hi hp' hy => ?_) (fun σ H3 hp' => ?_)
        · obtain ⟨y4, y5, y6, y7, rfl, s3, hall⟩ := hp'
          obtain ⟨rfl, rfl⟩ := hy
          have il : i < R.ords.length := by simpa using hi
          refine chgN (y := nV i) (congrArg V.int (Int.zero_add _)) ?_
          obtain ⟨od, hod⟩ : ∃ od, R.ords[i]? = some od := ⟨_, List.getElem?_eq_getElem il⟩
          obtain ⟨ov, hov, hpd⟩ : ∃ ov, os[i]? = some ov ∧ Pd H ov od.d := by
            obtain ⟨ov, h1, h2⟩ := hos.get (d := od.d) (i := i) (by rw [List.getElem?_map, hod]; rfl)
            exact ⟨ov, h1, h2⟩
          obtain ⟨oa, rfl, hoa⟩ := ROrd.of hpd
          have i4 : i ≤ 4 := by
            rcases Nat.lt_or_ge 4 i with h | h
            · obtain ⟨o4, ho4⟩ : ∃ o4, R.ords[4]? = some o4 := ⟨_, List.getElem?_eq_getElem (by omega)⟩
              have := hall 4 o4 h ho4
              simp [badOrd] at this
            · exact h
          have nn := told.nn.2.1 od (List.mem_of_getElem? hod)
          refine ⟨_, rfl, _, rfl, o, _, _, .ref oa, rfl, rfl, sqA_t (s3 _ _ ho), atI_nat hov, ?_⟩
          refine ⟨_, rfl, _, rfl, m, _, rfl, .inr (sqT_t (s3 _ _ hm)), _, rfl, o, _, rfl, .inr (sqT_t (s3 _ _ ho)), ?_⟩
          refine ⟨oa, od, i, (R.mem.length : Nat), (R.ords.length : Nat), by rw [List.length_map, ol]; rfl, s3 _ _ hoa, i4, nn.1, nn.2.1, _, rfl, ?_⟩
          cases hb : badOrd (R.ords.length : Nat) (R.mem.length : Nat) i od with
          | true =>
            have e2 : fwOrd R.ords (R.mem.length : Nat) = some i := by
              unfold fwOrd
              have := fst_some (p := badOrd (R.ords.length : Nat) (R.mem.length : Nat)) (k := 0) (i := i) hod (by rw [Nat.zero_add]; exact hb) fun j y hj ej => by rw [Nat.zero_add]; exact hall j y hj ej
              rw [Nat.zero_add] at this; exact this
            have ew : wrongB R = some (("orders" : Str), i) := by simp only [wrongB, e1, e2]
            refine iteT ⟨_, rfl, ?_⟩
            exact bad "orders" i _ ew s3
          | false =>
            refine iteF ⟨_, _, _, _, rfl, s3, fun j y hj ej => ?_⟩
            by_cases hji : j < i
            · exact hall j y hji ej
            · have : j = i := by omega
              subst this
              rw [hod] at ej; cases ej
              exact hb
        obtain ⟨y4, y5, y6, y7, rfl, s3, hall⟩ := hp'
        rw [Int.toNat_natCast] at hall
        have e2 : fwOrd R.ords (R.mem.length : Nat) = none := by
          unfold fwOrd
          exact fst_none fun i x e => by
            rw [Nat.zero_add]
            exact hall i x (List.getElem?_eq_some_iff.mp e).1 e
        -- program
        refine ⟨_, rfl, p, _, rfl, .inr (sqT_t (s3 _ _ hp)), _, rfl, by omega, by omega, ?_⟩
        rw [pl]
        refine for_it (walk_range (lo := 0) (n := ((R.prog.length : Nat) : Int).toNat)) (fun i σ H' => ∃ (y4 y5 y6 y7 : Option V), σ = [some (.ref a), some (.ref m), some (.ref o), some (.ref p), y4, y5, y6, y7] ∧ Same H H' ∧ ∀ (j : Nat) (x : RDeed), j < i → R.prog[j]? = some x → badDeed R.prog (R.ords.length : Nat) (R.mem.length : Nat) j x = false)
          ⟨_, _, _, _, rfl, s3, fun j x hj => absurd hj (Nat.not_lt_zero _)⟩ (fun _ _ _ _ _ => trivial) (fun i x σ H5 H6 hi hp' hy => ?_) (fun σ H5 hp' => ?_)
        · obtain ⟨y4, y5, y6, y7, rfl, s5, hall2⟩ := hp'
          obtain ⟨rfl, rfl⟩ := hy
          have il : i < R.prog.length := by simpa using hi
          refine chgN (y := nV i) (congrArg V.int (Int.zero_add _)) ?_
          obtain ⟨dd, hdd⟩ : ∃ dd, R.prog[i]? = some dd := ⟨_, List.getElem?_eq_getElem il⟩
          obtain ⟨dv, hdv, hpd⟩ : ∃ dv, ps[i]? = some dv ∧ Pd H dv dd.d := by
            obtain ⟨dv, h1, h2⟩ := hps.get (d := dd.d) (i := i) (by rw [List.getElem?_map, hdd]; rfl)
            exact ⟨dv, h1, h2⟩
          obtain ⟨da, rfl, hda⟩ := RDeed.of hpd
          obtain ⟨ks, hks, hkl⟩ := told.len dd (List.mem_of_getElem? hdd)
          have nn := told.nn.2.2 dd (List.mem_of_getElem? hdd)
          -- starts
          refine ⟨_, rfl, _, rfl, _, _, rfl, rfl, _, rfl, ?_⟩
          refine sl_fore (n := i + 1) (k := (i : Int) + 1) (by omega) (s5 _ _ hp) fun b H7 s7 hb7 => ?_
          refine ⟨b, rfl, .inr ⟨_, sqT_t hb7, fun D3 nD3 => ?_⟩⟩
          have hps7 : Pds H7 (ps.take (i + 1)) ((R.prog.take (i + 1)).map RDeed.d) := by
            rw [List.map_take]
            exact Pds.fore _ ((hps.same s5).same s7)
          have s07 := s5.trans s7
          refine lc_it (walk_tup (xs := ps.take (i + 1))) (fun j H' => ∃ ev : List V, H' D3 = some (.lst ev) ∧ ev.length = (((R.prog.take (i + 1)).take j).filter rStart).length ∧ Same H7 H')
            ⟨[], upd_same, by rw [List.take_zero]; rfl, same_new nD3⟩ (fun j H' _ hp' => by obtain ⟨_, _, _, sm⟩ := hp'; exact sqT_t (sm _ _ hb7)) (fun j x H8 H9 hj hp' hy => ?_) (fun H8 hp' => ?_)
          · obtain ⟨ev, hD3, evl, s8⟩ := hp'
            obtain ⟨rfl, hx⟩ := hy
            obtain ⟨dx, hdx, hpx⟩ := hps7.get' hx
            rw [List.getElem?_map] at hdx
            obtain ⟨d0, hd0, rfl⟩ : ∃ d0, (R.prog.take (i + 1))[j]? = some d0 ∧ d0.d = dx := by simpa using hdx
            obtain ⟨d0a, rfl, hd0a⟩ := RDeed.of (hpx.same s8)
            have tk : (R.prog.take (i + 1)).take (j + 1) = (R.prog.take (i + 1)).take j ++ [d0] := by rw [List.take_add_one, hd0]; rfl
            have evb : ev.length ≤ 61 := by
              rw [evl]
              refine Nat.le_trans (List.length_filter_le _ _) ?_
              have := List.length_take_le' j (R.prog.take (i + 1))
              have := List.length_take_le' (i + 1) R.prog
              omega
            refine ⟨rfl, _, rfl, d0a, _, 0, .str d0.word, rfl, rfl, sqA_t hd0a, at0, rfl, _, rfl, ?_⟩
            by_cases hs : d0.word = "start"
            · have er : rStart d0 = true := decide_eq_true hs
              refine iteT' (decide_eq_true (by rw [hs])) ⟨_, rfl, _, hD3, fits (by omega), _, upd_same, ?_, fun b u e => ?_⟩
              · rw [tk, List.filter_append, List.filter_cons_of_pos er, List.filter_nil, List.length_append, List.length_append, evl]; rfl
              · rw [upd_ne (ne_of_none e nD3)]; exact s8 _ _ e
            · have er : ¬ rStart d0 = true := fun z => hs (of_decide_eq_true z)
              refine iteF' (decide_eq_false fun y => hs (by injection y)) ⟨ev, hD3, ?_, s8⟩
              rw [tk, List.filter_append, List.filter_cons_of_neg er, List.filter_nil, List.append_nil, evl]
          obtain ⟨ev, hD3, evl, s8⟩ := hp'
          have lps : (ps.take (i + 1)).length = i + 1 := by rw [List.length_take, pl]; omega
          rw [lps, List.take_of_length_le (show (R.prog.take (i + 1)).length ≤ i + 1 by rw [List.length_take]; omega)] at evl
          refine ⟨D3, _, rfl, .inl (sqL_l hD3), ?_⟩
          have s08 := s07.trans s8
          refine ⟨_, rfl, _, rfl, p, _, _, .ref da, rfl, rfl, sqA_t (s08 _ _ hp), atI_nat hdv, ?_⟩
          refine ⟨_, rfl, m, _, rfl, .inr (sqT_t (s08 _ _ hm)), _, rfl, o, _, rfl, .inr (sqT_t (s08 _ _ ho)), ?_⟩
          refine ⟨da, dd, (R.mem.length : Nat), (R.ords.length : Nat), ks, by rw [List.length_map, ol]; rfl, s08 _ _ hda, hks, hkl, nn, fun H9 s9 => ⟨_, rfl, ?_⟩⟩
          have s09 := s08.trans s9
          have eb : badDeed R.prog (R.ords.length : Nat) (R.mem.length : Nat) i dd = (!deedCan (R.ords.length : Nat) (R.mem.length : Nat) dd || decide (3 < ev.length)) := by
            unfold badDeed
            rw [decide_eq_false (show ¬ i = 60 by omega), Bool.false_or, evl]
          have ret : badDeed R.prog (R.ords.length : Nat) (R.mem.length : Nat) i dd = true → wrongB R = some (("program" : Str), i) := fun hb => by
            have e3 : fwDeed R.prog (R.ords.length : Nat) (R.mem.length : Nat) = some i := by
              unfold fwDeed
              have := fst_some (p := badDeed R.prog (R.ords.length : Nat) (R.mem.length : Nat)) (k := 0) (i := i) hdd (by rw [Nat.zero_add]; exact hb) fun j y hj ej => by rw [Nat.zero_add]; exact hall2 j y hj ej
              rw [Nat.zero_add] at this; exact this
            simp only [wrongB, e1, e2, e3]
          cases hc : deedCan (R.ords.length : Nat) (R.mem.length : Nat) dd with
          | false =>
            rw [hc] at eb
            refine iteT ⟨_, rfl, ?_⟩
            exact bad "program" i H9 (ret eb) s09
          | true =>
            rw [hc] at eb
            refine iteF ⟨_, rfl, _, _, rfl, rfl, _, rfl, ?_⟩
            by_cases h3 : 3 < ev.length
            · rw [decide_eq_true h3] at eb
              refine iteT' (decide_eq_true (by omega)) ⟨_, rfl, ?_⟩
              exact bad "program" i H9 (ret eb) s09
            · rw [decide_eq_false h3] at eb
              refine iteF' (decide_eq_false (by omega)) ⟨_, _, _, _, rfl, s09, fun j y hj ej => ?_⟩
              by_cases hji : j < i
              · exact hall2 j y hji ej
              · have : j = i := by omega
                subst this
                rw [hdd] at ej; cases ej
                exact eb
        obtain ⟨y4, y5, y6, y7, rfl, s5, hall2⟩ := hp'
        rw [Int.toNat_natCast] at hall2
        have e3 : fwDeed R.prog (R.ords.length : Nat) (R.mem.length : Nat) = none := by
          unfold fwDeed
          exact fst_none fun i x e => by
            rw [Nat.zero_add]
            exact hall2 i x (List.getElem?_eq_some_iff.mp e).1 e
        have ew : wrongB R = none := by simp only [wrongB, e1, e2, e3]
        refine ⟨_, rfl, by show 3 ≤ sizeLine; decide, fun T nT => ?_⟩
        have sT := same_new (o := .tup [.str "told", .ref a, .int 0]) nT
        refine q _ _ (s5.trans sT) ?_
        rw [out_ok ew]
        exact .tup upd_same (.cons (.str _) (.cons (hB.same (s5.trans sT)) (.cons (.int _) .nil)))
    · rw [decide_eq_false hm4]
      refine iteT ?_
      have e1 : fwCell R.mem = some 0 := by unfold fwCell; rw [if_neg (by omega)]
      have ew : wrongB R = some (("memory" : Str), 0) := by simp only [wrongB, e1]
      exact bad "memory" 0 H0 ew s0
end
end Vt
namespace Vt
open PySem PySem.Spec PyProof.Rows L2
theorem rd_catT {K : PySem.W.Frag} {H : Hp} {a b : Addr} {xs ys : List V} {Q : VK} (ha : H a = some (.tup xs)) (hb : H b = some (.tup ys)) (hl : xs.length + ys.length ≤ sizeLine) (q : ∀ (H' : Hp) (p : Addr), Same H H' → H' p = some (.tup (xs ++ ys)) → Q (.ref p) H') : rCatA K (.ref a) (.ref b) H Q :=
  ⟨a, b, xs, ys, rfl, rfl, sqT_t ha, sqT_t hb, hl, fun e => q H b (Same.refl _) (by rw [e]; exact hb), fun _ e => q H a (Same.refl _) (by rw [e, List.append_nil]; exact ha), fun _ _ p np => q _ p (same_new np) upd_same⟩
/-- what is told of a text -/
def outT (x : Str) : D := match readR 0 noBrd (Txt.split x "\n") with
  | .inl i => .tup [.str "BadText", .str "", .int (i : Nat)]
  | .inr R => outB R
theorem out_row {x : Str} {i : Nat} (h : readR 0 noBrd (Txt.split x "\n") = .inl i) : outT x = .tup [.str "BadText", .str "", .int (i : Nat)] := by unfold outT; rw [h]
theorem out_brd {x : Str} {R : RBrd} (h : readR 0 noBrd (Txt.split x "\n") = .inr R) : outT x = outB R := by unfold outT; rw [h]
section
variable {P : Program} {w : World} {K : PySem.W.Frag} {mg : Str → Option Value} {base : Heap}
abbrev st_law_due : Stmt := (topS 46)
abbrev nm_law_due : List Str := ["_law_text_here", "_law_memory", "_law_orders", "_law_program", "_law_number_here", "_law_part", "_law_words", "_law_numbers", "_law_word"]
theorem sc_law_due : FnScope ["_law_text_here", "_law_memory", "_law_orders", "_law_program", "_law_number_here", "_law_part", "_law_words", "_law_numbers", "_law_word"] ["_law_text_here"] (defScope st_law_due) := ⟨rfl, rfl, rfl, by decide +kernel, rfl, by decide +kernel, by decide +kernel⟩
def spLDueX : Sp := fun vs H Q _ => ∃ x : Str, vs = [.str x] ∧ x.length ≤ 990 ∧ (Txt.split x "\n").length ≤ 60 ∧ ∀ (H' : Hp) (u : V), Same H H' → Pd H' u (outT x) → Q u H'
set_option maxHeartbeats 0 in
theorem ok_ldueX {f : Addr} {fd : FuncData} (F : Fun K "_law_due" "_law_due" st_law_due f fd) (c_law_is_row : Callee P w K mg base "_law_is_row" 2 1 spLRow) (c_law_number : Callee P w K mg base "_law_number" 1 1 spLNum) (c_law_of_board : Callee P w K mg base "_law_of_board" 2 1 spLOf)
    (z_enumerate : mg "enumerate" = none) (z_tuple : mg "tuple" = none) : FnOk P w K mg base CX0 3 f fd ["_law_text_here"] spLDueX := by
  refine F.ok sc_law_due (fun vs H Q E h => ?_) (fun cdv A outer s H vs Q E hr h => ?_)
  · obtain ⟨x, rfl, _⟩ := h
    rfl
  · obtain ⟨x, rfl, xl, r60, q⟩ := h
    refine ⟨_, (pss_cons (ps_set (i := 1) sc_law_due.nd rfl (Or.inl rfl) (pe_tup pa_nil))
  (pss_cons (ps_set (i := 2) sc_law_due.nd rfl (Or.inl rfl) (pe_lst pa_nil))
  (pss_cons (ps_set (i := 3) sc_law_due.nd rfl (Or.inl rfl) (pe_lst pa_nil))
  (pss_cons (ps_for PassesOwn.never rfl (pi_enumT (by rfl) z_enumerate (pa_cons (pe_split (pv 0) pe_str) pa_nil)) (pg_tup rfl (pgs_cons (pg_name (i := 4) sc_law_due.nd rfl (Or.inl rfl)) (pgs_cons (pg_name (i := 5) sc_law_due.nd rfl (Or.inl rfl)) pgs_nil)))
  (pss_cons (ps_set (i := 6) sc_law_due.nd rfl (Or.inl rfl) (pe_split (pv 5) pe_str))
  (pss_cons (ps_if (PW.pt (pw_or (pt_not (pt_val (pe_cal c_law_is_row hr (by first | decide | exact Nat.le_refl _) (pa_cons (pv 6) pa_nil)))) (pw_or1 (pt_cmpR op_ne (pe_cmpR op_eq (pe_ix ix_lt (pv 6) pe_int (fun _ _ => rfl)) pe_str (nomark _)) (pe_cmpR op_eq (pv 4) pe_int (nomark _)) (nomark _))))) (pss_one (ps_ret (pe_tup (pa_cons pe_str (pa_cons pe_str (pa_cons (pv 4) pa_nil)))))) pss_nil)
  (pss_cons (ps_if (PW.pt (pw_and (pt_cmpR op_eq (pe_ix ix_lt (pv 6) pe_int (fun _ _ => rfl)) pe_str (nomark _)) (pw_and1 (pt_cmpR (op_neNil hr.units) (pv 3) (pe_lst pa_nil) (nomark _))))) (pss_one (ps_ret (pe_tup (pa_cons pe_str (pa_cons pe_str (pa_cons (pv 4) pa_nil)))))) pss_nil)
  (pss_cons (ps_set (i := 7) sc_law_due.nd rfl (Or.inl rfl) (pe_callTy call_tuple_of (by rfl) z_tuple (by decide +kernel) (pa_cons (pe_lc (own := [("_law_word", 8)]) rfl sc_law_due.nd (pi_lt (pe_slice sl_list (pv 6) (po_some pe_int) po_none)) (blkOk_by (own := [("_law_word", 8)]) (N := nm_law_due) (sc := defScope (topS 46)) (by decide +kernel)) (fun _ _ _ _ _ => (pg_name (i := 8) sc_law_due.nd rfl (Or.inl rfl))) (fun _ _ _ _ _ => pts_nil) (fun _ _ _ _ _ => (pe_cal c_law_number hr (by first | decide | exact Nat.le_refl _) (pa_cons (pv 8) pa_nil)))) pa_nil)))
  (pss_one (ps_if (pt_cmpR op_eq (pe_ix ix_lt (pv 6) pe_int (fun _ _ => rfl)) pe_str (nomark _)) (pss_one (ps_set (i := 1) sc_law_due.nd rfl (Or.inl rfl) (pv 7))) (pss_one (ps_if (pt_cmpR op_eq (pe_ix ix_lt (pv 6) pe_int (fun _ _ => rfl)) pe_str (nomark _)) (pss_one (ps_expr (pe_bm PySem.F.plainAttrs_list PySem.F.slot_list_append PySem.F.type_list_append mt_append (pv 2) (pa_cons (pv 7) pa_nil)))) (pss_one (ps_expr (pe_bm PySem.F.plainAttrs_list PySem.F.slot_list_append PySem.F.type_list_append mt_append (pv 3) (pa_cons (pe_op op_catA (pe_tup (pa_cons (pe_ix ix_lt (pv 6) pe_int (fun _ _ => rfl)) pa_nil)) (pv 7)) pa_nil)))))))))))))
  (pss_one (ps_ret (pe_cal c_law_of_board hr (by first | decide | exact Nat.le_refl _) (pa_cons (pe_tup (pa_cons (pv 1) (pa_cons (pe_callTy call_tuple_of (by rfl) z_tuple (by decide +kernel) (pa_cons (pv 2) pa_nil)) (pa_cons (pe_callTy call_tuple_of (by rfl) z_tuple (by decide +kernel) (pa_cons (pv 3) pa_nil)) pa_nil)))) pa_nil)))))))), ?_⟩
    obtain ⟨jx, _⟩ := rows_jl x
    refine ⟨Nat.zero_le _, fun M nM => ⟨Nat.zero_le _, fun O nO => ⟨Nat.zero_le _, fun G nG => ?_⟩⟩⟩
    have e1 := same_new (o := .tup []) nM
    have e2 := same_new (o := .lst []) nO
    have e3 := same_new (o := .lst []) nG
    have hM : (upd (upd (upd H M (.tup [])) O (.lst [])) G (.lst [])) M = some (.tup []) := e3 _ _ (e2 _ _ upd_same)
    have hO : (upd (upd (upd H M (.tup [])) O (.lst [])) G (.lst [])) O = some (.lst []) := e3 _ _ upd_same
    have hG : (upd (upd (upd H M (.tup [])) O (.lst [])) G (.lst [])) G = some (.lst []) := upd_same
    have OG : O ≠ G := fun z => by rw [← z, upd_same] at nG; cases nG
    have nO0 : H O = none := by
      cases z : H O with
      | none => rfl
      | some u => rw [e1 _ _ z] at nO; cases nO
    have nG0 : H G = none := by
      cases z : H G with
      | none => rfl
      | some u => rw [e2 _ _ (e1 _ _ z)] at nG; cases nG
    have s1 : Same H (upd (upd (upd H M (.tup [])) O (.lst [])) G (.lst [])) := (e1.trans e2).trans e3
    generalize upd (upd (upd H M (.tup [])) O (.lst [])) G (.lst []) = H1 at hM hO hG s1
    refine ⟨_, rfl, ⟨_, rfl⟩, x, "\n", rfl, rfl, by decide +kernel, fits' (by omega), fun p np => ?_⟩
    have rb : ∀ i, readR 0 noBrd (Txt.split x "\n") = .inl i → outT x = .tup [.str "BadText", .str "", .int (i : Nat)] := fun i h => out_row h
    have rg : ∀ R, readR 0 noBrd (Txt.split x "\n") = .inr R → outT x = outB R := fun R h => out_brd h
    generalize hrows : Txt.split x "\n" = rows at rb rg jx r60
    have s2 := same_new (o := .lst (rows.map V.str)) np
    refine ⟨p, rfl, .inl ⟨_, sqL_l upd_same, ?_⟩⟩
    have hM2 := s2 _ _ hM
    have hO2 := s2 _ _ hO
    have hG2 := s2 _ _ hG
    have hp2 : (upd H1 p (.lst (rows.map V.str))) p = some (.lst (rows.map V.str)) := upd_same
    have pO : p ≠ O := (ne_of_none hO np).symm
    have pG : p ≠ G := (ne_of_none hG np).symm
    generalize upd H1 p (.lst (rows.map V.str)) = H2 at s2 hM2 hO2 hG2 hp2
    have nO2 : ∀ {H' : Hp}, But [O, G] H2 H' → Same H H' := fun {H'} bt b u e => by
      refine bt b u (fun m => ?_) (s2 _ _ (s1 _ _ e))
      rcases List.mem_cons.mp m with rfl | m
      · rw [nO0] at e; cases e
      · rw [List.mem_singleton.mp m, nG0] at e; cases e
    refine for_it (walk_enum (xs := rows.map V.str)) (fun i σ H' => ∃ (y1 : V) (y4 y5 y6 y7 y8 : Option V) (os ps : List V) (R : RBrd), σ = [some (.str x), some y1, some (.ref O), some (.ref G), y4, y5, y6, y7, y8] ∧ readR 0 noBrd rows = readR i R (rows.drop i) ∧
        Pd H' y1 (.tup (R.mem.map D.int)) ∧ H' O = some (.lst os) ∧ Pds H' os (R.ords.map ROrd.d) ∧ H' G = some (.lst ps) ∧ Pds H' ps (R.prog.map RDeed.d) ∧ R.ords.length ≤ i ∧ R.prog.length ≤ i ∧ R.mem.length ≤ 990 ∧ But [O, G] H2 H')
      ⟨_, _, _, _, _, _, [], [], noBrd, rfl, rfl, .tup hM2 .nil, hO2, .nil, hG2, .nil, Nat.le_refl _, Nat.le_refl _, Nat.zero_le _, But.refl⟩ (fun i σ H' _ hp => by obtain ⟨_, _, _, _, _, _, _, _, _, _, _, _, _, _, _, _, _, _, _, bt⟩ := hp; exact sqL_l (bt _ _ (by simp [pO, pG]) hp2)) (fun i x0 σ H3 H4 hi hp hy => ?_) (fun σ H3 hp => ?_)
    · obtain ⟨y1, y4, y5, y6, y7, y8, os, ps, R, rfl, hrd, hm, hO3, hos, hG3, hps, lo, lp, lm, bt⟩ := hp
      obtain ⟨T, a1, b, rfl, nT, _, h1, hb, s4, hT⟩ := pair_at hy
      cases h1
      rw [List.getElem?_map] at hb
      obtain ⟨r, hr0, rfl⟩ : ∃ r, rows[i]? = some r ∧ V.str r = b := by simpa using hb
      have il := (List.getElem?_eq_some_iff.mp hr0).1
      have dr : rows.drop i = r :: rows.drop (i + 1) := by
        rw [List.drop_eq_getElem_cons il, (List.getElem?_eq_some_iff.mp hr0).2]
      rw [dr, readR] at hrd
      have rlen : r.length ≤ 990 := by
        have := jl_mem (List.mem_of_getElem? hr0)
        omega
      have bt4 : But [O, G] H2 H4 := bt.trans (Same.but s4)
      have hm4 := hm.same s4
      have hos4 := hos.same s4
      have hps4 := hps.same s4
      have hO4 := s4 _ _ hO3
      have hG4 := s4 _ _ hG3
      refine ⟨T, _, rfl, sqT_t hT, rfl, _, _, rfl, _, _, rfl, rfl, ?_⟩
      -- words = part.split(" ")
      refine ⟨_, rfl, ⟨_, rfl⟩, _, " ", rfl, rfl, by decide +kernel, fits' (by omega), fun q1 nq1 => ?_⟩
      have sw := split_words r
      obtain ⟨jw, _⟩ := words_jl r
      rw [sw] at jw ⊢
      have wl : (tailW r).length ≤ 990 := by
        have := jl_len (ys := headW r :: tailW r)
        rw [List.length_cons] at this; omega
      have wm : ∀ y ∈ tailW r, y.length ≤ 1000 := fun y hy => by
        have := jl_mem (ys := headW r :: tailW r) (List.mem_cons_of_mem _ hy)
        omega
      have s5 := same_new (o := .lst ((headW r :: tailW r).map V.str)) nq1
      have hq1 : (upd H4 q1 (.lst ((headW r :: tailW r).map V.str))) q1 = some (.lst ((headW r :: tailW r).map V.str)) := upd_same
      generalize upd H4 q1 (.lst ((headW r :: tailW r).map V.str)) = H6 at s5 hq1
      generalize hz : headW r = z at *
      generalize hws : tailW r = ws at *
      have bad : rowBad R i r = (!wordsOk z ws || (decide (z = "memory") != decide (i = 0)) || (decide (z = "order") && decide (R.prog ≠ []))) := by unfold rowBad; rw [hz, hws]
      have ret : ∀ {H' : Hp}, Same H4 H' → rowBad R i r = true → ([V.str "BadText", V.str "", V.int (i : Nat)] : List V).length ≤ sizeLine ∧ ∀ T, H' T = none → Q (.ref T) (upd H' T (.tup [.str "BadText", .str "", .int (i : Nat)])) := fun {H'} s' hb => ⟨by show 3 ≤ sizeLine; decide, fun T nT => by
        rw [hb, if_pos rfl] at hrd
        refine q _ _ (nO2 ((bt4.trans (Same.but s')).trans (Same.but (same_new nT)))) ?_
        rw [rb i hrd]
        exact .tup upd_same (.cons (.str _) (.cons (.str _) (.cons (.int _) .nil)))⟩
      refine ⟨_, rfl, q1, z, ws, rfl, hq1, wm, by omega, fun H7 s7 => ?_⟩
      have s47 := s5.trans s7
      have hq17 := s7 _ _ hq1
      cases hwk : wordsOk z ws with
      | false => exact ⟨_, rfl, iteT ⟨_, rfl, ret s47 (by rw [bad, hwk]; rfl)⟩⟩
      | true =>
      refine ⟨_, rfl, iteF ?_⟩
      have first : decide (V.bl (decide (V.str z = V.str "memory")) = V.bl (decide (V.int (i : Nat) = V.int 0))) = !(decide (z = "memory") != decide (i = 0)) := by
        have g1 : decide (V.str z = V.str "memory") = decide (z = "memory") := by
          by_cases h : z = "memory"
          · subst h; rw [decide_eq_true rfl, decide_eq_true rfl]
          · rw [decide_eq_false h, decide_eq_false fun y => h (by injection y)]
        have g2 : decide (V.int (i : Nat) = V.int 0) = decide (i = 0) := by
          by_cases h : i = 0
          · subst h; rfl
          · rw [decide_eq_false h, decide_eq_false fun y => h (by injection y with y; omega)]
        rw [g1, g2]
        cases decide (z = "memory") <;> cases decide (i = 0) <;> rfl
      refine ⟨_, rfl, q1, _, 0, .str z, rfl, rfl, sqA_l hq17, at0, rfl, _, rfl, rfl, rfl, _, rfl, ?_⟩
      rw [first]
      cases hne : (decide (z = "memory") != decide (i = 0)) with
      | true => exact iteT ⟨_, rfl, ret s47 (by rw [bad, hwk, hne]; rfl)⟩
      | false =>
      refine iteF ?_
      -- an order behind a deed
      have pne : ps.isEmpty = R.prog.isEmpty := by
        have := hps4.len
        rw [List.length_map] at this
        cases ps <;> cases hp9 : R.prog <;> simp_all
      have next : (decide (z = "order") && decide (R.prog ≠ [])) = false → readR 0 noBrd rows = readR (i + 1) (addRow R z ws) (rows.drop (i + 1)) := fun hb => by
        rw [hrd, if_neg (by rw [bad, hwk, hne, hb]; decide)]
      clear first
      refine ⟨_, rfl, q1, _, 0, .str z, rfl, rfl, sqA_l hq17, at0, rfl, _, rfl, ?_⟩
      by_cases zo : z = "order"
      · refine iteT' (decide_eq_true (by rw [zo])) ⟨_, rfl, Nat.zero_le _, fun E0 nE0 => ?_⟩
        have sE := same_new (o := .lst []) nE0
        have hE : (upd H7 E0 (.lst [])) E0 = some (.lst []) := upd_same
        have s48 := s47.trans sE
        have hq18 := sE _ _ hq17
        generalize upd H7 E0 (.lst []) = H8 at sE hE s48 hq18
        refine ⟨G, E0, _, rfl, rfl, s48 _ _ hG4, hE, _, rfl, ?_⟩
        rw [pne]
        cases hpp : R.prog with
        | cons d0 dr0 => exact iteT ⟨_, rfl, ret s48 (by rw [bad, hwk, hne, zo, hpp]; rfl)⟩
        | nil =>
          refine iteF ?_
          refine ⟨_, rfl, _, rfl, q1, _, rfl, sqL_l hq18, fun p3 np3 => ?_⟩
          have cut : cutV ((z :: ws).map V.str) (some 1) none = ws.map V.str := by
            rw [cutV, HT.sIx_none, show (some (1 : Int)) = some ((1 : Nat) : Int) from rfl, HT.sIx_nat, List.length_map, List.length_cons, Nat.min_eq_left (by omega), List.map_cons, List.drop_succ_cons, List.drop_zero, List.take_of_length_le (by rw [List.length_map]; omega)]
          rw [cut]
          have v3 := same_new (o := .lst (ws.map V.str)) np3
          have hp3 : (upd H8 p3 (.lst (ws.map V.str))) p3 = some (.lst (ws.map V.str)) := upd_same
          generalize upd H8 p3 (.lst (ws.map V.str)) = H9 at v3 hp3
          refine ⟨p3, rfl, .inl ⟨_, sqL_l hp3, fun D nD => ?_⟩⟩
          refine lc_it (walk_list (xs := ws.map V.str)) (fun j H' => H' D = some (.lst ((ws.take j).map fun y => iV (numO y))) ∧ Same H9 H')
            ⟨upd_same, same_new nD⟩ (fun j H' _ hp => sqL_l (hp.2 _ _ hp3)) (fun j x1 H10 H11 hj hp hy => ?_) (fun H10 hp => ?_)
          · obtain ⟨hD, s10⟩ := hp
            obtain ⟨rfl, hx⟩ := hy
            rw [List.getElem?_map] at hx
            obtain ⟨y, hy0, rfl⟩ : ∃ y, ws[j]? = some y ∧ V.str y = x1 := by simpa using hx
            have tk : ws.take (j + 1) = ws.take j ++ [y] := by rw [List.take_add_one, hy0]; rfl
            refine ⟨rfl, iteT (B := True) ⟨_, rfl, y, rfl, wm y (List.mem_of_getElem? hy0), fun H12 s12 => ⟨_, s12 _ _ hD, fits ?_, ?_, fun b u e => ?_⟩⟩⟩
            · have := List.length_take_le' j ws
              simp only [List.length_map]; omega
            · rw [upd_same, tk, List.map_append]; rfl
            · rw [upd_ne (ne_of_none e nD)]; exact s12 _ _ (s10 _ _ e)
          obtain ⟨hD, s10⟩ := hp
          rw [List.length_map, List.take_length] at hD
          refine ⟨D, _, rfl, .inl ⟨sqL_l hD, fun N nN => ?_⟩⟩
          have s13 := same_new (o := .tup (ws.map fun y => iV (numO y))) nN
          have hN : (upd H10 N (.tup (ws.map fun y => iV (numO y)))) N = some (.tup (ws.map fun y => iV (numO y))) := upd_same
          have s414 : Same H4 (upd H10 N (.tup (ws.map fun y => iV (numO y)))) := s48.trans (v3.trans (s10.trans s13))
          generalize upd H10 N (.tup (ws.map fun y => iV (numO y))) = H14 at s13 s414 hN
          have bt14 : But [O, G] H2 H14 := bt4.trans (Same.but s414)
          have hO14 := s414 _ _ hO4
          have hG14 := s414 _ _ hG4
          have hos14 := hos4.same s414
          have hps14 := hps4.same s414
          have hm14 := hm4.same s414
          have hq14 := s414.trans (Same.refl _)
          have osl : os.length ≤ 991 := by
            rw [hos14.len, List.length_map]; omega
          have psl : ps.length ≤ 991 := by
            rw [hps14.len, List.length_map]; omega
          have hw14 := s13 _ _ (s10 _ _ (v3 _ _ hq18))
          have nm : ¬ z = "memory" := by rw [zo]; decide
          have hwo := hwk
          rw [zo] at hwo
          obtain ⟨vo, w4⟩ := vals_ord hwo
          rw [vo] at hN
          refine ⟨_, rfl, q1, _, 0, .str z, rfl, rfl, sqA_l hw14, at0, rfl, _, rfl, iteF' (decide_eq_false fun y => nm (by injection y)) ?_⟩
          refine ⟨_, rfl, q1, _, 0, .str z, rfl, rfl, sqA_l hw14, at0, rfl, _, rfl, iteT' (decide_eq_true (by rw [zo])) ?_⟩
          refine ⟨_, rfl, .inl ⟨rfl, _, sqL_l hO14⟩, _, rfl, O, os, _, rfl, rfl, hO14, fits (by omega), ?_⟩
          have bO : But [O] H14 (upd H14 O (.lst (os ++ [.ref N]))) := But.set (by simp)
          have ls : Lsts H14 [O] := fun c hc => ⟨os, by rw [List.mem_singleton.mp hc]; exact hO14⟩
          refine ⟨_, _, _, _, _, _, os ++ [.ref N], ps, addRow R z ws, rfl, next (by rw [hpp]; simp), ?_⟩
          rw [show addRow R z ws = { R with ords := R.ords ++ [ordOf ws] } from by unfold addRow; rw [if_neg nm, if_pos zo]]
          refine ⟨Pd.but bO ls (by rw [D.noL, noLs_nums]) hm14, upd_same, ?_, bO.at1 hG14 OG.symm, ?_, by show (R.ords ++ [_]).length ≤ i + 1; rw [List.length_append, List.length_singleton]; omega, Nat.le_succ_of_le lp, lm, bt14.trans (bO.mono (by simp))⟩
          · show Pds _ _ ((R.ords ++ [ordOf ws]).map ROrd.d)
            rw [List.map_append]
            refine Pds.app (Pds.but bO ls (noLs_map noL_rord _) hos14) (.cons (.tup (bO _ _ (fun m => by
              rw [List.mem_singleton.mp m, hO14] at hN; cases hN) hN) ?_) .nil)
            refine .cons (.int _) (.cons (.int _) (.cons (.int _) (.cons ?_ .nil)))
            cases (ordOf ws).later with
            | none => exact .non
            | some k => exact .int k
          · exact Pds.but bO ls (noLs_map noL_rdeed _) hps14
      · refine iteF' (decide_eq_false fun y => zo (by injection y)) ?_
        refine ⟨_, rfl, _, rfl, q1, _, rfl, sqL_l hq17, fun p3 np3 => ?_⟩
        have cut : cutV ((z :: ws).map V.str) (some 1) none = ws.map V.str := by
          rw [cutV, HT.sIx_none, show (some (1 : Int)) = some ((1 : Nat) : Int) from rfl, HT.sIx_nat, List.length_map, List.length_cons, Nat.min_eq_left (by omega), List.map_cons, List.drop_succ_cons, List.drop_zero, List.take_of_length_le (by rw [List.length_map]; omega)]
        rw [cut]
        have v3 := same_new (o := .lst (ws.map V.str)) np3
        have hp3 : (upd H7 p3 (.lst (ws.map V.str))) p3 = some (.lst (ws.map V.str)) := upd_same
        generalize upd H7 p3 (.lst (ws.map V.str)) = H9 at v3 hp3
        refine ⟨p3, rfl, .inl ⟨_, sqL_l hp3, fun D nD => ?_⟩⟩
        refine lc_it (walk_list (xs := ws.map V.str)) (fun j H' => H' D = some (.lst ((ws.take j).map fun y => iV (numO y))) ∧ Same H9 H')
          ⟨upd_same, same_new nD⟩ (fun j H' _ hp => sqL_l (hp.2 _ _ hp3)) (fun j x1 H10 H11 hj hp hy => ?_) (fun H10 hp => ?_)
        · obtain ⟨hD, s10⟩ := hp
          obtain ⟨rfl, hx⟩ := hy
          rw [List.getElem?_map] at hx
          obtain ⟨y, hy0, rfl⟩ : ∃ y, ws[j]? = some y ∧ V.str y = x1 := by simpa using hx
          have tk : ws.take (j + 1) = ws.take j ++ [y] := by rw [List.take_add_one, hy0]; rfl
          refine ⟨rfl, iteT (B := True) ⟨_, rfl, y, rfl, wm y (List.mem_of_getElem? hy0), fun H12 s12 => ⟨_, s12 _ _ hD, fits ?_, ?_, fun b u e => ?_⟩⟩⟩
          · have := List.length_take_le' j ws
            simp only [List.length_map]; omega
          · rw [upd_same, tk, List.map_append]; rfl
          · rw [upd_ne (ne_of_none e nD)]; exact s12 _ _ (s10 _ _ e)
        obtain ⟨hD, s10⟩ := hp
        rw [List.length_map, List.take_length] at hD
        refine ⟨D, _, rfl, .inl ⟨sqL_l hD, fun N nN => ?_⟩⟩
        have s13 := same_new (o := .tup (ws.map fun y => iV (numO y))) nN
        have hN : (upd H10 N (.tup (ws.map fun y => iV (numO y)))) N = some (.tup (ws.map fun y => iV (numO y))) := upd_same
        have s414 : Same H4 (upd H10 N (.tup (ws.map fun y => iV (numO y)))) := s47.trans (v3.trans (s10.trans s13))
        generalize upd H10 N (.tup (ws.map fun y => iV (numO y))) = H14 at s13 s414 hN
        have bt14 : But [O, G] H2 H14 := bt4.trans (Same.but s414)
        have hO14 := s414 _ _ hO4
        have hG14 := s414 _ _ hG4
        have hos14 := hos4.same s414
        have hps14 := hps4.same s414
        have hm14 := hm4.same s414
        have hq14 := s414.trans (Same.refl _)
        have osl : os.length ≤ 991 := by
          rw [hos14.len, List.length_map]; omega
        have psl : ps.length ≤ 991 := by
          rw [hps14.len, List.length_map]; omega
        have hw14 := s13 _ _ (s10 _ _ (v3 _ _ hq17))
        have nxt := next (by rw [decide_eq_false zo]; rfl)
        refine ⟨_, rfl, q1, _, 0, .str z, rfl, rfl, sqA_l hw14, at0, rfl, _, rfl, ?_⟩
        by_cases ez : z = "memory"
        · have hall : ws.all numOk = true := by
            rw [wordsOk, if_neg zo, if_pos ez] at hwk; exact hwk
          refine iteT' (decide_eq_true (by rw [ez])) ⟨_, rfl, ?_⟩
          refine ⟨_, _, _, _, _, _, os, ps, addRow R z ws, rfl, nxt, ?_⟩
          rw [show addRow R z ws = { R with mem := numsOf ws } from by unfold addRow; rw [if_pos ez]]
          rw [vals_nums hall] at hN
          exact ⟨.tup hN (pds_nums _), hO14, hos14, hG14, hps14, Nat.le_succ_of_le lo, Nat.le_succ_of_le lp, by show (numsOf ws).length ≤ 990; unfold numsOf; rw [List.length_map]; exact wl, bt14⟩
        · have hall : ws.all numOk = true := by
            rw [wordsOk, if_neg zo, if_neg ez] at hwk
            cases ek : kindsOf z with
            | none => rw [ek] at hwk; cases hwk
            | some ks =>
              rw [ek] at hwk
              dsimp only at hwk
              rw [Bool.and_eq_true] at hwk
              exact hwk.2
          rw [vals_nums hall] at hN
          refine iteF' (decide_eq_false fun y => ez (by injection y)) ?_
          refine ⟨_, rfl, q1, _, 0, .str z, rfl, rfl, sqA_l hw14, at0, rfl, _, rfl, iteF' (decide_eq_false fun y => zo (by injection y)) ?_⟩
          refine ⟨_, rfl, .inl ⟨rfl, _, sqL_l hG14⟩, _, rfl, q1, _, 0, .str z, rfl, rfl, sqA_l hw14, at0, by show 1 ≤ sizeLine; decide, fun U nU => ?_⟩
          have s15 := same_new (o := .tup [.str z]) nU
          have hU : (upd H14 U (.tup [.str z])) U = some (.tup [.str z]) := upd_same
          generalize upd H14 U (.tup [.str z]) = H15 at s15 hU
          refine ⟨_, rfl, ?_⟩
          refine rd_catT hU (s15 _ _ hN) (fits' (by simp only [numsOf, List.length_map, List.length_cons, List.length_nil]; omega)) fun H16 U2 s16 hU2 => ?_
          have s146 := s15.trans s16
          have hG16 := s146 _ _ hG14
          have bG : But [G] H16 (upd H16 G (.lst (ps ++ [.ref U2]))) := But.set (by simp)
          have ls : Lsts H16 [G] := fun c hc => ⟨ps, by rw [List.mem_singleton.mp hc]; exact hG16⟩
          have UG : U2 ≠ G := fun y => by rw [y, hG16] at hU2; cases hU2
          refine ⟨G, ps, _, rfl, rfl, hG16, fits (by omega), ?_⟩
          refine ⟨_, _, _, _, _, _, os, ps ++ [.ref U2], addRow R z ws, rfl, nxt, ?_⟩
          rw [show addRow R z ws = { R with prog := R.prog ++ [⟨z, numsOf ws⟩] } from by unfold addRow; rw [if_neg ez, if_neg zo]]
          refine ⟨Pd.but bG ls (by rw [D.noL, noLs_nums]) (hm14.same s146), bG.at1 (s146 _ _ hO14) OG, Pds.but bG ls (noLs_map noL_rord _) (hos14.same s146), upd_same, ?_, Nat.le_succ_of_le lo, by show (R.prog ++ [_]).length ≤ i + 1; rw [List.length_append, List.length_singleton]; omega, lm, (bt14.trans (Same.but s146)).trans (bG.mono (by simp))⟩
          show Pds _ _ ((R.prog ++ [(⟨z, numsOf ws⟩ : RDeed)]).map RDeed.d)
          rw [List.map_append]
          exact Pds.app (Pds.but bG ls (noLs_map noL_rdeed _) (hps14.same s146)) (.cons (.tup (by rw [upd_ne UG]; exact hU2) (.cons (.str _) (pds_nums _))) .nil)
    · obtain ⟨y1, y4, y5, y6, y7, y8, os, ps, R, rfl, hrd, hm, hO3, hos, hG3, hps, lo, lp, lm, bt⟩ := hp
      rw [List.length_map] at hrd lo lp
      rw [List.drop_length, readR] at hrd
      refine ⟨_, rfl, _, rfl, O, _, rfl, .inl ⟨sqL_l hO3, fun N1 nN1 => ?_⟩⟩
      have t1 := same_new (o := .tup os) nN1
      refine ⟨_, rfl, G, _, rfl, .inl ⟨sqL_l (t1 _ _ hG3), fun N2 nN2 => ?_⟩⟩
      have t2 := same_new (o := .tup ps) nN2
      refine ⟨by show 3 ≤ sizeLine; decide, fun N3 nN3 => ?_⟩
      have t3 := same_new (o := .tup [y1, .ref N1, .ref N2]) nN3
      have t13 := (t1.trans t2).trans t3
      have hB : Pd (upd (upd (upd H3 N1 (.tup os)) N2 (.tup ps)) N3 (.tup [y1, .ref N1, .ref N2])) (.ref N3) R.d :=
        .tup upd_same (.cons (hm.same t13) (.cons (.tup (t3 _ _ (t2 _ _ upd_same)) (hos.same t13)) (.cons (.tup (t3 _ _ upd_same) (hps.same t13)) .nil)))
      have s03 := nO2 (bt.trans (Same.but t13))
      refine ⟨.ref N3, R, rfl, hB, told_read told0 hrd, by omega, by omega, by omega, fun H5 u s5 hu => q H5 u (s03.trans s5) ?_⟩
      rw [rg R hrd]; exact hu
end
end Vt
namespace Vt
open PySem PySem.Spec PyProof.Rows L2
/-- a class whose field is read in an except suite -/
structure FldC (K : PySem.W.Frag) (C : Addr) (f : Str) : Prop where
  x : XfC K C
  no : PySem.W.findIn K (.ref C) f = some none
section
variable {P : Program} {w : World} {K : PySem.W.Frag} {mg : Str → Option Value} {base : Heap}
abbrev st_law_read : Stmt := (topS 47)
abbrev nm_law_read : List Str := ["_law_text_here", "_law_e", "_law_word"]
theorem sc_law_read : FnScope ["_law_text_here", "_law_e", "_law_word"] ["_law_text_here"] (defScope st_law_read) := ⟨rfl, rfl, rfl, by decide +kernel, rfl, by decide +kernel, by decide +kernel⟩
def spLReadX : Sp := fun vs H Q _ => ∃ x : Str, vs = [.str x] ∧ x.length ≤ 990 ∧ ∀ (H' : Hp) (u : V), Same H H' → Pd H' u (outT x) → Q u H'
set_option maxHeartbeats 0 in
theorem ok_lreadX {f CE dd : Addr} {C : Nat → Addr} {fd : FuncData} (F : Fun K "_law_read" "_law_read" st_law_read f fd) (hE : mg "CarrierError" = some (.ref CE)) (hx0 : PySem.W.exmOne K (.ref (C 0)) (.ref CE) = some true) (hx4 : PySem.W.exmOne K (.ref (C 4)) (.ref CE) = some true) (hc0 : IsCls K C 0) (hc4 : IsCls K C 4)
    (f0w : FldC K (C 0) "word") (f0n : FldC K (C 0) "number") (f4 : FldC K (C 4) "row")
    (c_read : CalleeN P w K mg base "read_board" 4 1 (spReadX K w dd (C 0) (C 4))) (c_class : CalleeP P w K mg base "_law_class" 1 (spClassD K C)) : FnOk P w K mg base CX0 5 f fd ["_law_text_here"] spLReadX := by
  refine F.ok sc_law_read (fun vs H Q E h => ?_) (fun cdv A outer s H vs Q E hr h => ?_)
  · obtain ⟨x, rfl, _⟩ := h
    rfl
  · obtain ⟨x, rfl, xl, q⟩ := h
    refine ⟨_, (pss_one (L2N.ps_try_as (i := 1) rfl rfl sc_law_read.nd rfl rfl ⟨rfl, by decide, .inl hE⟩ takesN0
      (fun W pn xe tk _ => pss_one (ps_ret (pe_tup (pa_cons pe_str (pa_cons (pe_calN c_read hr (by first | decide | exact Nat.le_refl _) tk (pa_cons (pv 0) pa_nil)) (pa_cons pe_int pa_nil))))))
      (fun a oe cls d pn hz hf => (pss_cons (ps_set (i := 2) sc_law_read.nd rfl (Or.inl rfl) (pe_calP (j := 4) c_class ⟨hr.dp, hr.un⟩ (by decide) rfl List.mem_cons_self hz hf (pa_cons (pv 1) pa_nil)))
        (pss_cons (ps_if (pt_cmpR op_eq (pv 2) pe_str (nomark _)) (pss_one (ps_ret (pe_tup (pa_cons (pv 2) (pa_cons pe_str (pa_cons (pe_xf f4.x f4.no hz.zc hf (pv 1)) pa_nil)))))) pss_nil)
          (pss_one (ps_ret (pe_ifExp (pt_cmpR op_eq (pv 2) pe_str (nomark _)) (pe_tup (pa_cons (pv 2) (pa_cons (pe_xf f0w.x f0w.no hz.zc hf (pv 1)) (pa_cons (pe_xf f0n.x f0n.no hz.zc hf (pv 1)) pa_nil)))) (pe_tup (pa_cons (pv 2) (pa_cons pe_str (pa_cons pe_int pa_nil)))))))))))), ?_⟩
    refine ⟨_, rfl, x, rfl, xl, fun i hi H' d s' hd => ?_, fun R hR => ⟨fun z n hw H' d s' hd => ?_, fun hw H' v s' hv => ?_⟩⟩
    · refine ⟨true, hx4, fun _ a na => ?_, fun q => nomatch q⟩
      refine ⟨_, rfl, 4, "BadText", hc4, rfl, rfl, fun d' e => ?_, rfl, fun H2 s2 => ?_⟩
      · cases e
        exact ⟨_, hd⟩
      have hd2 := s2 _ _ hd
      refine ⟨_, rfl, rfl, _, rfl, iteT' rfl ⟨_, rfl, _, rfl, rfl, rfl, d, _, .int (i : Nat), rfl, hd2, rfl, by show 3 ≤ sizeLine; decide, fun T nT => ?_⟩⟩
      refine q _ _ (s'.trans (s2.trans (same_new nT))) ?_
      rw [out_row hi]
      exact .tup upd_same (.cons (.str _) (.cons (.str _) (.cons (.int _) .nil)))
    · refine ⟨true, hx0, fun _ a na => ?_, fun q => nomatch q⟩
      refine ⟨_, rfl, 0, "BadBoard", hc0, rfl, rfl, fun d' e => ?_, rfl, fun H2 s2 => ?_⟩
      · cases e
        exact ⟨_, hd⟩
      have hd2 := s2 _ _ hd
      refine ⟨_, rfl, rfl, _, rfl, iteF' rfl ⟨_, rfl, rfl, _, rfl, iteT' rfl ?_⟩⟩
      refine ⟨_, rfl, _, rfl, rfl, rfl, d, _, .str z, rfl, hd2, rfl, _, rfl, rfl, rfl, d, _, .int (n : Nat), rfl, hd2, rfl, by show 3 ≤ sizeLine; decide, fun T nT => ?_⟩
      refine q _ _ (s'.trans (s2.trans (same_new nT))) ?_
      rw [out_brd hR, out_bad hw]
      exact .tup upd_same (.cons (.str _) (.cons (.str _) (.cons (.int _) .nil)))
    · refine ⟨by show 3 ≤ sizeLine; decide, fun T nT => ?_⟩
      have sT := same_new (o := .tup [.str "told", v, .int 0]) nT
      refine q _ _ (s'.trans sT) ?_
      rw [out_brd hR, out_ok hw]
      exact .tup upd_same (.cons (.str _) (.cons (hv.same sT) (.cons (.int _) .nil)))
end
end Vt
namespace Vt
open PySem PySem.Spec PyProof.Rows L2
/-- str(n), str(None) -/
theorem call_str_o {X : Cx} : CallR X (.type "str") (fun xs H Q => (∃ i, xs = [.int i] ∧ i.natAbs.log2 < 1920 ∧ Q (.str (toString i)) H) ∨ (xs = [.non] ∧ Q (.str "None") H)) := by
  intro pins s σ H xs us Q I r h
  rcases h with ⟨i, rfl, hz, q⟩ | ⟨rfl, q⟩
  · obtain ⟨u, rfl, t, rfl⟩ := vals1 r
    exact PySem.P.str_of_int hz ⟨.str _, H, I.tok _, ⟨_, rfl⟩, q⟩
  · obtain ⟨u, rfl, r1⟩ := vals1 r
    cases r1
    exact PySem.P.str_of_none ⟨.str _, H, I.tok _, ⟨_, rfl⟩, q⟩
theorem pi_ltk {X : Cx} (K : PySem.W.Frag) {tg l : Expr} {tl : TE} (hp : PE X l tl) (h : X.K = K := by rfl) : PI X tg l (iLT K tl) := by
  subst h
  exact pi_lt hp
theorem pe_joink {X : Cx} (K : PySem.W.Frag) {o e : Expr} {to te : TE} {apos pos : Pos} (ho : PE X o to) (he : PE X e te) (h : X.K = K := by rfl) (hs : starEach [e] X.env = [(false, eval e X.env)] := by rfl) (hbase : attributeBase o "join" X.env (eval o X.env) = eval o X.env := by rfl) (hline : (apos.endLine == pos.line) = true := by rfl) :
    PE X (.Call (.Attribute o "join" apos) [e] [] pos) (tM1 (fun x xs H Q => ∃ a p, ∃ ys : List Str, x = .str a ∧ xs = [.ref p] ∧ (SqL K H p (ys.map V.str) ∨ SqT K H p (ys.map V.str)) ∧ (ys.map (·.length)).sum + ys.length * a.length ≤ 16777216 ∧ Q (.str (Txt.join a ys)) H) to te) := by
  subst h
  exact pe_join ho he hs hbase hline
theorem none_back {H H' : Hp} {a : Addr} (s : Same H H') (n : H' a = none) : H a = none := by
  cases e : H a with
  | none => rfl
  | some u => rw [s _ _ e] at n; cases n
theorem words_some (ns : List Nat) : (ns.map some).map oT = ns.map nT := by rw [List.map_map]; rfl
theorem small_some' {ns : List Nat} (h : Small (ns.map some)) : ∀ n ∈ ns, n < 17 := fun n hn => h _ (List.mem_map.mpr ⟨n, hn, rfl⟩) n rfl
theorem nT_log {n : Nat} (h : n < 17) : ((n : Int)).natAbs.log2 < 1920 := by
  have : ∀ n : Nat, n < 17 → ((n : Int)).natAbs.log2 < 1920 := by decide +kernel
  exact this n h
/-- lists of texts, none of them at W -/
def LsAt (H : Hp) (W : Addr) (rv : List V) (wss : List (List Str)) : Prop := rv.length = wss.length ∧ ∀ (i : Nat) (ws : List Str), wss[i]? = some ws → ∃ a, rv[i]? = some (.ref a) ∧ a ≠ W ∧ H a = some (.lst (ws.map V.str))
theorem LsAt.same {H H' : Hp} {W : Addr} {rv : List V} {wss : List (List Str)} (h : LsAt H W rv wss) (s : Same H H') : LsAt H' W rv wss := ⟨h.1, fun i ws e => by
  obtain ⟨a, h1, h2, h3⟩ := h.2 i ws e
  exact ⟨a, h1, h2, s _ _ h3⟩⟩
theorem LsAt.setW {H : Hp} {W : Addr} {rv : List V} {wss : List (List Str)} (h : LsAt H W rv wss) (o : HO) : LsAt (upd H W o) W rv wss := ⟨h.1, fun i ws e => by
  obtain ⟨a, h1, h2, h3⟩ := h.2 i ws e
  exact ⟨a, h1, h2, by rw [upd_ne h2]; exact h3⟩⟩
theorem LsAt.nil {H : Hp} {W : Addr} : LsAt H W [] [] := ⟨rfl, fun i ws e => by simp at e⟩
theorem LsAt.app {H : Hp} {W : Addr} {r1 r2 : List V} {w1 w2 : List (List Str)} (h1 : LsAt H W r1 w1) (h2 : LsAt H W r2 w2) : LsAt H W (r1 ++ r2) (w1 ++ w2) := by
  refine ⟨by rw [List.length_append, List.length_append, h1.1, h2.1], fun i ws e => ?_⟩
  rcases Nat.lt_or_ge i w1.length with h | h
  · rw [List.getElem?_append_left h] at e
    rw [List.getElem?_append_left (by rw [h1.1]; exact h)]
    exact h1.2 i ws e
  · rw [List.getElem?_append_right h] at e
    rw [List.getElem?_append_right (by rw [h1.1]; exact h), h1.1]
    exact h2.2 _ ws e
theorem LsAt.one {H : Hp} {W a : Addr} {ws : List Str} (n : a ≠ W) (e : H a = some (.lst (ws.map V.str))) : LsAt H W [.ref a] [ws] := ⟨rfl, fun i ws' e' => by
  cases i with
  | zero =>
    simp only [List.getElem?_cons_zero, Option.some.injEq] at e'
    subst e'
    exact ⟨a, rfl, n, e⟩
  | succ i => simp at e'⟩
theorem LsAt.re {H : Hp} {W W' : Addr} {rv : List V} {wss : List (List Str)} (h : LsAt H W rv wss) (n : H W' = none) : LsAt H W' rv wss := ⟨h.1, fun i ws e => by
  obtain ⟨a, h1, h2, h3⟩ := h.2 i ws e
  exact ⟨a, h1, ne_of_none h3 n, h3⟩⟩
theorem LsAt.reL {H : Hp} {W W' : Addr} {rv rw' : List V} {wss : List (List Str)} (h : LsAt H W rv wss) (e : H W' = some (.lst rw')) (hw : ∀ (a : Addr) (us : List Str), H a = some (.lst (us.map V.str)) → a ≠ W') : LsAt H W' rv wss := ⟨h.1, fun i ws e => by
  obtain ⟨a, h1, h2, h3⟩ := h.2 i ws e
  exact ⟨a, h1, hw a ws h3, h3⟩⟩
def ordWs (o : Ord) : List Str := "order" :: o.nums.map oT
def deedWs (d : Deed) : List Str := d.word :: d.args.map nT
def memWs (B : Brd) : List Str := "memory" :: B.mem.map nT
theorem ord_ws (o : Ord) : Txt.join " " (ordWs o) = ordRow o := rfl
theorem deed_ws (d : Deed) : Txt.join " " (deedWs d) = deedRow d := by
  unfold deedWs deedRow rowT
  rw [words_some]
theorem mem_ws (B : Brd) : Txt.join " " (memWs B) = rowT "memory" (B.mem.map some) := by
  unfold memWs rowT
  rw [words_some]
def rowsW (B : Brd) : List (List Str) := memWs B :: (B.ords.map ordWs ++ B.prog.map deedWs)
theorem rows_ws (B : Brd) : (rowsW B).map (Txt.join " ") = rowsT B := by
  unfold rowsW rowsT
  rw [List.map_cons, List.map_append, List.map_map, List.map_map, mem_ws]
  congr 1
  congr 1
  exact List.map_congr_left fun d _ => deed_ws d
theorem rows_small {B : Brd} (ok : BrdOk B) : ∀ ws ∈ rowsW B, (∀ y ∈ ws, y.length ≤ 6) ∧ ws.length ≤ 17 := fun ws hws => by
  have c : B.mem.length ≤ 16 := by
    rcases ok.cells with h | h | h | h <;> omega
  have nl : ∀ {ns : List Nat}, (∀ n ∈ ns, n < 17) → ∀ y ∈ ns.map nT, y.length ≤ 6 := fun hn y hy => by
    obtain ⟨n, h1, rfl⟩ := List.mem_map.mp hy
    have := (num_len n (hn n h1)).1
    omega
  unfold rowsW at hws
  rcases List.mem_cons.mp hws with rfl | hws
  · refine ⟨fun y hy => ?_, by unfold memWs; rw [List.length_cons, List.length_map]; omega⟩
    rcases List.mem_cons.mp hy with rfl | hy
    · decide +kernel
    · exact nl (small_some' (mem_small ok)) y hy
  · rcases List.mem_append.mp hws with h | h
    · obtain ⟨o, ho, rfl⟩ := List.mem_map.mp h
      obtain ⟨i, hi⟩ := List.mem_iff_getElem?.mp ho
      refine ⟨fun y hy => ?_, by unfold ordWs Ord.nums; simp⟩
      rcases List.mem_cons.mp hy with rfl | hy
      · decide +kernel
      · have := oT_len (ord_small ok hi) y hy
        omega
    · obtain ⟨d, hd, rfl⟩ := List.mem_map.mp h
      refine ⟨fun y hy => ?_, by unfold deedWs; cases d <;> simp [Deed.args]⟩
      rcases List.mem_cons.mp hy with rfl | hy
      · exact (word_plain d).2
      · exact nl (small_some' (deed_small ok hd)) y hy
def asgV : Stmt → Expr
  | .Assign _ v _ => v
  | _ => .Constant .none 0 ⟨0, 0, 0, 0⟩
def binR : Expr → Expr
  | .BinOp _ _ r _ => r
  | e => e
def lcSc : Expr → Scope
  | .ListComp _ _ sc _ => sc
  | _ => defScope (.Pass ⟨0, 0, 0, 0⟩)
section
variable {P : Program} {w : World} {K : PySem.W.Frag} {mg : Str → Option Value} {base : Heap}
abbrev st_law_text : Stmt := (topS 39)
abbrev nm_law_text : List Str := ["_law_board_here", "_law_rows", "_law_number_here", "_law_order_here", "_law_deed_here", "_law_row"]
theorem sc_law_text : FnScope ["_law_board_here", "_law_rows", "_law_number_here", "_law_order_here", "_law_deed_here", "_law_row"] ["_law_board_here"] (defScope st_law_text) := ⟨rfl, rfl, rfl, by decide +kernel, rfl, by decide +kernel, by decide +kernel⟩
def spLTextX : Sp := fun vs H Q _ => ∃ (v : V) (B : Brd), vs = [v] ∧ Pd H v B.d ∧ BrdOk B ∧ ∀ H', Same H H' → Q (.str (textT B)) H'
set_option maxHeartbeats 0 in
theorem ok_ltextX {f : Addr} {fd : FuncData} (F : Fun K "_law_text" "_law_text" st_law_text f fd) (z_str : mg "str" = none) (z_int : mg "int" = none) : FnOk P w K mg base CX0 1 f fd ["_law_board_here"] spLTextX := by
  refine F.ok sc_law_text (fun vs H Q E h => ?_) (fun cdv A outer s H vs Q E hr h => ?_)
  · obtain ⟨v, B, rfl, _⟩ := h
    rfl
  · obtain ⟨v, B, rfl, hB, ok, q⟩ := h
    refine ⟨_, (pss_cons (ps_set (i := 1) sc_law_text.nd rfl (Or.inl rfl) (pe_lst (pa_cons (pe_op op_cat (pe_lst (pa_cons pe_str pa_nil)) (pe_lc (own := [("_law_number_here", 2)]) rfl sc_law_text.nd (pi_lt (pe_ix ix_lt (pv 0) pe_int (fun _ _ => rfl))) (blkOk_by (own := [("_law_number_here", 2)]) (N := nm_law_text) (sc := defScope (topS 39)) (by decide +kernel)) (fun _ _ _ _ _ => (pg_name (i := 2) sc_law_text.nd rfl (Or.inl rfl))) (fun _ _ _ _ _ => pts_nil) (fun _ _ _ _ _ => (pe_callTy call_str_o (by rfl) z_str (by decide +kernel) (pa_cons (pv 2) pa_nil))))) pa_nil)))
  (pss_cons (ps_for PassesOwn.never rfl (pi_lt (pe_ix ix_lt (pv 0) pe_int (fun _ _ => rfl))) (pg_name (i := 3) sc_law_text.nd rfl (Or.inl rfl))
  (pss_one (ps_expr (pe_bm PySem.F.plainAttrs_list PySem.F.slot_list_append PySem.F.type_list_append mt_append (pv 1) (pa_cons (pe_op op_cat (pe_lst (pa_cons pe_str pa_nil)) (pe_lc (own := [("_law_number_here", 2)]) rfl sc_law_text.nd (pi_lt (pv 3)) (blkOk_by (own := [("_law_number_here", 2)]) (N := nm_law_text) (sc := defScope (topS 39)) (by decide +kernel)) (fun _ _ _ _ _ => (pg_name (i := 2) sc_law_text.nd rfl (Or.inl rfl))) (fun _ _ _ _ _ => pts_nil) (fun _ _ _ _ _ => (pe_ix (ix_ltk K) (pe_lst (pa_cons pe_str (pa_cons (pe_callTy call_str_o (by rfl) z_str (by decide +kernel) (pa_cons (pv 2) pa_nil)) pa_nil))) (pe_callTy call_int1 (by rfl) z_int (by decide +kernel) (pa_cons (pe_cmpR op_notN (pv 2) pe_non (nomark _)) pa_nil)) (fun _ _ => rfl))))) pa_nil)))))
  (pss_cons (ps_set (i := 1) sc_law_text.nd rfl (Or.inl rfl) (pe_op op_cat (pv 1) (pe_lc (own := [("_law_deed_here", 4)]) rfl sc_law_text.nd (pi_lt (pe_ix ix_lt (pv 0) pe_int (fun _ _ => rfl))) (blkOk_by (own := [("_law_deed_here", 4)]) (N := nm_law_text) (sc := defScope (topS 39)) (by decide +kernel)) (fun _ _ _ _ _ => (pg_name (i := 4) sc_law_text.nd rfl (Or.inl rfl))) (fun _ _ _ _ _ => pts_nil) (fun _ _ _ _ _ => (pe_op op_cat (pe_lst (pa_cons (pe_ix (ix_ltk K) (pv 4) pe_int (fun _ _ => rfl)) pa_nil)) (pe_lc (own := [("_law_number_here", 2)]) rfl sc_law_text.nd (pi_ltk K (pe_slice (sl_tupk K) (pv 4) (po_some pe_int) po_none)) (blkOk_by (own := [("_law_number_here", 2)]) (N := nm_law_text) (sc := lcSc (binR (asgV ((defBody st_law_text).getD 2 (.Pass ⟨0, 0, 0, 0⟩))))) (by decide +kernel)) (fun _ _ _ _ _ => (pg_name (i := 2) sc_law_text.nd rfl (Or.inl rfl))) (fun _ _ _ _ _ => pts_nil) (fun _ _ _ _ _ => (pe_callTy call_str_o (by rfl) z_str (by decide +kernel) (pa_cons (pv 2) pa_nil)))))))))
  (pss_one (ps_ret (pe_join pe_str (pe_lc (own := [("_law_row", 5)]) rfl sc_law_text.nd (pi_lt (pv 1)) (blkOk_by (own := [("_law_row", 5)]) (N := nm_law_text) (sc := defScope (topS 39)) (by decide +kernel)) (fun _ _ _ _ _ => (pg_name (i := 5) sc_law_text.nd rfl (Or.inl rfl))) (fun _ _ _ _ _ => pts_nil) (fun _ _ _ _ _ => (pe_joink K pe_str (pv 5)))))))))), ?_⟩
    obtain ⟨a, m, o, p, os, ps, ev, ha, hm, ho, hos, hp, hps⟩ := Brd.of hB
    subst ev
    have olen : os.length = B.ords.length := by rw [hos.len, List.length_map]
    have plen : ps.length = B.prog.length := by rw [hps.len, List.length_map]
    have m16 : B.mem.length ≤ 16 := by
      rcases ok.cells with h | h | h | h <;> omega
    have o4 := ok.four
    have p60 := ok.sixty
    refine ⟨by show 1 ≤ sizeLine; decide, fun A1 nA1 => ?_⟩
    have s1 := same_new (o := .lst [.str "memory"]) nA1
    have hA1 : (upd H A1 (.lst [.str "memory"])) A1 = some (.lst [.str "memory"]) := upd_same
    generalize upd H A1 (.lst [.str "memory"]) = H1 at s1 hA1
    refine ⟨_, rfl, a, _, 0, .ref m, rfl, rfl, sqA_t (s1 _ _ ha), rfl, m, rfl, .inr ⟨_, sqT_t (s1 _ _ hm), fun D nD => ?_⟩⟩
    refine lc_it (walk_tup (xs := B.mem.map nV)) (fun j H' => H' D = some (.lst (((B.mem.take j).map nT).map V.str)) ∧ Same H1 H')
      ⟨upd_same, same_new nD⟩ (fun j H' _ hp => sqT_t (hp.2 _ _ (s1 _ _ hm))) (fun j x H2 H3 hj hp' hy => ?_) (fun H2 hp' => ?_)
    · obtain ⟨hD, s2⟩ := hp'
      obtain ⟨rfl, hx⟩ := hy
      rw [List.getElem?_map] at hx
      obtain ⟨n, hn, rfl⟩ : ∃ n, B.mem[j]? = some n ∧ nV n = x := by simpa using hx
      have n17 := small_some' (mem_small ok) n (List.mem_of_getElem? hn)
      have tj : B.mem.take (j + 1) = B.mem.take j ++ [n] := by rw [List.take_add_one, hn]; rfl
      refine ⟨rfl, iteT (B := True) ⟨_, rfl, .inl ⟨_, rfl, nT_log n17, _, hD, fits ?_, ?_, fun b u e => ?_⟩⟩⟩
      · have := List.length_take_le' j B.mem
        simp only [List.length_map]; omega
      · rw [upd_same, tj, List.map_append, List.map_append]; rfl
      · rw [upd_ne (ne_of_none e nD)]; exact s2 _ _ e
    obtain ⟨hD, s2⟩ := hp'
    rw [List.length_map, List.take_length] at hD
    refine ⟨A1, D, _, _, rfl, rfl, s2 _ _ hA1, hD, fits' (by simp only [List.length_map, List.length_cons, List.length_nil]; omega), fun L1 nL1 => ?_⟩
    have eM : [V.str "memory"] ++ (B.mem.map nT).map V.str = (memWs B).map V.str := rfl
    rw [eM]
    have s3 := same_new (o := .lst ((memWs B).map V.str)) nL1
    have hL1 : (upd H2 L1 (.lst ((memWs B).map V.str))) L1 = some (.lst ((memWs B).map V.str)) := upd_same
    have s03 := s1.trans (s2.trans s3)
    generalize upd H2 L1 (.lst ((memWs B).map V.str)) = H3 at s3 hL1 s03
    refine ⟨by show 1 ≤ sizeLine; decide, fun W nW => ?_⟩
    have s4 := same_new (o := .lst [.ref L1]) nW
    have hW : (upd H3 W (.lst [.ref L1])) W = some (.lst [.ref L1]) := upd_same
    have nL1W : L1 ≠ W := ne_of_none hL1 nW
    have hL4 := s4 _ _ hL1
    have s04 := s03.trans s4
    have nW0 : H W = none := none_back s03 nW
    generalize upd H3 W (.lst [.ref L1]) = H4 at s4 hW hL4 s04
    -- orders
    refine ⟨_, rfl, a, _, 1, .ref o, rfl, rfl, sqA_t (s04 _ _ ha), rfl, o, rfl, .inr ⟨_, sqT_t (s04 _ _ ho), ?_⟩⟩
    refine for_it (walk_tup (xs := os)) (fun i σ H' => ∃ (y2 y3 : Option V) (rv : List V), σ = [some (.ref a), some (.ref W), y2, y3, none, none] ∧ H' W = some (.lst rv) ∧ LsAt H' W rv (memWs B :: (B.ords.take i).map ordWs) ∧ Same H H')
      ⟨_, _, _, rfl, hW, LsAt.one nL1W hL4, s04⟩ (fun i σ H' _ hp' => by obtain ⟨_, _, _, _, _, _, sm⟩ := hp'; exact sqT_t (sm _ _ ho)) (fun i x σ H5 H6 hi hp' hy => ?_) (fun σ H5 hp' => ?_)
    · obtain ⟨y2, y3, rv, rfl, hW5, hls, s5⟩ := hp'
      obtain ⟨rfl, hx⟩ := hy
      obtain ⟨dd, hdd, hpd⟩ := hos.get' hx
      rw [List.getElem?_map] at hdd
      obtain ⟨o0, ho0, rfl⟩ : ∃ o0, B.ords[i]? = some o0 ∧ o0.d = dd := by simpa using hdd
      obtain ⟨oa, rfl, hoa⟩ := Ord.of hpd
      have sm := ord_small ok ho0
      have il := (List.getElem?_eq_some_iff.mp ho0).1
      have rvl : rv.length ≤ 5 := by
        rw [hls.1, List.length_cons, List.length_map]
        have := List.length_take_le' i B.ords
        omega
      refine ⟨_, rfl, .inl ⟨rfl, _, sqL_l hW5⟩, by show 1 ≤ sizeLine; decide, fun A2 nA2 => ?_⟩
      have t1 := same_new (o := .lst [.str "order"]) nA2
      have hA2 : (upd H6 A2 (.lst [.str "order"])) A2 = some (.lst [.str "order"]) := upd_same
      generalize upd H6 A2 (.lst [.str "order"]) = H7 at t1 hA2
      refine ⟨_, rfl, oa, rfl, .inr ⟨_, sqT_t (t1 _ _ (s5 _ _ hoa)), fun D2 nD2 => ?_⟩⟩
      refine lc_it (walk_tup (xs := o0.nums.map oV)) (fun j H' => H' D2 = some (.lst (((o0.nums.take j).map oT).map V.str)) ∧ Same H7 H')
        ⟨upd_same, same_new nD2⟩ (fun j H' _ hp => sqT_t (hp.2 _ _ (t1 _ _ (s5 _ _ hoa)))) (fun j x H8 H9 hj hp' hy => ?_) (fun H8 hp' => ?_)
      · obtain ⟨hD2, s8⟩ := hp'
        obtain ⟨rfl, hx⟩ := hy
        rw [List.getElem?_map] at hx
        obtain ⟨n, hn, rfl⟩ : ∃ n, o0.nums[j]? = some n ∧ oV n = x := by simpa using hx
        have tj : o0.nums.take (j + 1) = o0.nums.take j ++ [n] := by rw [List.take_add_one, hn]; rfl
        have fin : ∀ H10, Same H9 H10 → ∃ acc, H10 D2 = some (.lst acc) ∧ acc.length < sizeLine ∧ (upd H10 D2 (.lst (acc ++ [.str (oT n)]))) D2 = some (.lst (((o0.nums.take (j + 1)).map oT).map V.str)) ∧ Same H7 (upd H10 D2 (.lst (acc ++ [.str (oT n)]))) := fun H10 s10 => by
          refine ⟨_, s10 _ _ hD2, fits ?_, ?_, fun b u e => ?_⟩
          · have := List.length_take_le' j o0.nums
            have : o0.nums.length = 4 := rfl
            simp only [List.length_map]; omega
          · rw [upd_same, tj, List.map_append, List.map_append]; rfl
          · rw [upd_ne (ne_of_none e nD2)]; exact s10 _ _ (s8 _ _ e)
        refine ⟨rfl, iteT (B := True) ?_⟩
        cases n with
        | none =>
          refine ⟨_, rfl, .inr ⟨rfl, by show 2 ≤ sizeLine; decide, fun L nL => ?_⟩⟩
          refine ⟨_, rfl, rfl, .inr ⟨false, rfl, L, _, 0, .str "-", rfl, rfl, sqA_l upd_same, rfl, ?_⟩⟩
          exact fin _ (same_new nL)
        | some k =>
          have k17 := sm _ (List.mem_of_getElem? hn) k rfl
          refine ⟨_, rfl, .inl ⟨_, rfl, nT_log k17, by show 2 ≤ sizeLine; decide, fun L nL => ?_⟩⟩
          refine ⟨_, rfl, rfl, .inr ⟨true, rfl, L, _, 1, .str (nT k), rfl, rfl, sqA_l upd_same, rfl, ?_⟩⟩
          exact fin _ (same_new nL)
      obtain ⟨hD2, s8⟩ := hp'
      rw [List.length_map, List.take_length] at hD2
      refine ⟨A2, D2, _, _, rfl, rfl, s8 _ _ hA2, hD2, fits' (by simp [Ord.nums]), fun L2 nL2 => ?_⟩
      have eO : [V.str "order"] ++ (o0.nums.map oT).map V.str = (ordWs o0).map V.str := rfl
      rw [eO]
      have s9 := same_new (o := .lst ((ordWs o0).map V.str)) nL2
      have hL2 : (upd H8 L2 (.lst ((ordWs o0).map V.str))) L2 = some (.lst ((ordWs o0).map V.str)) := upd_same
      have s69 := t1.trans (s8.trans s9)
      have nL2W : L2 ≠ W := fun y => by
        have e := s8 _ _ (t1 _ _ hW5)
        rw [← y, nL2] at e
        cases e
      generalize upd H8 L2 (.lst ((ordWs o0).map V.str)) = H9 at s9 hL2 s69
      refine ⟨W, rv, _, rfl, rfl, s69 _ _ hW5, fits (by omega), ?_⟩
      have tk : memWs B :: (B.ords.take (i + 1)).map ordWs = (memWs B :: (B.ords.take i).map ordWs) ++ [ordWs o0] := by rw [List.take_add_one, ho0, List.map_append]; rfl
      refine ⟨_, _, _, rfl, upd_same, ?_, fun b u e => ?_⟩
      · rw [tk]
        exact ((hls.same s69).app (LsAt.one nL2W hL2)).setW _
      · rw [upd_ne (ne_of_none e nW0)]
        exact s69 _ _ (s5 _ _ e)
    obtain ⟨y2, y3, rv, rfl, hW5, hls, s5⟩ := hp'
    rw [olen, List.take_length] at hls
    have rvl : rv.length ≤ 5 := by
      rw [hls.1, List.length_cons, List.length_map]; omega
    -- deeds
    refine ⟨_, rfl, _, rfl, a, _, 2, .ref p, rfl, rfl, sqA_t (s5 _ _ ha), rfl, p, rfl, .inr ⟨_, sqT_t (s5 _ _ hp), fun D nD => ?_⟩⟩
    have nD0 : ∀ {b : Addr} {u : HO}, H5 b = some u → b ≠ D := fun e => ne_of_none e nD
    refine lc_it (walk_tup (xs := ps)) (fun j H' => ∃ ev : List V, H' D = some (.lst ev) ∧ LsAt H' D ev ((B.prog.take j).map deedWs) ∧ Same H5 H')
      ⟨[], upd_same, LsAt.nil, same_new nD⟩ (fun j H' _ hp' => by obtain ⟨_, _, _, sm⟩ := hp'; exact sqT_t (sm _ _ (s5 _ _ hp))) (fun j x H6 H7 hj hp' hy => ?_) (fun H6 hp' => ?_)
    · obtain ⟨ev, hD6, hls6, s6⟩ := hp'
      obtain ⟨rfl, hx⟩ := hy
      obtain ⟨dd, hdd, hpd⟩ := hps.get' hx
      rw [List.getElem?_map] at hdd
      obtain ⟨d0, hd0, rfl⟩ : ∃ d0, B.prog[j]? = some d0 ∧ d0.d = dd := by simpa using hdd
      obtain ⟨da, rfl, hda⟩ := Deed.of hpd
      have hda7 := s6 _ _ (s5 _ _ hda)
      have sm := deed_small ok (List.mem_of_getElem? hd0)
      have al : d0.args.length ≤ 2 := by cases d0 <;> simp [Deed.args]
      have evl : ev.length ≤ 60 := by
        rw [hls6.1, List.length_map]
        have := List.length_take_le' j B.prog
        omega
      refine ⟨rfl, iteT (B := True) ⟨_, rfl, da, _, 0, .str d0.word, rfl, rfl, sqA_t hda7, at0, by show 1 ≤ sizeLine; decide, fun A3 nA3 => ?_⟩⟩
      have t1 := same_new (o := .lst [.str d0.word]) nA3
      have hA3 : (upd H7 A3 (.lst [.str d0.word])) A3 = some (.lst [.str d0.word]) := upd_same
      generalize upd H7 A3 (.lst [.str d0.word]) = H8 at t1 hA3
      refine ⟨_, rfl, 1, rfl, da, _, rfl, sqT_t (t1 _ _ hda7), (fun z => absurd z.1 (by simp [HT.sIx, Deed.vs])), fun S nS => ?_⟩
      have cut : cutV d0.vs (some 1) none = d0.args.map nV := by
        cases d0 <;> rfl
      rw [cut]
      have t2 := same_new (o := .tup (d0.args.map nV)) nS
      have hS : (upd H8 S (.tup (d0.args.map nV))) S = some (.tup (d0.args.map nV)) := upd_same
      generalize upd H8 S (.tup (d0.args.map nV)) = H9 at t2 hS
      refine ⟨S, rfl, .inr ⟨_, sqT_t hS, fun D2 nD2 => ?_⟩⟩
      refine lc_it (walk_tup (xs := d0.args.map nV)) (fun j H' => H' D2 = some (.lst (((d0.args.take j).map nT).map V.str)) ∧ Same H9 H')
        ⟨upd_same, same_new nD2⟩ (fun j H' _ hp => sqT_t (hp.2 _ _ hS)) (fun j x H10 H11 hj hp' hy => ?_) (fun H10 hp' => ?_)
      · obtain ⟨hD2, s10⟩ := hp'
        obtain ⟨rfl, hx⟩ := hy
        rw [List.getElem?_map] at hx
        obtain ⟨n, hn, rfl⟩ : ∃ n, d0.args[j]? = some n ∧ nV n = x := by simpa using hx
        have n17 := small_some' sm n (List.mem_of_getElem? hn)
        have tj : d0.args.take (j + 1) = d0.args.take j ++ [n] := by rw [List.take_add_one, hn]; rfl
        refine ⟨rfl, iteT (B := True) ⟨_, rfl, .inl ⟨_, rfl, nT_log n17, _, hD2, fits ?_, ?_, fun b u e => ?_⟩⟩⟩
        · have := List.length_take_le' j d0.args
          simp only [List.length_map]; omega
        · rw [upd_same, tj, List.map_append, List.map_append]; rfl
        · rw [upd_ne (ne_of_none e nD2)]; exact s10 _ _ e
      obtain ⟨hD2, s10⟩ := hp'
      rw [List.length_map, List.take_length] at hD2
      refine ⟨A3, D2, _, _, rfl, rfl, s10 _ _ (t2 _ _ hA3), hD2, fits' (by simp only [List.length_map, List.length_cons, List.length_nil]; omega), fun L2 nL2 => ?_⟩
      have eD : [V.str d0.word] ++ (d0.args.map nT).map V.str = (deedWs d0).map V.str := rfl
      rw [eD]
      have s11 := same_new (o := .lst ((deedWs d0).map V.str)) nL2
      have hL2 : (upd H10 L2 (.lst ((deedWs d0).map V.str))) L2 = some (.lst ((deedWs d0).map V.str)) := upd_same
      have s611 := t1.trans (t2.trans (s10.trans s11))
      have nL2D : L2 ≠ D := fun y => by
        have e := s10 _ _ (t2 _ _ (t1 _ _ hD6))
        rw [← y, nL2] at e
        cases e
      generalize upd H10 L2 (.lst ((deedWs d0).map V.str)) = H11 at s11 hL2 s611
      have tk : (B.prog.take (j + 1)).map deedWs = (B.prog.take j).map deedWs ++ [deedWs d0] := by rw [List.take_add_one, hd0, List.map_append]; rfl
      refine ⟨ev, s611 _ _ hD6, fits (by omega), _, upd_same, ?_, fun b u e => ?_⟩
      · rw [tk]
        exact ((hls6.same s611).app (LsAt.one nL2D hL2)).setW _
      · rw [upd_ne (nD0 e)]
        exact s611 _ _ (s6 _ _ e)
    obtain ⟨ev, hD6, hls6, s6⟩ := hp'
    rw [plen, List.take_length] at hls6
    have evl : ev.length ≤ 60 := by
      rw [hls6.1, List.length_map]; omega
    refine ⟨W, D, _, _, rfl, rfl, s6 _ _ hW5, hD6, fits' (by omega), fun W2 nW2 => ?_⟩
    have s7 := same_new (o := .lst (rv ++ ev)) nW2
    have hW2 : (upd H6 W2 (.lst (rv ++ ev))) W2 = some (.lst (rv ++ ev)) := upd_same
    have all : LsAt (upd H6 W2 (.lst (rv ++ ev))) W2 (rv ++ ev) (rowsW B) := by
      have h1 := ((hls.same s6).re nW2).app (hls6.re nW2)
      exact h1.setW _
    have s07 := s5.trans (s6.trans s7)
    generalize upd H6 W2 (.lst (rv ++ ev)) = H7 at s7 hW2 all s07
    have rs := rows_small ok
    have rl := rows_len ok
    have rwl : (rowsW B).length ≤ 65 := by
      rw [← rows_ws, List.length_map] at rl; exact rl
    refine ⟨⟨_, rfl⟩, _, rfl, W2, rfl, .inl ⟨_, sqL_l hW2, fun D3 nD3 => ?_⟩⟩
    refine lc_it (walk_list (xs := rv ++ ev)) (fun j H' => H' D3 = some (.lst ((((rowsW B).take j).map (Txt.join " ")).map V.str)) ∧ Same H7 H')
      ⟨upd_same, same_new nD3⟩ (fun j H' _ hp => sqL_l (hp.2 _ _ hW2)) (fun j x H8 H9 hj hp' hy => ?_) (fun H8 hp' => ?_)
    · obtain ⟨hD3, s8⟩ := hp'
      obtain ⟨rfl, hx⟩ := hy
      have jl := (List.getElem?_eq_some_iff.mp hx).1
      rw [all.1] at jl
      obtain ⟨ws, hws⟩ : ∃ ws, (rowsW B)[j]? = some ws := ⟨_, List.getElem?_eq_getElem jl⟩
      obtain ⟨wa, h1, h2, h3⟩ := all.2 j ws hws
      rw [hx] at h1
      cases h1
      obtain ⟨r1, r2⟩ := rs ws (List.mem_of_getElem? hws)
      have tk : (rowsW B).take (j + 1) = (rowsW B).take j ++ [ws] := by rw [List.take_add_one, hws]; rfl
      have h6 := sum_le 6 ws r1
      refine ⟨rfl, iteT (B := True) ⟨⟨_, rfl⟩, _, rfl, " ", wa, ws, rfl, rfl, .inl (sqL_l (s8 _ _ h3)), ?_, _, hD3, fits ?_, ?_, fun b u e => ?_⟩⟩
      · rw [show (" " : Str).length = 1 by decide +kernel]; omega
      · have := List.length_take_le' j (rowsW B)
        simp only [List.length_map]; omega
      · rw [upd_same, tk, List.map_append, List.map_append]; rfl
      · rw [upd_ne (ne_of_none e nD3)]; exact s8 _ _ e
    obtain ⟨hD3, s8⟩ := hp'
    rw [all.1, List.take_length, rows_ws] at hD3
    have h1 := sum_le 54 (rowsT B) fun q hq => (rows_all ok q hq).2
    refine ⟨"\n", D3, rowsT B, rfl, rfl, .inl (sqL_l hD3), ?_, q _ (s07.trans s8)⟩
    rw [show ("\n" : Str).length = 1 by decide +kernel]; omega
end
end Vt
namespace Vt
open PySem PySem.Spec PyProof.Rows L2
/-! ### texts spoilt: how long they get -/
def nlS (z : Str) : Nat := (TL.tl z).count 10
theorem spl_count {s : Nat} : ∀ (l acc : List Nat), (TL.spl [s] 0 acc l).length = l.count s + 1 ∧ (s ∉ acc → ∀ p ∈ TL.spl [s] 0 acc l, s ∉ p)
  | [], acc => by rw [TL.spl_nil]; exact ⟨rfl, fun h p hp => by rw [List.mem_singleton.mp hp]; exact h⟩
  | c :: r, acc => by
    by_cases h : c = s
    · subst h
      rw [TL.spl_hit (by show ((c :: r).take 1 == [c]) = true; simp)]
      obtain ⟨h1, h2⟩ := spl_count (s := c) r []
      refine ⟨by show (TL.spl [c] 0 [] r).length + 1 = _; rw [h1, List.count_cons_self], fun hn p hp => ?_⟩
      rcases List.mem_cons.mp hp with rfl | hp
      · exact hn
      · exact h2 (by simp) p hp
    · rw [TL.spl_miss (TL.pre_of_head [] r h)]
      obtain ⟨h1, h2⟩ := spl_count (s := s) r (acc ++ [c])
      refine ⟨by rw [h1, List.count_cons_of_ne h], fun hn p hp => h2 ?_ p hp⟩
      simp only [List.mem_append, List.mem_singleton, not_or]
      exact ⟨hn, fun e => h e.symm⟩
theorem rows_count (x : Str) : (Txt.split x "\n").length = nlS x + 1 ∧ ∀ y ∈ Txt.split x "\n", nlS y = 0 := by
  have e := TL.split_spl x "\n" (by rw [nl_ok.1]; simp) (TL.kind_ok nl_ok.2)
  rw [nl_ok.1] at e
  obtain ⟨h1, h2⟩ := spl_count (s := 10) (TL.tl x) []
  refine ⟨?_, fun y hy => ?_⟩
  · rw [← List.length_map (f := TL.tl), e, h1]; rfl
  · refine List.count_eq_zero.mpr (h2 (by simp) _ ?_)
    rw [← e]
    exact List.mem_map.mpr ⟨y, hy, rfl⟩
theorem join_count : ∀ parts : List (List Nat), (TL.joinL [10] parts).count 10 = (parts.map (·.count 10)).sum + (parts.length - 1)
  | [] => rfl
  | [p] => by show p.count 10 = _; simp
  | p :: q :: r => by
    show (p ++ ([10] ++ TL.joinL [10] (q :: r))).count 10 = _
    rw [List.count_append, List.count_append, join_count (q :: r)]
    simp only [List.map_cons, List.sum_cons, List.length_cons]
    have : ([10] : List Nat).count 10 = 1 := rfl
    omega
theorem join_nl {ys : List Str} (h : ∀ y ∈ ys, nlS y = 0) : nlS (Txt.join "\n" ys) = ys.length - 1 := by
  unfold nlS
  rw [TL.join_eq, TL.tl_join, nl_ok.1, join_count, List.map_map, List.length_map]
  have : (ys.map ((·.count 10) ∘ TL.tl)).sum = 0 := by
    induction ys with
    | nil => rfl
    | cons y r ih =>
      rw [List.map_cons, List.sum_cons, ih fun z hz => h z (List.mem_cons_of_mem _ hz)]
      have := h y (by simp)
      show (TL.tl y).count 10 + 0 = 0
      exact this
  omega
theorem join_len' (ys : List Str) : (Txt.join "\n" ys).length = jl ys := join_jl (cap_two nl_ok.1) ys
/-- a spoilt text is not much longer -/
def Spoilt (x z : Str) : Prop := z.length ≤ 2 * x.length + 15 ∧ nlS z ≤ nlS x + 1
theorem jl_split (ys : List Str) (n : Nat) : ((ys.take n).map (·.length)).sum + ((ys.drop n).map (·.length)).sum = (ys.map (·.length)).sum := by
  rw [← List.sum_append, ← List.map_append, List.take_append_drop]
theorem drop_sum (ys : List Str) (n : Nat) : ((ys.drop (n + 1)).map (·.length)).sum ≤ ((ys.drop n).map (·.length)).sum := by
  rcases Nat.lt_or_ge n ys.length with h | h
  · rw [List.drop_eq_getElem_cons h, List.map_cons, List.sum_cons]; omega
  · rw [List.drop_eq_nil_of_le h, List.drop_eq_nil_of_le (by omega)]; exact Nat.le_refl _
section
variable {x : Str} {n : Nat}
theorem spoil_rows {zs : List Str} (h0 : ∀ y ∈ zs, nlS y = 0) (h1 : zs.length ≤ (Txt.split x "\n").length + 1) (h2 : (zs.map (·.length)).sum ≤ 2 * ((Txt.split x "\n").map (·.length)).sum + 14) : Spoilt x (Txt.join "\n" zs) := by
  obtain ⟨e1, e2⟩ := rows_count x
  obtain ⟨j1, j2⟩ := rows_jl x
  unfold jl at j1
  refine ⟨?_, ?_⟩
  · rw [join_len', jl]; omega
  · rw [join_nl h0]; omega
theorem spoil_put (odd : Str) (ho : odd.length ≤ 14) (hn : nlS odd = 0) : Spoilt x (Txt.join "\n" ((Txt.split x "\n").take n ++ [odd] ++ (Txt.split x "\n").drop n)) := by
  obtain ⟨_, e2⟩ := rows_count x
  have s := jl_split (Txt.split x "\n") n
  refine spoil_rows (fun y hy => ?_) ?_ ?_
  · simp only [List.mem_append, List.mem_singleton] at hy
    rcases hy with (h | rfl) | h
    · exact e2 y (List.mem_of_mem_take h)
    · exact hn
    · exact e2 y (List.mem_of_mem_drop h)
  · simp only [List.length_append, List.length_take, List.length_drop, List.length_singleton]; omega
  · simp only [List.map_append, List.sum_append, List.map_cons, List.map_nil, List.sum_cons, List.sum_nil]; omega
theorem spoil_cut : Spoilt x (Txt.join "\n" ((Txt.split x "\n").take n ++ (Txt.split x "\n").drop (n + 1))) := by
  obtain ⟨_, e2⟩ := rows_count x
  have s := jl_split (Txt.split x "\n") n
  have d := drop_sum (Txt.split x "\n") n
  refine spoil_rows (fun y hy => ?_) ?_ ?_
  · simp only [List.mem_append] at hy
    rcases hy with h | h
    · exact e2 y (List.mem_of_mem_take h)
    · exact e2 y (List.mem_of_mem_drop h)
  · simp only [List.length_append, List.length_take, List.length_drop]; omega
  · simp only [List.map_append, List.sum_append]; omega
theorem spoil_dup {r : Str} (hr : r ∈ Txt.split x "\n") : Spoilt x (Txt.join "\n" ((Txt.split x "\n").take n ++ [r] ++ (Txt.split x "\n").drop n)) := by
  obtain ⟨_, e2⟩ := rows_count x
  have s := jl_split (Txt.split x "\n") n
  have m : r.length ≤ ((Txt.split x "\n").map (·.length)).sum := by
    generalize Txt.split x "\n" = ys at hr
    induction ys with
    | nil => cases hr
    | cons a t ih =>
      simp only [List.map_cons, List.sum_cons]
      rcases List.mem_cons.mp hr with rfl | hr
      · omega
      · have := ih hr; omega
  refine spoil_rows (fun y hy => ?_) ?_ ?_
  · simp only [List.mem_append, List.mem_singleton] at hy
    rcases hy with (h | rfl) | h
    · exact e2 y (List.mem_of_mem_take h)
    · exact e2 y hr
    · exact e2 y (List.mem_of_mem_drop h)
  · simp only [List.length_append, List.length_take, List.length_drop, List.length_singleton]; omega
  · simp only [List.map_append, List.sum_append, List.map_cons, List.map_nil, List.sum_cons, List.sum_nil]; omega
theorem spoil_turn : Spoilt x (Txt.join "\n" ((Txt.split x "\n").drop n ++ (Txt.split x "\n").take n)) := by
  obtain ⟨_, e2⟩ := rows_count x
  have s := jl_split (Txt.split x "\n") n
  refine spoil_rows (fun y hy => ?_) ?_ ?_
  · simp only [List.mem_append] at hy
    rcases hy with h | h
    · exact e2 y (List.mem_of_mem_drop h)
    · exact e2 y (List.mem_of_mem_take h)
  · simp only [List.length_append, List.length_take, List.length_drop]; omega
  · simp only [List.map_append, List.sum_append]; omega
theorem tl_cut_to (p : Nat) : TL.tl (cutS x none (some (p : Int))) = (TL.tl x).take p := by
  unfold cutS TL.tl
  rw [HT.sIx_none, HT.sIx_nat, List.drop_zero, Nat.sub_zero, TL.len_tl, ← List.take_take, List.take_of_length_le (Nat.le_refl _)]
theorem tl_cut_from (p : Nat) : TL.tl (cutS x (some (p : Int)) none) = (TL.tl x).drop p := by
  unfold cutS TL.tl
  rw [HT.sIx_none, HT.sIx_nat, TL.len_tl]
  show List.take (x.cps.toList.length - min p x.cps.toList.length) (List.drop (min p x.cps.toList.length) x.cps.toList) = _
  rcases Nat.le_total p x.cps.toList.length with h | h
  · rw [Nat.min_eq_left h, List.take_of_length_le (by rw [List.length_drop]; exact Nat.le_refl _)]
  · rw [Nat.min_eq_right h, Nat.sub_self, List.take_zero, List.drop_eq_nil_of_le h]
theorem spoil_sign {p q : Nat} {y : Str} (hy : y.length ≤ 1) (hq : p ≤ q) : Spoilt x (cutS x none (some (p : Int)) ++ y ++ cutS x (some (q : Int)) none) := by
  have e : TL.tl (cutS x none (some (p : Int)) ++ y ++ cutS x (some (q : Int)) none) = (TL.tl x).take p ++ TL.tl y ++ (TL.tl x).drop q := by
    rw [tl_app, tl_app, tl_cut_to, tl_cut_from]
  have hy' : (TL.tl y).length ≤ 1 := by rw [← TL.len_tl]; exact hy
  refine ⟨?_, ?_⟩
  · rw [TL.len_tl, e, List.length_append, List.length_append, List.length_take, List.length_drop, TL.len_tl]; omega
  · unfold nlS
    rw [e, List.count_append, List.count_append]
    have h1 : (TL.tl y).count 10 ≤ 1 := Nat.le_trans List.count_le_length hy'
    have h2 : ((TL.tl x).take p).count 10 + ((TL.tl x).drop p).count 10 = (TL.tl x).count 10 := by rw [← List.count_append, List.take_append_drop]
    have h3 : ((TL.tl x).drop q).count 10 ≤ ((TL.tl x).drop p).count 10 := by
      obtain ⟨d, rfl⟩ : ∃ d, q = p + d := ⟨q - p, by omega⟩
      rw [← List.drop_drop]
      exact List.Sublist.count_le _ (List.drop_sublist _ _)
    omega
end
theorem cut_to (xs : List V) (n : Nat) : cutV xs none (some (n : Int)) = xs.take n := by
  rw [cutV, HT.sIx_none, HT.sIx_nat, List.drop_zero, Nat.sub_zero, ← List.take_take, List.take_of_length_le (Nat.le_refl _)]
theorem cut_from (xs : List V) (n : Nat) : cutV xs (some (n : Int)) none = xs.drop n := by
  rw [cutV, HT.sIx_none, HT.sIx_nat]
  rcases Nat.le_total n xs.length with h | h
  · rw [Nat.min_eq_left h, List.take_of_length_le (by rw [List.length_drop]; omega)]
  · rw [Nat.min_eq_right h, Nat.sub_self, List.take_zero, List.drop_eq_nil_of_le h]
/-- texts without line ends, short ones -/
def oddB : List V → Bool
  | [] => true
  | .str y :: r => decide (y.length ≤ 14) && decide (nlS y = 0) && oddB r
  | _ :: _ => false
theorem odd_of : ∀ {xs : List V}, oddB xs = true → ∃ ys : List Str, xs = ys.map V.str ∧ ∀ y ∈ ys, y.length ≤ 14 ∧ nlS y = 0
  | [], _ => ⟨[], rfl, fun y h => by cases h⟩
  | .str y :: r, h => by
    rw [oddB, Bool.and_eq_true, Bool.and_eq_true, decide_eq_true_eq, decide_eq_true_eq] at h
    obtain ⟨ys, e, hy⟩ := odd_of h.2
    refine ⟨y :: ys, by rw [e]; rfl, fun z hz => ?_⟩
    rcases List.mem_cons.mp hz with rfl | hz
    · exact h.1
    · exact hy z hz
  | .non :: _, h => by cases h
  | .bl _ :: _, h => by cases h
  | .int _ :: _, h => by cases h
  | .ref _ :: _, h => by cases h
theorem odd_heap {H H4 : Hp} {L : Addr} {xs : List V} {n : Nat} (e : upd H L (.lst xs) = H4) (hl : xs.length = n) (hb : oddB xs = true) : ∃ ys : List Str, H4 L = some (.lst (ys.map V.str)) ∧ ys.length = n ∧ ∀ y ∈ ys, y.length ≤ 14 ∧ nlS y = 0 := by
  obtain ⟨ys, e2, hy⟩ := odd_of hb
  subst e2
  rw [List.length_map] at hl
  exact ⟨ys, by rw [← e, upd_same], hl, hy⟩
theorem rd_sign {Z : Str} {r : Nat} {H : Hp} {Q : VK} (h : r < Z.length) (h2 : Z.length ≤ sizeLine) (q : ∀ c, Q (.str ⟨#[c]⟩) H) : rIxS (.str Z) (nV r) H Q := by
  obtain ⟨c, hc⟩ : ∃ c, Z.cps.toList[r]? = some c := by
    rw [TL.len_tl] at h
    exact ⟨_, List.getElem?_eq_getElem h⟩
  exact ⟨Z, (r : Nat), c, rfl, rfl, h2, atI_nat hc, q c⟩
section
variable {P : Program} {w : World} {K : PySem.W.Frag} {mg : Str → Option Value} {base : Heap}
abbrev st_law_spoilt : Stmt := (topS 40)
abbrev nm_law_spoilt : List Str := ["_law_box", "_law_text_here", "_law_deed_here", "_law_rows", "_law_at", "_law_odd", "_law_place", "_law_signs", "_law_sign"]
theorem sc_law_spoilt : FnScope ["_law_box", "_law_text_here", "_law_deed_here", "_law_rows", "_law_at", "_law_odd", "_law_place", "_law_signs", "_law_sign"] ["_law_box", "_law_text_here"] (defScope st_law_spoilt) := ⟨rfl, rfl, rfl, by decide +kernel, rfl, by decide +kernel, by decide +kernel⟩
def spSpoil : Sp := fun vs H Q _ => ∃ (b l : Addr) (x : Str), vs = [.ref b, .str x] ∧ Box H b l ∧ x.length ≤ 500 ∧ ∀ (H' : Hp) (z : Str), Box H' b l → Spoilt x z → Q (.str z) H'
set_option maxHeartbeats 0 in
theorem ok_spoil {f : Addr} {fd : FuncData} (F : Fun K "_law_spoilt" "_law_spoilt" st_law_spoilt f fd) (c_law_take : Callee P w K mg base "_law_take" 1 2 spTake) (z_len : mg "len" = none) (z_int : mg "int" = none) : FnOk P w K mg base CX0 2 f fd ["_law_box", "_law_text_here"] spSpoil := by
  refine F.ok sc_law_spoilt (fun vs H Q E h => ?_) (fun cdv A outer s H vs Q E hr h => ?_)
  · obtain ⟨b, l, x, rfl, _⟩ := h
    rfl
  · obtain ⟨b, l, x, rfl, hB, xl, q⟩ := h
    refine ⟨_, (pss_cons (ps_set (i := 2) sc_law_spoilt.nd rfl (Or.inl rfl) (pe_cal c_law_take hr (by first | decide | exact Nat.le_refl _) (pa_cons (pv 0) (pa_cons pe_int pa_nil))))
  (pss_cons (ps_set (i := 3) sc_law_spoilt.nd rfl (Or.inl rfl) (pe_split (pv 1) pe_str))
  (pss_cons (ps_set (i := 4) sc_law_spoilt.nd rfl (Or.inl rfl) (pe_cal c_law_take hr (by first | decide | exact Nat.le_refl _) (pa_cons (pv 0) (pa_cons (pe_callB call_len_seq (by rfl) z_len (by decide +kernel) (pa_cons (pv 3) pa_nil)) pa_nil))))
  (pss_cons (ps_set (i := 5) sc_law_spoilt.nd rfl (Or.inl rfl) (pe_lst (pa_cons pe_str (pa_cons pe_str (pa_cons pe_str (pa_cons pe_str (pa_cons pe_str (pa_cons pe_str (pa_cons pe_str (pa_cons pe_str (pa_cons pe_str (pa_cons pe_str (pa_cons pe_str (pa_cons pe_str (pa_cons pe_str (pa_cons pe_str (pa_cons pe_str (pa_cons pe_str (pa_cons pe_str (pa_cons pe_str (pa_cons pe_str (pa_cons pe_str (pa_cons pe_str (pa_cons pe_str (pa_cons pe_str (pa_cons pe_str (pa_cons pe_str (pa_cons pe_str (pa_cons pe_str (pa_cons pe_str (pa_cons pe_str (pa_cons pe_str (pa_cons pe_str pa_nil)))))))))))))))))))))))))))))))))
  (pss_cons (ps_if (pt_cmpR op_eq (pv 2) pe_int (nomark _)) (pss_one (ps_ret (pe_join pe_str (pe_op op_cat (pe_op op_cat (pe_slice sl_list (pv 3) po_none (po_some (pv 4))) (pe_lst (pa_cons (pe_ix ix_lt (pv 5) (pe_cal c_law_take hr (by first | decide | exact Nat.le_refl _) (pa_cons (pv 0) (pa_cons pe_int pa_nil))) (fun _ _ => rfl)) pa_nil))) (pe_slice sl_list (pv 3) (po_some (pv 4)) po_none))))) pss_nil)
  (pss_cons (ps_if (pt_cmpR op_eq (pv 2) pe_int (nomark _)) (pss_one (ps_ret (pe_join pe_str (pe_op op_cat (pe_slice sl_list (pv 3) po_none (po_some (pv 4))) (pe_slice sl_list (pv 3) (po_some (pe_op op_add (pv 4) pe_int)) po_none))))) pss_nil)
  (pss_cons (ps_if (pt_cmpR op_eq (pv 2) pe_int (nomark _)) (pss_one (ps_ret (pe_join pe_str (pe_op op_cat (pe_op op_cat (pe_slice sl_list (pv 3) po_none (po_some (pv 4))) (pe_lst (pa_cons (pe_ix ix_lt (pv 3) (pv 4) (fun _ _ => rfl)) pa_nil))) (pe_slice sl_list (pv 3) (po_some (pv 4)) po_none))))) pss_nil)
  (pss_cons (ps_if (pt_cmpR op_eq (pv 2) pe_int (nomark _)) (pss_one (ps_ret (pe_join pe_str (pe_op op_cat (pe_slice sl_list (pv 3) (po_some (pv 4)) po_none) (pe_slice sl_list (pv 3) po_none (po_some (pv 4))))))) pss_nil)
  (pss_cons (ps_set (i := 6) sc_law_spoilt.nd rfl (Or.inl rfl) (pe_cal c_law_take hr (by first | decide | exact Nat.le_refl _) (pa_cons (pv 0) (pa_cons (pe_op op_add (pe_callB call_len_str (by rfl) z_len (by decide +kernel) (pa_cons (pv 1) pa_nil)) pe_int) pa_nil))))
  (pss_cons (ps_set (i := 7) sc_law_spoilt.nd rfl (Or.inl rfl) pe_str)
  (pss_cons (ps_set (i := 8) sc_law_spoilt.nd rfl (Or.inl rfl) (pe_ix ix_str (pv 7) (pe_cal c_law_take hr (by first | decide | exact Nat.le_refl _) (pa_cons (pv 0) (pa_cons (pe_ix ix_lt (pe_lst (pa_cons pe_int (pa_cons (pe_callB call_len_str (by rfl) z_len (by decide +kernel) (pa_cons (pv 7) pa_nil)) pa_nil))) (pe_cal c_law_take hr (by first | decide | exact Nat.le_refl _) (pa_cons (pv 0) (pa_cons pe_int pa_nil))) (fun _ _ => rfl)) pa_nil))) (fun _ _ => rfl)))
  (pss_one (ps_ret (pe_op op_add_str (pe_op op_add_str (pe_slice sl_str (pv 1) po_none (po_some (pv 6))) (pe_ix ix_lt (pe_lst (pa_cons (pv 8) (pa_cons (pv 8) (pa_cons pe_str pa_nil)))) (pe_op op_sub (pv 2) pe_int) (fun _ _ => rfl))) (pe_slice sl_str (pv 1) (po_some (pe_op op_add (pv 6) (pe_callTy call_int1 (by rfl) z_int (by decide +kernel) (pa_cons (pe_cmpR op_gt (pv 2) pe_int (nomark _)) pa_nil)))) po_none))))))))))))))), ?_⟩
    obtain ⟨j1, j2⟩ := rows_jl x
    have lx : x.length ≤ sizeLine := fits' (by omega)
    refine ⟨_, rfl, b, l, 7, 7, rfl, rfl, hB, by decide, by decide, fun H1 d hB1 bt1 hd => ?_⟩
    refine ⟨_, rfl, ⟨_, rfl⟩, x, "\n", rfl, rfl, by decide +kernel, fits' (by omega), fun R nR => ?_⟩
    have rl : (Txt.split x "\n").length ≤ 501 := by
      have := jl_len (ys := Txt.split x "\n"); omega
    have r0 : 0 < (Txt.split x "\n").length := List.length_pos_iff.mpr j2
    have hB2 := hB1.same (same_new (o := .lst ((Txt.split x "\n").map V.str)) nR)
    have hR : (upd H1 R (.lst ((Txt.split x "\n").map V.str))) R = some (.lst ((Txt.split x "\n").map V.str)) := upd_same
    have nRb : R ∉ [b, l] := fun z => by
      obtain ⟨ys, e⟩ := hB1.lsts _ z
      rw [nR] at e; cases e
    generalize upd H1 R (.lst ((Txt.split x "\n").map V.str)) = H2 at hB2 hR
    refine ⟨_, rfl, _, rfl, R, _, rfl, .inl (sqL_l hR), b, l, _, (Txt.split x "\n").length, rfl, by rw [List.length_map], hB2, r0, by omega, fun H3 at_ hB3 bt3 hat => ?_⟩
    have hR3 := bt3 _ _ nRb hR
    refine ⟨by show 31 ≤ sizeLine; decide, fun OL nOL => ?_⟩
    generalize hH4 : upd H3 OL (HO.lst _) = H4
    obtain ⟨odds, hO, ol, hodd⟩ := odd_heap hH4 (n := 31) rfl (by decide +kernel)
    have s34 : Same H3 H4 := by rw [← hH4]; exact same_new nOL
    clear hH4
    have hB4 := hB3.same s34
    have hR4 := s34 _ _ hR3
    have nOLb : OL ∉ [b, l] := fun z => by
      obtain ⟨ys, e⟩ := hB4.lsts _ z
      obtain ⟨ys', e'⟩ := hB3.lsts _ z
      rw [nOL] at e'; cases e'
    have dec : ∀ k : Nat, ¬ d = k → decide (nV d = V.int (k : Nat)) = false := fun k h => decide_eq_false fun y => h (by injection y with y; omega)
    have sum1 : ((Txt.split x "\n").map (·.length)).sum ≤ 500 := by
      have := jl_sum (ys := Txt.split x "\n"); omega
    -- joined
    have jn : ∀ {H' : Hp} {p : Addr} {zs : List Str}, H' p = some (.lst (zs.map V.str)) → Box H' b l → Spoilt x (Txt.join "\n" zs) → zs.length ≤ 1100 → (zs.map (·.length)).sum ≤ 1100 →
        ∃ a p' ys, V.str "\n" = V.str a ∧ [V.ref p] = [V.ref p'] ∧ (SqL K H' p' (ys.map V.str) ∨ SqT K H' p' (ys.map V.str)) ∧ (ys.map (·.length)).sum + ys.length * a.length ≤ 16777216 ∧ Q (.str (Txt.join a ys)) H' := fun {H' p zs} h hb sp l1 l2 => by
      refine ⟨"\n", p, zs, rfl, rfl, .inl (sqL_l h), ?_, q _ _ hb sp⟩
      rw [show ("\n" : Str).length = 1 by decide +kernel]; omega
    have lt : ∀ n : Nat, ((Txt.split x "\n").take n).length ≤ 501 := fun n => Nat.le_trans (List.length_take_le' _ _) rl
    have ld : ∀ n : Nat, ((Txt.split x "\n").drop n).length ≤ 501 := fun n => by rw [List.length_drop]; omega
    have js : ∀ n : Nat, (((Txt.split x "\n").take n).map (·.length)).sum + (((Txt.split x "\n").drop n).map (·.length)).sum ≤ 500 := fun n => by rw [jl_split]; exact sum1
    have ct : ∀ n : Nat, cutV ((Txt.split x "\n").map V.str) none (some (n : Int)) = ((Txt.split x "\n").take n).map V.str := fun n => by rw [cut_to, List.map_take]
    have cf : ∀ n : Nat, cutV ((Txt.split x "\n").map V.str) (some (n : Int)) none = ((Txt.split x "\n").drop n).map V.str := fun n => by rw [cut_from, List.map_drop]
    have fresh : ∀ {H' : Hp} {p : Addr}, Box H' b l → H' p = none → p ∉ [b, l] := fun {H' p} hb hn z => by
      obtain ⟨ys, e⟩ := hb.lsts _ z
      rw [hn] at e; cases e
    refine ⟨_, rfl, rfl, _, rfl, ?_⟩
    by_cases d0 : d = 0
    · refine iteT' (by rw [d0]; rfl) ⟨⟨_, rfl⟩, ?_⟩
      refine ⟨_, rfl, _, rfl, _, rfl, R, _, rfl, sqL_l hR4, fun p1 n1 => ?_⟩
      rw [ct]
      have t1 := same_new (o := .lst (((Txt.split x "\n").take at_).map V.str)) n1
      have hp1 : (upd H4 p1 (.lst (((Txt.split x "\n").take at_).map V.str))) p1 = some (.lst (((Txt.split x "\n").take at_).map V.str)) := upd_same
      have n1b := fresh hB4 n1
      generalize upd H4 p1 (.lst (((Txt.split x "\n").take at_).map V.str)) = H5 at t1 hp1
      refine ⟨_, rfl, _, rfl, b, l, 31, 31, rfl, rfl, hB4.same t1, by decide, by decide, fun H6 r hB6 bt6 hr6 => ?_⟩
      obtain ⟨od, hod⟩ : ∃ od, odds[r]? = some od := ⟨_, List.getElem?_eq_getElem (by omega)⟩
      obtain ⟨o1, o2⟩ := hodd od (List.mem_of_getElem? hod)
      refine ⟨OL, _, _, .str od, rfl, rfl, sqA_l (bt6 _ _ nOLb (t1 _ _ hO)), atI_nat (by rw [List.getElem?_map, hod]; rfl), by show 1 ≤ sizeLine; decide, fun p2 n2 => ?_⟩
      have t2 := same_new (o := .lst [.str od]) n2
      have hp2 : (upd H6 p2 (.lst [.str od])) p2 = some (.lst [.str od]) := upd_same
      have hp1' := t2 _ _ (bt6 _ _ n1b hp1)
      have hB7 := hB6.same t2
      have hR7 := t2 _ _ (bt6 _ _ nRb (t1 _ _ hR4))
      generalize upd H6 p2 (.lst [.str od]) = H7 at t2 hp2 hp1' hB7 hR7
      refine ⟨p1, p2, _, _, rfl, rfl, hp1', hp2, fits' (by have := lt at_; simp only [List.length_map, List.length_cons, List.length_nil]; omega), fun p3 n3 => ?_⟩
      have e3 : ((Txt.split x "\n").take at_).map V.str ++ [V.str od] = ((Txt.split x "\n").take at_ ++ [od]).map V.str := by rw [List.map_append]; rfl
      rw [e3]
      have t3 := same_new (o := .lst (((Txt.split x "\n").take at_ ++ [od]).map V.str)) n3
      have hp3 : (upd H7 p3 (.lst (((Txt.split x "\n").take at_ ++ [od]).map V.str))) p3 = some (.lst (((Txt.split x "\n").take at_ ++ [od]).map V.str)) := upd_same
      generalize upd H7 p3 (.lst (((Txt.split x "\n").take at_ ++ [od]).map V.str)) = H8 at t3 hp3
      refine ⟨_, rfl, _, rfl, _, rfl, R, _, rfl, sqL_l (t3 _ _ hR7), fun p4 n4 => ?_⟩
      rw [cf]
      have t4 := same_new (o := .lst (((Txt.split x "\n").drop at_).map V.str)) n4
      refine ⟨p3, p4, _, _, rfl, rfl, t4 _ _ hp3, upd_same, fits' (by have := lt at_; have := ld at_; simp only [List.length_map, List.length_append, List.length_cons, List.length_nil]; omega), fun p5 n5 => ?_⟩
      have e5 : ((Txt.split x "\n").take at_ ++ [od]).map V.str ++ ((Txt.split x "\n").drop at_).map V.str = ((Txt.split x "\n").take at_ ++ [od] ++ (Txt.split x "\n").drop at_).map V.str := by rw [← List.map_append]
      rw [e5]
      have t5 := same_new (o := .lst (((Txt.split x "\n").take at_ ++ [od] ++ (Txt.split x "\n").drop at_).map V.str)) n5
      refine jn upd_same (((hB7.same t3).same t4).same t5) (spoil_put od o1 o2) ?_ ?_
      · have := lt at_; have := ld at_; simp only [List.length_append, List.length_cons, List.length_nil]; omega
      · have := js at_; simp only [List.map_append, List.sum_append, List.map_cons, List.map_nil, List.sum_cons, List.sum_nil]; omega
    refine iteF' (dec 0 d0) ?_
    refine ⟨_, rfl, rfl, _, rfl, ?_⟩
    by_cases d1 : d = 1
    · refine iteT' (by rw [d1]; rfl) ⟨⟨_, rfl⟩, ?_⟩
      refine ⟨_, rfl, _, rfl, _, rfl, R, _, rfl, sqL_l hR4, fun p1 n1 => ?_⟩
      rw [ct]
      have t1 := same_new (o := .lst (((Txt.split x "\n").take at_).map V.str)) n1
      have hp1 : (upd H4 p1 (.lst (((Txt.split x "\n").take at_).map V.str))) p1 = some (.lst (((Txt.split x "\n").take at_).map V.str)) := upd_same
      generalize upd H4 p1 (.lst (((Txt.split x "\n").take at_).map V.str)) = H5 at t1 hp1
      refine ⟨_, rfl, _, rfl, _, _, rfl, rfl, _, rfl, R, _, rfl, sqL_l (t1 _ _ hR4), fun p4 n4 => ?_⟩
      have cf1 : cutV ((Txt.split x "\n").map V.str) (some ((at_ : Int) + 1)) none = ((Txt.split x "\n").drop (at_ + 1)).map V.str := cf (at_ + 1)
      show rCat _ _ (upd H5 p4 (.lst (cutV ((Txt.split x "\n").map V.str) (some ((at_ : Int) + 1)) none))) _
      rw [cf1]
      have t4 := same_new (o := .lst (((Txt.split x "\n").drop (at_ + 1)).map V.str)) n4
      refine ⟨p1, p4, _, _, rfl, rfl, t4 _ _ hp1, upd_same, fits' (by have := lt at_; have := ld (at_ + 1); simp only [List.length_map]; omega), fun p5 n5 => ?_⟩
      rw [← List.map_append]
      have t5 := same_new (o := .lst (((Txt.split x "\n").take at_ ++ (Txt.split x "\n").drop (at_ + 1)).map V.str)) n5
      refine jn upd_same (((hB4.same t1).same t4).same t5) spoil_cut ?_ ?_
      · have := lt at_; have := ld (at_ + 1); simp only [List.length_append]; omega
      · have := js at_; have := js (at_ + 1); have := drop_sum (Txt.split x "\n") at_; simp only [List.map_append, List.sum_append]; omega
    refine iteF' (dec 1 d1) ?_
    refine ⟨_, rfl, rfl, _, rfl, ?_⟩
    by_cases d2 : d = 2
    · refine iteT' (by rw [d2]; rfl) ⟨⟨_, rfl⟩, ?_⟩
      refine ⟨_, rfl, _, rfl, _, rfl, R, _, rfl, sqL_l hR4, fun p1 n1 => ?_⟩
      rw [ct]
      have t1 := same_new (o := .lst (((Txt.split x "\n").take at_).map V.str)) n1
      have hp1 : (upd H4 p1 (.lst (((Txt.split x "\n").take at_).map V.str))) p1 = some (.lst (((Txt.split x "\n").take at_).map V.str)) := upd_same
      generalize upd H4 p1 (.lst (((Txt.split x "\n").take at_).map V.str)) = H5 at t1 hp1
      obtain ⟨od, hod⟩ : ∃ od, (Txt.split x "\n")[at_]? = some od := ⟨_, List.getElem?_eq_getElem hat⟩
      have hmem := List.mem_of_getElem? hod
      refine ⟨_, rfl, _, rfl, R, _, _, .str od, rfl, rfl, sqA_l (t1 _ _ hR4), atI_nat (by rw [List.getElem?_map, hod]; rfl), by show 1 ≤ sizeLine; decide, fun p2 n2 => ?_⟩
      have t2 := same_new (o := .lst [.str od]) n2
      have hp2 : (upd H5 p2 (.lst [.str od])) p2 = some (.lst [.str od]) := upd_same
      have hp1' := t2 _ _ hp1
      have hB7 := (hB4.same t1).same t2
      have hR7 := t2 _ _ (t1 _ _ hR4)
      generalize upd H5 p2 (.lst [.str od]) = H7 at t2 hp2 hp1' hB7 hR7
      refine ⟨p1, p2, _, _, rfl, rfl, hp1', hp2, fits' (by have := lt at_; simp only [List.length_map, List.length_cons, List.length_nil]; omega), fun p3 n3 => ?_⟩
      have e3 : ((Txt.split x "\n").take at_).map V.str ++ [V.str od] = ((Txt.split x "\n").take at_ ++ [od]).map V.str := by rw [List.map_append]; rfl
      rw [e3]
      have t3 := same_new (o := .lst (((Txt.split x "\n").take at_ ++ [od]).map V.str)) n3
      have hp3 : (upd H7 p3 (.lst (((Txt.split x "\n").take at_ ++ [od]).map V.str))) p3 = some (.lst (((Txt.split x "\n").take at_ ++ [od]).map V.str)) := upd_same
      generalize upd H7 p3 (.lst (((Txt.split x "\n").take at_ ++ [od]).map V.str)) = H8 at t3 hp3
      refine ⟨_, rfl, _, rfl, _, rfl, R, _, rfl, sqL_l (t3 _ _ hR7), fun p4 n4 => ?_⟩
      rw [cf]
      have t4 := same_new (o := .lst (((Txt.split x "\n").drop at_).map V.str)) n4
      refine ⟨p3, p4, _, _, rfl, rfl, t4 _ _ hp3, upd_same, fits' (by have := lt at_; have := ld at_; simp only [List.length_map, List.length_append, List.length_cons, List.length_nil]; omega), fun p5 n5 => ?_⟩
      rw [← List.map_append]
      have t5 := same_new (o := .lst (((Txt.split x "\n").take at_ ++ [od] ++ (Txt.split x "\n").drop at_).map V.str)) n5
      have om : od.length ≤ 500 := by
        have := jl_mem hmem; omega
      refine jn upd_same (((hB7.same t3).same t4).same t5) (spoil_dup hmem) ?_ ?_
      · have := lt at_; have := ld at_; simp only [List.length_append, List.length_cons, List.length_nil]; omega
      · have := js at_; simp only [List.map_append, List.sum_append, List.map_cons, List.map_nil, List.sum_cons, List.sum_nil]; omega
    refine iteF' (dec 2 d2) ?_
    refine ⟨_, rfl, rfl, _, rfl, ?_⟩
    by_cases d3 : d = 3
    · refine iteT' (by rw [d3]; rfl) ⟨⟨_, rfl⟩, ?_⟩
      refine ⟨_, rfl, _, rfl, _, rfl, R, _, rfl, sqL_l hR4, fun p1 n1 => ?_⟩
      rw [cf]
      have t1 := same_new (o := .lst (((Txt.split x "\n").drop at_).map V.str)) n1
      have hp1 : (upd H4 p1 (.lst (((Txt.split x "\n").drop at_).map V.str))) p1 = some (.lst (((Txt.split x "\n").drop at_).map V.str)) := upd_same
      generalize upd H4 p1 (.lst (((Txt.split x "\n").drop at_).map V.str)) = H5 at t1 hp1
      refine ⟨_, rfl, _, rfl, _, rfl, R, _, rfl, sqL_l (t1 _ _ hR4), fun p4 n4 => ?_⟩
      rw [ct]
      have t4 := same_new (o := .lst (((Txt.split x "\n").take at_).map V.str)) n4
      refine ⟨p1, p4, _, _, rfl, rfl, t4 _ _ hp1, upd_same, fits' (by have := lt at_; have := ld at_; simp only [List.length_map]; omega), fun p5 n5 => ?_⟩
      rw [← List.map_append]
      have t5 := same_new (o := .lst (((Txt.split x "\n").drop at_ ++ (Txt.split x "\n").take at_).map V.str)) n5
      refine jn upd_same (((hB4.same t1).same t4).same t5) spoil_turn ?_ ?_
      · have := lt at_; have := ld at_; simp only [List.length_append]; omega
      · have := js at_; simp only [List.map_append, List.sum_append]; omega
    refine iteF' (dec 3 d3) ?_
    -- a sign
    refine ⟨_, rfl, _, rfl, x, rfl, lx, _, _, rfl, rfl, b, l, _, x.length + 1, rfl, by omega, hB4, by omega, by omega, fun H5 pl hB5 bt5 hpl => ?_⟩
    have fin : ∀ (H8 : Hp) (c : Nat), Box H8 b l → ∀ (y : Str) (q1 : Nat), y.length ≤ 1 → pl ≤ q1 → Q (.str (cutS x none (some (pl : Int)) ++ y ++ cutS x (some (q1 : Int)) none)) H8 := fun H8 c hb y q1 hy hq => q H8 _ hb (spoil_sign hy hq)
    have c1 : (cutS x none (some (pl : Int))).length ≤ 500 := Nat.le_trans (cutS_length _ _ _) xl
    have c2 : ∀ q1 : Int, (cutS x (some q1) none).length ≤ 500 := fun q1 => Nat.le_trans (cutS_length _ _ _) xl
    refine ⟨_, rfl, _, rfl, _, rfl, _, rfl, by decide +kernel, by show 2 ≤ sizeLine; decide, fun L nL => ?_⟩
    generalize hH6 : upd H5 L (HO.lst _) = H6
    have s56 : Same H5 H6 := by rw [← hH6]; exact same_new nL
    have hB6 := hB5.same s56
    have nLb := fresh hB5 nL
    refine ⟨_, rfl, b, l, 2, 2, rfl, rfl, hB6, by decide, by decide, fun H7 r hB7 bt7 hr2 => ?_⟩
    rcases (show r = 0 ∨ r = 1 by omega) with rfl | rfl
    · refine ⟨L, _, _, .int 13, rfl, rfl, sqA_l (bt7 _ _ nLb (by rw [← hH6, upd_same])), rfl, b, l, _, 13, rfl, rfl, hB7, by decide, by decide, fun H8 r8 hB8 bt8 hr8 => rd_sign (Nat.lt_of_lt_of_le hr8 (by decide +kernel)) (by decide +kernel) fun c => ?_⟩
      refine ⟨_, rfl, _, rfl, _, rfl, x, rfl, lx, _, rfl, _, rfl, by show 3 ≤ sizeLine; decide, fun M nM => ?_⟩
      have sM := same_new (o := .lst [.str ⟨#[c]⟩, .str ⟨#[c]⟩, .str ""]) nM
      have hBM := hB8.same sM
      have o1 : ∀ y : Str, y.length ≤ 1 → (cutS x none (some (pl : Int))).length + y.length ≤ sizeLine ∧ ∀ q1 : Int, (cutS x none (some (pl : Int)) ++ y).length + (cutS x (some q1) none).length ≤ sizeLine := fun y hy => ⟨fits' (by omega), fun q1 => fits' (by have := c2 q1; rw [app_len]; omega)⟩
      rcases (show d = 4 ∨ d = 5 ∨ d = 6 by omega) with rfl | rfl | rfl
      · obtain ⟨b1, b2⟩ := o1 ⟨#[c]⟩ (Nat.le_refl _)
        refine ⟨_, rfl, _, _, rfl, rfl, M, _, _, .str ⟨#[c]⟩, rfl, rfl, sqA_l upd_same, rfl, _, _, rfl, rfl, b1, _, rfl, _, rfl, _, rfl, _, _, rfl, rfl, .inr ⟨_, rfl, _, _, rfl, rfl, _, rfl, x, rfl, lx, _, _, rfl, rfl, b2 _, ?_⟩⟩
        exact fin _ c hBM ⟨#[c]⟩ (pl + 0) (Nat.le_refl _) (by omega)
      · obtain ⟨b1, b2⟩ := o1 ⟨#[c]⟩ (Nat.le_refl _)
        refine ⟨_, rfl, _, _, rfl, rfl, M, _, _, .str ⟨#[c]⟩, rfl, rfl, sqA_l upd_same, rfl, _, _, rfl, rfl, b1, _, rfl, _, rfl, _, rfl, _, _, rfl, rfl, .inr ⟨_, rfl, _, _, rfl, rfl, _, rfl, x, rfl, lx, _, _, rfl, rfl, b2 _, ?_⟩⟩
        exact fin _ c hBM ⟨#[c]⟩ (pl + 1) (Nat.le_refl _) (by omega)
      · obtain ⟨b1, b2⟩ := o1 "" (by decide +kernel)
        refine ⟨_, rfl, _, _, rfl, rfl, M, _, _, .str "", rfl, rfl, sqA_l upd_same, rfl, _, _, rfl, rfl, b1, _, rfl, _, rfl, _, rfl, _, _, rfl, rfl, .inr ⟨_, rfl, _, _, rfl, rfl, _, rfl, x, rfl, lx, _, _, rfl, rfl, b2 _, ?_⟩⟩
        exact fin _ c hBM "" (pl + 1) (by decide +kernel) (by omega)
    · refine ⟨L, _, _, _, rfl, rfl, sqA_l (bt7 _ _ nLb (by rw [← hH6, upd_same])), rfl, b, l, _, _, rfl, rfl, hB7, by decide +kernel, by decide +kernel, fun H8 r8 hB8 bt8 hr8 => rd_sign hr8 (by decide +kernel) fun c => ?_⟩
      refine ⟨_, rfl, _, rfl, _, rfl, x, rfl, lx, _, rfl, _, rfl, by show 3 ≤ sizeLine; decide, fun M nM => ?_⟩
      have sM := same_new (o := .lst [.str ⟨#[c]⟩, .str ⟨#[c]⟩, .str ""]) nM
      have hBM := hB8.same sM
      have o1 : ∀ y : Str, y.length ≤ 1 → (cutS x none (some (pl : Int))).length + y.length ≤ sizeLine ∧ ∀ q1 : Int, (cutS x none (some (pl : Int)) ++ y).length + (cutS x (some q1) none).length ≤ sizeLine := fun y hy => ⟨fits' (by omega), fun q1 => fits' (by have := c2 q1; rw [app_len]; omega)⟩
      rcases (show d = 4 ∨ d = 5 ∨ d = 6 by omega) with rfl | rfl | rfl
      · obtain ⟨b1, b2⟩ := o1 ⟨#[c]⟩ (Nat.le_refl _)
        refine ⟨_, rfl, _, _, rfl, rfl, M, _, _, .str ⟨#[c]⟩, rfl, rfl, sqA_l upd_same, rfl, _, _, rfl, rfl, b1, _, rfl, _, rfl, _, rfl, _, _, rfl, rfl, .inr ⟨_, rfl, _, _, rfl, rfl, _, rfl, x, rfl, lx, _, _, rfl, rfl, b2 _, ?_⟩⟩
        exact fin _ c hBM ⟨#[c]⟩ (pl + 0) (Nat.le_refl _) (by omega)
      · obtain ⟨b1, b2⟩ := o1 ⟨#[c]⟩ (Nat.le_refl _)
        refine ⟨_, rfl, _, _, rfl, rfl, M, _, _, .str ⟨#[c]⟩, rfl, rfl, sqA_l upd_same, rfl, _, _, rfl, rfl, b1, _, rfl, _, rfl, _, rfl, _, _, rfl, rfl, .inr ⟨_, rfl, _, _, rfl, rfl, _, rfl, x, rfl, lx, _, _, rfl, rfl, b2 _, ?_⟩⟩
        exact fin _ c hBM ⟨#[c]⟩ (pl + 1) (Nat.le_refl _) (by omega)
      · obtain ⟨b1, b2⟩ := o1 "" (by decide +kernel)
        refine ⟨_, rfl, _, _, rfl, rfl, M, _, _, .str "", rfl, rfl, sqA_l upd_same, rfl, _, _, rfl, rfl, b1, _, rfl, _, rfl, _, rfl, _, _, rfl, rfl, .inr ⟨_, rfl, _, _, rfl, rfl, _, rfl, x, rfl, lx, _, _, rfl, rfl, b2 _, ?_⟩⟩
        exact fin _ c hBM "" (pl + 1) (by decide +kernel) (by omega)
end
end Vt
namespace Vt
open PySem PySem.Spec PyProof.Rows L2
theorem calleeN_mk {P : Program} {w : World} {K : PySem.W.Frag} {mg : Str → Option Value} {base h : Heap} {x : Str} {st : Stmt} {k n : Nat} {sp : Sp} {ps : List Str} (X : K.In h) (G : h.Ns mainGlobals mg) (hf : ∃ f, Found K x st f)
    (ok : ∀ (f : Addr) (fd : FuncData), Fun K x x st f fd → FnOk P w K mg base (L2N.CX P w) k f fd ps sp)
    (hb : ∀ (kV doc pm : Value) (an : Option Addr) (cdv ct : Value) (us : List Value), us.length = ps.length → bindArgs (PySem.W.fnOf x x (defArgs st) (defBody st) (defScope st) .none kV doc pm an cdv ct) ⟨us, []⟩ = pure (ps.zip us)) : CalleeN P w K mg base x k n sp := by
  obtain ⟨f, oc, od, kV, doc, pm, an, cdv, ct, osl, a, l, c, kp⟩ := hf
  have F := fun_mk (st := st) l c kp
  exact ⟨f, _, ps, ok f _ F, PySem.W.mg_of X G a, kp, F.binds hb⟩
theorem calleeP_mk {P : Program} {w : World} {K : PySem.W.Frag} {mg : Str → Option Value} {base h : Heap} {x : Str} {st : Stmt} {k : Nat} {sp : Value → Option Addr → Addr → Sp} {ps : List Str} (X : K.In h) (G : h.Ns mainGlobals mg) (hf : ∃ f, Found K x st f)
    (ok : ∀ {f : Addr} {oc : Value} {od : Option Addr} {kV doc pm cdv ct : Value} {an : Option Addr} {osl : Array (Option Value)}, K.lookup f = some ⟨oc, od, .func (PySem.W.fnOf x x (defArgs st) (defBody st) (defScope st) .none kV doc pm an cdv ct), osl⟩ → PySem.W.codeIn K cdv x = true →
      ∀ (p : Addr × Obj) (cls : Value) (d : Option Addr), L2N.Zn cls d p.2 → (∃ vs, p.2.data = .fields vs) → FnP P w K mg base k f (PySem.W.fnOf x x (defArgs st) (defBody st) (defScope st) .none kV doc pm an cdv ct) ps p (sp cls d p.1))
    (hb : ∀ (kV doc pm : Value) (an : Option Addr) (cdv ct : Value) (us : List Value), us.length = ps.length → bindArgs (PySem.W.fnOf x x (defArgs st) (defBody st) (defScope st) .none kV doc pm an cdv ct) ⟨us, []⟩ = pure (ps.zip us)) : CalleeP P w K mg base x k sp := by
  obtain ⟨f, oc, od, kV, doc, pm, an, cdv, ct, osl, a, l, c, kp⟩ := hf
  have F := fun_mk (st := st) l c kp
  exact ⟨f, _, ps, PySem.W.mg_of X G a, kp, F.binds hb, fun p cls d hz hv => ok l c p cls d hz hv⟩
/-- the five classes' addresses by place -/
def five (E0 E1 E2 E3 E4 : Addr) : Nat → Addr
  | 0 => E0
  | 1 => E1
  | 2 => E2
  | 3 => E3
  | _ => E4
end Vt
namespace Vt
open PySem PySem.Spec PyProof.Rows L2 LamX
/-! ### what the top has left of exceptions with fields, and of a law that makes lambdas -/
theorem foundx_mk {P : Program} {K : PySem.W.Frag} {C D : Addr} {x q : Str} {st : Stmt} {f cda cc : Addr} {oc : Value} {od an : Option Addr} {kV doc pm ct : Value} {osl : Array (Option Value)} {cl : Value} {cld : Option Addr} {csl : Array (Option Value)} {cdD : ClassData}
    {ccl : Value} {cdd : Option Addr} {vs : Array Value} {ccs : Array (Option Value)} {file : Str} {tf : Tok}
    (a : PySem.W.findIn K (.ref C) x = some (some (.ref f))) (l : K.lookup f = some ⟨oc, od, .func (PySem.W.fnX x q (defArgs st) (defBody st) (defScope st) [("__class__", cc)] .none kV doc pm an (.ref cda) ct), osl⟩) (c : PySem.W.codeIn K (.ref cda) q = true) (i : PySem.W.isFn K (.ref f) = true)
    (l2 : K.lookup cc = some ⟨cl, cld, .cell (some (.ref D)), csl⟩) (d : PySem.W.clsIn K D = some cdD) (l3 : K.lookup cda = some ⟨ccl, cdd, .fields vs, ccs⟩) (v2 : vs[2]? = some (.str file tf)) (fe : ((P.main.file : Str) == file) = true) (t : PySem.W.typeIn K (.ref f) = some (.type "function")) :
    ∃ f cda cc, FoundS K C D x q st f cda cc ∧ CodeAt P K cda ∧ PySem.W.typeIn K (.ref f) = some (.type "function") :=
  ⟨f, cda, cc, ⟨oc, od, kV, doc, pm, an, ct, osl, cl, cld, csl, cdD, a, l, c, i, l2, d⟩, ⟨ccl, cdd, vs, ccs, file, tf, l3, v2, fe⟩, t⟩
/-- the law, with its code object and that one's table -/
structure FoundL (K : PySem.W.Frag) (st : Stmt) (f cda Pt : Addr) : Prop where
  fn : ∃ (oc : Value) (od : Option Addr) (kV doc pm : Value) (an : Option Addr) (ct : Value) (osl : Array (Option Value)), K.lookup f = some ⟨oc, od, .func (PySem.W.fnOf "law" "law" (defArgs st) (defBody st) (defScope st) .none kV doc pm an (.ref cda) ct), osl⟩
  ns : PySem.W.nsIn K mainGlobals "law" = some (some (.ref f))
  code : PySem.W.codeIn K (.ref cda) "law" = true
  obj : ∃ (dd : Option Addr) (vs : Array Value) (sl : Array (Option Value)) (file : Str) (tf : Tok) (flags : Int) (tg : Tok) (inF : Bool) (text : Int) (tt : Tok), K.lookup cda = some ⟨.type "code", dd, .fields vs, sl⟩ ∧ vs[11]? = some (.ref Pt) ∧ vs.getD 11 .none = .ref Pt ∧ vs.getD 18 .none = .str file tf ∧
    vs.getD 7 .none = .int flags tg ∧ vs.getD 9 .none = .bool inF ∧ vs.getD 10 .none = .int text tt
  ne : cda ≠ Pt
  no : K.lookup Pt = none
theorem foundl_mk {K : PySem.W.Frag} {st : Stmt} {f cda Pt : Addr} {oc : Value} {od an : Option Addr} {kV doc pm ct : Value} {osl : Array (Option Value)} {dd : Option Addr} {vs : Array Value} {sl : Array (Option Value)} {file : Str} {tf : Tok} {flags : Int} {tg : Tok} {inF : Bool} {text : Int} {tt : Tok}
    (a : PySem.W.nsIn K mainGlobals "law" = some (some (.ref f))) (l : K.lookup f = some ⟨oc, od, .func (PySem.W.fnOf "law" "law" (defArgs st) (defBody st) (defScope st) .none kV doc pm an (.ref cda) ct), osl⟩) (c : PySem.W.codeIn K (.ref cda) "law" = true) (l3 : K.lookup cda = some ⟨.type "code", dd, .fields vs, sl⟩)
    (v1 : vs[11]? = some (.ref Pt)) (v2 : vs.getD 11 .none = .ref Pt) (v3 : vs.getD 18 .none = .str file tf) (v4 : vs.getD 7 .none = .int flags tg) (v5 : vs.getD 9 .none = .bool inF) (v6 : vs.getD 10 .none = .int text tt) (ne : cda ≠ Pt) (no : K.lookup Pt = none) : ∃ f cda Pt, FoundL K st f cda Pt :=
  ⟨f, cda, Pt, ⟨⟨oc, od, kV, doc, pm, an, ct, osl, l⟩, a, c, ⟨dd, vs, sl, file, tf, flags, tg, inF, text, tt, l3, v1, v2, v3, v4, v5, v6⟩, ne, no⟩⟩
/-- what walk_ofOwn asks of the law -/
theorem law_own {l : PySem.W.OpenLaw} {w : World} {K : PySem.W.Frag} {h : Heap} {mg : Str → Option Value} {fa f cda Pt : Addr} {st : Stmt} {k : Nat} {sp : Sp} (X : K.In h) (G : h.Ns mainGlobals mg) (hfa : mg "law" = some (.ref fa)) (own : OwnTab K fa h) (F : FoundL K st f cda Pt)
    (hb : ∀ (kV doc pm : Value) (an : Option Addr) (ct : Value) (s : Shared) (u : Value), BindsTo s (PySem.W.fnOf "law" "law" (defArgs st) (defBody st) (defScope st) .none kV doc pm an (.ref cda) ct) ⟨[u], []⟩ [("_law_script", u)])
    (hsp : ∀ (H : Hp) (a : Addr) (ns : List Int), ns.length ≤ 63 → H Pt = some (.tbl #[]) → SqL K H a (ns.map V.int) → sp [.ref a] H (fun v _ => v = .bl true) fun _ _ _ => False)
    (ok : ∀ {oc : Value} {od : Option Addr} {kV doc pm ct : Value} {an : Option Addr} {osl : Array (Option Value)}, K.lookup f = some ⟨oc, od, .func (PySem.W.fnOf "law" "law" (defArgs st) (defBody st) (defScope st) .none kV doc pm an (.ref cda) ct), osl⟩ → ∀ base : Heap, TabB base mg cda Pt →
      FnOk l.prog w K mg base CX0 k f (PySem.W.fnOf "law" "law" (defArgs st) (defBody st) (defScope st) .none kV doc pm an (.ref cda) ct) ["_law_script"] sp) : LawAtS l w K CX0 k 63 "_law_script" mg fa h := by
  obtain ⟨oc, od, kV, doc, pm, an, ct, osl, lk⟩ := F.fn
  have e := hfa.symm.trans (PySem.W.mg_of X G F.ns)
  cases e
  obtain ⟨dd, vs, sl, file, tf, flags, tg, inF, text, tt, l3, v1, v2, v3, v4, v5, v6⟩ := F.obj
  have one : ∀ {p : Addr × Addr}, p ∈ [(cda, Pt)] → p = (cda, Pt) := fun {p} hp => List.mem_singleton.mp hp
  refine ⟨_, [(cda, Pt)], sp, fun p hp => ?_, fun p hp => ?_, fun p hp => ?_, hb kV doc pm an ct, fun H a ns hl _ hT hS => hsp H a ns hl (hT _ List.mem_cons_self) hS, fun base _ _ TB => ok lk base (TB _ List.mem_cons_self)⟩
  · rw [one hp]
    exact own cda Pt _ _ _ _ _ _ lk rfl rfl l3 v1
  · rw [one hp]; exact F.no
  · rw [one hp]
    exact ⟨_, vs, file, tf, flags, tg, inF, text, tt, X _ _ l3, rfl, rfl, v1, v2, v3, v4, v5, v6, F.ne⟩
end Vt
namespace Vt
open PySem PySem.Spec PyProof.Rows L2
theorem dep_le' {α : Type} {f : α → D} {k : Nat} (h : ∀ x, (f x).dep ≤ k) : ∀ xs : List α, deps (xs.map f) ≤ k
  | [] => by simp [deps]
  | x :: r => by
    have h1 := h x
    have h2 := dep_le' h r
    simp only [List.map_cons, deps]; omega
theorem dep_iD (o : Option Int) : (iD o).dep = 0 := by cases o <;> rfl
theorem dep_raw (R : RBrd) : R.d.dep ≤ 3 := by
  have h1 := dep_le' (f := D.int) (k := 0) (fun x => by simp [D.dep]) R.mem
  have h2 := dep_le' (f := ROrd.d) (k := 1) (fun x => by simp [ROrd.d, D.dep, deps, dep_iD]) R.ords
  have h3 := dep_le' (f := RDeed.d) (k := 1) (fun x => by
    have := dep_le' (f := D.int) (k := 0) (fun x => by simp [D.dep]) x.nums
    simp only [RDeed.d, D.dep, deps]; omega) R.prog
  simp only [RBrd.d, D.dep, deps]; omega
theorem dep_outB (R : RBrd) : (outB R).dep < 5 := by
  unfold outB
  have h := dep_raw R
  cases wrongB R with
  | none => simp only [D.dep, deps]; omega
  | some p => simp [D.dep, deps]
theorem dep_out (x : Str) : (outT x).dep < 5 := by
  unfold outT
  cases readR 0 noBrd (Txt.split x "\n") with
  | inl i => simp [D.dep, deps]
  | inr R => exact dep_outB R
theorem sm_iD (o : Option Int) : (iD o).sm = true := by cases o <;> rfl
theorem sm_tup' {α : Type} {f : α → D} (xs : List α) (h : ∀ x ∈ xs, (f x).sm = true) (hl : xs.length ≤ 100000) : (D.tup (xs.map f)).sm = true := by
  have : smAll (xs.map f) = true := by
    clear hl
    induction xs with
    | nil => rfl
    | cons x r ih =>
      rw [List.map_cons, smAll, h x (by simp), ih fun y hy => h y (List.mem_cons_of_mem _ hy)]; rfl
  simp only [D.sm, List.length_map, Bool.and_eq_true, decide_eq_true_eq]
  exact ⟨hl, this⟩
theorem sm_raw {R : RBrd} (t : Told R) (h1 : R.mem.length ≤ 100000) (h2 : R.ords.length ≤ 100000) (h3 : R.prog.length ≤ 100000) : R.d.sm = true := by
  have g1 := sm_tup' (f := D.int) R.mem (fun _ _ => by simp [D.sm]) h1
  have g2 := sm_tup' (f := ROrd.d) R.ords (fun x _ => by simp [ROrd.d, D.sm, smAll, sm_iD]) h2
  have g3 := sm_tup' (f := RDeed.d) R.prog (fun x hx => by
    obtain ⟨ks, e, l⟩ := t.len x hx
    have kl := kinds_len e
    have := sm_tup' (f := D.int) x.nums (fun _ _ => by simp [D.sm]) (by omega)
    simp only [D.sm, Bool.and_eq_true, decide_eq_true_eq, List.length_map] at this
    simp only [RDeed.d, D.sm, smAll, List.length_cons, List.length_map, Bool.and_eq_true, decide_eq_true_eq]
    exact ⟨by omega, trivial, this.2⟩) h3
  rw [RBrd.d, D.sm]
  simp only [smAll, g1, g2, g3]
  rfl
theorem read_lens {M : Nat} : ∀ {rs : List Str} {i : Nat} {R S : RBrd}, R.mem.length ≤ M → (∀ r ∈ rs, (tailW r).length ≤ M) → readR i R rs = .inr S → S.mem.length ≤ M ∧ S.ords.length ≤ R.ords.length + rs.length ∧ S.prog.length ≤ R.prog.length + rs.length
  | [], i, R, S, h, _, e => by
    rw [readR] at e
    cases e
    exact ⟨h, by simp, by simp⟩
  | r :: rs, i, R, S, h, hm, e => by
    rw [readR] at e
    split at e
    · cases e
    · have ht := hm r (by simp)
      have a1 : (addRow R (headW r) (tailW r)).mem.length ≤ M ∧ (addRow R (headW r) (tailW r)).ords.length ≤ R.ords.length + 1 ∧ (addRow R (headW r) (tailW r)).prog.length ≤ R.prog.length + 1 := by
        unfold addRow
        split
        · exact ⟨by show (numsOf (tailW r)).length ≤ M; unfold numsOf; rw [List.length_map]; exact ht, by show R.ords.length ≤ _; omega, by show R.prog.length ≤ _; omega⟩
        · split
          · exact ⟨h, by show (R.ords ++ [_]).length ≤ _; simp, by show R.prog.length ≤ _; omega⟩
          · exact ⟨h, by show R.ords.length ≤ _; omega, by show (R.prog ++ [_]).length ≤ _; simp⟩
      obtain ⟨b1, b2, b3⟩ := read_lens a1.1 (fun q hq => hm q (List.mem_cons_of_mem _ hq)) e
      simp only [List.length_cons]
      exact ⟨b1, by omega, by omega⟩
theorem sm_out {x : Str} (h : x.length ≤ 990) : (outT x).sm = true := by
  unfold outT
  obtain ⟨j1, _⟩ := rows_jl x
  have rl := jl_len (ys := Txt.split x "\n")
  cases e : readR 0 noBrd (Txt.split x "\n") with
  | inl i => rfl
  | inr R =>
    obtain ⟨b1, b2, b3⟩ := read_lens (M := 990) (Nat.zero_le _) (fun r hr => by
      obtain ⟨jw, _⟩ := words_jl r
      rw [split_words r] at jw
      have := jl_len (ys := headW r :: tailW r)
      have := jl_mem hr
      rw [List.length_cons] at *
      omega) e
    have hR := sm_raw (told_read told0 e) (by omega) (by have : noBrd.ords.length = 0 := rfl; omega) (by have : noBrd.prog.length = 0 := rfl; omega)
    show (outB R).sm = true
    unfold outB
    cases wrongB R with
    | none => simp only [D.sm, smAll, hR]; rfl
    | some p => rfl
theorem sum_by {α : Type} (f : α → Str) (k : Nat) : ∀ xs : List α, (∀ x ∈ xs, (f x).length ≤ k) → ((xs.map f).map (·.length)).sum ≤ xs.length * k
  | [], _ => by simp
  | a :: r, h => by
    have h1 := sum_by f k r fun q hq => h q (List.mem_cons_of_mem _ hq)
    have h2 := h a (List.mem_cons_self ..)
    simp only [List.map_cons, List.sum_cons, List.length_cons, Nat.succ_mul]
    omega
/-- a text of at most eight deeds -/
theorem text_eight {B : Brd} (ok : BrdOk B) (h8 : B.prog.length ≤ 8) : (textT B).length ≤ 234 ∧ nlS (textT B) ≤ 12 := by
  have sp := split_text ok
  obtain ⟨c1, _⟩ := rows_count (textT B)
  have o4 := ok.four
  have rl : (rowsT B).length = B.ords.length + B.prog.length + 1 := by simp [rowsT]
  rw [sp, rl] at c1
  refine ⟨?_, by omega⟩
  have e : (textT B).length = jl (rowsT B) := join_len' _
  rw [e, jl, rl]
  have c : B.mem.length ≤ 16 := by rcases ok.cells with h | h | h | h <;> omega
  have l1 : (rowT "memory" (B.mem.map some)).length ≤ 54 := by
    have := row_len (w := "memory") (by decide +kernel) (mem_small ok)
    rw [List.length_map] at this; omega
  have l2 := sum_by ordRow 18 B.ords fun o ho => by
    obtain ⟨i, hi⟩ := List.mem_iff_getElem?.mp ho
    have := row_len (w := "order") (by decide +kernel) (ord_small ok hi)
    simp only [Ord.nums, List.length_cons, List.length_nil] at this
    unfold ordRow Ord.nums; omega
  have l3 := sum_by deedRow 12 B.prog fun d hd => by
    have := row_len (word_plain d).2 (deed_small ok hd)
    have a : d.args.length ≤ 2 := by cases d <;> simp [Deed.args]
    rw [List.length_map] at this
    unfold deedRow; omega
  unfold rowsT
  simp only [List.map_cons, List.map_append, List.sum_cons, List.sum_append]
  have : B.ords.length * 18 ≤ 72 := by omega
  have : B.prog.length * 12 ≤ 96 := by omega
  omega
section
variable {P : Program} {w : World} {K : PySem.W.Frag} {mg : Str → Option Value} {base : Heap}
abbrev st_law : Stmt := (topS 49)
abbrev nm_law : List Str := ["_law_script", "_law_box", "_law_text_here", "_law_deed_here", "_law_due_here"]
theorem sc_law : FnScope ["_law_script", "_law_box", "_law_text_here", "_law_deed_here", "_law_due_here"] ["_law_script"] (defScope st_law) := ⟨rfl, rfl, rfl, by decide +kernel, rfl, by decide +kernel, by decide +kernel⟩
def spLaw (K : PySem.W.Frag) : Sp := fun vs H Q _ => ∃ (a : Addr) (ns : List Int), vs = [.ref a] ∧ SqL K H a (ns.map V.int) ∧ ns.length ≤ 63 ∧ ∀ H', Q (.bl true) H'
set_option maxHeartbeats 0 in
theorem ok_law {f : Addr} {fd : FuncData} (F : Fun K "law" "law" st_law f fd) (c_law_begun : Callee P w K mg base "_law_begun" 1 1 (spBegun K)) (c_law_board : Callee P w K mg base "_law_board" 3 4 spBoard) (c_law_take : Callee P w K mg base "_law_take" 1 2 spTake)
    (c_law_kinds : Callee P w K mg base "_law_kinds" 1 0 (spKinds kindWords)) (c_law_alike : Callee P w K mg base "_law_alike" 5 2 (spAlike 5)) (c_law_text : Callee P w K mg base "_law_text" 1 1 spLTextX) (c_law_spoilt : Callee P w K mg base "_law_spoilt" 2 2 spSpoil)
    (c_law_due : Callee P w K mg base "_law_due" 3 1 spLDueX) (c_law_read : Callee P w K mg base "_law_read" 5 1 spLReadX) (z_range : mg "range" = none) : FnOk P w K mg base CX0 6 f fd ["_law_script"] (spLaw K) := by
  refine F.ok sc_law (fun vs H Q E h => ?_) (fun cdv A outer s H vs Q E hr h => ?_)
  · obtain ⟨a, ns, rfl, _⟩ := h
    rfl
  · obtain ⟨a, ns, rfl, hS, hlen, q⟩ := h
    refine ⟨_, (pss_cons (ps_set (i := 1) sc_law.nd rfl (Or.inl rfl) (pe_cal c_law_begun hr (by first | decide | exact Nat.le_refl _) (pa_cons (pv 0) pa_nil)))
  (pss_cons (ps_set (i := 2) sc_law.nd rfl (Or.inl rfl) (pe_cal c_law_text hr (by first | decide | exact Nat.le_refl _) (pa_cons (pe_cal c_law_board hr (by first | decide | exact Nat.le_refl _) (pa_cons (pv 1) (pa_cons pe_int (pa_cons pe_int (pa_cons (pe_cal0 c_law_kinds hr (by first | decide | exact Nat.le_refl _)) pa_nil))))) pa_nil)))
  (pss_cons (ps_for PassesOwn.never rfl (pi_range1 (by rfl) z_range (pa_cons (pe_op op_add pe_int (pe_cal c_law_take hr (by first | decide | exact Nat.le_refl _) (pa_cons (pv 1) (pa_cons pe_int pa_nil)))) pa_nil)) (pg_name (i := 3) sc_law.nd rfl (Or.inl rfl))
  (pss_one (ps_set (i := 2) sc_law.nd rfl (Or.inl rfl) (pe_cal c_law_spoilt hr (by first | decide | exact Nat.le_refl _) (pa_cons (pv 1) (pa_cons (pv 2) pa_nil))))))
  (pss_cons (ps_set (i := 4) sc_law.nd rfl (Or.inl rfl) (pe_cal c_law_due hr (by first | decide | exact Nat.le_refl _) (pa_cons (pv 2) pa_nil)))
  (pss_one (ps_ret (pe_and (pe_cal c_law_alike hr (by first | decide | exact Nat.le_refl _) (pa_cons (pe_cal c_law_read hr (by first | decide | exact Nat.le_refl _) (pa_cons (pv 2) pa_nil)) (pa_cons (pv 4) pa_nil))) (pe_one (pe_cal c_law_alike hr (by first | decide | exact Nat.le_refl _) (pa_cons (pe_cal c_law_read hr (by first | decide | exact Nat.le_refl _) (pa_cons (pv 2) pa_nil)) (pa_cons (pv 4) pa_nil))))))))))), ?_⟩
    refine ⟨_, rfl, a, ns, rfl, hS, hlen, fun H1 b l hB1 sm1 => ?_⟩
    refine ⟨_, rfl, rfl, fun H2 kl s2 nk hk => ?_⟩
    refine ⟨b, l, kl, 4, 8, kindWords, rfl, hB1.same s2, by decide, by decide, by decide, hk, by decide, by decide, by decide, fun H3 v B hB3 bt3 hv ok m16 d8 _ _ => ?_⟩
    refine ⟨v, B, rfl, hv, ok, fun H4 s4 => ?_⟩
    obtain ⟨x0, x1⟩ := text_eight ok d8
    have hB4 := hB3.same s4
    generalize textT B = T0 at x0 x1
    refine ⟨_, rfl, b, l, 2, 2, rfl, rfl, hB4, by decide, by decide, fun H5 r hB5 bt5 hr2 => ?_⟩
    refine ⟨_, _, rfl, rfl, _, rfl, by omega, by omega, ?_⟩
    refine for_it (walk_range (lo := 0) (n := ((1 : Int) + (r : Nat)).toNat)) (fun i σ H' => ∃ (T : Str) (y3 : Option V), σ = [some (.ref a), some (.ref b), some (.str T), y3, none] ∧ Box H' b l ∧ (i = 0 → T.length ≤ 234 ∧ nlS T ≤ 12) ∧ (i = 1 → T.length ≤ 483 ∧ nlS T ≤ 13) ∧ (i = 2 → T.length ≤ 981 ∧ nlS T ≤ 14))
      ⟨_, _, rfl, hB5, fun _ => ⟨x0, x1⟩, fun z => absurd z (by decide), fun z => absurd z (by decide)⟩ (fun _ _ _ _ _ => trivial) (fun i x σ H6 H7 hi hp hy => ?_) (fun σ H6 hp => ?_)
    · obtain ⟨T, y3, rfl, hB6, h0, h1, h2⟩ := hp
      obtain ⟨rfl, rfl⟩ := hy
      have i1 : i = 0 ∨ i = 1 := by omega
      have tl : T.length ≤ 483 := by
        rcases i1 with e | e
        · have := (h0 e).1; omega
        · exact (h1 e).1
      refine ⟨_, rfl, _, rfl, b, l, T, rfl, hB6, by omega, fun H8 z hB8 sp => ?_⟩
      obtain ⟨p1, p2⟩ := sp
      refine ⟨_, _, rfl, hB8, fun e => absurd e (by omega), fun e => ?_, fun e => ?_⟩
      · have := h0 (by omega); omega
      · have := h1 (by omega); omega
    obtain ⟨T, y3, rfl, hB6, h0, h1, h2⟩ := hp
    obtain ⟨tl, tn⟩ : T.length ≤ 981 ∧ nlS T ≤ 14 := by
      rcases (show r = 0 ∨ r = 1 by omega) with rfl | rfl
      · have := h1 rfl; omega
      · exact h2 rfl
    have rc := (rows_count T).1
    refine ⟨_, rfl, T, rfl, by omega, by omega, fun H7 u s7 hu => ?_⟩
    refine ⟨_, rfl, T, rfl, by omega, fun H8 u2 s8 hu2 => ⟨_, rfl, u2, u, outT T, rfl, hu2, hu.same s8, dep_out T, sm_out (by omega), ?_⟩⟩
    refine ⟨_, rfl, iteT ?_⟩
    refine ⟨_, rfl, T, rfl, by omega, fun H9 u3 s9 hu3 => ⟨_, rfl, u3, u, outT T, rfl, hu3, (hu.same s8).same s9, dep_out T, sm_out (by omega), ?_⟩⟩
    exact q _
end
end Vt
namespace Vt
open PySem PySem.Spec PyProof.Rows L2
set_option maxHeartbeats 0 in
theorem all_mk {l : PySem.W.OpenLaw} {w : World} {K : PySem.W.Frag} {h : Heap} {mg : Str → Option Value} {fa dd msz E0 E1 E2 E3 E4 CE : Addr} {t1 t2 t3 t4 t5 t6 : Tok} (X : K.In h) (G : h.Ns mainGlobals mg) (hfa : mg "law" = some (.ref fa))
    (h_first_wrong_cell : ∃ f, Found K "first_wrong_cell" st_first_wrong_cell f) (h_first_wrong_order : ∃ f, Found K "first_wrong_order" st_first_wrong_order f) (h_order_can_be : ∃ f, Found K "order_can_be" st_order_can_be f) (h_counts_of_things : ∃ f, Found K "counts_of_things" st_counts_of_things f) (h_first_wrong_deed : ∃ f, Found K "first_wrong_deed" st_first_wrong_deed f) (h_deed_can_be : ∃ f, Found K "deed_can_be" st_deed_can_be f) (h_require_board : ∃ f, Found K "require_board" st_require_board f) (h_is_number : ∃ f, Found K "is_number" st_is_number f) (h_all_are_numbers : ∃ f, Found K "all_are_numbers" st_all_are_numbers f) (h_words_are_so : ∃ f, Found K "words_are_so" st_words_are_so f) (h_number_of : ∃ f, Found K "number_of" st_number_of f) (h_read_board : ∃ f, Found K "read_board" st_read_board f) (h_law_begun : ∃ f, Found K "_law_begun" st_law_begun f) (h_law_take : ∃ f, Found K "_law_take" st_law_take f) (h_law_alike : ∃ f, Found K "_law_alike" st_law_alike f) (h_law_class : ∃ f, Found K "_law_class" st_law_class f) (h_law_order : ∃ f, Found K "_law_order" st_law_order f) (h_law_deed : ∃ f, Found K "_law_deed" st_law_deed f) (h_law_board : ∃ f, Found K "_law_board" st_law_board f) (h_law_text : ∃ f, Found K "_law_text" st_law_text f) (h_law_spoilt : ∃ f, Found K "_law_spoilt" st_law_spoilt f) (h_law_number : ∃ f, Found K "_law_number" st_law_number f) (h_law_is_row : ∃ f, Found K "_law_is_row" st_law_is_row f) (h_law_is_order : ∃ f, Found K "_law_is_order" st_law_is_order f) (h_law_is_deed : ∃ f, Found K "_law_is_deed" st_law_is_deed f) (h_law_of_board : ∃ f, Found K "_law_of_board" st_law_of_board f) (h_law_due : ∃ f, Found K "_law_due" st_law_due f) (h_law_read : ∃ f, Found K "_law_read" st_law_read f) (h_law_kinds : ∃ f, Found K "_law_kinds" st_law_kinds f) (h_law : ∃ f, Found K "law" st_law f)
    (gE0 : PySem.W.nsIn K mainGlobals "BadBoard" = some (some (.ref E0))) (gE1 : PySem.W.nsIn K mainGlobals "BadFence" = some (some (.ref E1))) (gE2 : PySem.W.nsIn K mainGlobals "NotSure" = some (some (.ref E2))) (gE3 : PySem.W.nsIn K mainGlobals "BadCount" = some (some (.ref E3))) (gE4 : PySem.W.nsIn K mainGlobals "BadText" = some (some (.ref E4))) (gCE : PySem.W.nsIn K mainGlobals "CarrierError" = some (some (.ref CE)))
    (xsp : PySem.W.specialIn K (.builtin "object.__class__") "__get__" = some (some (.builtin "getset_descriptor.__get__"))) (xtk : PySem.W.takesIn K (.builtin "object.__class__") = some true) (top : (l.prog.main.scope.names.lookup ("super" : Str)).isSome = false) (any : PySem.W.nsIn K cStatics "thirdparty.any" = some none)
    {nm0 q0 : Str} {N0 : Addr} {bs0 bm0 : List Value} {sn0 : List Str} {sub0 : List Value} {ab0 : Bool} {col0 : Option Bool} {dd0 : Option Addr} {ka0 kb0 kc0 kd0 ke0 : Option Value} (l0 : K.lookup E0 = some (excClassObj nm0 q0 E0 N0 bs0 bm0 true sn0 sub0 ab0 col0 dd0 ka0 kb0 kc0 kd0 ke0 "ValueError.__new__")) (r0 : PySem.HandSPX.refsVE bm0 = true) (sa0 : PySem.W.findIn K (.ref E0) "__setattr__" = some (some (.builtin "object.__setattr__"))) (ex0 : PySem.W.subIn K (.ref E0) (.type "BaseException") = some true) (ty0 : PySem.W.typeIn K (.ref E0) = some (.type "type")) (kp0 : PySem.W.keepIn K (.ref E0) = true) (xa0 : PySem.W.findIn K (.ref E0) "__getattribute__" = some (some (.builtin "BaseException.__getattribute__"))) (xb0 : PySem.W.findIn K (.ref E0) "__getattr__" = some none) (xd0 : PySem.W.hasDictIn K E0 = true) (xe0 : PySem.W.findIn K (.ref E0) "__class__" = some (some (.builtin "object.__class__"))) (xh0 : PySem.W.mroIn K E0 (.type "object") = some true) (i0_0 : PySem.W.kitOne K (.ref E0) (.ref E0) = some true) (i1_0 : PySem.W.kitOne K (.ref E0) (.ref E1) = some false) (i2_0 : PySem.W.kitOne K (.ref E0) (.ref E2) = some false) (i3_0 : PySem.W.kitOne K (.ref E0) (.ref E3) = some false) (i4_0 : PySem.W.kitOne K (.ref E0) (.ref E4) = some false) (iV_0 : PySem.W.kitOne K (.ref E0) (.type "ValueError") = some true) (xm0 : PySem.W.exmOne K (.ref E0) (.ref CE) = some true) (su0 : PySem.W.mroIn K E0 (.ref E0) = some true) (sp0 : PySem.W.ks_superIn K E0 E0 "__init__" = some (some (.builtin "ValueError.__init__"))) (ve0 : PySem.W.subIn K (.ref E0) (.type "ValueError") = some true) (no0_word : PySem.W.findIn K (.ref E0) "word" = some none) (no0_number : PySem.W.findIn K (.ref E0) "number" = some none) (hx_0 : ∃ f cda cc, FoundS K E0 E0 "__init__" "BadBoard.__init__" st_BadBoard___init__ f cda cc ∧ CodeAt l.prog K cda ∧ PySem.W.typeIn K (.ref f) = some (.type "function"))
    {nm4 q4 : Str} {N4 : Addr} {bs4 bm4 : List Value} {sn4 : List Str} {sub4 : List Value} {ab4 : Bool} {col4 : Option Bool} {dd4 : Option Addr} {ka4 kb4 kc4 kd4 ke4 : Option Value} (l4 : K.lookup E4 = some (excClassObj nm4 q4 E4 N4 bs4 bm4 true sn4 sub4 ab4 col4 dd4 ka4 kb4 kc4 kd4 ke4 "ValueError.__new__")) (r4 : PySem.HandSPX.refsVE bm4 = true) (sa4 : PySem.W.findIn K (.ref E4) "__setattr__" = some (some (.builtin "object.__setattr__"))) (ex4 : PySem.W.subIn K (.ref E4) (.type "BaseException") = some true) (ty4 : PySem.W.typeIn K (.ref E4) = some (.type "type")) (kp4 : PySem.W.keepIn K (.ref E4) = true) (xa4 : PySem.W.findIn K (.ref E4) "__getattribute__" = some (some (.builtin "BaseException.__getattribute__"))) (xb4 : PySem.W.findIn K (.ref E4) "__getattr__" = some none) (xd4 : PySem.W.hasDictIn K E4 = true) (xe4 : PySem.W.findIn K (.ref E4) "__class__" = some (some (.builtin "object.__class__"))) (xh4 : PySem.W.mroIn K E4 (.type "object") = some true) (i0_4 : PySem.W.kitOne K (.ref E4) (.ref E0) = some false) (i1_4 : PySem.W.kitOne K (.ref E4) (.ref E1) = some false) (i2_4 : PySem.W.kitOne K (.ref E4) (.ref E2) = some false) (i3_4 : PySem.W.kitOne K (.ref E4) (.ref E3) = some false) (i4_4 : PySem.W.kitOne K (.ref E4) (.ref E4) = some true) (iV_4 : PySem.W.kitOne K (.ref E4) (.type "ValueError") = some true) (xm4 : PySem.W.exmOne K (.ref E4) (.ref CE) = some true) (su4 : PySem.W.mroIn K E4 (.ref E4) = some true) (sp4 : PySem.W.ks_superIn K E4 E4 "__init__" = some (some (.builtin "ValueError.__init__"))) (ve4 : PySem.W.subIn K (.ref E4) (.type "ValueError") = some true) (no4_row : PySem.W.findIn K (.ref E4) "row" = some none) (hx_4 : ∃ f cda cc, FoundS K E4 E4 "__init__" "BadText.__init__" st_BadText___init__ f cda cc ∧ CodeAt l.prog K cda ∧ PySem.W.typeIn K (.ref f) = some (.type "function"))
    (g1 : PySem.W.nsIn K mainGlobals "LINE" = some (some (.int 4 t1))) (g2 : PySem.W.nsIn K mainGlobals "NUMBERS" = some (some (.int 10 t2))) (g3 : PySem.W.nsIn K mainGlobals "MOST_ORDERS" = some (some (.int 4 t3))) (g4 : PySem.W.nsIn K mainGlobals "MOST_MOVED" = some (some (.int 8 t4))) (g5 : PySem.W.nsIn K mainGlobals "MOST_DEEDS" = some (some (.int 60 t5))) (g6 : PySem.W.nsIn K mainGlobals "MOST_STARTS" = some (some (.int 3 t6)))
    (g7 : PySem.W.nsIn K mainGlobals "MEMORY_SIZES" = some (some (.ref msz))) (g8 : KTup K msz [.int 4, .int 8, .int 12, .int 16]) (g9 : PySem.W.nsIn K mainGlobals "DEEDS" = some (some (.ref dd))) (Kd : mg "DEEDS" = some (.ref dd) → Kinds K w mg dd) (Md : MissD K dd)
    {tx0 : Tok} (x_MOST_FIGURES : PySem.W.nsIn K mainGlobals "MOST_FIGURES" = some (some (.int 9 tx0))) {tx1 : Tok} (x_ORDER_NUMBERS : PySem.W.nsIn K mainGlobals "ORDER_NUMBERS" = some (some (.int 4 tx1)))
    (z_len : PySem.W.nsIn K mainGlobals "len" = some none) (z_enumerate : PySem.W.nsIn K mainGlobals "enumerate" = some none) (z_all : PySem.W.nsIn K mainGlobals "all" = some none) (z_zip : PySem.W.nsIn K mainGlobals "zip" = some none) (z_range : PySem.W.nsIn K mainGlobals "range" = some none) (z_list : PySem.W.nsIn K mainGlobals "list" = some none) (z_tuple : PySem.W.nsIn K mainGlobals "tuple" = some none) (z_int : PySem.W.nsIn K mainGlobals "int" = some none) (z_min : PySem.W.nsIn K mainGlobals "min" = some none) (z_bool : PySem.W.nsIn K mainGlobals "bool" = some none) (z_str : PySem.W.nsIn K mainGlobals "str" = some none) (z_isinstance : PySem.W.nsIn K mainGlobals "isinstance" = some none) (z_set : PySem.W.nsIn K mainGlobals "set" = some none) (z_sorted : PySem.W.nsIn K mainGlobals "sorted" = some none) (z_dict : PySem.W.nsIn K mainGlobals "dict" = some none) (z_ValueError : PySem.W.nsIn K mainGlobals "ValueError" = some none) (z_super : PySem.W.nsIn K mainGlobals "super" = some none) :
    ∃ fd : FuncData, (∀ (s : Shared) (v : Value), BindsTo s fd ⟨[v], []⟩ [("_law_script", v)]) ∧ ∀ base : Heap, K.In base → base.Ns mainGlobals mg → FnOk l.prog w K mg base CX0 6 fa fd ["_law_script"] (spLaw K) := by
  have n := fun {x : Str} (z : PySem.W.nsIn K mainGlobals x = some none) => PySem.W.mg_none_of X G z
  have Kd' := Kd (PySem.W.mg_of X G g9)
  have C_ : Consts K mg := ⟨⟨_, PySem.W.mg_of X G g1⟩, ⟨_, PySem.W.mg_of X G g2⟩, ⟨_, PySem.W.mg_of X G g3⟩, ⟨_, PySem.W.mg_of X G g4⟩, ⟨_, PySem.W.mg_of X G g5⟩, ⟨_, PySem.W.mg_of X G g6⟩, ⟨_, PySem.W.mg_of X G g7, g8⟩⟩
  obtain ⟨f, oc, od, kV, doc, pm, an, cdv, ct, osl, la, ll, lc, lk⟩ := h_law
  have e := hfa.symm.trans (PySem.W.mg_of X G la)
  cases e
  refine ⟨PySem.W.fnOf "law" "law" (defArgs st_law) (defBody st_law) (defScope st_law) .none kV doc pm an cdv ct, fun s v => .of_eq rfl, fun base _ _ => ?_⟩
  have e_MOST_FIGURES : ∃ t, mg "MOST_FIGURES" = some (.int 9 t) := ⟨_, PySem.W.mg_of X G x_MOST_FIGURES⟩
  have e_ORDER_NUMBERS : ∃ t, mg "ORDER_NUMBERS" = some (.int 4 t) := ⟨_, PySem.W.mg_of X G x_ORDER_NUMBERS⟩
  have gFive : Clss mg (five E0 E1 E2 E3 E4) := ⟨PySem.W.mg_of X G gE0, PySem.W.mg_of X G gE1, PySem.W.mg_of X G gE2, PySem.W.mg_of X G gE3, PySem.W.mg_of X G gE4⟩
  have oex0 : OexC K E0 := ⟨⟨_, _, _, _, _, _, _, _, _, _, _, _, _, _, _, l0, r0⟩, sa0, ex0, ty0, kp0⟩
  have xcl0 : XCls K E0 ["word", "number"] := ⟨oex0, ⟨su0, sp0, ve0⟩, List.forall_mem_cons.mpr ⟨no0_word, List.forall_mem_cons.mpr ⟨no0_number, fun _ h => by cases h⟩⟩⟩
  have is0 : IsCls K (five E0 E1 E2 E3 E4) 0 := ⟨⟨xa0, xb0, ex0, xd0, xe0, xsp, xtk, xh0⟩, i0_0, i1_0, i2_0, i3_0, i4_0, iV_0⟩
  have fld0_word : FldC K E0 "word" := ⟨⟨xa0, xb0, ex0, xd0⟩, no0_word⟩
  have fld0_number : FldC K E0 "number" := ⟨⟨xa0, xb0, ex0, xd0⟩, no0_number⟩
  obtain ⟨fx0, cdx0, ccx0, hFx0, hCx0, hTx0⟩ := hx_0
  have k_BadBoard : MakesX l.prog w K mg base "BadBoard" E0 1 (spX2 E0) := bb_make (PySem.W.mg_of X G gE0) xcl0 hFx0 hTx0 hCx0 top (n z_super) any
  have oex4 : OexC K E4 := ⟨⟨_, _, _, _, _, _, _, _, _, _, _, _, _, _, _, l4, r4⟩, sa4, ex4, ty4, kp4⟩
  have xcl4 : XCls K E4 ["row"] := ⟨oex4, ⟨su4, sp4, ve4⟩, List.forall_mem_cons.mpr ⟨no4_row, fun _ h => by cases h⟩⟩
  have is4 : IsCls K (five E0 E1 E2 E3 E4) 4 := ⟨⟨xa4, xb4, ex4, xd4, xe4, xsp, xtk, xh4⟩, i0_4, i1_4, i2_4, i3_4, i4_4, iV_4⟩
  have fld4_row : FldC K E4 "row" := ⟨⟨xa4, xb4, ex4, xd4⟩, no4_row⟩
  obtain ⟨fx4, cdx4, ccx4, hFx4, hCx4, hTx4⟩ := hx_4
  have k_BadText : MakesX l.prog w K mg base "BadText" E4 1 (spX1 E4 "row") := bt_make (PySem.W.mg_of X G gE4) xcl4 hFx4 hTx4 hCx4 top (n z_super) any
  have step : ∀ k, Callee l.prog w K mg base "_law_alike" k 2 (spAlike k) → Callee l.prog w K mg base "_law_alike" (k + 1) 2 (spAlike (k + 1)) := fun k c =>
    callee_mk X G h_law_alike (fun f fd F => alike_go F k c (n z_len) (n z_range) (n z_isinstance) (n z_bool) (n z_int) (n z_str) (n z_tuple) (n z_list)) (fun _ _ _ _ _ _ us hl => match us, hl with | [_, _], _ => rfl)
  have c0 : Callee l.prog w K mg base "_law_alike" 0 2 (spAlike 0) :=
    callee_mk (ps := ["_law_found", "_law_due_here"]) X G h_law_alike (fun f fd F => ⟨fun vs H Q E h => by obtain ⟨u, v, d, rfl, _⟩ := h; rfl, fun A outer s H args us vs Q E hr he hb hv h => by obtain ⟨u, v, d, _, _, _, hd, _⟩ := h; exact absurd hd (Nat.not_lt_zero _)⟩) (fun _ _ _ _ _ _ us hl => match us, hl with | [_, _], _ => rfl)
  have c_alike := step 4 (step 3 (step 2 (step 1 (step 0 (c0)))))
  have c_take : Callee l.prog w K mg base "_law_take" 1 2 spTake := callee_mk X G h_law_take (fun f fd F => ok_take F) (fun _ _ _ _ _ _ us hl => match us, hl with | [_, _], _ => rfl)
  have c_order : Callee l.prog w K mg base "_law_order" 2 4 spOrder := callee_mk X G h_law_order (fun f fd F => ok_order F c_take (n z_min)) (fun _ _ _ _ _ _ us hl => match us, hl with | [_, _, _, _], _ => rfl)
  have c_deed : Callee l.prog w K mg base "_law_deed" 2 4 spDeed := callee_mk X G h_law_deed (fun f fd F => ok_deed F c_take (n z_len) (n z_int)) (fun _ _ _ _ _ _ us hl => match us, hl with | [_, _, _, _], _ => rfl)
  have c_board : Callee l.prog w K mg base "_law_board" 3 4 spBoard := callee_mk X G h_law_board (fun f fd F => ok_board F c_take c_order c_deed (n z_len) (n z_tuple) (n z_range)) (fun _ _ _ _ _ _ us hl => match us, hl with | [_, _, _, _], _ => rfl)
  have c_begun : Callee l.prog w K mg base "_law_begun" 1 1 (spBegun K) := callee_mk X G h_law_begun (fun f fd F => ok_begun F (n z_len) (n z_int) (n z_list)) (fun _ _ _ _ _ _ us hl => match us, hl with | [_], _ => rfl)
  have c_kinds : Callee l.prog w K mg base "_law_kinds" 1 0 (spKinds kindWords) := callee_mk X G h_law_kinds (fun f fd F => ok_kinds F) (fun _ _ _ _ _ _ us hl => match us, hl with | [], _ => rfl)
  have c_fwc : Callee l.prog w K mg base "first_wrong_cell" 1 1 spFwCell := callee_mk X G h_first_wrong_cell (fun f fd F => ok_fwcell F C_ (n z_len) (n z_enumerate)) (fun _ _ _ _ _ _ us hl => match us, hl with | [_], _ => rfl)
  have c_oc : Callee l.prog w K mg base "order_can_be" 1 4 spOrdCan := callee_mk X G h_order_can_be (fun f fd F => ok_ordcan F C_) (fun _ _ _ _ _ _ us hl => match us, hl with | [_, _, _, _], _ => rfl)
  have c_fwo : Callee l.prog w K mg base "first_wrong_order" 2 2 spFwOrd := callee_mk X G h_first_wrong_order (fun f fd F => ok_fword F C_ c_oc (n z_len) (n z_enumerate)) (fun _ _ _ _ _ _ us hl => match us, hl with | [_, _], _ => rfl)
  have c_dc : Callee l.prog w K mg base "deed_can_be" 1 2 (spDeedCan K w dd) := callee_mk X G h_deed_can_be (fun f fd F => ok_deedcan F Kd' (n z_len) (n z_all) (n z_zip)) (fun _ _ _ _ _ _ us hl => match us, hl with | [_, _], _ => rfl)
  have c_counts : Callee l.prog w K mg base "counts_of_things" 1 2 spCounts := callee_mk X G h_counts_of_things (fun f fd F => ok_counts F C_) (fun _ _ _ _ _ _ us hl => match us, hl with | [_, _], _ => rfl)
  have c_fwd : Callee l.prog w K mg base "first_wrong_deed" 2 3 (spFwDeed K w dd) := callee_mk X G h_first_wrong_deed (fun f fd F => ok_fwdeed F C_ c_dc c_counts (n z_enumerate)) (fun _ _ _ _ _ _ us hl => match us, hl with | [_, _, _], _ => rfl)
  have c_class : CalleeP l.prog w K mg base "_law_class" 1 (spClassD K (five E0 E1 E2 E3 E4)) := calleeP_mk X G h_law_class (fun lk hcd p cls d hz hf => ok_classD gFive lk hcd (n z_isinstance) (n z_ValueError) p cls d hz hf) (fun _ _ _ _ _ _ us hl => match us, hl with | [_], _ => rfl)
  have n_req : CalleeN l.prog w K mg base "require_board" 3 1 (spReqX K w dd E0) := calleeN_mk X G h_require_board (fun f fd F => ok_reqX F k_BadBoard c_fwc c_fwo c_fwd (n z_len)) (fun _ _ _ _ _ _ us hl => match us, hl with | [_], _ => rfl)
  have c_isnum : Callee l.prog w K mg base "is_number" 1 1 spIsNumX := callee_mk X G h_is_number (fun f fd F => ok_isnumX F e_MOST_FIGURES (n z_len)) (fun _ _ _ _ _ _ us hl => match us, hl with | [_], _ => rfl)
  have c_allnum : Callee l.prog w K mg base "all_are_numbers" 2 1 spAllNumX := callee_mk X G h_all_are_numbers (fun f fd F => ok_allnumX F c_isnum (n z_all)) (fun _ _ _ _ _ _ us hl => match us, hl with | [_], _ => rfl)
  have c_words : Callee l.prog w K mg base "words_are_so" 3 2 spWordsX := callee_mk X G h_words_are_so (fun f fd F => ok_wordsX F Kd' Md c_allnum c_isnum e_ORDER_NUMBERS (n z_len)) (fun _ _ _ _ _ _ us hl => match us, hl with | [_, _], _ => rfl)
  have c_numof : Callee l.prog w K mg base "number_of" 1 1 spNumOfX := callee_mk X G h_number_of (fun f fd F => ok_numofX F (n z_int)) (fun _ _ _ _ _ _ us hl => match us, hl with | [_], _ => rfl)
  have n_read : CalleeN l.prog w K mg base "read_board" 4 1 (spReadX K w dd E0 E4) := calleeN_mk X G h_read_board (fun f fd F => ok_readX F k_BadText c_words c_numof n_req (n z_enumerate) (n z_tuple)) (fun _ _ _ _ _ _ us hl => match us, hl with | [_], _ => rfl)
  have c_lnum : Callee l.prog w K mg base "_law_number" 1 1 spLNum := callee_mk X G h_law_number (fun f fd F => ok_lnum F (n z_len) (n z_int)) (fun _ _ _ _ _ _ us hl => match us, hl with | [_], _ => rfl)
  have c_lrow : Callee l.prog w K mg base "_law_is_row" 2 1 spLRow := callee_mk X G h_law_is_row (fun f fd F => ok_lrow F c_lnum (n z_len)) (fun _ _ _ _ _ _ us hl => match us, hl with | [_], _ => rfl)
  have c_lord : Callee l.prog w K mg base "_law_is_order" 1 4 spLOrd := callee_mk X G h_law_is_order (fun f fd F => ok_lord F) (fun _ _ _ _ _ _ us hl => match us, hl with | [_, _, _, _], _ => rfl)
  have c_ldeed : Callee l.prog w K mg base "_law_is_deed" 1 3 spLDeed := callee_mk X G h_law_is_deed (fun f fd F => ok_ldeed F (n z_len) (n z_range)) (fun _ _ _ _ _ _ us hl => match us, hl with | [_, _, _], _ => rfl)
  have c_lof : Callee l.prog w K mg base "_law_of_board" 2 1 spLOf := callee_mk X G h_law_of_board (fun f fd F => ok_lof F c_lord c_ldeed (n z_len) (n z_range)) (fun _ _ _ _ _ _ us hl => match us, hl with | [_], _ => rfl)
  have c_ldueX : Callee l.prog w K mg base "_law_due" 3 1 spLDueX := callee_mk X G h_law_due (fun f fd F => ok_ldueX F c_lrow c_lnum c_lof (n z_enumerate) (n z_tuple)) (fun _ _ _ _ _ _ us hl => match us, hl with | [_], _ => rfl)
  have c_lreadX : Callee l.prog w K mg base "_law_read" 5 1 spLReadX := callee_mk X G h_law_read (fun f fd F => ok_lreadX (C := five E0 E1 E2 E3 E4) F (PySem.W.mg_of X G gCE) xm0 xm4 is0 is4 fld0_word fld0_number fld4_row n_read c_class) (fun _ _ _ _ _ _ us hl => match us, hl with | [_], _ => rfl)
  have c_ltextX : Callee l.prog w K mg base "_law_text" 1 1 spLTextX := callee_mk X G h_law_text (fun f fd F => ok_ltextX F (n z_str) (n z_int)) (fun _ _ _ _ _ _ us hl => match us, hl with | [_], _ => rfl)
  have c_spoil : Callee l.prog w K mg base "_law_spoilt" 2 2 spSpoil := callee_mk X G h_law_spoilt (fun f fd F => ok_spoil F c_take (n z_len) (n z_int)) (fun _ _ _ _ _ _ us hl => match us, hl with | [_, _], _ => rfl)
  exact ok_law (fun_mk (st := st_law) ll lc lk) c_begun c_board c_take c_kinds c_alike c_ltextX c_spoil c_ldueX c_lreadX (n z_range)
end Vt
open PySem PySem.W PyProof.Rows
set_option maxHeartbeats 0 in
theorem PySem.Challenge.cw_blockcarrier_k15_texts_refused_holds : PySem.Challenge.rw_blockcarrier_k15_texts_refused.Holds := by
  w_on; o_law; k_head; (case hw => w_witness2)
  k_fill
  refine L2.walk_of (l := PySem.Challenge.rw_blockcarrier_k15_texts_refused) (n := 63) (k := 6) (x := "_law_script") (CX := fun _ => L2.CX0) (sp := fun w => Vt.spLaw _) rfl (by decide) rfl ⟨rfl, by decide, by decide⟩ (fun w h Y => PySem.W.kIn_of Y) ?F (fun _ _ a ns hl _ hS => ⟨a, ns, rfl, hS, hl, fun _ => rfl⟩) (fun _ _ _ _ _ h => h)
  case F =>
    intro w mg fa h KX G hmg
    refine' Vt.all_mk KX G hmg ?h_first_wrong_cell ?h_first_wrong_order ?h_order_can_be ?h_counts_of_things ?h_first_wrong_deed ?h_deed_can_be ?h_require_board ?h_is_number ?h_all_are_numbers ?h_words_are_so ?h_number_of ?h_read_board ?h_law_begun ?h_law_take ?h_law_alike ?h_law_class ?h_law_order ?h_law_deed ?h_law_board ?h_law_text ?h_law_spoilt ?h_law_number ?h_law_is_row ?h_law_is_order ?h_law_is_deed ?h_law_of_board ?h_law_due ?h_law_read ?h_law_kinds ?h_law ?gE0 ?gE1 ?gE2 ?gE3 ?gE4 ?gCE ?xsp ?xtk ?top ?any ?l0 ?r0 ?sa0 ?ex0 ?ty0 ?kp0 ?xa0 ?xb0 ?xd0 ?xe0 ?xh0 ?i0_0 ?i1_0 ?i2_0 ?i3_0 ?i4_0 ?iV_0 ?xm0 ?su0 ?sp0 ?ve0 ?no0_word ?no0_number ?hx_0 ?l4 ?r4 ?sa4 ?ex4 ?ty4 ?kp4 ?xa4 ?xb4 ?xd4 ?xe4 ?xh4 ?i0_4 ?i1_4 ?i2_4 ?i3_4 ?i4_4 ?iV_4 ?xm4 ?su4 ?sp4 ?ve4 ?no4_row ?hx_4 ?g1 ?g2 ?g3 ?g4 ?g5 ?g6 ?g7 ?g8 ?g9 ?g10 ?gMd ?x_MOST_FIGURES ?x_ORDER_NUMBERS ?z_len ?z_enumerate ?z_all ?z_zip ?z_range ?z_list ?z_tuple ?z_int ?z_min ?z_bool ?z_str ?z_isinstance ?z_set ?z_sorted ?z_dict ?z_ValueError ?z_super
    (case h_first_wrong_cell => (refine' Vt.found_mk ?a ?l ?c ?k; (case a => k_is); (case l => k_is); (case c => k_is); (case k => k_is)))
    (case h_first_wrong_order => (refine' Vt.found_mk ?a ?l ?c ?k; (case a => k_is); (case l => k_is); (case c => k_is); (case k => k_is)))
    (case h_order_can_be => (refine' Vt.found_mk ?a ?l ?c ?k; (case a => k_is); (case l => k_is); (case c => k_is); (case k => k_is)))
    (case h_counts_of_things => (refine' Vt.found_mk ?a ?l ?c ?k; (case a => k_is); (case l => k_is); (case c => k_is); (case k => k_is)))
    (case h_first_wrong_deed => (refine' Vt.found_mk ?a ?l ?c ?k; (case a => k_is); (case l => k_is); (case c => k_is); (case k => k_is)))
    (case h_deed_can_be => (refine' Vt.found_mk ?a ?l ?c ?k; (case a => k_is); (case l => k_is); (case c => k_is); (case k => k_is)))
    (case h_require_board => (refine' Vt.found_mk ?a ?l ?c ?k; (case a => k_is); (case l => k_is); (case c => k_is); (case k => k_is)))
    (case h_is_number => (refine' Vt.found_mk ?a ?l ?c ?k; (case a => k_is); (case l => k_is); (case c => k_is); (case k => k_is)))
    (case h_all_are_numbers => (refine' Vt.found_mk ?a ?l ?c ?k; (case a => k_is); (case l => k_is); (case c => k_is); (case k => k_is)))
    (case h_words_are_so => (refine' Vt.found_mk ?a ?l ?c ?k; (case a => k_is); (case l => k_is); (case c => k_is); (case k => k_is)))
    (case h_number_of => (refine' Vt.found_mk ?a ?l ?c ?k; (case a => k_is); (case l => k_is); (case c => k_is); (case k => k_is)))
    (case h_read_board => (refine' Vt.found_mk ?a ?l ?c ?k; (case a => k_is); (case l => k_is); (case c => k_is); (case k => k_is)))
    (case h_law_begun => (refine' Vt.found_mk ?a ?l ?c ?k; (case a => k_is); (case l => k_is); (case c => k_is); (case k => k_is)))
    (case h_law_take => (refine' Vt.found_mk ?a ?l ?c ?k; (case a => k_is); (case l => k_is); (case c => k_is); (case k => k_is)))
    (case h_law_alike => (refine' Vt.found_mk ?a ?l ?c ?k; (case a => k_is); (case l => k_is); (case c => k_is); (case k => k_is)))
    (case h_law_class => (refine' Vt.found_mk ?a ?l ?c ?k; (case a => k_is); (case l => k_is); (case c => k_is); (case k => k_is)))
    (case h_law_order => (refine' Vt.found_mk ?a ?l ?c ?k; (case a => k_is); (case l => k_is); (case c => k_is); (case k => k_is)))
    (case h_law_deed => (refine' Vt.found_mk ?a ?l ?c ?k; (case a => k_is); (case l => k_is); (case c => k_is); (case k => k_is)))
    (case h_law_board => (refine' Vt.found_mk ?a ?l ?c ?k; (case a => k_is); (case l => k_is); (case c => k_is); (case k => k_is)))
    (case h_law_text => (refine' Vt.found_mk ?a ?l ?c ?k; (case a => k_is); (case l => k_is); (case c => k_is); (case k => k_is)))
    (case h_law_spoilt => (refine' Vt.found_mk ?a ?l ?c ?k; (case a => k_is); (case l => k_is); (case c => k_is); (case k => k_is)))
    (case h_law_number => (refine' Vt.found_mk ?a ?l ?c ?k; (case a => k_is); (case l => k_is); (case c => k_is); (case k => k_is)))
    (case h_law_is_row => (refine' Vt.found_mk ?a ?l ?c ?k; (case a => k_is); (case l => k_is); (case c => k_is); (case k => k_is)))
    (case h_law_is_order => (refine' Vt.found_mk ?a ?l ?c ?k; (case a => k_is); (case l => k_is); (case c => k_is); (case k => k_is)))
    (case h_law_is_deed => (refine' Vt.found_mk ?a ?l ?c ?k; (case a => k_is); (case l => k_is); (case c => k_is); (case k => k_is)))
    (case h_law_of_board => (refine' Vt.found_mk ?a ?l ?c ?k; (case a => k_is); (case l => k_is); (case c => k_is); (case k => k_is)))
    (case h_law_due => (refine' Vt.found_mk ?a ?l ?c ?k; (case a => k_is); (case l => k_is); (case c => k_is); (case k => k_is)))
    (case h_law_read => (refine' Vt.found_mk ?a ?l ?c ?k; (case a => k_is); (case l => k_is); (case c => k_is); (case k => k_is)))
    (case h_law_kinds => (refine' Vt.found_mk ?a ?l ?c ?k; (case a => k_is); (case l => k_is); (case c => k_is); (case k => k_is)))
    (case h_law => (refine' Vt.found_mk ?a ?l ?c ?k; (case a => k_is); (case l => k_is); (case c => k_is); (case k => k_is)))
    (case gE0 => k_is); (case gE1 => k_is); (case gE2 => k_is); (case gE3 => k_is); (case gE4 => k_is); (case gCE => k_is); (case xsp => k_is); (case xtk => k_is); (case any => k_is); (case top => rfl)
    (case l0 => k_is)
    (case r0 => decide +kernel)
    (case sa0 => k_is)
    (case ex0 => k_is)
    (case ty0 => k_is)
    (case kp0 => k_is)
    (case xa0 => k_is)
    (case xb0 => k_is)
    (case xd0 => k_is)
    (case xe0 => k_is)
    (case xh0 => k_is)
    (case i0_0 => kit_is)
    (case i1_0 => kit_is)
    (case i2_0 => kit_is)
    (case i3_0 => kit_is)
    (case i4_0 => kit_is)
    (case iV_0 => kit_is)
    (case xm0 => kts_exm)
    (case su0 => k_is)
    (case sp0 => ks_is)
    (case ve0 => k_is)
    (case no0_word => k_is)
    (case no0_number => k_is)
    (case hx_0 => (refine' Vt.foundx_mk ?a ?l ?c ?i ?l2 ?d ?l3 ?v2 ?fe ?t; (case a => k_is); (case l => k_is); (case c => k_is); (case i => k_is); (case l2 => k_is); (case d => k_is); (case l3 => k_is); (case v2 => rfl); (case fe => rfl); (case t => k_is)))
    (case l4 => k_is)
    (case r4 => decide +kernel)
    (case sa4 => k_is)
    (case ex4 => k_is)
    (case ty4 => k_is)
    (case kp4 => k_is)
    (case xa4 => k_is)
    (case xb4 => k_is)
    (case xd4 => k_is)
    (case xe4 => k_is)
    (case xh4 => k_is)
    (case i0_4 => kit_is)
    (case i1_4 => kit_is)
    (case i2_4 => kit_is)
    (case i3_4 => kit_is)
    (case i4_4 => kit_is)
    (case iV_4 => kit_is)
    (case xm4 => kts_exm)
    (case su4 => k_is)
    (case sp4 => ks_is)
    (case ve4 => k_is)
    (case no4_row => k_is)
    (case hx_4 => (refine' Vt.foundx_mk ?a ?l ?c ?i ?l2 ?d ?l3 ?v2 ?fe ?t; (case a => k_is); (case l => k_is); (case c => k_is); (case i => k_is); (case l2 => k_is); (case d => k_is); (case l3 => k_is); (case v2 => rfl); (case fe => rfl); (case t => k_is)))
    (case g1 => k_is); (case g2 => k_is); (case g3 => k_is); (case g4 => k_is); (case g5 => k_is); (case g6 => k_is); (case g7 => k_is)
    (case x_MOST_FIGURES => k_is); (case x_ORDER_NUMBERS => k_is)
    (case z_len => k_is); (case z_enumerate => k_is); (case z_all => k_is); (case z_zip => k_is); (case z_range => k_is); (case z_list => k_is); (case z_tuple => k_is); (case z_int => k_is); (case z_min => k_is); (case z_bool => k_is); (case z_str => k_is); (case z_isinstance => k_is); (case z_set => k_is); (case z_sorted => k_is); (case z_dict => k_is); (case z_ValueError => k_is); (case z_super => k_is)
    case g8 => exact Vt.ktup_mk (by k_is) (by decide) (.cons ⟨_, rfl⟩ (.cons ⟨_, rfl⟩ (.cons ⟨_, rfl⟩ (.cons ⟨_, rfl⟩ .nil))))
    case g9 => k_is
    case g10 =>
      intro m
      refine' Vt.kinds_mk m ?low ?l ?kl ?a1 ?a2 ?a3 ?a4 ?a5 ?a6 ?a7 ?t1 ?t2 ?t3 ?t4 ?t5 ?t6 ?t7
      (case low => decide)
      (case l => k_is)
      (case a1 => k_is); (case a2 => k_is); (case a3 => k_is); (case a4 => k_is); (case a5 => k_is); (case a6 => k_is); (case a7 => k_is)
      (case t1 => exact Vt.ktup_mk (by k_is) (by decide) (.cons ⟨_, rfl⟩ (.cons ⟨_, rfl⟩ .nil)))
      (case t2 => exact Vt.ktup_mk (by k_is) (by decide) (.cons ⟨_, rfl⟩ (.cons ⟨_, rfl⟩ .nil)))
      (case t3 => exact Vt.ktup_mk (by k_is) (by decide) (.cons ⟨_, rfl⟩ .nil))
      (case t4 => exact Vt.ktup_mk (by k_is) (by decide) (.cons ⟨_, rfl⟩ .nil))
      (case t5 => exact Vt.ktup_mk (by k_is) (by decide) .nil)
      (case t6 => exact Vt.ktup_mk (by k_is) (by decide) (.cons ⟨_, rfl⟩ .nil))
      (case t7 => exact Vt.ktup_mk (by k_is) (by decide) (.cons ⟨_, rfl⟩ .nil))
      case kl => exact ⟨⟨_, _, rfl, rfl⟩, ⟨_, _, rfl, rfl⟩, ⟨_, _, rfl, rfl⟩, ⟨_, _, rfl, rfl⟩, ⟨_, _, rfl, rfl⟩, ⟨_, _, rfl, rfl⟩, ⟨_, _, rfl, rfl⟩, trivial⟩
    case gMd => (refine' Vt.miss_mk ?l ?h; (case l => k_is); (case h => first | rfl | kernel_rfl | decide +kernel))
