import PyProof.Rows.All
import Wide.All
import OpenK.AllK
import Wide.FinOn
import HandS.ForMost
import HandS.IsInst
import HandS.Zip
import HandS.Walk
import HandS.WrittenGet
import HandS.TupAny
import HandS.SetFor
import KE.GoesNew
import KE.KUnpackStar
import PySem.Challenge.RW_blockcarrier_k13_counts_refused
import HandS.Flow
import HandS.DictComp
import HandS.Comp
import KE.KDictKeyed
import KE.KDictDisplayH
import KE.KDictWalk
import HandS.ClsMeth
import HandS.Nested
import KE.KSuper
import KE.KExcSuper
import HandS.HotCalls
import HandS.ExcIs
import HandS.ExcCtx
import HandS.WordsExc
import HandS.Wide
import HandS.TupMul
import KE.RegKIsAll
import KE.RegKTryMore
set_option Elab.async false
set_option linter.all false
set_option maxRecDepth 100000
namespace Vt
open PySem PySem.Spec PyProof.Rows L2
def topS (i : Nat) : Stmt := PySem.Challenge.pw_blockcarrier_k13_counts_refused.main.body.getD i (.Pass ⟨0, 0, 0, 0⟩)
end Vt
namespace Vt
open PySem PySem.Spec PyProof.Rows L2
/-! ### calls of own defs by what they promise -/
structure Callee (P : Program) (w : World) (K : PySem.W.Frag) (mg : Str → Option Value) (base : Heap) (x : Str) (k : Nat) (n : Nat) (sp : Sp) : Prop where
  ex : ∃ (f : Addr) (fd : FuncData) (ps : List Str), FnOk P w K mg base CX0 k f fd ps sp ∧ mg x = some (.ref f) ∧ PySem.W.keepIn K (.ref f) = true ∧ Binds K fd ps []
section
variable {X : Cx} {x : Str} {k j n : Nat} {sp : Sp} {p pos : Pos} {e : Expr} {es : List Expr} {t : TA}
theorem pe_cal (C : Callee X.prog X.w X.K X.mg X.base x k n sp) (hr : Room j X.A) (hk : k ≤ j) (ha : PA X (e :: es) t) (hg : Gl X x := by rfl)
    (hdb : (x == ("__debug__" : Str)) = false := by decide) (he : starEach (e :: es) X.env = (false, eval e X.env) :: starEach es X.env := by rfl) (hpl : (backTo pos (starEach es X.env)).any (·.1) = false := by rfl) :
    PE X (.Call (.Name x p) (e :: es) [] pos) (tCall sp [] E0 t) := by
  have ⟨f, fd, ps, F, hm, hkp, hb⟩ := C.ex
  exact pe_call F (hr.mono hk) hg hm hkp hb .nil pass0 ha hdb he hpl
theorem pe_cal0 (C : Callee X.prog X.w X.K X.mg X.base x k n sp) (hr : Room j X.A) (hk : k ≤ j) (hg : Gl X x := by rfl)
    (hdb : (x == ("__debug__" : Str)) = false := by decide) : PE X (.Call (.Name x p) [] [] pos) (tCall sp [] E0 tNil) := by
  have ⟨f, fd, ps, F, hm, hkp, hb⟩ := C.ex
  exact pe_call0 F (hr.mono hk) hg hm hkp hb .nil pass0 hdb
end
/-- a statement, then the rest, with a word between them -/
def tCut (t u : TS) : TS := fun D σ H => ∃ Mid : L2.St → Hp → Prop, t { D with nx := Mid } σ H ∧ ∀ σ' H', Mid σ' H' → u D σ' H'
theorem pss_cut {X : Cx} {st : Stmt} {rest : List Stmt} {t u : TS} (h1 : PS X st t) (h2 : PSs X rest u) : PSs X (st :: rest) (tCut t u) := by
  refine ⟨fun pins s σ H D I h => ?_⟩
  obtain ⟨Mid, hm, hu⟩ := h
  refine wpAny_execs_cons (thn (h1.run pins s σ H { D with nx := Mid } I hm) fun f s1 q => ?_)
  cases f with
  | next =>
    obtain ⟨σ', H', I', q⟩ := q
    exact h2.run pins s1 σ' H' D I' (hu σ' H' q)
  | ret v => exact q
  | brk => exact q
  | cont => exact q
/-! ### lists or tuples -/
def SqA (K : PySem.W.Frag) (H : Hp) (a : Addr) (xs : List V) : Prop := SqL K H a xs ∨ SqT K H a xs
def rIxLT (K : PySem.W.Frag) : R2 := fun x y H Q => ∃ p xs i v, x = .ref p ∧ y = .int i ∧ SqA K H p xs ∧ atI xs i = some v ∧ Q v H
section
variable {X : Cx} {tg l : Expr} {tl : TE}
theorem ix_lt : IxR X (rIxLT X.K) := by
  intro value slice pins s σ H x y v u Q I rx ry h hs
  obtain ⟨p, xs, i, z, ex, ey, hq | hq, he, q⟩ := h
  · exact ix_list value slice pins s σ H x y v u Q I rx ry ⟨p, xs, i, z, ex, ey, hq, he, q⟩ hs
  · exact ix_tup value slice pins s σ H x y v u Q I rx ry ⟨p, xs, i, z, ex, ey, hq, he, q⟩ hs
theorem ix_ltk (K : PySem.W.Frag) (h : X.K = K := by rfl) : IxR X (rIxLT K) := by
  subst h
  exact ix_lt
def iLT (K : PySem.W.Frag) (tl : TE) : TI := fun σ H R => tl σ H fun x H1 => ∃ a, x = .ref a ∧ ((∃ xs, SqL K H1 a xs ∧ R (Itl K a) H1) ∨ ∃ xs, SqT K H1 a xs ∧ R (Itt K a) H1)
theorem pi_lt (hl : PE X l tl) : PI X tg l (iLT X.K tl) := by
  refine ⟨fun pins s σ H R I h => ?_⟩
  refine thn (hl.run pins s σ H _ I h) fun v s1 ⟨x, H1, I1, r1, q1⟩ => ?_
  obtain ⟨a, e, q⟩ := q1
  subst e
  cases r1
  rcases q with ⟨xs, hq, q⟩ | ⟨xs, hq, q⟩
  · obtain ⟨its, rv, p, hz⟩ := I1.list hq
    refine wpAny_pyIter_list p.isList ?_
    refine ⟨s1.heap.objs.size, [s1.heap.objs.size], _, _, H1, rfl, I1.kept (t' := s1.toks) fun b o e => Heap.get?_push_of_some _ e, turn_list a _, ⟨_, Heap.get?_push_size _ rfl, rfl, rfl⟩, fun b hb => ?_, q⟩
    have e : b = s1.heap.objs.size := by simpa using hb
    subst e
    exact I1.fpOk (Nat.le_refl _) (I1.hok.fresh (Nat.le_refl _))
  · obtain ⟨its, rv, p, hz⟩ := I1.tuple hq
    refine wpAny_pyIter_tuple (show s1.heap.IsTuple a its.toArray from p) ?_
    refine ⟨s1.heap.objs.size, [s1.heap.objs.size], _, _, H1, rfl, I1.kept (t' := s1.toks) fun b o e => Heap.get?_push_of_some _ e, turn_tuple a _, ⟨_, Heap.get?_push_size _ rfl, rfl, rfl⟩, fun b hb => ?_, q⟩
    have e : b = s1.heap.objs.size := by simpa using hb
    subst e
    exact I1.fpOk (Nat.le_refl _) (I1.hok.fresh (Nat.le_refl _))
end
theorem pg_tupk {X : Cx} (K : PySem.W.Frag) {es : List Expr} {k n : Nat} {pos : Pos} {t : TGs} (hc : X.calm = true) (h : PGs X es t) (hK : X.K = K := by rfl)
    (hn : (assignEach es X.env).length = n := by rfl) (hst : (assignEach es X.env).findIdx? (·.1) = none := by rfl) : PG X (.Tuple es k pos) (gTup K n t) := by
  subst hK
  exact pg_tup hc h hn hst
/-! ### enumerate(tuple) -/
theorem meets_enumT {v : Value} {o : Obj} {H : Heap → Prop} (B : Begins v o H) :
    Meets (Builtin.«enumerate.__new__» ⟨[.type "enumerate", v], []⟩) (fun _ R s => H s.heap ∧
      R (.ok (.ret (.ref (s.heap.push o).objs.size))) { s with heap := (s.heap.push o).push { cls := .type "enumerate", data := .fields #[.none, .bool false, .ref s.heap.objs.size, rawInt 0, .none, .none] } }) :=
  .of_wp fun prog w A R s h => by
    obtain ⟨hp, g, d, tk, os⟩ := s; obtain ⟨h1, h⟩ := h
    have hsub := sub_enumerate
    have q1 : ∀ {A E Q}, Q (.ref (Shared.heap ⟨hp, g, d, tk, os⟩).objs.size) ⟨hp.push o, g, d, tk, os⟩ → wpAny (model prog w) A (pyIter v) Q E ⟨hp, g, d, tk, os⟩ := fun {A E Q} q => B.iter prog w A E _ Q h1 q
    wp_walk using q1
    refine wpAny_stack_any fun st => wpAny_pure ?_
    split
    · rename_i c _ _ _ _ _
      cases (c == Value.type "enumerate")
      · wp_walk using q1
        exact ⟨_, rfl, h⟩
      · wp_walk using q1
        exact ⟨_, rfl, h⟩
    · wp_walk using q1
      exact ⟨_, rfl, h⟩
section
variable {prog : Program} {w : World} {A : Around} {E : Value → Shared → Prop} {s : Shared}
theorem call_enumB {v : Value} {o : Obj} {H : Heap → Prop} {Q : Value → Shared → Prop} (B : Begins v o H) (h1 : H s.heap)
    (h : ∀ h', IsEnum h' (s.heap.objs.size + 1) s.heap.objs.size 0 .none → h'.get? s.heap.objs.size = some o → h'.objs.size = s.heap.objs.size + 2 →
      (∀ b o, s.heap.get? b = some o → h'.get? b = some o) → Q (.ref (s.heap.objs.size + 1)) { s with heap := h' }) :
    wpAny (model prog w) A (call (.type "enumerate") [v]) Q E s := by
  refine callType_new F.called_enumerate (by decide) (F.typeCall_enumerate_1 _) (F.newCall_enumerate_1 _) (fun obj => F.args_object_init_2 obj _) F.entry_enumerate_new
    (meets_enumT B) ⟨h1, ?_⟩
  have hz : (s.heap.push o).objs.size = s.heap.objs.size + 1 := Heap.size_push ..
  show _ ∧ _
  rw [hz]
  have he : IsEnum ((s.heap.push o).push { cls := .type "enumerate", data := .fields #[.none, .bool false, .ref s.heap.objs.size, rawInt 0, .none, .none] }) (s.heap.objs.size + 1) s.heap.objs.size 0 .none := by
    have := Heap.get?_push_size (s.heap.push o) (o := { cls := .type "enumerate", data := .fields #[.none, .bool false, .ref s.heap.objs.size, rawInt 0, .none, .none] }) rfl
    rw [hz] at this; exact this
  refine ⟨⟨_, he, rfl⟩, h _ he (Heap.get?_push_of_some _ (Heap.get?_push_size _ B.free)) (by rw [Heap.size_push, hz]) fun b o x => Heap.get?_push_of_some _ (Heap.get?_push_of_some _ x)⟩
end
def Ien (K : PySem.W.Frag) (a : Addr) : It :=
  ⟨fun i H => ∃ (xs : List V) (x : V), SqT K H a xs ∧ xs[i]? = some x, fun i H v H' => ∃ T x, v = .ref T ∧ H T = none ∧ H' = upd H T (.tup [.int (i : Nat), x]) ∧ ∀ xs, SqT K H a xs → xs[i]? = some x, fun i H => ∃ xs : List V, SqT K H a xs ∧ xs.length = i⟩
theorem turn_enumT {P : Program} {w : World} {K : PySem.W.Frag} {elts : List Expr} {kk : Nat} {tpos : Pos} (a e it : Addr) :
    Turn P w K (.Tuple elts kk tpos) (Ien K a) [e, it] e (fun i h => (∃ old, IsEnum h e it (0 + (i : Int)) old) ∧ h.IsTupleIter it a i ∧ e ≠ it ∧ a ≠ it) where
  mem := by simp
  obj := fun i h st b hb => by
    obtain ⟨⟨old, he⟩, ⟨o, ho, hc, hd⟩, _⟩ := st
    have e' : b = e ∨ b = it := by simpa using hb
    rcases e' with z | z
    · rw [z]; exact ⟨_, he, fun v q => nomatch q⟩
    · rw [z]; exact ⟨o, ho, fun v q => by rw [hd] at q; cases q⟩
  keep := fun i h h' st k => let ⟨⟨old, he⟩, hi, hne, ha⟩ := st; ⟨⟨old, k e (by simp) _ he⟩, hi.at fun o q => k it (by simp) o q, hne, ha⟩
  item := by
    intro X hP hw hK hc i pins s σ H E I hf st hg
    subst hP hw hK
    obtain ⟨⟨old, he⟩, hit, hne, hat⟩ := st
    obtain ⟨xs, x, hq, hx⟩ := hg
    obtain ⟨its, rv, p, hz⟩ := I.tuple hq
    obtain ⟨u, hu, ru⟩ := rv.get hx
    have hel : e < s.heap.objs.size := Heap.lt_size he
    have hil : it < s.heap.objs.size := by obtain ⟨_, q, _⟩ := hit; exact Heap.lt_size q
    have hae : e ≠ a := fun z => by
      obtain ⟨o, ho, hc, _⟩ := p
      rw [← z, show s.heap.get? e = some _ from he] at ho
      cases ho
      exact absurd (show Value.type "enumerate" = Value.type "tuple" from hc) (by simp)
    have hsz : i < its.toArray.size := by
      have := (List.getElem?_eq_some_iff.mp hu).1
      simpa using this
    refine thn ((GoesN.enumFrom (elts := elts) (x1 := kk) (pos := tpos) 0 (Draws.tuple (prog := X.prog) (w := X.w) (A := X.A.in1) (I.ok.hd hc) it a hat its.toArray) e hne (by simp; exact ⟨hne, hae⟩) (by simp)).goes i s
      (fun v s2 => ∃ x H', Inv X pins σ H' s2 ∧ RelV x v ∧ (Ien X.K a).yld i H x H' ∧ ((∃ old, IsEnum s2.heap e it (0 + ((i + 1 : Nat) : Int)) old) ∧ s2.heap.IsTupleIter it a ((i + 1 : Nat) : Nat) ∧ e ≠ it ∧ a ≠ it) ∧ ∀ b ∈ [e, it], H' b = none) E hsz ⟨⟨old, he⟩, hit, p⟩ fun v h' tk hY st' hk htk => ?_) fun r s1 h1 => h1
    obtain ⟨T, t, y, ev, hT, hy, hTt⟩ := hY
    obtain ⟨he', hit', p'⟩ := st'
    subst ev
    have ey : y = u := by
      have e1 : its.toArray[i]? = some u := by simpa using hu
      rw [e1] at hy; exact (Option.some.inj hy).symm
    subst ey
    obtain ⟨oT, hoT, hcT, hdT⟩ := hTt
    have new : ObjOk X.prog X.w (upd H T (.tup [.int (i : Nat), x])) h' T (.tup [.int (i : Nat), x]) :=
      ⟨by show 2 ≤ sizeLine; decide, [.int (0 + (i : Int)) t, y], .cons ⟨t, by rw [Int.zero_add]⟩ (.cons ru .nil), ⟨oT, hoT, hcT, hdT⟩⟩
    have I1 : Inv X pins σ (upd H T (.tup [.int (i : Nat), x])) { s with heap := h', toks := tk } :=
      I.turnedNew (ch := [e, it]) (fun b ob hb q => hk b ob hb q) hf hT new
    refine ⟨.ref T, _, I1, rfl, ⟨_, x, rfl, I.hok.fresh hT, rfl, fun ys hy => by rw [I.tuple_inj hy hq]; exact hx⟩, ⟨he', hit', hne, hat⟩, fun b hb => ?_⟩
    have hb' : b < s.heap.objs.size := by
      have e' : b = e ∨ b = it := by simpa using hb
      rcases e' with z | z
      · rw [z]; exact hel
      · rw [z]; exact hil
    rw [upd_ne (Nat.ne_of_lt (Nat.lt_of_lt_of_le hb' hT))]
    exact (hf b hb).1
  done := by
    intro X hP hw hK hc i pins s σ H E I hf st hg
    subst hP hw hK
    obtain ⟨⟨old, he⟩, hit, hne, hat⟩ := st
    obtain ⟨xs, hq, hx⟩ := hg
    obtain ⟨its, rv, p, hz⟩ := I.tuple hq
    have hl := rv.length
    have hae : e ≠ a := fun z => by
      obtain ⟨o, ho, hc, _⟩ := p
      rw [← z, show s.heap.get? e = some _ from he] at ho
      cases ho
      exact absurd (show Value.type "enumerate" = Value.type "tuple" from hc) (by simp)
    have hsz : i = its.toArray.size := by simp; omega
    refine (GoesN.enumFrom (elts := elts) (x1 := kk) (pos := tpos) 0 (Draws.tuple (prog := X.prog) (w := X.w) (A := X.A.in1) (I.ok.hd hc) it a hat its.toArray) e hne (by simp; exact ⟨hne, hae⟩) (by simp)).stops s
      (fun s2 => Inv X pins σ H s2) E (by rw [← hsz]; exact ⟨⟨old, he⟩, hit, p⟩) fun h' tk hk htk => ?_
    exact I.turnedL (ch := [e, it]) (fun b ob hb q => hk b ob hb q) hf
  self := fun A i s Q E st h => let ⟨⟨_, he⟩, _⟩ := st; wpAny_pyIter_enum he h
def iEnT (K : PySem.W.Frag) (ta : TA) : TI := fun σ H R => ta σ H fun vs H1 => ∃ a, vs = [.ref a] ∧ ((∃ xs, SqL K H1 a xs ∧ R (Ite K a) H1) ∨ ∃ xs, SqT K H1 a xs ∧ R (Ien K a) H1)
theorem pi_enumT {X : Cx} {e : Expr} {ta : TA} {p pos tpos : Pos} {elts : List Expr} {kk : Nat} (hg : Gl X "enumerate") (hm : X.mg "enumerate" = none) (ha : PA X [e] ta) (hs : starEach [e] X.env = [(false, eval e X.env)] := by rfl) :
    PI X (.Tuple elts kk tpos) (.Call (.Name "enumerate" p) [e] [] pos) (iEnT X.K ta) := by
  refine ⟨fun pins s σ H R I h => ?_⟩
  refine Call_ (ld_blt I hg hm boot_enumerate (PyProof.Rows.callWith_type1 (thn (ha.run pos pins s σ H _ I h) fun us s1 ⟨vs, H1, I1, r1, q1⟩ => ?_) hs rfl))
  obtain ⟨a, ex, q⟩ := q1
  subst ex
  cases r1 with
  | cons r rr =>
    cases rr
    cases r
    have fp : ∀ b ∈ [s1.heap.objs.size + 1, s1.heap.objs.size], FpOk X pins H1 b := fun b hb => by
      have e' : b = s1.heap.objs.size + 1 ∨ b = s1.heap.objs.size := by simpa using hb
      have hle : s1.heap.objs.size ≤ b := by
        rcases e' with z | z
        · rw [z]; exact Nat.le_add_right _ _
        · rw [z]; exact Nat.le_refl _
      exact I1.fpOk hle (I1.hok.fresh hle)
    rcases q with ⟨xs, hq, q⟩ | ⟨xs, hq, q⟩
    · obtain ⟨its, rv, p', hz⟩ := I1.list hq
      refine call_enumerate_list p'.isList fun h' he hit hsz hk => wpAny_pyIter_enum he ?_
      have I2 : Inv X pins σ H1 { s1 with heap := h' } := I1.kept (t' := s1.toks) hk
      exact ⟨s1.heap.objs.size + 1, [s1.heap.objs.size + 1, s1.heap.objs.size], _, _, H1, rfl, I2, turn_enum a (s1.heap.objs.size + 1) s1.heap.objs.size, ⟨⟨.none, he⟩, hit, Nat.succ_ne_self _⟩, fp, q⟩
    · obtain ⟨its, rv, p', hz⟩ := I1.tuple hq
      have la : a < s1.heap.objs.size := p'.lt
      refine call_enumB (begins_tuple a its.toArray) p' fun h' he hit hsz hk => wpAny_pyIter_enum he ?_
      have I2 : Inv X pins σ H1 { s1 with heap := h' } := I1.kept (t' := s1.toks) hk
      exact ⟨s1.heap.objs.size + 1, [s1.heap.objs.size + 1, s1.heap.objs.size], _, _, H1, rfl, I2, turn_enumT a (s1.heap.objs.size + 1) s1.heap.objs.size, ⟨⟨.none, he⟩, ⟨_, hit, rfl, rfl⟩, Nat.succ_ne_self _, Nat.ne_of_lt la⟩, fp, q⟩
/-- the loop over enumerate(tuple) -/
theorem walk_enumT {K : PySem.W.Frag} {a : Addr} {xs : List V} : Walk (Ien K a) xs.length (fun H => SqT K H a xs) (YPair (fun i => some (.int (i : Nat))) (fun i => xs[i]?)) := by
  refine ⟨fun i _ hi q => ⟨xs, xs[i], q, by simp [hi]⟩, fun _ q => ⟨xs, q, rfl⟩, fun i H v H' _ q y => ?_⟩
  obtain ⟨T, x, h1, h2, h3, h4⟩ := y
  exact ⟨T, .int (i : Nat), x, h1, h2, h3, rfl, h4 xs q⟩
/-! ### zip(list, tuple) -/
def Izm (K : PySem.W.Frag) (a b : Addr) : It :=
  ⟨fun i H => ∃ (xs ys : List V) (x y : V), SqL K H a xs ∧ SqT K H b ys ∧ xs[i]? = some x ∧ ys[i]? = some y,
    fun i H v H' => ∃ T x y, v = .ref T ∧ H T = none ∧ H' = upd H T (.tup [x, y]) ∧ (∀ xs, SqL K H a xs → xs[i]? = some x) ∧ ∀ ys, SqT K H b ys → ys[i]? = some y,
    fun i H => ∃ xs ys : List V, SqL K H a xs ∧ SqT K H b ys ∧ min xs.length ys.length = i⟩
theorem turn_zipM {P : Program} {w : World} {K : PySem.W.Frag} {elts : List Expr} {kk : Nat} {tpos : Pos} {a b z TI TO i1 i2 : Addr} (S : ZipSep2 z TI TO i1 i2 [i1, a] [i2, b]) (h1a : a ≠ i1) (h2b : b ≠ i2) :
    Turn P w K (.Tuple elts kk tpos) (Izm K a b) [z, TI, TO, i1, i2] z (fun i h => IsZip h z TI TO .none ∧ IsTupOf2 h TI (.ref i1) (.ref i2) ∧ (∃ x y, IsTupOf2 h TO x y) ∧ h.IsListIter i1 a i ∧ h.IsTupleIter i2 b i) where
  mem := by simp
  obj := fun i h st c hc => by
    obtain ⟨hz, hTI, ⟨x, y, hTO⟩, ⟨o1, e1, _, d1⟩, ⟨o2, e2, _, d2⟩⟩ := st
    have e' : c = z ∨ c = TI ∨ c = TO ∨ c = i1 ∨ c = i2 := by simpa using hc
    rcases e' with q | q | q | q | q
    · rw [q]; exact ⟨_, hz, fun v q => nomatch q⟩
    · rw [q]; exact ⟨_, hTI, fun v q => nomatch q⟩
    · rw [q]; exact ⟨_, hTO, fun v q => nomatch q⟩
    · rw [q]; exact ⟨o1, e1, fun v q => by rw [d1] at q; cases q⟩
    · rw [q]; exact ⟨o2, e2, fun v q => by rw [d2] at q; cases q⟩
  keep := fun i h h' st k => by
    obtain ⟨hz, hTI, ⟨x, y, hTO⟩, h1, h2⟩ := st
    exact ⟨k z (by simp) _ hz, k TI (by simp) _ hTI, ⟨x, y, k TO (by simp) _ hTO⟩, h1.at fun o q => k i1 (by simp) o q, h2.at fun o q => k i2 (by simp) o q⟩
  item := by
    intro X hP hw hK hc i pins s σ H E I hf st hg
    subst hP hw hK
    obtain ⟨hz, hTI, hTO, h1, h2⟩ := st
    obtain ⟨xs, ys, x, y, hqx, hqy, hx, hy⟩ := hg
    obtain ⟨its, rv, p, _⟩ := I.list hqx
    obtain ⟨its2, rv2, p2, _⟩ := I.tuple hqy
    obtain ⟨u, hu, ru⟩ := rv.get hx
    obtain ⟨u2, hu2, ru2⟩ := rv2.get hy
    have n1 : i < its.toArray.size := by have := (List.getElem?_eq_some_iff.mp hu).1; simpa using this
    have n2 : i < its2.toArray.size := by have := (List.getElem?_eq_some_iff.mp hu2).1; simpa using this
    refine thn ((GoesN.zip2 (elts := elts) (x1 := kk) (pos := tpos) S (Draws.list (prog := X.prog) (w := X.w) (A := X.A.in1) (I.ok.hd hc) i1 a h1a its.toArray) (Draws.tuple (prog := X.prog) (w := X.w) (A := X.A.in1) (I.ok.hd hc) i2 b h2b its2.toArray)).goes i s
      (fun v s2 => ∃ x H', Inv X pins σ H' s2 ∧ RelV x v ∧ (Izm X.K a b).yld i H x H' ∧ (IsZip s2.heap z TI TO .none ∧ IsTupOf2 s2.heap TI (.ref i1) (.ref i2) ∧ (∃ x y, IsTupOf2 s2.heap TO x y) ∧ s2.heap.IsListIter i1 a ((i + 1 : Nat) : Nat) ∧ s2.heap.IsTupleIter i2 b ((i + 1 : Nat) : Nat)) ∧ ∀ b ∈ [z, TI, TO, i1, i2], H' b = none) E (by rw [Nat.lt_min]; exact ⟨n1, n2⟩)
      ⟨hz, hTI, hTO, ⟨h1, p.isList⟩, ⟨h2, p2⟩⟩ fun v h' tk hY st' hk htk => ?_) fun r s1 h1 => h1
    obtain ⟨T, v1, v2, ev, hT, hv1, hv2, hTt⟩ := hY
    obtain ⟨hz', hTI', hTO', ⟨h1', _⟩, ⟨h2', _⟩⟩ := st'
    subst ev
    have e1 : v1 = u := by
      have e1 : its.toArray[i]? = some u := by simpa using hu
      rw [e1] at hv1; exact (Option.some.inj hv1).symm
    have e2 : v2 = u2 := by
      have e1 : its2.toArray[i]? = some u2 := by simpa using hu2
      rw [e1] at hv2; exact (Option.some.inj hv2).symm
    subst e1 e2
    obtain ⟨oT, hoT, hcT, hdT⟩ := hTt
    have new : ObjOk X.prog X.w (upd H T (.tup [x, y])) h' T (.tup [x, y]) :=
      ⟨by show 2 ≤ sizeLine; decide, [v1, v2], .cons ru (.cons ru2 .nil), ⟨oT, hoT, hcT, hdT⟩⟩
    have I1 : Inv X pins σ (upd H T (.tup [x, y])) { s with heap := h', toks := tk } :=
      I.turnedNew (ch := [z, TI, TO, i1, i2]) (fun c ob hb q => hk c ob (fun m => hb (by simp only [List.mem_cons, List.not_mem_nil, or_false] at m ⊢; rcases m with h | h | h | h <;> simp [h])) q) hf hT new
    refine ⟨.ref T, _, I1, rfl, ⟨_, x, y, rfl, I.hok.fresh hT, rfl, fun ys hy => by rw [I.list_inj hy hqx]; exact hx, fun ys hy' => by rw [I.tuple_inj hy' hqy]; exact hy⟩, ⟨hz', hTI', hTO', h1', h2'⟩, fun c hb => ?_⟩
    have hn := (hf c hb).1
    have hb' : c < s.heap.objs.size := by
      obtain ⟨x0, y0, hTO0⟩ := hTO
      obtain ⟨o1, e1, _⟩ := h1
      obtain ⟨o2, e2, _⟩ := h2
      have e' : c = z ∨ c = TI ∨ c = TO ∨ c = i1 ∨ c = i2 := by simpa using hb
      rcases e' with q | q | q | q | q
      · rw [q]; exact Heap.lt_size hz
      · rw [q]; exact Heap.lt_size hTI
      · rw [q]; exact Heap.lt_size hTO0
      · rw [q]; exact Heap.lt_size e1
      · rw [q]; exact Heap.lt_size e2
    rw [upd_ne (Nat.ne_of_lt (Nat.lt_of_lt_of_le hb' hT))]
    exact hn
  done := by
    intro X hP hw hK hc i pins s σ H E I hf st hg
    subst hP hw hK
    obtain ⟨hz, hTI, hTO, h1, h2⟩ := st
    obtain ⟨xs, ys, hqx, hqy, hi⟩ := hg
    obtain ⟨its, rv, p, _⟩ := I.list hqx
    obtain ⟨its2, rv2, p2, _⟩ := I.tuple hqy
    have l1 := rv.length
    have l2 := rv2.length
    have hsz : i = min its.toArray.size its2.toArray.size := by simp; omega
    refine (GoesN.zip2 (elts := elts) (x1 := kk) (pos := tpos) S (Draws.list (prog := X.prog) (w := X.w) (A := X.A.in1) (I.ok.hd hc) i1 a h1a its.toArray) (Draws.tuple (prog := X.prog) (w := X.w) (A := X.A.in1) (I.ok.hd hc) i2 b h2b its2.toArray)).stops s
      (fun s2 => Inv X pins σ H s2) E (by rw [← hsz]; exact ⟨hz, hTI, hTO, ⟨h1, p.isList⟩, ⟨h2, p2⟩⟩) fun h' tk hk htk => ?_
    exact I.turnedL (ch := [z, TI, TO, i1, i2]) (fun c ob hb q => hk c ob (fun m => hb (by simp only [List.mem_cons, List.not_mem_nil, or_false] at m ⊢; rcases m with h | h | h | h <;> simp [h])) q) hf
  self := fun A i s Q E st h => wpAny_pyIter_zip st.1 h
theorem walk_zipM {K : PySem.W.Frag} {a b : Addr} {xs ys : List V} {n : Nat} (hn : n = min xs.length ys.length) : Walk (Izm K a b) n (fun H => SqL K H a xs ∧ SqT K H b ys) (YPair (fun i => xs[i]?) (fun i => ys[i]?)) := by
  subst hn
  refine ⟨fun i _ hi q => ?_, fun _ q => ⟨xs, ys, q.1, q.2, rfl⟩, fun i H v H' _ q y => ?_⟩
  · have h1 : i < xs.length := by omega
    have h2 : i < ys.length := by omega
    exact ⟨xs, ys, xs[i], ys[i], q.1, q.2, by simp [h1], by simp [h2]⟩
  · obtain ⟨T, x, z, h1, h2, h3, h4, h5⟩ := y
    exact ⟨T, x, z, h1, h2, h3, h4 xs q.1, h5 ys q.2⟩
def iZipM (K : PySem.W.Frag) (ta : TA) : TI := fun σ H R => ta σ H fun vs H1 => ∃ a b xs ys, vs = [.ref a, .ref b] ∧ SqL K H1 a xs ∧ SqT K H1 b ys ∧ R (Izm K a b) H1
theorem pi_zipM {X : Cx} {e e2 : Expr} {ta : TA} {p pos tpos : Pos} {elts : List Expr} {kk : Nat} (hg : Gl X "zip") (hm : X.mg "zip" = none) (ha : PA X [e, e2] ta)
    (hs : starEach [e, e2] X.env = (false, eval e X.env) :: starEach [e2] X.env := by rfl) (hpl : (backTo pos (starEach [e2] X.env)).any (·.1) = false := by rfl) :
    PI X (.Tuple elts kk tpos) (.Call (.Name "zip" p) [e, e2] [] pos) (iZipM X.K ta) := by
  refine ⟨fun pins s σ H R I h => ?_⟩
  refine Call_ (ld_blt I hg hm PyProof.Rows.boot_zip (PyProof.Rows.callWith_type1 (thn (ha.run pos pins s σ H _ I h) fun us s1 ⟨vs, H1, I1, r1, q1⟩ => ?_) hs hpl))
  obtain ⟨a, b, xs, ys, ex, hqx, hqy, q⟩ := q1
  subst ex
  cases r1 with
  | cons r rr =>
    cases rr with
    | cons r' rr =>
      cases rr
      cases r
      cases r'
      obtain ⟨its, rv, p1, _⟩ := I1.list hqx
      obtain ⟨its2, rv2, p2, _⟩ := I1.tuple hqy
      have la : a < s1.heap.objs.size := p1.lt
      have lb : b < s1.heap.objs.size := p2.lt
      refine zip_begins2 (begins_list a its.toArray) (begins_tuple b its2.toArray) p1.isList p2 fun h' hz hTI hTO h1 h2 hsz hk => wpAny_pyIter_zip hz ?_
      have I2 : Inv X pins σ H1 { s1 with heap := h' } := I1.kept (t' := s1.toks) hk
      refine ⟨s1.heap.objs.size + 4, [s1.heap.objs.size + 4, s1.heap.objs.size + 2, s1.heap.objs.size + 3, s1.heap.objs.size, s1.heap.objs.size + 1], _, _, H1, rfl, I2, turn_zipM (zip_sep2 (fun c hc => by rw [List.mem_singleton.mp hc]; exact la) (fun c hc => by rw [List.mem_singleton.mp hc]; exact lb)) (Nat.ne_of_lt la) (Nat.ne_of_lt (Nat.lt_succ_of_lt lb)), ⟨hz, hTI, ⟨_, _, hTO⟩, ⟨_, h1, rfl, rfl⟩, ⟨_, h2, rfl, rfl⟩⟩, fun c hcm => ?_, q⟩
      have e' : c = s1.heap.objs.size + 4 ∨ c = s1.heap.objs.size + 2 ∨ c = s1.heap.objs.size + 3 ∨ c = s1.heap.objs.size ∨ c = s1.heap.objs.size + 1 := by simpa using hcm
      have hle : s1.heap.objs.size ≤ c := by
        rcases e' with z | z | z | z | z
        · rw [z]; exact Nat.le_add_right _ _
        · rw [z]; exact Nat.le_add_right _ _
        · rw [z]; exact Nat.le_add_right _ _
        · rw [z]; exact Nat.le_refl _
        · rw [z]; exact Nat.le_add_right _ _
      exact I1.fpOk hle (I1.hok.fresh hle)
end Vt
namespace Vt
open PySem PySem.Spec PyProof.Rows L2
/-! ### xs[lo:hi] = another list -/
def gSlSet (to : TE) (tl th : TO) : TG := fun v σ H Q => to σ H fun o H1 => tl σ H1 fun l H2 => th σ H2 fun u H3 => ∃ (a b : Addr) (xs ys : List V) (lo hi : Nat), o = .ref a ∧ v = .ref b ∧ l = some (lo : Int) ∧ u = some (hi : Int) ∧ H3 a = some (.lst xs) ∧ H3 b = some (.lst ys) ∧ a ≠ b ∧
  lo ≤ hi ∧ hi ≤ xs.length ∧ xs.length + ys.length ≤ sizeLine ∧ Q σ (upd H3 a (.lst (xs.take lo ++ ys ++ xs.drop hi)))
section
variable {X : Cx} {pos p2 : Pos} {o : Expr} {lo hi : Option Expr} {to : TE} {tl th : TO}
theorem pg_slset (ho : PE X o to) (hl : PO X lo tl) (hu : PO X hi th)
    (ha : ∀ v, assign (.Subscript o (.Slice lo hi none p2) pos) X.env v = (do
      let ov ← holding [v] (eval o X.env)
      let iv ← holding [v, ov] (eval (.Slice lo hi none p2) X.env)
      standAt pos
      holding [v, ov, iv] (setItem ov iv v)
      release [iv, v, ov] []) := by intro _; rfl) : PG X (.Subscript o (.Slice lo hi none p2) pos) (gSlSet to tl th) := by
  refine ⟨fun pins s σ H v u Q I r h => ?_⟩
  rw [ha]
  refine wpAny_bind (wpAny_holding (thn (ho.run pins s σ H _ I h) fun ov s1 ⟨x, H1, I1, r1, q1⟩ => ?_))
  refine wpAny_bind (wpAny_holding ?_)
  refine wpAny_Slice (thn (hl.run pins s1 σ H1 _ I1 q1) fun vl s2 ⟨l, H2, I2, pl, q2⟩ => thn (hu.run pins s2 σ H2 _ I2 q2) fun vu s3 ⟨w, H3, I3, pu, a, b, xs, ys, lo', hi', e1, e2, e3, e4, hx, hy, ne, l1, l2, hz, q⟩ => ?_)
  rw [evalPart_none]
  refine wpAny_pure ?_
  subst e1 e2 e3 e4
  obtain rfl : ov = Value.ref a := r1
  obtain rfl : u = Value.ref b := r
  have I4 : Inv X pins σ H3 { s3 with heap := s3.heap.push { cls := .type "slice", data := .fields #[vl, vu, .none] } } := I3.kept (t' := s3.toks) fun b ob q => Heap.get?_push_of_some _ q
  have ra : RelV (.int (lo' : Int)) vl := by cases pl; exact ⟨_, rfl⟩
  have rc : RelV (.int (hi' : Int)) vu := by cases pu; exact ⟨_, rfl⟩
  refine wpAny_bind (wpAny_standAt (wpAny_bind (wpAny_holding (set_slice (a := (lo' : Int)) (c := (hi' : Int)) I4 hx hy ne (Heap.IsSliceOf.new ..) ra rc (by omega) (by omega) (by omega) hz fun s' I' => ?_))))
  exact wpAny_release ⟨σ, _, I', by simpa using q⟩
end
end Vt
namespace Vt
open PySem PySem.Spec PyProof.Rows L2
/-! ### methods of an own class, and its making, by what they promise -/
structure MCallee (P : Program) (w : World) (K : PySem.W.Frag) (mg : Str → Option Value) (base : Heap) (C : Addr) (m : Str) (k : Nat) (sp : Sp) : Prop where
  ex : ∃ (f : Addr) (fd : FuncData) (ps : List Str), Cls K C ∧ Meth K C m f ∧ FnOk P w K mg base CX0 k f fd ps sp ∧ Binds K fd ps []
structure Maker (P : Program) (w : World) (K : PySem.W.Frag) (mg : Str → Option Value) (base : Heap) (x : Str) (C : Addr) (k : Nat) (sp : Sp) : Prop where
  ex : ∃ (f : Addr) (fd : FuncData) (ps : List Str), Mk K C f ∧ FnOk P w K mg base CX0 k f fd ps sp ∧ mg x = some (.ref C) ∧ Binds K fd ps []
section
variable {X : Cx} {x m : Str} {k j : Nat} {C : Addr} {sp : Sp} {p pos apos : Pos} {e o : Expr} {es : List Expr} {ta : TE} {t : TA}
theorem pe_mcal {pl : Sem Bool} (c : MCallee X.prog X.w X.K X.mg X.base C m k sp) (hr : Room j X.A) (hk : k ≤ j) (he : PE X o ta) (ha : PA X (e :: es) t)
    (hst : starEach (e :: es) X.env = (false, eval e X.env) :: starEach es X.env := by rfl) (hpl : (backTo pos (starEach es X.env)).any (·.1) = false := by rfl)
    (ht : eval (.Call (.Attribute o m apos) (e :: es) [] pos) X.env = (do
      let ov ← eval o X.env
      standAt apos.atName
      let (f, first) ← holding [ov] (getMethod ov m pl)
      callWith pos f first (backTo pos (starEach (e :: es) X.env)) (backToKw pos (keywordEach [] X.env))) := by rfl) :
    PE X (.Call (.Attribute o m apos) (e :: es) [] pos) (tMeth C m sp [] E0 ta t) := by
  obtain ⟨f, fd, ps, hc, hm, F, b⟩ := c.ex
  exact pe_meth (pl := pl) he hc hm F (hr.mono hk) b .nil pass0 ha hst hpl ht
theorem pe_mcal0 {pl : Sem Bool} (c : MCallee X.prog X.w X.K X.mg X.base C m k sp) (hr : Room j X.A) (hk : k ≤ j) (he : PE X o ta)
    (ht : eval (.Call (.Attribute o m apos) [] [] pos) X.env = (do
      let ov ← eval o X.env
      standAt apos.atName
      let (f, first) ← holding [ov] (getMethod ov m pl)
      callWith pos f first (backTo pos (starEach [] X.env)) (backToKw pos (keywordEach [] X.env))) := by rfl) :
    PE X (.Call (.Attribute o m apos) [] [] pos) (tMeth C m sp [] E0 ta tNil) := by
  obtain ⟨f, fd, ps, hc, hm, F, b⟩ := c.ex
  exact pe_meth0 (pl := pl) he hc hm F (hr.mono hk) b .nil pass0 ht
theorem pe_mkc (c : Maker X.prog X.w X.K X.mg X.base x C k sp) (hr : Room j X.A) (hk : k + 1 ≤ j) (ha : PA X (e :: es) t) (hg : Gl X x := by rfl)
    (hdb : (x == ("__debug__" : Str)) = false := by decide) (he : starEach (e :: es) X.env = (false, eval e X.env) :: starEach es X.env := by rfl) (hpl : (backTo pos (starEach es X.env)).any (·.1) = false := by rfl) :
    PE X (.Call (.Name x p) (e :: es) [] pos) (tMake C sp [] E0 t) := by
  obtain ⟨f, fd, ps, M, F, hm, b⟩ := c.ex
  exact pe_make M F (hr.mono hk) hg hm b .nil pass0 ha hdb he hpl
end
end Vt
namespace Vt
open PySem PySem.Spec PyProof.Rows L2
/-! ### match over tuples that begin with a text -/
def capPats : List (Str × Pos) → List Pattern
  | [] => []
  | (x, p) :: r => .MatchAs none (some x) p :: capPats r
theorem capPats_length : ∀ cs : List (Str × Pos), (capPats cs).length = cs.length
  | [] => rfl
  | _ :: r => by rw [capPats, List.length_cons, List.length_cons, capPats_length r]
theorem capPats_star : ∀ cs : List (Str × Pos), (capPats cs).findIdx? (·.isStar) = none
  | [] => rfl
  | _ :: r => by rw [capPats, List.findIdx?_cons, capPats_star r]; rfl
theorem each_caps {M : Model} {A : Around} {E : Value → Shared → Prop} {env : Env} : ∀ (cs : List (Str × Pos)) (us : List Value) (s : Shared) (Q : Option (List (Str × Value)) → Shared → Prop), us.length = cs.length → Q (some ((cs.map (·.1)).zip us)) s →
    wpAny M A (matchEach (capPats cs) env us) Q E s
  | [], us, s, Q, hl, h => by
    cases us with
    | nil => exact wpAny_matchEach_nil h
    | cons u r => simp at hl
  | (x, p) :: r, us, s, Q, hl, h => by
    cases us with
    | nil => simp at hl
    | cons u us =>
      refine wpAny_matchEach_cons (p := .MatchAs none (some x) p) (wpAny_matchPattern_Capture ?_)
      refine each_caps r us s _ (by simpa using hl) ?_
      exact h
def bindAll : L2.St → List Nat → List V → L2.St
  | σ, i :: is, x :: xs => bindAll (σ.set i (some x)) is xs
  | σ, _, _ => σ
/-- how the caught names stand in their places -/
inductive Slots (X : Cx) : List (Str × Pos) → List Nat → Prop
  | nil : Slots X [] []
  | cons {x : Str} {p : Pos} {i : Nat} {cs : List (Str × Pos)} {is : List Nat} : X.N[i]? = some x → X.env.scope.names.lookup x = some .local → Slots X cs is → Slots X ((x, p) :: cs) (i :: is)
theorem store_caps {X : Cx} {pins : List (Addr × Obj)} {H : Hp} (hN : X.N.Nodup) : ∀ {cs : List (Str × Pos)} {is : List Nat} (_ : Slots X cs is) (xs : List V) (us : List Value) (σ : L2.St) (s : Shared) (Q : Unit → Shared → Prop), Inv X pins σ H s → Vals xs us → xs.length = cs.length →
    (∀ s', Inv X pins (bindAll σ is xs) H s' → Q () s') → wpAny (model X.prog X.w) X.A (assignInOrder ((((cs.map (·.1)).zip us).map fun (n, _) => bindName X.env n)) (((cs.map (·.1)).zip us).map (·.2))) Q X.xe s
  | _, _, .nil, xs, us, σ, s, Q, I, r, hl, h => by
    cases r with
    | nil => exact wpAny_assignInOrder_none (h s I)
    | cons r1 rr => simp at hl
  | _, _, .cons (x := x) hi hx sl, xs, us, σ, s, Q, I, r, hl, h => by
    cases r with
    | nil => simp at hl
    | cons r1 rr =>
      refine wpAny_assignInOrder_more (wpAny_bindName (store_ok I hN hi (.inl hx) r1 (fun s' I' => ?_) (.inr hx)))
      exact store_caps hN sl _ _ _ s' Q I' rr (by simpa using hl) h
structure PCases (X : Cx) (cs : List MatchCase) (t : V → TS) : Prop where
  run : ∀ (first : Bool) (pins : List (Addr × Obj)) (s : Shared) (σ : L2.St) (H : Hp) (D : Ends) (v : V) (u : Value), Inv X pins σ H s → RelV v u → t v D σ H → wpAny (model X.prog X.w) X.A (matchCases cs X.env u first) (SP X pins D) X.xe s
def tCaseNil : V → TS := fun _ D σ H => D.nx σ H
theorem pc_nil {X : Cx} : PCases X [] tCaseNil := ⟨fun _ _ s σ H D _ _ I _ h => wpAny_matchCases_nil ⟨σ, H, I, h⟩⟩
def tCase (K : PySem.W.Frag) (wd : Str) (is : List Nat) (tb : TS) (tr : V → TS) : V → TS := fun v D σ H => ∃ a z xs, v = .ref a ∧ SqT K H a (.str z :: xs) ∧
  ((z = wd ∧ xs.length = is.length ∧ tb D (bindAll σ is xs) H) ∨ (¬ (z = wd ∧ xs.length = is.length) ∧ tr v D σ H))
theorem str_eq_iff {a b : Str} : (a.cps.toList == b.cps.toList) = decide (a = b) := by
  by_cases e : a = b
  · subst e; simp
  · have h : ¬ a.cps.toList = b.cps.toList := fun q => e (by
      cases a; cases b
      simp only [Str.mk.injEq]
      exact Array.toList_inj.mp q)
    rw [decide_eq_false e]
    exact beq_eq_false_iff_ne.mpr h
theorem pc_case {X : Cx} {wd : Str} {j : Nat} {p1 p2 p3 : Pos} {cs : List (Str × Pos)} {is : List Nat} {body : List Stmt} {rest : List MatchCase} {tb : TS} {tr : V → TS} (hc : X.calm = true) (hN : X.N.Nodup) (sl : Slots X cs is) (hl : cs.length = is.length) (hb : PSs X body tb) (hr : PCases X rest tr) :
    PCases X (⟨.MatchSequence (.MatchValue (.Constant (.str wd) j p1) p2 :: capPats cs) p3, none, body⟩ :: rest) (tCase X.K wd is tb tr) := by
  refine ⟨fun first pins s σ H D v u I rv h => ?_⟩
  obtain ⟨a, z, xs, ev, hq, h⟩ := h
  subst ev
  cases rv
  obtain ⟨its, rvs, ht, hz⟩ := I.tuple hq
  have hlen : its.length = xs.length + 1 := by rw [← rvs.length]; rfl
  have hsz : its.toArray.size = xs.length + 1 := by simp [hlen]
  have hfit : (its.toArray.size : Int) < 2 ^ 63 := by
    have : (sizeLine : Int) < 2 ^ 63 := by decide
    have h2 : xs.length + 1 ≤ sizeLine := by simpa using hz
    rw [hsz]; omega
  have hpl : (Pattern.MatchValue (.Constant (.str wd) j p1) p2 :: capPats cs).length = is.length + 1 := by rw [List.length_cons, capPats_length, hl]
  have hstar : (Pattern.MatchValue (.Constant (.str wd) j p1) p2 :: capPats cs).findIdx? (·.isStar) = none := by
    rw [List.findIdx?_cons, capPats_star]; rfl
  have hwild : ((Pattern.MatchValue (.Constant (.str wd) j p1) p2 :: capPats cs).all fun p => p.isWildcard || (p.isStar && p.names.isEmpty)) = false := by
    rw [List.all_cons]; rfl
  have miss : ∀ tk, ¬ (z = wd ∧ xs.length = is.length) → wpAny (model X.prog X.w) X.A (matchCases rest X.env (.ref a) false) (SP X pins D) X.xe { s with toks := tk } := fun tk hn => by
    rcases h with ⟨e1, e2, _⟩ | ⟨_, q⟩
    · exact absurd ⟨e1, e2⟩ hn
    · exact hr.run false pins _ σ H D (.ref a) _ (I.tok tk) rfl q
  refine wpAny_matchCases_cons ?_
  by_cases hn : xs.length = is.length
  · refine matchSeq_tuple_hit ht hfit (by rw [hsz, hpl, hn]) ?_ hstar hwild
    have en : (Pattern.MatchValue (.Constant (.str wd) j p1) p2 :: capPats cs).length = its.toArray.size := by rw [hpl, hsz, hn]
    rw [en]
    refine unpackItems_tuple (s := { s with toks := s.toks + 1 + 1 }) (I.ok.hd hc) ht fun h' hx => ?_
    have hk : ∀ b o, s.heap.get? b = some o → h'.get? b = some o := fun b o e => hx b o (Nat.ne_of_lt (Heap.lt_size e)) e
    have I1 : Inv X pins σ H { s with heap := h', toks := s.toks + 1 + 1 } := I.kept hk
    cases rvs with
    | cons r0 rr =>
      rename_i u0 us
      obtain ⟨t0, rfl⟩ := r0
      refine wpAny_matchEach_cons (p := .MatchValue (.Constant (.str wd) j p1) p2) (wpAny_matchPattern_Value ?_)
      refine Calls.Constant_str ?_
      refine PyProof.Rows.eq_str ?_
      rw [show (z == wd) = decide (z = wd) from rfl]
      refine wpAny_truthy_bool ?_
      by_cases e : z = wd
      · rw [decide_eq_true e]
        have hul : us.length = cs.length := by
          have := rr.length
          omega
        refine each_caps cs us _ _ hul ?_
        simp only [List.nil_append]
        refine store_caps hN sl xs us σ _ _ (I1.tok _) rr (by omega) fun s' I' => ?_
        rcases h with ⟨_, _, q⟩ | ⟨q, _⟩
        · exact hb.run pins s' _ H D I' q
        · exact absurd ⟨e, hn⟩ q
      · rw [decide_eq_false e]
        have q := hr.run false pins
        rcases h with ⟨e1, _, _⟩ | ⟨_, q⟩
        · exact absurd e1 e
        · exact hr.run false pins _ σ H D (.ref a) _ (I1.tok _) rfl q
  · refine matchSeq_tuple_miss ht hfit (by rw [hsz, hpl]; omega) ?_ hstar hwild
    exact miss _ fun q => hn q.2
def tMatch (te : TE) (t : V → TS) : TS := fun D σ H => te σ H fun v H1 => t v D σ H1
theorem ps_match {X : Cx} {e : Expr} {cs : List MatchCase} {pos : Pos} {te : TE} {t : V → TS} (he : PE X e te) (hc : PCases X cs t) : PS X (.Match e cs pos) (tMatch te t) := by
  refine ⟨fun pins s σ H D I h => ?_⟩
  exact wpAny_Match (thn (he.run pins s σ H _ I h) fun u s1 ⟨v, H1, I1, r, q⟩ => hc.run true pins s1 σ H1 D v u I1 r q)
section
variable {X : Cx} {wd x0 x1 x2 : Str} {j : Nat} {p1 p2 p3 q0 q1 q2 : Pos} {body : List Stmt} {rest : List MatchCase} {tb : TS} {tr : V → TS}
theorem pc_seq0 (hN : X.N.Nodup) (hb : PSs X body tb) (hr : PCases X rest tr) (hc : X.calm = true := by rfl) :
    PCases X (⟨.MatchSequence [.MatchValue (.Constant (.str wd) j p1) p2] p3, none, body⟩ :: rest) (tCase X.K wd [] tb tr) := pc_case (cs := []) hc hN .nil rfl hb hr
theorem pc_seq1 {i0 : Nat} (hN : X.N.Nodup) (hb : PSs X body tb) (hr : PCases X rest tr) (hc : X.calm = true := by rfl) (h0 : X.N[i0]? = some x0 := by rfl) (l0 : X.env.scope.names.lookup x0 = some .local := by rfl) :
    PCases X (⟨.MatchSequence [.MatchValue (.Constant (.str wd) j p1) p2, .MatchAs none (some x0) q0] p3, none, body⟩ :: rest) (tCase X.K wd [i0] tb tr) :=
  pc_case (cs := [(x0, q0)]) hc hN (.cons h0 l0 .nil) rfl hb hr
theorem pc_seq2 {i0 i1 : Nat} (hN : X.N.Nodup) (hb : PSs X body tb) (hr : PCases X rest tr) (hc : X.calm = true := by rfl) (h0 : X.N[i0]? = some x0 := by rfl) (l0 : X.env.scope.names.lookup x0 = some .local := by rfl) (h1 : X.N[i1]? = some x1 := by rfl) (l1 : X.env.scope.names.lookup x1 = some .local := by rfl) :
    PCases X (⟨.MatchSequence [.MatchValue (.Constant (.str wd) j p1) p2, .MatchAs none (some x0) q0, .MatchAs none (some x1) q1] p3, none, body⟩ :: rest) (tCase X.K wd [i0, i1] tb tr) :=
  pc_case (cs := [(x0, q0), (x1, q1)]) hc hN (.cons h0 l0 (.cons h1 l1 .nil)) rfl hb hr
end
end Vt
namespace Vt
open PySem PySem.Spec PyProof.Rows L2
/-! ### word, *numbers = tuple -/
section
variable {prog : Program} {w : World} {A : Around} {E : Value → Shared → Prop} {s : Shared} {env : Env}
theorem star_tuple {l : Addr} {items : Array Value} {n i : Nat} {first mids lasts : List Value} {Q : List Value → Shared → Prop} (hl : IsTup s.heap l items) (hh : A.handled = none) (hi : i < n) (hn : n ≤ items.size + 1) (hz : items.size ≤ 16384)
    (h1 : items.toList.take i = first) (h2 : (items.toList.drop i).take (items.size + 1 - n) = mids) (h3 : (items.toList.drop i).drop (items.size + 1 - n) = lasts)
    (h : ∀ (h₂ : Heap) (tk : Nat), (∀ b o, s.heap.get? b = some o → h₂.get? b = some o) → Q (first ++ [.ref h₂.objs.size] ++ lasts) { s with heap := h₂.push { cls := .type "list", data := .seq mids.toArray }, toks := tk }) : wpAny (model prog w) A (unpackItems (.ref l) n (some i)) Q E s := by
  subst h1 h2 h3
  have hlt : l ≠ s.heap.objs.size := by obtain ⟨o, ho, _⟩ := hl; exact Nat.ne_of_lt (Heap.lt_size ho)
  have hll : l < s.heap.objs.size := by obtain ⟨o, ho, _⟩ := hl; exact Heap.lt_size ho
  unfold unpackItems
  refine wpAny_bind ?_
  unfold notIterableAtAll
  refine wpAny_bind (wpAny_specialOf hl.typeIs slot_tuple_iter.lookup ?_)
  refine wpAny_pure ?_
  simp only [Bool.false_eq_true, if_false]
  refine wpAny_bind (wpAny_holding (iter_tuple hl ?_))
  refine wpAny_bind (wpAny_holding (draw_tuple hlt i 0 _ _ ⟨_, Heap.get?_push_size _ rfl, rfl, rfl⟩ (hl.push _) (by omega) fun h₁ hit₁ hs₁ => ?_))
  have hl₁ : IsTup h₁ l items := (hl.push _).extBut hs₁.extBut hlt
  rw [Nat.zero_add] at hit₁
  have hit₁' := hit₁
  obtain ⟨oi, hoi, _⟩ := hit₁'
  have hl₁' := hl₁
  obtain ⟨ol, hol, _⟩ := hl₁'
  rw [List.drop_zero]
  have hfl : (items.toList.take i).length = i := by rw [List.length_take, Array.length_toList]; omega
  rw [if_neg (show ¬ ((items.toList.take i).length < i) by rw [hfl]; omega)]
  refine wpAny_bind (wpAny_holding (PySem.W.kun_collect (s := { s with heap := h₁ }) (T := "tuple_iterator") (.inr (.inr (.inr rfl))) (Walks.tuple (A := A.in1) hh s.heap.objs.size l hlt items) (fun j u st => st.1.typeIs) (k := i) (by omega) ⟨hit₁, hl₁⟩ (Heap.lt_size hoi) (Heap.lt_size hol) (fun h₂ tk hk => ?_) (by rw [sizeLine_eq]; omega)))
  have hrl : (items.toList.drop i).length = items.size - i := by rw [List.length_drop, Array.length_toList]
  have hmid : (items.toList.drop i).length - (n - 1 - i) = items.size + 1 - n := by rw [hrl]; omega
  show wpAny _ _ (if (items.toList.drop i).length < n - 1 - i then _ else _) _ _ _
  rw [if_neg (by rw [hrl]; omega)]
  show wpAny _ _ (newList ((items.toList.drop i).take ((items.toList.drop i).length - (n - 1 - i))) >>= fun d => pure (items.toList.take i ++ [d] ++ (items.toList.drop i).drop ((items.toList.drop i).length - (n - 1 - i)))) _ _ _
  rw [hmid]
  have he : Heap.ExtBut s.heap.objs.size s.heap h₂ := fun b o hb e => hk b o hb (hs₁.extBut b o hb (Heap.get?_push_of_some _ e))
  exact wpAny_bind (wpAny_newList (s := { s with heap := h₂, toks := tk }) (wpAny_pure (h h₂ tk fun b o e => he b o (Nat.ne_of_lt (Heap.lt_size e)) e)) (by rw [List.length_take, hrl, sizeLine_eq]; omega))
end
def gStar (K : PySem.W.Frag) (i j : Nat) : TG := fun v σ H Q => ∃ a x xs, v = .ref a ∧ SqT K H a (x :: xs) ∧ xs.length ≤ 1000 ∧ ∀ p, H p = none → Q ((σ.set i (some x)).set j (some (.ref p))) (upd H p (.lst xs))
theorem pg_star {X : Cx} {i j : Nat} {x y : Str} {px py ps pos : Pos} {k : Nat} (hc : X.calm = true) (hN : X.N.Nodup) (hi : X.N[i]? = some x) (hj : X.N[j]? = some y) (hx : X.env.scope.names.lookup x = some .local) (hy : X.env.scope.names.lookup y = some .local) :
    PG X (.Tuple [.Name x px, .Starred (.Name y py) ps] k pos) (gStar X.K i j) := by
  refine ⟨fun pins s σ H v u Q I r h => ?_⟩
  obtain ⟨a, z, xs, ev, hq, hl, h⟩ := h
  subst ev
  cases r
  obtain ⟨its, rvs, ht, hz⟩ := I.tuple hq
  have hlen : its.length = xs.length + 1 := by rw [← rvs.length]; rfl
  cases rvs with
  | cons r0 rr =>
    rename_i u0 us
    have hus : us.length = xs.length := rr.length.symm
    rw [assign_Tuple]
    refine wpAny_bind (wpAny_standAt ?_)
    unfold unpack
    have e1 : (assignEach [.Name x px, .Starred (.Name y py) ps] X.env).length = 2 := rfl
    have e2 : (assignEach [.Name x px, .Starred (.Name y py) ps] X.env).findIdx? (·.1) = some 1 := rfl
    rw [e1, e2]
    refine wpAny_bind (wpAny_holding (star_tuple (first := [u0]) (mids := us) (lasts := []) ht (I.ok.hd hc) (by decide) (by simp) (by simp; omega) rfl (by simp) (by simp) fun h₂ tk hk => ?_))
    have I2 : Inv X pins σ H { s with heap := h₂, toks := tk } := I.kept hk
    have hn : H h₂.objs.size = none := I2.hok.fresh (Nat.le_refl _)
    have hz2 : xs.length ≤ sizeLine := Nat.le_trans hl (by decide)
    have I1 : Inv X pins σ (upd H h₂.objs.size (.lst xs)) { s with heap := h₂.push { cls := .type "list", data := .seq us.toArray }, toks := tk } :=
      I2.laid (t' := tk) (fun b u e => Heap.get?_push_of_some _ e) (Nat.le_refl _) ⟨hz2, us, 0, rr, Heap.get?_push_size _ rfl⟩
    show wpAny _ _ (assignInOrder [assign (.Name x px) X.env, assign (.Name y py) X.env] [u0, .ref h₂.objs.size]) _ _ _
    refine assignInOrder_cons (thn ((pg_name (pos := px) hN hi (.inl hx) (.inr hx)).run pins _ σ _ z u0 (fun σ1 H1 => σ1 = σ.set i (some z) ∧ H1 = upd H h₂.objs.size (.lst xs)) I1 r0 ⟨rfl, rfl⟩) fun _ s1 ⟨σ1, H1, I3, e3, e4⟩ => ?_)
    subst e3 e4
    refine assignInOrder_cons (thn ((pg_name (pos := py) hN hj (.inl hy) (.inr hy)).run pins _ _ _ (.ref h₂.objs.size) _ Q I3 rfl (h _ hn)) fun _ s2 q => ?_)
    exact wpAny_assignInOrder_none q
end Vt
namespace Vt
open PySem PySem.Spec PyProof.Rows L2
/-! ### d.get(x), d a written dict of text keys -/
def tKGet (K : PySem.W.Frag) (w : World) (td ty : TE) : TE := fun σ H Q => td σ H fun x H1 => ∃ a, x = .ref a ∧ (a == sysModules) = false ∧ (∃ es n, K.lookup a = some ⟨.type "dict", none, .dict es n, #[]⟩ ∧ PySem.W.KeysLit w.params es.toList) ∧
  ty σ H1 fun y H2 => ∃ z, y = .str z ∧ ((∃ v, KDct K w a z v ∧ Q v H2) ∨ (KMiss K w a z ∧ Q .non H2))
section
variable {X : Cx} {o e : Expr} {apos cpos : Pos} {td ty : TE}
theorem pe_kget (ho : PE X o td) (he : PE X e ty) (m : M1 X o "get" apos e cpos) : PE X (.Call (.Attribute o "get" apos) [e] [] cpos) (tKGet X.K X.w td ty) := by
  refine ⟨fun pins s σ H Q I h => ?_⟩
  refine wpAny_Call_method m.base m.few m.line PySem.F.plainAttrs_dict PySem.F.slot_dict_get PySem.F.type_dict_get (thn (ho.run pins s σ H _ I h) fun u s1 ⟨x, H1, I1, rx, a, ex, hs, ⟨es, n, hl, hk⟩, q1⟩ => ?_)
  subst ex
  obtain rfl : u = Value.ref a := rx
  have hm := PySem.W.mapOf_K (prog := X.prog) (w := X.w) I1.kIn hl hk
  refine ⟨hm.typeIs, fun b q => ⟨_, I1.kIn _ _ (by cases q; exact hl), rfl⟩, ?_⟩
  rw [m.trees]
  refine Calls.callWith_builtin rfl (Calls.evalArgs_plain (Calls.spliced_cons (thn (he.run pins s1 σ H1 _ I1 q1) fun iv s2 ⟨y, H2, I2, ry, z, ey, q2⟩ => Calls.spliced_nil ?_)))
  subst ey
  obtain ⟨t, rfl⟩ := (show ∃ t, iv = Value.str z t from ry)
  have hm2 := PySem.W.mapOf_K (prog := X.prog) (w := X.w) I2.kIn hl hk
  refine call_meetsIn PySem.F.slot_dict_get hm2.typeIs PySem.F.entry_dict_get (PySem.F.args_dict_get_2 _ _) (meets_dict_get (strKind X.prog X.w) a (strKind_is X.prog X.w z t) hs) ⟨_, hm2, ?_⟩
  rcases q2 with ⟨v, ⟨es', n', u0, hl', hk', e', ru⟩, q2⟩ | ⟨⟨es', n', hl', hk', _, e'⟩, q2⟩
  · rw [hl] at hl'
    cases hl'
    exact ⟨v, H2, I2.tok _, by rw [PySem.W.find_K hl e']; exact ru, q2⟩
  · rw [hl] at hl'
    cases hl'
    exact ⟨.non, H2, I2.tok _, by rw [PySem.W.find_K hl e']; rfl, q2⟩
end
end Vt
namespace Vt
open PySem PySem.Spec PyProof.Rows L2
/-! ### the heap's small words -/
theorem sqA_l {K : PySem.W.Frag} {H : Hp} {a : Addr} {xs : List V} (h : H a = some (.lst xs)) : SqA K H a xs := .inl (.inl (.inl h))
theorem sqA_t {K : PySem.W.Frag} {H : Hp} {a : Addr} {xs : List V} (h : H a = some (.tup xs)) : SqA K H a xs := .inr (.inl (.inl h))
theorem sqL_l {K : PySem.W.Frag} {H : Hp} {a : Addr} {xs : List V} (h : H a = some (.lst xs)) : SqL K H a xs := .inl (.inl h)
theorem sqT_t {K : PySem.W.Frag} {H : Hp} {a : Addr} {xs : List V} (h : H a = some (.tup xs)) : SqT K H a xs := .inl (.inl h)
theorem same_new {H : Hp} {p : Addr} {o : HO} (h : H p = none) : Same H (upd H p o) := fun b x e => by
  rw [upd_ne (ne_of_none e h)]
  exact e
theorem Same.sqT {K : PySem.W.Frag} {H H' : Hp} {a : Addr} {xs : List V} (e : Same H H') (h : SqT K H a xs) : SqT K H' a xs := by
  rcases h with (h | ⟨o, h⟩) | h
  · exact .inl (.inl (e _ _ h))
  · exact .inl (.inr ⟨o, e _ _ h⟩)
  · exact .inr h
/-- all that was tracked stands but for these -/
def But (B : List Addr) (H H' : Hp) : Prop := ∀ c o, c ∉ B → H c = some o → H' c = some o
theorem But.refl {B : List Addr} {H : Hp} : But B H H := fun _ _ _ h => h
theorem But.trans {B : List Addr} {H H1 H2 : Hp} (a : But B H H1) (b : But B H1 H2) : But B H H2 := fun c o n h => b c o n (a c o n h)
theorem Same.but {B : List Addr} {H H' : Hp} (a : Same H H') : But B H H' := fun c o _ h => a c o h
theorem But.set {B : List Addr} {H : Hp} {p : Addr} {o : HO} (h : p ∈ B) : But B H (upd H p o) := fun c u n e => by
  rw [upd_ne (fun q => n (by rw [q]; exact h))]; exact e
theorem But.same {H H' : Hp} (a : But [] H H') : Same H H' := fun c o h => a c o (by simp) h
theorem But.mono {B B' : List Addr} {H H' : Hp} (a : But B H H') (h : ∀ b ∈ B, b ∈ B') : But B' H H' := fun c o n e => a c o (fun m => n (h c m)) e
/-- these stand for lists -/
def Lsts (H : Hp) (B : List Addr) : Prop := ∀ b ∈ B, ∃ xs, H b = some (.lst xs)
theorem But.sqT {K : PySem.W.Frag} {B : List Addr} {H H' : Hp} {a : Addr} {xs : List V} (e : But B H H') (l : Lsts H B) (h : SqT K H a xs) : SqT K H' a xs := by
  rcases h with (h | ⟨o, h⟩) | h
  · exact .inl (.inl (e _ _ (fun m => by obtain ⟨ys, q⟩ := l _ m; rw [q] at h; cases h) h))
  · exact .inl (.inr ⟨o, e _ _ (fun m => by obtain ⟨ys, q⟩ := l _ m; rw [q] at h; cases h) h⟩)
  · exact .inr h
theorem fits {n : Nat} (h : n ≤ 16000) : n < sizeLine := Nat.lt_of_le_of_lt h (by decide)
theorem fits' {n : Nat} (h : n ≤ 16000) : n ≤ sizeLine := Nat.le_of_lt (fits h)
theorem at0 {α : Type} {x : α} {r : List α} : atI (x :: r) 0 = some x := atI_nat (j := 0) rfl
theorem ixN_of {n : Nat} {i : Int} {j : Nat} (h : i = (j : Int)) (hj : j < n) : ixN n i = some j := by
  subst h
  unfold ixN
  rw [if_pos (by omega), if_pos (by omega)]
  rfl
theorem seqIx_of {n : Nat} {i : Int} {j : Nat} (h : i = (j : Int)) (hj : j < n) : seqIndex? i n = some j := (ixN_seq (ixN_of h hj)).1
/-! ### the asker's box of draws -/
def Box (H : Hp) (b l : Addr) : Prop := ∃ (ns : List Int) (s : Int), H b = some (.lst [.ref l, .int s]) ∧ H l = some (.lst (ns.map V.int)) ∧ 0 ≤ s ∧ s < 2147483647 ∧ ns.length ≤ 63
theorem Box.ne {H : Hp} {b l : Addr} (h : Box H b l) : b ≠ l := by
  obtain ⟨ns, s, h1, h2, _⟩ := h
  refine ne_of h1 h2 fun e => ?_
  cases ns with
  | nil => cases e
  | cons x r => cases e
theorem Box.lsts {H : Hp} {b l : Addr} (h : Box H b l) : Lsts H [b, l] := by
  obtain ⟨ns, s, h1, h2, _⟩ := h
  intro c hc
  rcases List.mem_cons.mp hc with rfl | hc
  · exact ⟨_, h1⟩
  · rw [List.mem_singleton.mp hc]; exact ⟨_, h2⟩
theorem Box.same {H H' : Hp} {b l : Addr} (e : Same H H') (h : Box H b l) : Box H' b l := by
  obtain ⟨ns, s, h1, h2, h3⟩ := h
  exact ⟨ns, s, e _ _ h1, e _ _ h2, h3⟩
theorem dpInts {K : PySem.W.Frag} {H : Hp} : ∀ ns : List Int, DpAll K H (ns.map V.int) (ns.map PyData.int)
  | [] => .nil
  | n :: r => .cons (.int n) (dpInts r)
theorem shapedInts (ns : List Int) : SeqAt.shaped (.list (ns.map PyData.int)) = true := by
  have h1 : ∀ ns : List Int, PyData.canLayAll0 (ns.map PyData.int) = true := by
    intro ns
    induction ns with
    | nil => simp [PyData.canLayAll0]
    | cons n r ih => simp [PyData.canLayAll0, PyData.canLay0, ih]
  have h2 : ∀ ns : List Int, PyData.depthAll (ns.map PyData.int) ≤ 1 := by
    intro ns
    induction ns with
    | nil => simp [PyData.depthAll]
    | cons n r ih => simp [PyData.depthAll, PyData.depth]; omega
  have a := h1 ns
  have b := h2 ns
  simp [SeqAt.shaped, PyData.canLay0, PyData.depth, a]
  omega
def nV (n : Nat) : V := .int (n : Int)
theorem chgN {i : Nat} {x y : V} {σ : L2.St} {H : Hp} {Q : L2.St → Hp → Prop} (e : x = y) (h : gName i y σ H Q) : gName i x σ H Q := by rw [e]; exact h
def spTake0 : Sp := fun vs H Q _ => ∃ (b l : Addr) (m : Int), vs = [.ref b, .int m] ∧ Box H b l ∧ 0 < m ∧ m < 1000000 ∧ ∀ H' r, Box H' b l → But [b, l] H H' → 0 ≤ r → r < m → Q (.int r) H'
section
variable {P : Program} {w : World} {K : PySem.W.Frag} {mg : Str → Option Value} {base : Heap}
abbrev st_law_take : Stmt := (topS 49)
abbrev nm_law_take : List Str := ["_law_box", "_law_many", "_law_number"]
theorem sc_law_take : FnScope ["_law_box", "_law_many", "_law_number"] ["_law_box", "_law_many"] (defScope st_law_take) := ⟨rfl, rfl, rfl, by decide +kernel, rfl, by decide +kernel, by decide +kernel⟩
theorem ok_take0 {f : Addr} {fd : FuncData} (F : Fun K "_law_take" "_law_take" st_law_take f fd) : FnOk P w K mg base CX0 1 f fd ["_law_box", "_law_many"] spTake0 := by
  refine F.ok sc_law_take (fun vs H Q E h => ?_) (fun cdv A outer s H vs Q E hr h => ?_)
  · obtain ⟨b, l, m, rfl, _⟩ := h
    rfl
  · obtain ⟨b, l, m, rfl, hB, m0, m1, q⟩ := h
    have hne := hB.ne
    obtain ⟨ns, sd, hb, hl, s0, s1, hlen⟩ := hB
    refine ⟨_, (pss_cons (ps_if (pt_cmpR (op_eqD hr.units) (pe_ix ix_lt (pv 0) pe_int (fun _ _ => rfl)) (pe_lst pa_nil) (nomark _)) (pss_cons (ps_asg (pe_op op_mod (pe_op op_mul (pe_ix ix_lt (pv 0) pe_int (fun _ _ => rfl)) pe_int) pe_int) (pg_sub (pv 0) pe_int set_list))
  (pss_one (ps_ret (pe_op op_mod (pe_op op_fdiv (pe_ix ix_lt (pv 0) pe_int (fun _ _ => rfl)) pe_int) (pv 1))))) pss_nil)
  (pss_cons (ps_set (i := 2) sc_law_take.nd rfl (Or.inl rfl) (pe_ix ix_lt (pe_ix ix_lt (pv 0) pe_int (fun _ _ => rfl)) pe_int (fun _ _ => rfl)))
  (pss_cons (ps_asg (pe_op op_fdiv (pv 2) (pv 1)) (pg_sub (pe_ix ix_lt (pv 0) pe_int (fun _ _ => rfl)) pe_int set_list))
  (pss_cut (ps_if (PW.pt (pw_or (pt_cmpR op_eq (pe_ix ix_lt (pe_ix ix_lt (pv 0) pe_int (fun _ _ => rfl)) pe_int (fun _ _ => rfl)) pe_int (nomark _)) (pw_or1 (pt_cmpR op_eq (pe_ix ix_lt (pe_ix ix_lt (pv 0) pe_int (fun _ _ => rfl)) pe_int (fun _ _ => rfl)) (pe_un un_neg pe_int) (nomark _))))) (pss_one (ps_expr (pe_bm PySem.F.plainAttrs_list PySem.F.slot_list_pop PySem.F.type_list_pop mt_popAt (pe_ix ix_lt (pv 0) pe_int (fun _ _ => rfl)) (pa_cons pe_int pa_nil)))) pss_nil)
  (pss_one (ps_ret (pe_op op_mod (pv 2) (pv 1)))))))), ?_⟩
    -- if box[0] == []
    refine ⟨_, rfl, b, _, 0, .ref l, rfl, rfl, sqA_l hb, rfl, ?_⟩
    refine ⟨Nat.zero_le _, fun p np => ?_⟩
    have sm : Same H (upd H p (.lst [])) := same_new np
    refine ⟨.list (ns.map PyData.int), .list [], .lst (sqL_l (sm _ _ hl)) (dpInts ns), .lst (sqL_l upd_same) .nil, shapedInts ns, rfl, _, rfl, ?_⟩
    have hb1 := sm _ _ hb
    have hl1 := sm _ _ hl
    have nbp : b ≠ p := ne_of_none hb np
    have nlp : l ≠ p := ne_of_none hl np
    cases ns with
    | nil =>
      refine iteT ?_
      -- box[1] = box[1] * 48271 % 2147483647
      refine ⟨_, rfl, b, _, 1, .int sd, rfl, rfl, sqA_l hb1, rfl, ?_⟩
      refine ⟨_, _, rfl, rfl, .inl ⟨by omega, by omega⟩, _, _, rfl, rfl, (by show (0 : Int) < 2147483647; decide), ?_⟩
      refine ⟨_, rfl, b, _, 1, 1, rfl, rfl, hb1, rfl, ?_⟩
      -- return box[1] // 7 % many
      refine ⟨_, rfl, b, _, 1, .int (sd * 48271 % 2147483647), rfl, rfl, sqA_l upd_same, rfl, ?_⟩
      refine ⟨_, _, rfl, rfl, ⟨by decide, by decide⟩, _, rfl, _, _, rfl, rfl, m0, ?_⟩
      have e0 : 0 ≤ sd * 48271 % 2147483647 := Int.emod_nonneg _ (by decide)
      have e1 : sd * 48271 % 2147483647 < 2147483647 := Int.emod_lt_of_pos _ (by decide)
      refine q _ _ ⟨[], _, upd_same, ?_, e0, e1, hlen⟩ ?_ ?_ ?_
      · rw [upd_ne hne.symm]; exact hl1
      · exact (Same.but sm).trans (But.set (by simp))
      · exact Int.emod_nonneg _ (by omega)
      · exact Int.emod_lt_of_pos _ m0
    | cons n r =>
      refine iteF ?_
      -- number = box[0][0]
      refine ⟨_, rfl, b, _, 0, .ref l, rfl, rfl, sqA_l hb1, rfl, l, _, 0, .int n, rfl, rfl, sqA_l hl1, at0, ?_⟩
      -- box[0][0] = number // many
      refine ⟨_, rfl, _, rfl, _, _, rfl, rfl, ⟨m0, by omega⟩, ?_⟩
      refine ⟨_, rfl, b, _, 0, .ref l, rfl, rfl, sqA_l hb1, rfl, l, _, 0, 0, rfl, rfl, hl1, ixN_of rfl (by simp), ?_⟩
      have nlb : l ≠ b := hne.symm
      have hb2 : (upd (upd H p (.lst [])) l (.lst ((V.int (n / m)) :: r.map V.int))) b = some (.lst [.ref l, .int sd]) := by
        rw [upd_ne hne]; exact hb1
      have bt : But [b, l] H (upd (upd H p (.lst [])) l (.lst ((V.int (n / m)) :: r.map V.int))) := (Same.but sm).trans (But.set (by simp))
      -- if box[0][0] == 0 or box[0][0] == -1
      have hr1 : r.length ≤ 63 := by simp at hlen; omega
      refine ⟨fun σ' H' => σ' = [some (.ref b), some (.int m), some (.int n)] ∧ Box H' b l ∧ But [b, l] H H', ?_, fun σ' H' hM => ?_⟩
      · have pop : ∀ D : Ends, D.nx = (fun σ' H' => σ' = [some (.ref b), some (.int m), some (.int n)] ∧ Box H' b l ∧ But [b, l] H H') →
            tDrop (tBM K "list" rPopAt (tOp (rIxLT K) (tVar 0) (tC (.int 0))) (tCons (tC (.int 0)) tNil)) D [some (.ref b), some (.int m), some (.int n)] (upd (upd H p (.lst [])) l (.lst ((V.int (n / m)) :: r.map V.int))) := fun D hD => by
          refine ⟨_, rfl, b, _, 0, .ref l, rfl, rfl, sqA_l hb2, rfl, .inl ⟨rfl, _, sqL_l upd_same⟩, ?_⟩
          refine ⟨l, _, 0, 0, .int (n / m), rfl, rfl, upd_same, by decide, by decide, seqIx_of rfl (by simp), rfl, ?_⟩
          rw [hD]
          refine ⟨rfl, ⟨r, sd, ?_, ?_, s0, s1, hr1⟩, bt.trans (But.set (by simp))⟩
          · rw [upd_ne hne]; exact hb2
          · rw [upd_same]; rfl
        refine ⟨_, rfl, b, _, 0, .ref l, rfl, rfl, sqA_l hb2, rfl, l, _, 0, .int (n / m), rfl, rfl, sqA_l upd_same, at0, rfl, _, rfl, ite2 (fun e => ?_) (fun e => ?_)⟩
        · exact iteT (pop _ rfl)
        · refine ⟨_, rfl, b, _, 0, .ref l, rfl, rfl, sqA_l hb2, rfl, l, _, 0, .int (n / m), rfl, rfl, sqA_l upd_same, at0, 1, rfl, rfl, _, rfl, ite2 (fun e => ?_) (fun e => ?_)⟩
          · exact pop _ rfl
          · exact ⟨rfl, ⟨n / m :: r, sd, hb2, upd_same, s0, s1, hlen⟩, bt⟩
      · obtain ⟨rfl, h1, h2⟩ := hM
        refine ⟨_, rfl, _, rfl, _, _, rfl, rfl, m0, ?_⟩
        exact q _ _ h1 h2 (Int.emod_nonneg _ (by omega)) (Int.emod_lt_of_pos _ m0)
/-- a draw below many -/
def spTake : Sp := fun vs H Q _ => ∃ (b l : Addr) (e : Int) (m : Nat), vs = [.ref b, .int e] ∧ e = (m : Int) ∧ Box H b l ∧ 0 < m ∧ m < 1000000 ∧ ∀ (H' : Hp) (r : Nat), Box H' b l → But [b, l] H H' → r < m → Q (nV r) H'
theorem ok_take {f : Addr} {fd : FuncData} (F : Fun K "_law_take" "_law_take" st_law_take f fd) : FnOk P w K mg base CX0 1 f fd ["_law_box", "_law_many"] spTake :=
  (ok_take0 F).imp fun vs H Q E h => by
    obtain ⟨b, l, e, m, rfl, rfl, hB, m0, m1, q⟩ := h
    refine ⟨b, l, m, rfl, hB, by omega, by omega, fun H' r hB' bt r0 r1 => ?_⟩
    obtain ⟨k, rfl⟩ := Int.eq_ofNat_of_zero_le r0
    exact q H' k hB' bt (by omega)
end
end Vt
namespace Vt
open PySem PySem.Spec PyProof.Rows L2
/-! ### data in the heap: ints, texts, None, bools, tuples and lists of them -/
inductive D where
  | non | bl (b : Bool) | int (i : Int) | str (x : Str) | tup (ds : List D) | lst (ds : List D)
mutual
inductive Pd (H : Hp) : V → D → Prop
  | non : Pd H .non .non
  | bl (b : Bool) : Pd H (.bl b) (.bl b)
  | int (i : Int) : Pd H (.int i) (.int i)
  | str (x : Str) : Pd H (.str x) (.str x)
  | tup {a : Addr} {xs : List V} {ds : List D} : H a = some (.tup xs) → Pds H xs ds → Pd H (.ref a) (.tup ds)
  | lst {a : Addr} {xs : List V} {ds : List D} : H a = some (.lst xs) → Pds H xs ds → Pd H (.ref a) (.lst ds)
inductive Pds (H : Hp) : List V → List D → Prop
  | nil : Pds H [] []
  | cons {v : V} {vs : List V} {d : D} {ds : List D} : Pd H v d → Pds H vs ds → Pds H (v :: vs) (d :: ds)
end
mutual
def D.noL : D → Bool
  | .lst _ => false
  | .tup ds => noLs ds
  | _ => true
def noLs : List D → Bool
  | [] => true
  | d :: ds => d.noL && noLs ds
end
mutual
def D.dep : D → Nat
  | .lst ds => deps ds + 1
  | .tup ds => deps ds + 1
  | _ => 0
def deps : List D → Nat
  | [] => 0
  | d :: ds => max d.dep (deps ds)
end
section
variable {H H' : Hp}
mutual
theorem Pd.same (s : Same H H') : ∀ {d : D} {v : V}, Pd H v d → Pd H' v d
  | .non, _, .non => .non
  | .bl _, _, .bl b => .bl b
  | .int _, _, .int b => .int b
  | .str _, _, .str b => .str b
  | .tup _, _, .tup h hs => .tup (s _ _ h) (Pds.same s hs)
  | .lst _, _, .lst h hs => .lst (s _ _ h) (Pds.same s hs)
theorem Pds.same (s : Same H H') : ∀ {ds : List D} {vs : List V}, Pds H vs ds → Pds H' vs ds
  | [], _, .nil => .nil
  | _ :: _, _, .cons h hs => .cons (Pd.same s h) (Pds.same s hs)
end
mutual
theorem Pd.but {B : List Addr} (s : But B H H') (l : Lsts H B) : ∀ {d : D} {v : V}, d.noL = true → Pd H v d → Pd H' v d
  | .non, _, _, .non => .non
  | .bl _, _, _, .bl b => .bl b
  | .int _, _, _, .int b => .int b
  | .str _, _, _, .str b => .str b
  | .tup ds, _, n, .tup h hs => .tup (s _ _ (fun m => by obtain ⟨ys, q⟩ := l _ m; rw [q] at h; cases h) h) (Pds.but s l (by rw [D.noL] at n; exact n) hs)
  | .lst ds, _, n, .lst h hs => by rw [D.noL] at n; cases n
theorem Pds.but {B : List Addr} (s : But B H H') (l : Lsts H B) : ∀ {ds : List D} {vs : List V}, noLs ds = true → Pds H vs ds → Pds H' vs ds
  | [], _, _, .nil => .nil
  | d :: ds, _, n, .cons h hs => by
    rw [noLs, Bool.and_eq_true] at n
    exact .cons (Pd.but s l n.1 h) (Pds.but s l n.2 hs)
end
theorem Pds.len : ∀ {ds : List D} {vs : List V}, Pds H vs ds → vs.length = ds.length
  | _, _, .nil => rfl
  | _, _, .cons _ hs => by rw [List.length_cons, List.length_cons, Pds.len hs]
theorem Pds.get : ∀ {ds : List D} {vs : List V} {i : Nat} {d : D}, Pds H vs ds → ds[i]? = some d → ∃ v, vs[i]? = some v ∧ Pd H v d
  | _, _, _, _, .nil, e => by simp at e
  | _, _, 0, _, .cons h _, e => by
    simp only [List.getElem?_cons_zero, Option.some.injEq] at e
    subst e; exact ⟨_, rfl, h⟩
  | _, _, i + 1, _, .cons _ hs, e => by
    obtain ⟨v, h1, h2⟩ := Pds.get (i := i) hs (by simpa using e)
    exact ⟨v, by simpa using h1, h2⟩
theorem Pds.get' : ∀ {ds : List D} {vs : List V} {i : Nat} {v : V}, Pds H vs ds → vs[i]? = some v → ∃ d, ds[i]? = some d ∧ Pd H v d
  | _, _, _, _, .nil, e => by simp at e
  | _, _, 0, _, .cons h _, e => by
    simp only [List.getElem?_cons_zero, Option.some.injEq] at e
    subst e; exact ⟨_, rfl, h⟩
  | _, _, i + 1, _, .cons _ hs, e => by
    obtain ⟨v, h1, h2⟩ := Pds.get' (i := i) hs (by simpa using e)
    exact ⟨v, by simpa using h1, h2⟩
theorem Pds.app : ∀ {ds es : List D} {vs us : List V}, Pds H vs ds → Pds H us es → Pds H (vs ++ us) (ds ++ es)
  | _, _, _, _, .nil, k => k
  | _, _, _, _, .cons h hs, k => .cons h (Pds.app hs k)
theorem Pds.ints : ∀ {ns : List Int} {vs : List V}, Pds H vs (ns.map D.int) → vs = ns.map V.int
  | [], _, .nil => rfl
  | n :: r, _, .cons (.int _) hs => by rw [List.map_cons, Pds.ints hs]
theorem Pds.ofInts : ∀ ns : List Int, Pds H (ns.map V.int) (ns.map D.int)
  | [] => .nil
  | n :: r => .cons (.int n) (Pds.ofInts r)
end
theorem deps_get : ∀ {ds : List D} {i : Nat} {d : D}, ds[i]? = some d → d.dep ≤ deps ds
  | [], _, _, e => by simp at e
  | x :: r, 0, d, e => by
    simp only [List.getElem?_cons_zero, Option.some.injEq] at e
    subst e; rw [deps]; omega
  | x :: r, i + 1, d, e => by
    have := deps_get (ds := r) (i := i) (d := d) (by simpa using e)
    rw [deps]; omega
/-! ### boards -/
structure Ord where
  src : Nat
  goal : Nat
  many : Nat
  later : Option Nat
inductive Deed where
  | set (c n : Nat) | add (c o : Nat) | say (c : Nat) | start (o : Nat) | wait | clean (l : Nat) | drop (l : Nat)
  deriving DecidableEq
structure Brd where
  mem : List Nat
  ords : List Ord
  prog : List Deed
def nD (n : Nat) : D := .int (n : Int)
def oV : Option Nat → V
  | none => .non
  | some k => nV k
def oD : Option Nat → D
  | none => .non
  | some k => nD k
def Ord.vs (o : Ord) : List V := [nV o.src, nV o.goal, nV o.many, oV o.later]
def Ord.d (o : Ord) : D := .tup [nD o.src, nD o.goal, nD o.many, oD o.later]
def Deed.word : Deed → Str
  | .set _ _ => "set" | .add _ _ => "add" | .say _ => "say" | .start _ => "start" | .wait => "wait" | .clean _ => "clean" | .drop _ => "drop"
def Deed.args : Deed → List Nat
  | .set c n => [c, n] | .add c o => [c, o] | .say c => [c] | .start o => [o] | .wait => [] | .clean l => [l] | .drop l => [l]
def Deed.vs (d : Deed) : List V := .str d.word :: d.args.map nV
def Deed.d (d : Deed) : D := .tup (.str d.word :: d.args.map nD)
def nsD (ns : List Nat) : D := .tup (ns.map nD)
def Brd.d (B : Brd) : D := .tup [nsD B.mem, .tup (B.ords.map Ord.d), .tup (B.prog.map Deed.d)]
theorem pd_o {H : Hp} : ∀ o : Option Nat, Pd H (oV o) (oD o)
  | none => .non
  | some k => .int k
theorem pds_ns {H : Hp} : ∀ ns : List Nat, Pds H (ns.map nV) (ns.map nD)
  | [] => .nil
  | n :: r => .cons (.int n) (pds_ns r)
theorem pds_ns' {H : Hp} : ∀ {ns : List Nat} {vs : List V}, Pds H vs (ns.map nD) → vs = ns.map nV
  | [], _, .nil => rfl
  | n :: r, _, .cons h hs => by
    cases h
    rw [List.map_cons, pds_ns' hs]; rfl
theorem Ord.pd {H : Hp} {o : Ord} {a : Addr} (h : H a = some (.tup o.vs)) : Pd H (.ref a) o.d := .tup h (.cons (.int _) (.cons (.int _) (.cons (.int _) (.cons (pd_o _) .nil))))
theorem Ord.of {H : Hp} {o : Ord} {v : V} (h : Pd H v o.d) : ∃ a, v = .ref a ∧ H a = some (.tup o.vs) := by
  obtain ⟨s, g, m, l⟩ := o
  cases h with
  | tup h hs =>
    cases hs with
    | cons h1 hs => cases h1; cases hs with
      | cons h2 hs => cases h2; cases hs with
        | cons h3 hs => cases h3; cases hs with
          | cons h4 hs =>
            cases hs
            refine ⟨_, rfl, ?_⟩
            cases l with
            | none => cases h4; exact h
            | some k => cases h4; exact h
theorem Deed.pd {H : Hp} {d : Deed} {a : Addr} (h : H a = some (.tup d.vs)) : Pd H (.ref a) d.d := .tup h (.cons (.str _) (pds_ns _))
theorem Deed.of {H : Hp} {d : Deed} {v : V} (h : Pd H v d.d) : ∃ a, v = .ref a ∧ H a = some (.tup d.vs) := by
  cases h with
  | tup h hs =>
    cases hs with
    | cons h1 hs =>
      cases h1
      rw [pds_ns' hs] at h
      exact ⟨_, rfl, h⟩
theorem Brd.of {H : Hp} {B : Brd} {v : V} (h : Pd H v B.d) : ∃ a m o p os ps, v = .ref a ∧ H a = some (.tup [.ref m, .ref o, .ref p]) ∧ H m = some (.tup (B.mem.map nV)) ∧ H o = some (.tup os) ∧ Pds H os (B.ords.map Ord.d) ∧ H p = some (.tup ps) ∧ Pds H ps (B.prog.map Deed.d) := by
  obtain ⟨mem, ords, prog⟩ := B
  cases h with
  | tup h hs =>
    cases hs with
    | cons h1 hs => cases h1 with
      | tup e1 k1 => cases hs with
        | cons h2 hs => cases h2 with
          | tup e2 k2 => cases hs with
            | cons h3 hs => cases h3 with
              | tup e3 k3 =>
                cases hs
                rw [pds_ns' k1] at e1
                exact ⟨_, _, _, _, _, _, rfl, h, e1, e2, k2, e3, k3⟩
theorem noL_ns : ∀ ns : List Nat, noLs (ns.map nD) = true
  | [] => by rw [List.map_nil, noLs]
  | n :: r => by rw [List.map_cons, noLs, noL_ns r]; rfl
theorem noL_ord (o : Ord) : o.d.noL = true := by
  obtain ⟨s, g, m, l⟩ := o
  cases l <;> simp [Ord.d, D.noL, noLs, nD, oD]
theorem noL_deed (d : Deed) : d.d.noL = true := by
  simp only [Deed.d, D.noL, noLs, Bool.true_and]
  exact noL_ns _
theorem noLs_map {α : Type} {f : α → D} (h : ∀ x, (f x).noL = true) : ∀ xs : List α, noLs (xs.map f) = true
  | [] => by rw [List.map_nil, noLs]
  | x :: r => by rw [List.map_cons, noLs, h x, noLs_map h r]; rfl
theorem noL_brd (B : Brd) : B.d.noL = true := by
  simp only [Brd.d, nsD, D.noL, noLs, Bool.and_true, Bool.and_eq_true]
  exact ⟨noL_ns _, noLs_map noL_ord _, noLs_map noL_deed _⟩
/-- what can be -/
structure OrdOk (o : Ord) (at_ count cells : Nat) : Prop where
  one : 1 ≤ o.many
  eight : o.many ≤ 8
  src : o.src + o.many ≤ cells
  goal : o.goal + o.many ≤ cells
  later : ∀ k, o.later = some k → at_ < k ∧ k < count
def DeedOk (d : Deed) (count cells : Nat) : Prop := match d with
  | .set c n => c < cells ∧ n < 10
  | .add c o => c < cells ∧ o < cells
  | .say c => c < cells
  | .start o => o < count
  | .wait => True
  | .clean l => l < cells / 4
  | .drop l => l < cells / 4
def isStart : Deed → Bool
  | .start _ => true
  | _ => false
structure BrdOk (B : Brd) : Prop where
  cells : B.mem.length = 4 ∨ B.mem.length = 8 ∨ B.mem.length = 12 ∨ B.mem.length = 16
  nums : ∀ n ∈ B.mem, n < 10
  four : B.ords.length ≤ 4
  ords : ∀ (i : Nat) (o : Ord), B.ords[i]? = some o → OrdOk o i B.ords.length B.mem.length
  sixty : B.prog.length ≤ 60
  prog : ∀ d ∈ B.prog, DeedOk d B.ords.length B.mem.length
  starts : (B.prog.filter isStart).length ≤ 3
end Vt
namespace Vt
open PySem PySem.Spec PyProof.Rows L2
/-- a list grows by a new tuple -/
theorem grow {H3 : Hp} {p T : Addr} {xs : List V} {ds : List D} {d : D} {vs : List V} (hx : H3 p = some (.lst xs)) (hp : Pds H3 xs ds) (n : noLs ds = true) (nT : H3 T = none) (hd : ∀ (H : Hp) (a : Addr), H a = some (.tup vs) → Pd H (.ref a) d) :
    (upd H3 T (.tup vs)) p = some (.lst xs) ∧ Pds (upd (upd H3 T (.tup vs)) p (.lst (xs ++ [.ref T]))) (xs ++ [.ref T]) (ds ++ [d]) ∧ But [p] H3 (upd (upd H3 T (.tup vs)) p (.lst (xs ++ [.ref T]))) := by
  have s3 : Same H3 (upd H3 T (.tup vs)) := same_new nT
  have hx4 := s3 _ _ hx
  have pT : T ≠ p := (ne_of_none hx nT).symm
  have ls : Lsts (upd H3 T (.tup vs)) [p] := fun c hc => ⟨xs, by rw [List.mem_singleton.mp hc]; exact hx4⟩
  have sB : But [p] (upd H3 T (.tup vs)) (upd (upd H3 T (.tup vs)) p (.lst (xs ++ [.ref T]))) := But.set (by simp)
  exact ⟨hx4, (Pds.but sB ls n (hp.same s3)).app (.cons (hd _ _ (by rw [upd_ne pT, upd_same])) .nil), (Same.but s3).trans sB⟩
theorem But.pds1 {H H' : Hp} {p : Addr} {xs ys : List V} {ds : List D} (b : But [p] H H') (hx : H p = some (.lst ys)) (n : noLs ds = true) (h : Pds H xs ds) : Pds H' xs ds :=
  Pds.but b (fun c hc => ⟨ys, by rw [List.mem_singleton.mp hc]; exact hx⟩) n h
theorem But.at1 {H H' : Hp} {p q : Addr} {o : HO} (b : But [p] H H') (h : H q = some o) (ne : q ≠ p) : H' q = some o := b q o (by simp [ne]) h
theorem But.new1 {H0 H H' : Hp} {p : Addr} (s : Same H0 H) (np : H0 p = none) (b : But [p] H H') : Same H0 H' := fun c o h => b c o (by simp [ne_of_none h np]) (s c o h)
theorem set_map {mem : List Nat} {c n : Nat} {v : V} (e : v = nV n) : (mem.map nV).set c v = (mem.set c n).map nV := by rw [e, List.map_set]
theorem nat_at {mem : List Nat} {c : Nat} (h : c < mem.length) : (mem.map nV)[c]? = some (nV (mem.getD c 0)) := by
  rw [List.getElem?_map, List.getElem?_eq_getElem h, List.getD_eq_getElem?_getD, List.getElem?_eq_getElem h]; rfl
end Vt
namespace Vt
open PySem PySem.Spec PyProof.Rows L2
/-! ### readings in short -/
section
variable {K : PySem.W.Frag} {σ : L2.St} {H : Hp} {a : Addr}
/-- t[0] == "x", t a deed -/
theorem rd_word {i : Nat} {d : Deed} {x : Str} {R : Bool → Hp → Prop} (hσ : σ[i]? = some (some (.ref a))) (h : H a = some (.tup d.vs)) (hr : R (decide (d.word = x)) H) : tTest (tOp rEq (tOp (rIxLT K) (tVar i) (tC (.int 0))) (tC (.str x))) σ H R := by
  refine ⟨_, hσ, a, _, 0, .str d.word, rfl, rfl, sqA_t h, at0, rfl, _, rfl, ?_⟩
  rw [show decide (V.str d.word = V.str x) = decide (d.word = x) by
    by_cases e : d.word = x
    · rw [e, decide_eq_true rfl, decide_eq_true rfl]
    · rw [decide_eq_false e, decide_eq_false (fun z => e (by injection z))]]
  exact hr
/-- t[0] in ("x", "y") -/
theorem rd_in {i : Nat} {d : Deed} {x y : Str} {R : Bool → Hp → Prop} (hσ : σ[i]? = some (some (.ref a))) (h : H a = some (.tup d.vs)) (hr : ∀ T, H T = none → R (decide (d.word = x) || decide (d.word = y)) (upd H T (.tup [.str x, .str y]))) :
    tTest (tOp (rIn K false) (tOp (rIxLT K) (tVar i) (tC (.int 0))) (tTup (tCons (tC (.str x)) (tCons (tC (.str y)) tNil)))) σ H R := by
  refine ⟨_, hσ, a, _, 0, .str d.word, rfl, rfl, sqA_t h, at0, by show 2 ≤ sizeLine; decide, fun T nT => ⟨T, _, rfl, .inr (sqT_t upd_same), rfl, rfl, _, rfl, ?_⟩⟩
  have e : (if false = true then !inV (.str d.word) [.str x, .str y] else inV (.str d.word) [.str x, .str y]) = (decide (d.word = x) || decide (d.word = y)) := by
    rw [if_neg (by decide)]
    show (eqV (.str x) (.str d.word) || (eqV (.str y) (.str d.word) || false)) = _
    rw [Bool.or_false, show ∀ z : Str, eqV (.str z) (.str d.word) = decide (d.word = z) from fun z => by
      show decide (z = d.word) = decide (d.word = z)
      exact decide_eq_decide.mpr eq_comm]
    rw [show eqV (.str y) (.str d.word) = decide (d.word = y) from by
      show decide (y = d.word) = decide (d.word = y)
      exact decide_eq_decide.mpr eq_comm]
  rw [e]
  exact hr T nT
end
theorem But.tup {B : List Addr} {H H' : Hp} {t : Addr} {xs : List V} (b : But B H H') (l : Lsts H B) (h : H t = some (.tup xs)) : H' t = some (.tup xs) :=
  b _ _ (fun m => by obtain ⟨ys, q⟩ := l _ m; rw [q] at h; cases h) h
end Vt
namespace Vt
open PySem PySem.Spec PyProof.Rows L2
section
variable {P : Program} {w : World} {K : PySem.W.Frag} {mg : Str → Option Value} {base : Heap}
/-! ### the box begun -/
abbrev st_law_begun : Stmt := (topS 48)
abbrev nm_law_begun : List Str := ["_law_script", "_law_stirred", "_law_cell"]
theorem sc_law_begun : FnScope ["_law_script", "_law_stirred", "_law_cell"] ["_law_script"] (defScope st_law_begun) := ⟨rfl, rfl, rfl, by decide +kernel, rfl, by decide +kernel, by decide +kernel⟩
def spBegun (K : PySem.W.Frag) : Sp := fun vs H Q _ => ∃ (a : Addr) (ns : List Int), vs = [.ref a] ∧ SqL K H a (ns.map V.int) ∧ ns.length ≤ 63 ∧ ∀ (H' : Hp) (b l : Addr), Box H' b l → Same H H' → Q (.ref b) H'
theorem ok_begun {f : Addr} {fd : FuncData} (F : Fun K "_law_begun" "_law_begun" st_law_begun f fd) (z_len : mg "len" = none) (z_int : mg "int" = none) (z_list : mg "list" = none) : FnOk P w K mg base CX0 1 f fd ["_law_script"] (spBegun K) := by
  refine F.ok sc_law_begun (fun vs H Q E h => ?_) (fun cdv A outer s H vs Q E hr h => ?_)
  · obtain ⟨a, ns, rfl, _⟩ := h
    rfl
  · obtain ⟨a, ns, rfl, hS, hlen, q⟩ := h
    refine ⟨_, (pss_cons (ps_set (i := 1) sc_law_begun.nd rfl (Or.inl rfl) pe_int)
  (pss_cons (ps_for PassesOwn.never rfl (pi_lt (pv 0)) (pg_name (i := 2) sc_law_begun.nd rfl (Or.inl rfl))
  (pss_one (ps_set (i := 1) sc_law_begun.nd rfl (Or.inl rfl) (pe_op op_mod (pe_op op_add (pe_op op_add (pe_op op_mul (pv 1) pe_int) (pe_op op_mul (pv 2) pe_int)) pe_int) pe_int))))
  (pss_one (ps_ret (pe_lst (pa_cons (pe_callTy call_list_of (by rfl) z_list (by decide +kernel) (pa_cons (pv 0) pa_nil)) (pa_cons (pe_op op_mul (pv 1) (pe_callTy call_int1 (by rfl) z_int (by decide +kernel) (pa_cons (pe_cmpR op_gt (pe_callB call_len_seq (by rfl) z_len (by decide +kernel) (pa_cons (pv 0) pa_nil)) pe_int (nomark _)) pa_nil))) pa_nil))))))), ?_⟩
    refine ⟨_, rfl, a, rfl, .inl ⟨_, hS, ?_⟩⟩
    refine for_it (walk_list (xs := ns.map V.int)) (fun i σ H' => ∃ (sd : Int) (x : Option V), σ = [some (.ref a), some (.int sd), x] ∧ H' = H ∧ 0 ≤ sd ∧ sd < 2147483647)
      ⟨0, none, rfl, rfl, by decide, by decide⟩ (fun i σ H' _ hp => by obtain ⟨_, _, _, rfl, _⟩ := hp; exact hS) (fun i x σ H1 H2 hi hp hy => ?_) (fun σ H1 hp => ?_)
    · obtain ⟨sd, x0, rfl, rfl, s0, s1⟩ := hp
      obtain ⟨rfl, hx⟩ := hy
      obtain ⟨n, hn, rfl⟩ : ∃ n, ns[i]? = some n ∧ V.int n = x := by rw [List.getElem?_map] at hx; simpa using hx
      refine ⟨_, rfl, _, _, rfl, rfl, .inl ⟨by omega, by omega⟩, _, rfl, _, _, rfl, rfl, .inr ⟨by decide, by decide⟩, _, _, rfl, rfl, _, _, rfl, rfl, _, _, rfl, rfl, (by show (0 : Int) < 2147483647; decide), ?_⟩
      exact ⟨_, _, rfl, rfl, Int.emod_nonneg _ (by decide), Int.emod_lt_of_pos _ (by decide)⟩
    · obtain ⟨sd, x0, rfl, rfl, s0, s1⟩ := hp
      refine ⟨.ref a, rfl, a, _, rfl, .inl hS, fun l nl => ?_⟩
      have sm : Same H1 (upd H1 l (.lst (ns.map V.int))) := same_new nl
      refine ⟨_, rfl, .ref a, rfl, a, _, rfl, .inl (sm.seq hS), _, _, rfl, rfl, .inr ⟨_, rfl, ?_⟩⟩
      refine ⟨_, _, rfl, rfl, .inl ⟨by omega, by omega⟩, by show 2 ≤ sizeLine; decide, fun b nb => ?_⟩
      refine q _ b l ⟨ns, _, upd_same, ?_, ?_, ?_, hlen⟩ (sm.trans (same_new nb))
      · rw [upd_ne (ne_of_none upd_same nb), upd_same]
      · split <;> omega
      · split <;> omega
/-! ### an order -/
abbrev st_law_order : Stmt := (topS 51)
abbrev nm_law_order : List Str := ["_law_box", "_law_cells", "_law_number", "_law_many", "_law_count", "_law_later"]
theorem sc_law_order : FnScope ["_law_box", "_law_cells", "_law_number", "_law_many", "_law_count", "_law_later"] ["_law_box", "_law_cells", "_law_number", "_law_many"] (defScope st_law_order) := ⟨rfl, rfl, rfl, by decide +kernel, rfl, by decide +kernel, by decide +kernel⟩
def spOrder : Sp := fun vs H Q _ => ∃ (b l : Addr) (cells at_ cnt : Nat), vs = [.ref b, nV cells, nV at_, nV cnt] ∧ Box H b l ∧ 1 ≤ cells ∧ cells ≤ 16 ∧ at_ < cnt ∧ cnt ≤ 4 ∧
  ∀ (H' : Hp) (a : Addr) (o : Ord), Box H' b l → But [b, l] H H' → H' a = some (.tup o.vs) → OrdOk o at_ cnt cells → Q (.ref a) H'
theorem ok_order {f : Addr} {fd : FuncData} (F : Fun K "_law_order" "_law_order" st_law_order f fd) (c_law_take : Callee P w K mg base "_law_take" 1 2 spTake) (z_min : mg "min" = none) :
    FnOk P w K mg base CX0 2 f fd ["_law_box", "_law_cells", "_law_number", "_law_many"] spOrder := by
  refine F.ok sc_law_order (fun vs H Q E h => ?_) (fun cdv A outer s H vs Q E hr h => ?_)
  · obtain ⟨b, l, cells, at_, cnt, rfl, _⟩ := h
    rfl
  · obtain ⟨b, l, cells, at_, cnt, rfl, hB, c1, c16, hat, h4, q⟩ := h
    refine ⟨_, (pss_cons (ps_set (i := 4) sc_law_order.nd rfl (Or.inl rfl) (pe_op op_add pe_int (pe_cal c_law_take hr (by first | decide | exact Nat.le_refl _) (pa_cons (pv 0) (pa_cons (pe_callB (call_min2 rfl) (by rfl) z_min (by decide +kernel) (pa_cons pe_int (pa_cons (pv 1) pa_nil))) pa_nil)))))
  (pss_cons (ps_set (i := 5) sc_law_order.nd rfl (Or.inl rfl) pe_non)
  (pss_cut (ps_if (PW.pt (pw_and (pt_cmpR op_lt (pe_op op_add (pv 2) pe_int) (pv 3) (nomark _)) (pw_and1 (pt_cmpR op_eq (pe_cal c_law_take hr (by first | decide | exact Nat.le_refl _) (pa_cons (pv 0) (pa_cons pe_int pa_nil))) pe_int (nomark _))))) (pss_one (ps_set (i := 5) sc_law_order.nd rfl (Or.inl rfl) (pe_op op_add (pe_op op_add (pv 2) pe_int) (pe_cal c_law_take hr (by first | decide | exact Nat.le_refl _) (pa_cons (pv 0) (pa_cons (pe_op op_sub (pe_op op_sub (pv 3) (pv 2)) pe_int) pa_nil)))))) pss_nil)
  (pss_one (ps_ret (pe_tup (pa_cons (pe_cal c_law_take hr (by first | decide | exact Nat.le_refl _) (pa_cons (pv 0) (pa_cons (pe_op op_add (pe_op op_sub (pv 1) (pv 4)) pe_int) pa_nil))) (pa_cons (pe_cal c_law_take hr (by first | decide | exact Nat.le_refl _) (pa_cons (pv 0) (pa_cons (pe_op op_add (pe_op op_sub (pv 1) (pv 4)) pe_int) pa_nil))) (pa_cons (pv 4) (pa_cons (pv 5) pa_nil)))))))))), ?_⟩
    -- count = 1 + take(box, min(8, cells))
    refine ⟨_, rfl, _, rfl, 8, cells, rfl, b, l, _, min 8 cells, rfl, (by split <;> omega), hB, by omega, by omega, fun H1 r hB1 bt1 hr1 => ?_⟩
    refine ⟨_, _, rfl, rfl, ?_⟩
    -- later
    refine ⟨fun σ' H' => ∃ lt : Option Nat, σ' = [some (.ref b), some (nV cells), some (nV at_), some (nV cnt), some (.int (1 + (r : Int))), some (oV lt)] ∧ Box H' b l ∧ But [b, l] H H' ∧ ∀ k, lt = some k → at_ < k ∧ k < cnt, ?_, fun σ' H' hM => ?_⟩
    · refine ⟨_, rfl, _, _, rfl, rfl, _, rfl, _, _, rfl, rfl, _, rfl, ite2 (fun e => ?_) (fun e => iteF ⟨none, rfl, hB1, bt1, fun k z => nomatch z⟩)⟩
      have e' : at_ + 1 < cnt := by have := of_decide_eq_true e; omega
      refine ⟨_, rfl, b, l, _, 2, rfl, rfl, hB1, by decide, by decide, fun H2 r2 hB2 bt2 hr2 => ?_⟩
      refine ⟨rfl, _, rfl, ite2 (fun e2 => ?_) (fun e2 => ⟨none, rfl, hB2, bt1.trans bt2, fun k z => nomatch z⟩)⟩
      refine ⟨_, rfl, _, _, rfl, rfl, _, rfl, _, rfl, _, rfl, _, _, rfl, rfl, _, _, rfl, rfl, b, l, _, cnt - at_ - 1, rfl, by omega, hB2, by omega, by omega, fun H3 r3 hB3 bt3 hr3 => ?_⟩
      refine ⟨_, _, rfl, rfl, some (at_ + 1 + r3), ?_, hB3, (bt1.trans bt2).trans bt3, fun k z => by cases z; omega⟩
      show _ = [some (.ref b), some (nV cells), some (nV at_), some (nV cnt), some (.int (1 + (r : Int))), some (nV (at_ + 1 + r3))]
      rw [show nV (at_ + 1 + r3) = .int ((at_ : Int) + 1 + (r3 : Int)) by simp [nV]]
      rfl
    · obtain ⟨lt, rfl, hB2, bt2, hlt⟩ := hM
      -- return (take(..), take(..), count, later)
      refine ⟨_, rfl, _, rfl, _, rfl, _, _, rfl, rfl, _, _, rfl, rfl, b, l, _, cells - (1 + r) + 1, rfl, by omega, hB2, by omega, by omega, fun H3 r3 hB3 bt3 hr3 => ?_⟩
      refine ⟨_, rfl, _, rfl, _, rfl, _, _, rfl, rfl, _, _, rfl, rfl, b, l, _, cells - (1 + r) + 1, rfl, by omega, hB3, by omega, by omega, fun H4 r4 hB4 bt4 hr4 => ?_⟩
      refine ⟨_, rfl, _, rfl, by show 4 ≤ sizeLine; decide, fun p np => ?_⟩
      have sm := same_new (o := .tup [nV r3, nV r4, .int (1 + (r : Int)), oV lt]) np
      refine q _ p ⟨r3, r4, 1 + r, lt⟩ (hB4.same sm) (((bt2.trans bt3).trans bt4).trans (Same.but sm)) ?_ ⟨?_, ?_, ?_, ?_, hlt⟩
      · rw [upd_same]
        show _ = some (HO.tup [nV r3, nV r4, nV (1 + r), oV lt])
        rw [show nV (1 + r) = .int (1 + (r : Int)) by simp [nV]]
      all_goals (dsimp only; omega)
end
end Vt
namespace Vt
open PySem PySem.Spec PyProof.Rows L2
theorem But.newset {B : List Addr} {H H' : Hp} {p : Addr} {o : HO} (n : H p = none) (h : But B H H') : But B H (upd H' p o) := fun c u m e => by
  rw [upd_ne (ne_of_none e n)]; exact h c u m e
theorem But.box {H : Hp} {b l p : Addr} {o : HO} (h : Box H b l) (n1 : p ≠ b) (n2 : p ≠ l) : Box (upd H p o) b l := by
  obtain ⟨ns, s, h1, h2, h3⟩ := h
  exact ⟨ns, s, by rw [upd_ne n1.symm]; exact h1, by rw [upd_ne n2.symm]; exact h2, h3⟩
def allWords : List Str := ["set", "add", "say", "start", "wait", "clean", "drop"]
section
variable {P : Program} {w : World} {K : PySem.W.Frag} {mg : Str → Option Value} {base : Heap}
abbrev st_law_deed : Stmt := (topS 52)
abbrev nm_law_deed : List Str := ["_law_box", "_law_cells", "_law_orders", "_law_kinds", "_law_word", "_law_cell"]
theorem sc_law_deed : FnScope ["_law_box", "_law_cells", "_law_orders", "_law_kinds", "_law_word", "_law_cell"] ["_law_box", "_law_cells", "_law_orders", "_law_kinds"] (defScope st_law_deed) := ⟨rfl, rfl, rfl, by decide +kernel, rfl, by decide +kernel, by decide +kernel⟩
def spDeed : Sp := fun vs H Q _ => ∃ (b l kl : Addr) (cells cnt : Nat) (ws : List Str), vs = [.ref b, nV cells, nV cnt, .ref kl] ∧ Box H b l ∧ 4 ≤ cells ∧ cells ≤ 16 ∧ 1 ≤ cnt ∧ cnt ≤ 4 ∧
  H kl = some (.lst (ws.map V.str)) ∧ ws ≠ [] ∧ ws.length ≤ 100 ∧ (∀ x ∈ ws, x ∈ allWords) ∧
  ∀ (H' : Hp) (a : Addr) (d : Deed), Box H' b l → But [b, l] H H' → H' a = some (.tup d.vs) → DeedOk d cnt cells → d.word ∈ ws → Q (.ref a) H'
theorem ok_deed {f : Addr} {fd : FuncData} (F : Fun K "_law_deed" "_law_deed" st_law_deed f fd) (c_law_take : Callee P w K mg base "_law_take" 1 2 spTake) (z_len : mg "len" = none) (z_int : mg "int" = none) :
    FnOk P w K mg base CX0 2 f fd ["_law_box", "_law_cells", "_law_orders", "_law_kinds"] spDeed := by
  refine F.ok sc_law_deed (fun vs H Q E h => ?_) (fun cdv A outer s H vs Q E hr h => ?_)
  · obtain ⟨b, l, kl, cells, cnt, ws, rfl, _⟩ := h
    rfl
  · obtain ⟨b, l, kl, cells, cnt, ws, rfl, hB, c4, c16, n1, n4, hk, hne, hlen, hws, q⟩ := h
    have hpos : 0 < ws.length := List.length_pos_iff.mpr hne
    have kb : kl ≠ b := by
      obtain ⟨ns, sd, e1, _⟩ := hB
      refine ne_of hk e1 fun z => ?_
      cases ws with
      | nil => exact hne rfl
      | cons x r => cases z
    have kl' : kl ≠ l := by
      obtain ⟨ns, sd, _, e2, _⟩ := hB
      refine ne_of hk e2 fun z => ?_
      cases ws with
      | nil => exact hne rfl
      | cons x r => cases ns with
        | nil => cases z
        | cons y t => cases z
    refine ⟨_, (pss_cons (ps_set (i := 4) sc_law_deed.nd rfl (Or.inl rfl) (pe_ix ix_lt (pv 3) (pe_cal c_law_take hr (by first | decide | exact Nat.le_refl _) (pa_cons (pv 0) (pa_cons (pe_callB call_len_seq (by rfl) z_len (by decide +kernel) (pa_cons (pv 3) pa_nil)) pa_nil))) (fun _ _ => rfl)))
  (pss_cons (ps_if (pt_cmpR op_eq (pv 4) pe_str (nomark _)) (pss_one (ps_ret (pe_tup (pa_cons (pv 4) pa_nil)))) pss_nil)
  (pss_cons (ps_if (pt_cmpR op_in_seq (pv 4) (pe_tup (pa_cons pe_str (pa_cons pe_str pa_nil))) (by rfl)) (pss_one (ps_ret (pe_tup (pa_cons (pv 4) (pa_cons (pe_cal c_law_take hr (by first | decide | exact Nat.le_refl _) (pa_cons (pv 0) (pa_cons (pe_op op_fdiv (pv 1) pe_int) pa_nil))) pa_nil))))) pss_nil)
  (pss_cons (ps_if (pt_cmpR op_eq (pv 4) pe_str (nomark _)) (pss_one (ps_ret (pe_tup (pa_cons (pv 4) (pa_cons (pe_cal c_law_take hr (by first | decide | exact Nat.le_refl _) (pa_cons (pv 0) (pa_cons (pv 2) pa_nil))) pa_nil))))) pss_nil)
  (pss_cons (ps_set (i := 5) sc_law_deed.nd rfl (Or.inl rfl) (pe_cal c_law_take hr (by first | decide | exact Nat.le_refl _) (pa_cons (pv 0) (pa_cons (pv 1) pa_nil))))
  (pss_cons (ps_if (pt_cmpR op_eq (pv 4) pe_str (nomark _)) (pss_one (ps_ret (pe_tup (pa_cons (pv 4) (pa_cons (pv 5) pa_nil))))) pss_nil)
  (pss_one (ps_ret (pe_tup (pa_cons (pv 4) (pa_cons (pv 5) (pa_cons (pe_cal c_law_take hr (by first | decide | exact Nat.le_refl _) (pa_cons (pv 0) (pa_cons (pe_ix ix_lt (pe_lst (pa_cons pe_int (pa_cons (pv 1) pa_nil))) (pe_callTy call_int1 (by rfl) z_int (by decide +kernel) (pa_cons (pe_cmpR op_eq (pv 4) pe_str (nomark _)) pa_nil)) (fun _ _ => rfl)) pa_nil))) pa_nil)))))))))))), ?_⟩
    refine ⟨_, rfl, _, rfl, _, rfl, _, _, rfl, .inl (sqL_l hk), b, l, _, ws.length, rfl, by simp, hB, hpos, by omega, fun H1 r hB1 bt1 hr1 => ?_⟩
    have hk1 : H1 kl = some (.lst (ws.map V.str)) := bt1 _ _ (by simp [kb, kl']) hk
    have hx : (ws.map V.str)[r]? = some (.str ws[r]) := by rw [List.getElem?_map, List.getElem?_eq_getElem hr1]; rfl
    have hmem : ws[r] ∈ ws := List.getElem_mem hr1
    have hall := hws _ hmem
    generalize ws[r] = wd at hx hmem hall
    refine ⟨kl, _, (r : Int), .str wd, rfl, rfl, sqA_l hk1, atI_nat hx, ?_⟩
    -- if word == "wait"
    refine ⟨_, rfl, rfl, _, rfl, ite2 (fun e => ?_) (fun e1 => ?_)⟩
    · cases of_decide_eq_true e
      refine ⟨_, rfl, by show 1 ≤ sizeLine; decide, fun p np => ?_⟩
      exact q _ p .wait (hB1.same (same_new np)) (bt1.trans (Same.but (same_new np))) upd_same trivial hmem
    -- if word in ("clean", "drop")
    refine ⟨_, rfl, by show 2 ≤ sizeLine; decide, fun p np => ?_⟩
    have hB2 := hB1.same (same_new (o := .tup [.str "clean", .str "drop"]) np)
    have bt2 := bt1.trans (Same.but (same_new (o := .tup [.str "clean", .str "drop"]) np))
    refine ⟨p, _, rfl, .inr (sqT_t upd_same), rfl, rfl, _, rfl, ite2 (fun e => ?_) (fun e2 => ?_)⟩
    · refine ⟨_, rfl, _, rfl, _, rfl, _, _, rfl, rfl, ⟨by decide, by decide⟩, b, l, _, cells / 4, rfl, by simp, hB2, by omega, by omega, fun H3 r3 hB3 bt3 hr3 => ?_⟩
      refine ⟨by show 2 ≤ sizeLine; decide, fun p2 np2 => ?_⟩
      have e' : (Str.ofString "clean") = wd ∨ (Str.ofString "drop") = wd := by
        simp only [inV, eqV, List.any_cons, List.any_nil, Bool.or_false, Bool.or_eq_true] at e
        simpa using e
      rcases e' with rfl | rfl
      · exact q _ p2 (.clean r3) (hB3.same (same_new np2)) ((bt2.trans bt3).trans (Same.but (same_new np2))) upd_same hr3 hmem
      · exact q _ p2 (.drop r3) (hB3.same (same_new np2)) ((bt2.trans bt3).trans (Same.but (same_new np2))) upd_same hr3 hmem
    -- if word == "start"
    refine ⟨_, rfl, rfl, _, rfl, ite2 (fun e => ?_) (fun e3 => ?_)⟩
    · cases of_decide_eq_true e
      refine ⟨_, rfl, _, rfl, _, rfl, b, l, _, cnt, rfl, rfl, hB2, by omega, by omega, fun H3 r3 hB3 bt3 hr3 => ?_⟩
      refine ⟨by show 2 ≤ sizeLine; decide, fun p2 np2 => ?_⟩
      exact q _ p2 (.start r3) (hB3.same (same_new np2)) ((bt2.trans bt3).trans (Same.but (same_new np2))) upd_same hr3 hmem
    refine ⟨_, rfl, _, rfl, b, l, _, cells, rfl, rfl, hB2, by omega, by omega, fun H3 r3 hB3 bt3 hr3 => ?_⟩
    -- if word == "say"
    refine ⟨_, rfl, rfl, _, rfl, ite2 (fun e => ?_) (fun e4 => ?_)⟩
    · cases of_decide_eq_true e
      refine ⟨_, rfl, _, rfl, by show 2 ≤ sizeLine; decide, fun p2 np2 => ?_⟩
      exact q _ p2 (.say r3) (hB3.same (same_new np2)) ((bt2.trans bt3).trans (Same.but (same_new np2))) upd_same hr3 hmem
    have hsa : wd = "set" ∨ wd = "add" := by
      have f1 : ¬ wd = "wait" := fun z => e1 (by rw [z]; exact decide_eq_true rfl)
      have f3 : ¬ wd = "start" := fun z => e3 (by rw [z]; exact decide_eq_true rfl)
      have f4 : ¬ wd = "say" := fun z => e4 (by rw [z]; exact decide_eq_true rfl)
      have f2 : ¬ (wd = "clean" ∨ wd = "drop") := fun z => e2 (by rcases z with rfl | rfl <;> decide)
      simp only [allWords, List.mem_cons, List.not_mem_nil, or_false] at hall
      rcases hall with h | h | h | h | h | h | h
      · exact .inl h
      · exact .inr h
      · exact absurd h f4
      · exact absurd h f3
      · exact absurd h f1
      · exact absurd (.inl h) f2
      · exact absurd (.inr h) f2
    refine ⟨_, rfl, _, rfl, _, rfl, _, rfl, by show 2 ≤ sizeLine; decide, fun p2 np2 => ?_⟩
    have hB4 := hB3.same (same_new (o := .lst [.int 10, nV cells]) np2)
    have bt4 := (bt2.trans bt3).trans (Same.but (same_new (o := .lst [.int 10, nV cells]) np2))
    refine ⟨_, rfl, rfl, .inr ⟨_, rfl, ?_⟩⟩
    rcases hsa with rfl | rfl
    · refine ⟨p2, [.int 10, nV cells], 0, .int 10, rfl, (by decide), sqA_l upd_same, rfl, b, l, _, 10, rfl, rfl, hB4, by decide, by decide, fun H5 r5 hB5 bt5 hr5 => ?_⟩
      refine ⟨by show 3 ≤ sizeLine; decide, fun p3 np3 => ?_⟩
      exact q _ p3 (.set r3 r5) (hB5.same (same_new np3)) ((bt4.trans bt5).trans (Same.but (same_new np3))) upd_same ⟨hr3, hr5⟩ hmem
    · refine ⟨p2, [.int 10, nV cells], 1, nV cells, rfl, (by decide), sqA_l upd_same, rfl, b, l, _, cells, rfl, rfl, hB4, by omega, by omega, fun H5 r5 hB5 bt5 hr5 => ?_⟩
      refine ⟨by show 3 ≤ sizeLine; decide, fun p3 np3 => ?_⟩
      exact q _ p3 (.add r3 r5) (hB5.same (same_new np3)) ((bt4.trans bt5).trans (Same.but (same_new np3))) upd_same ⟨hr3, hr5⟩ hmem
end
end Vt
namespace Vt
open PySem PySem.Spec PyProof.Rows L2
theorem nV_add (a b : Nat) : (V.int ((a : Int) + (b : Int))) = nV (a + b) := by simp [nV]
theorem filter_app {α : Type} (p : α → Bool) (xs : List α) (x : α) : ((xs ++ [x]).filter p).length = (xs.filter p).length + (if p x then 1 else 0) := by
  rw [List.filter_append, List.length_append]
  congr 1
  cases h : p x <;> simp [h]
theorem word_start (d : Deed) : (d.word = "start") ↔ isStart d = true := by
  cases d <;> simp [Deed.word, isStart] <;> decide
section
variable {P : Program} {w : World} {K : PySem.W.Frag} {mg : Str → Option Value} {base : Heap}
abbrev st_law_board : Stmt := (topS 53)
abbrev nm_law_board : List Str := ["_law_box", "_law_lines", "_law_deeds", "_law_kinds", "_law_cells", "_law_memory", "_law_cell", "_law_many", "_law_orders", "_law_number", "_law_program", "_law_turn", "_law_deed_here", "_law_one"]
theorem sc_law_board : FnScope ["_law_box", "_law_lines", "_law_deeds", "_law_kinds", "_law_cells", "_law_memory", "_law_cell", "_law_many", "_law_orders", "_law_number", "_law_program", "_law_turn", "_law_deed_here", "_law_one"] ["_law_box", "_law_lines", "_law_deeds", "_law_kinds"] (defScope st_law_board) := ⟨rfl, rfl, rfl, by decide +kernel, rfl, by decide +kernel, by decide +kernel⟩
def spBoard : Sp := fun vs H Q _ => ∃ (b l kl : Addr) (lines deeds : Nat) (ws : List Str), vs = [.ref b, nV lines, nV deeds, .ref kl] ∧ Box H b l ∧ 1 ≤ lines ∧ lines ≤ 4 ∧ deeds ≤ 60 ∧
  H kl = some (.lst (ws.map V.str)) ∧ ws ≠ [] ∧ ws.length ≤ 100 ∧ (∀ x ∈ ws, x ∈ allWords) ∧
  ∀ (H' : Hp) (v : V) (B : Brd), Box H' b l → But [b, l] H H' → Pd H' v B.d → BrdOk B → B.mem.length ≤ 4 * lines → B.prog.length ≤ deeds → 1 ≤ B.ords.length → (∀ d ∈ B.prog, d.word ∈ ws ∨ d.word = "say") → Q v H'
theorem ok_board {f : Addr} {fd : FuncData} (F : Fun K "_law_board" "_law_board" st_law_board f fd) (c_law_take : Callee P w K mg base "_law_take" 1 2 spTake) (c_law_order : Callee P w K mg base "_law_order" 2 4 spOrder) (c_law_deed : Callee P w K mg base "_law_deed" 2 4 spDeed)
    (z_len : mg "len" = none) (z_tuple : mg "tuple" = none) (z_range : mg "range" = none) : FnOk P w K mg base CX0 3 f fd ["_law_box", "_law_lines", "_law_deeds", "_law_kinds"] spBoard := by
  refine F.ok sc_law_board (fun vs H Q E h => ?_) (fun cdv A outer s H vs Q E hr h => ?_)
  · obtain ⟨b, l, kl, lines, deeds, ws, rfl, _⟩ := h
    rfl
  · obtain ⟨b, l, kl, lines, deeds, ws, rfl, hB, l1, l4, d60, hk, hne, hlen, hws, q⟩ := h
    have kb : kl ≠ b := by
      obtain ⟨ns, sd, e1, _⟩ := hB
      refine ne_of hk e1 fun z => ?_
      cases ws with
      | nil => exact hne rfl
      | cons x r => cases z
    have kl' : kl ≠ l := by
      obtain ⟨ns, sd, _, e2, _⟩ := hB
      refine ne_of hk e2 fun z => ?_
      cases ws with
      | nil => exact hne rfl
      | cons x r => cases ns with
        | nil => cases z
        | cons y t => cases z
    have hknot : kl ∉ [b, l] := by simp [kb, kl']
    have nonb : ∀ p, H p = none → p ≠ b ∧ p ≠ l := fun p np => by
      obtain ⟨ns, sd, e1, e2, _⟩ := hB
      exact ⟨(ne_of_none e1 np).symm, (ne_of_none e2 np).symm⟩
    refine ⟨_, (pss_cons (ps_set (i := 4) sc_law_board.nd rfl (Or.inr rfl) (pe_op op_mul pe_int (pe_op op_add pe_int (pe_cal c_law_take hr (by first | decide | exact Nat.le_refl _) (pa_cons (pv 0) (pa_cons (pv 1) pa_nil))))))
  (pss_cons (ps_set (i := 5) sc_law_board.nd rfl (Or.inl rfl) (pe_callTy call_tuple_of (by rfl) z_tuple (by decide +kernel) (pa_cons (pe_lc (own := [("_law_cell", 6)]) rfl sc_law_board.nd (pi_range1 (by rfl) z_range (pa_cons (pv 4) pa_nil)) (blkOk_by (own := [("_law_cell", 6)]) (N := nm_law_board) (sc := defScope (topS 53)) (by decide +kernel)) (fun _ _ _ _ _ => (pg_name (i := 6) sc_law_board.nd rfl (Or.inl rfl))) (fun _ _ _ _ _ => pts_nil) (fun _ _ _ _ _ => (pe_cal c_law_take hr (by first | decide | exact Nat.le_refl _) (pa_cons (pv 0) (pa_cons pe_int pa_nil))))) pa_nil)))
  (pss_cons (ps_set (i := 7) sc_law_board.nd rfl (Or.inr rfl) (pe_op op_add pe_int (pe_cal c_law_take hr (by first | decide | exact Nat.le_refl _) (pa_cons (pv 0) (pa_cons pe_int pa_nil)))))
  (pss_cons (ps_set (i := 8) sc_law_board.nd rfl (Or.inl rfl) (pe_callTy call_tuple_of (by rfl) z_tuple (by decide +kernel) (pa_cons (pe_lc (own := [("_law_number", 9)]) rfl sc_law_board.nd (pi_range1 (by rfl) z_range (pa_cons (pv 7) pa_nil)) (blkOk_by (own := [("_law_number", 9)]) (N := nm_law_board) (sc := defScope (topS 53)) (by decide +kernel)) (fun _ _ _ _ _ => (pg_name (i := 9) sc_law_board.nd rfl (Or.inl rfl))) (fun _ _ _ _ _ => pts_nil) (fun _ _ _ _ _ => (pe_cal c_law_order hr (by first | decide | exact Nat.le_refl _) (pa_cons (pv 0) (pa_cons (pv 4) (pa_cons (pv 9) (pa_cons (pv 7) pa_nil))))))) pa_nil)))
  (pss_cons (ps_set (i := 10) sc_law_board.nd rfl (Or.inl rfl) (pe_lst pa_nil))
  (pss_cons (ps_for PassesOwn.never rfl (pi_range1 (by rfl) z_range (pa_cons (pe_cal c_law_take hr (by first | decide | exact Nat.le_refl _) (pa_cons (pv 0) (pa_cons (pe_op op_add (pv 2) pe_int) pa_nil))) pa_nil)) (pg_name (i := 11) sc_law_board.nd rfl (Or.inl rfl))
  (pss_cons (ps_set (i := 12) sc_law_board.nd rfl (Or.inl rfl) (pe_cal c_law_deed hr (by first | decide | exact Nat.le_refl _) (pa_cons (pv 0) (pa_cons (pv 4) (pa_cons (pv 7) (pa_cons (pv 3) pa_nil))))))
  (pss_cut (ps_if (PW.pt (pw_and (pt_cmpR op_eq (pe_ix ix_lt (pv 12) pe_int (fun _ _ => rfl)) pe_str (nomark _)) (pw_and1 (pt_cmpR op_eq (pe_callB call_len_seq (by rfl) z_len (by decide +kernel) (pa_cons (pe_lc (own := [("_law_one", 13)]) rfl sc_law_board.nd (pi_lt (pv 10)) (blkOk_by (own := [("_law_one", 13)]) (N := nm_law_board) (sc := defScope (topS 53)) (by decide +kernel)) (fun _ _ _ _ _ => (pg_name (i := 13) sc_law_board.nd rfl (Or.inl rfl))) (fun _ _ _ _ _ => (pts_one (pt_cmpR op_eq (pe_ix (ix_ltk K) (pv 13) pe_int (fun _ _ => rfl)) pe_str (nomark _)))) (fun _ _ _ _ _ => (pv 13))) pa_nil)) pe_int (nomark _))))) (pss_one (ps_set (i := 12) sc_law_board.nd rfl (Or.inl rfl) (pe_tup (pa_cons pe_str (pa_cons (pe_cal c_law_take hr (by first | decide | exact Nat.le_refl _) (pa_cons (pv 0) (pa_cons (pv 4) pa_nil))) pa_nil))))) pss_nil)
  (pss_one (ps_expr (pe_bm PySem.F.plainAttrs_list PySem.F.slot_list_append PySem.F.type_list_append mt_append (pv 10) (pa_cons (pv 12) pa_nil)))))))
  (pss_one (ps_ret (pe_tup (pa_cons (pv 5) (pa_cons (pv 8) (pa_cons (pe_callTy call_tuple_of (by rfl) z_tuple (by decide +kernel) (pa_cons (pv 10) pa_nil)) pa_nil)))))))))))), ?_⟩
    -- cells = 4 * (1 + take(box, lines))
    refine ⟨_, rfl, _, rfl, b, l, _, lines, rfl, rfl, hB, by omega, by omega, fun H1 r1 hB1 bt1 hr1 => ?_⟩
    refine ⟨_, _, rfl, rfl, _, _, rfl, rfl, .inl ⟨by decide, by decide⟩, ?_⟩
    have ec : (4 : Int) * (1 + (r1 : Int)) = ((4 * (1 + r1) : Nat) : Int) := by omega
    refine chgN (y := nV (4 * (1 + r1))) (congrArg V.int ec) ?_
    generalize hc : 4 * (1 + r1) = cells
    have c16 : cells ≤ 16 := by omega
    have cN : cells = 4 ∨ cells = 8 ∨ cells = 12 ∨ cells = 16 := by omega
    -- memory
    refine ⟨_, rfl, _, rfl, by omega, by omega, fun D1 nD1 => ?_⟩
    refine lc_it (walk_range (lo := 0) (n := (cells : Int).toNat)) (fun i H' => ∃ ns : List Nat, ns.length = i ∧ (∀ n ∈ ns, n < 10) ∧ H' D1 = some (.lst (ns.map nV)) ∧ Box H' b l ∧ But [b, l] H1 H')
      ⟨[], rfl, by simp, upd_same, hB1.same (same_new nD1), Same.but (same_new nD1)⟩ (fun _ _ _ _ => trivial) (fun i x H2 H3 hi hp hy => ?_) (fun H2 hp => ?_)
    · obtain ⟨ns, e1, e2, e3, hB2, bt2⟩ := hp
      obtain ⟨rfl, rfl⟩ := hy
      refine ⟨rfl, ?_⟩
      refine ⟨_, rfl, b, l, _, 10, rfl, rfl, hB2, by decide, by decide, fun H4 r hB4 bt4 hr => ?_⟩
      have nD : D1 ≠ b ∧ D1 ≠ l := by
        obtain ⟨ns', sd, f1, f2, _⟩ := hB1
        exact ⟨(ne_of_none f1 nD1).symm, (ne_of_none f2 nD1).symm⟩
      have e3' := bt4 _ _ (by simp [nD.1, nD.2]) e3
      refine ⟨_, e3', by rw [List.length_map]; exact fits (by omega), ns ++ [r], by simp [e1], fun n hn => ?_, by rw [upd_same, List.map_append]; rfl, But.box hB4 nD.1 nD.2, But.newset nD1 (bt2.trans bt4)⟩
      rcases List.mem_append.mp hn with h | h
      · exact e2 n h
      · rw [List.mem_singleton.mp h]; exact hr
    obtain ⟨mem, m1, m2, m3, hB2, bt2⟩ := hp
    refine ⟨D1, _, rfl, .inl ⟨sqL_l m3, fun M nM => ?_⟩⟩
    have hM : (upd H2 M (.tup (mem.map nV))) M = some (.tup (mem.map nV)) := upd_same
    have hB3 := hB2.same (same_new (o := .tup (mem.map nV)) nM)
    have bt3 := (bt1.trans bt2).trans (Same.but (same_new (o := .tup (mem.map nV)) nM))
    have mlen : mem.length = cells := by omega
    generalize upd H2 M (.tup (mem.map nV)) = H3 at hM hB3 bt3
    -- many = 1 + take(box, 4)
    refine ⟨_, rfl, b, l, _, 4, rfl, rfl, hB3, by decide, by decide, fun H4 r4 hB4 bt4 hr4 => ?_⟩
    refine ⟨_, _, rfl, rfl, ?_⟩
    refine chgN (y := nV (1 + r4)) (congrArg V.int (by omega)) ?_
    generalize hcnt : 1 + r4 = cnt
    have nMb : M ∉ [b, l] := fun m => by
      obtain ⟨ys, e⟩ := hB3.lsts _ m
      rw [hM] at e; cases e
    have hM4 := bt4 _ _ nMb hM
    -- orders
    refine ⟨_, rfl, _, rfl, by omega, by omega, fun D2 nD2 => ?_⟩
    have nD2' : D2 ≠ b ∧ D2 ≠ l := by
      obtain ⟨ns', sd, f1, f2, _⟩ := hB4
      exact ⟨(ne_of_none f1 nD2).symm, (ne_of_none f2 nD2).symm⟩
    refine lc_it (walk_range (lo := 0) (n := (cnt : Int).toNat)) (fun i H' => ∃ (os : List Ord) (vs : List V), os.length = i ∧ (∀ (j : Nat) (o : Ord), os[j]? = some o → OrdOk o j cnt cells) ∧ Pds H' vs (os.map Ord.d) ∧ H' D2 = some (.lst vs) ∧ Box H' b l ∧ But [b, l] H4 H')
      ⟨[], [], rfl, by simp, .nil, upd_same, hB4.same (same_new nD2), Same.but (same_new nD2)⟩ (fun _ _ _ _ => trivial) (fun i x H5 H6 hi hp hy => ?_) (fun H5 hp => ?_)
    · obtain ⟨os, vs, e1, e2, e3, e4, hB5, bt5⟩ := hp
      obtain ⟨rfl, rfl⟩ := hy
      refine ⟨rfl, ?_⟩
      refine ⟨_, rfl, _, rfl, _, rfl, _, rfl, b, l, cells, i, cnt, by simp [nV], hB5, by omega, c16, by omega, by omega, fun H7 a o hB7 bt7 ha ho => ?_⟩
      have e4' := bt7 _ _ (by simp [nD2'.1, nD2'.2]) e4
      have hs5 : Pds H7 vs (os.map Ord.d) := Pds.but bt7 hB5.lsts (noLs_map noL_ord _) e3
      have aD : a ≠ D2 := fun z => by rw [z, e4'] at ha; cases ha
      have lsD : Lsts H7 [D2] := fun c hc => ⟨vs, by rw [List.mem_singleton.mp hc]; exact e4'⟩
      have stepB : But [D2] H7 (upd H7 D2 (.lst (vs ++ [.ref a]))) := But.set (by simp)
      have vlen := e3.len
      refine ⟨_, e4', by rw [vlen, List.length_map]; exact fits (by omega), os ++ [o], vs ++ [.ref a], by simp [e1], fun j o' hj => ?_, ?_, upd_same, But.box hB7 nD2'.1 nD2'.2, But.newset nD2 (bt5.trans bt7)⟩
      · rcases Nat.lt_or_ge j os.length with h | h
        · rw [List.getElem?_append_left h] at hj
          exact e2 j o' hj
        · rw [List.getElem?_append_right h] at hj
          have : j - os.length = 0 := by
            have := (List.getElem?_eq_some_iff.mp hj).1
            simp at this; omega
          rw [this] at hj
          cases hj
          have ej : j = i := by omega
          rw [ej]; exact ho
      · rw [List.map_append]
        exact (Pds.but stepB lsD (noLs_map noL_ord _) hs5).app (.cons (Ord.pd (by rw [upd_ne aD]; exact ha)) .nil)
    obtain ⟨os, ovs, o1, o2, o3, o4, hB5, bt5⟩ := hp
    refine ⟨D2, _, rfl, .inl ⟨sqL_l o4, fun O nO => ?_⟩⟩
    have hM5 := bt5 _ _ nMb hM4
    have sO : Same H5 (upd H5 O (.tup ovs)) := same_new nO
    have hO : (upd H5 O (.tup ovs)) O = some (.tup ovs) := upd_same
    have hOs := Pds.same sO o3
    have hM6 := sO _ _ hM5
    have hB6 := hB5.same sO
    have bt6 := ((bt3.trans bt4).trans bt5).trans (Same.but sO)
    have olen : os.length = cnt := by omega
    generalize upd H5 O (.tup ovs) = H6 at hO hOs hM6 hB6 bt6 sO
    have nOb : O ∉ [b, l] := fun m => by
      obtain ⟨ys, e⟩ := hB6.lsts _ m
      rw [hO] at e; cases e
    -- program = []
    refine ⟨Nat.zero_le _, fun pl npl => ?_⟩
    have hB7 := hB6.same (same_new (o := .lst []) npl)
    have npl' : pl ≠ b ∧ pl ≠ l := by
      obtain ⟨ns', sd, f1, f2, _⟩ := hB6
      exact ⟨(ne_of_none f1 npl).symm, (ne_of_none f2 npl).symm⟩
    -- for turn in range(take(box, deeds + 1))
    refine ⟨_, rfl, _, rfl, _, _, rfl, rfl, b, l, _, deeds + 1, rfl, by omega, hB7, by omega, by omega, fun H8 r8 hB8 bt8 hr8 => ?_⟩
    refine ⟨_, rfl, by omega, by omega, ?_⟩
    have hpl8 : H8 pl = some (.lst []) := bt8 _ _ (by simp [npl'.1, npl'.2]) upd_same
    have btx : But [b, l] H6 H8 := (Same.but (same_new npl)).trans bt8
    refine for_it (walk_range (lo := 0) (n := (r8 : Int).toNat)) (fun i σ H' => ∃ (ds : List Deed) (vs : List V) (y1 y2 : Option V), σ = [some (.ref b), some (nV lines), some (nV deeds), some (.ref kl), some (nV cells), some (.ref M), none, some (nV cnt), some (.ref O), none, some (.ref pl), y1, y2, none] ∧
        ds.length = i ∧ (∀ d ∈ ds, DeedOk d cnt cells ∧ (d.word ∈ ws ∨ d.word = "say")) ∧ (ds.filter isStart).length ≤ 3 ∧ Pds H' vs (ds.map Deed.d) ∧ H' pl = some (.lst vs) ∧ Box H' b l ∧ But [b, l] H6 H')
      ⟨[], [], _, _, rfl, rfl, by simp, by simp, .nil, hpl8, hB8, btx⟩ (fun _ _ _ _ _ => trivial) (fun i x σ H9 H10 hi hp hy => ?_) (fun σ H9 hp => ?_)
    · obtain ⟨ds, vs, y1, y2, rfl, e1, e2, e3, e4, e5, hB9, bt9⟩ := hp
      obtain ⟨rfl, rfl⟩ := hy
      have hk9 := (bt6.trans bt9) _ _ hknot hk
      refine ⟨_, rfl, _, rfl, _, rfl, _, rfl, b, l, kl, cells, cnt, ws, rfl, hB9, by omega, c16, by omega, by omega, hk9, hne, hlen, hws, fun H11 a d hB11 bt11 ha hd hw => ?_⟩
      have e5' := bt11 _ _ (by simp [npl'.1, npl'.2]) e5
      have e4' : Pds H11 vs (ds.map Deed.d) := Pds.but bt11 hB9.lsts (noLs_map noL_deed _) e4
      -- if deed[0] == "start" and len([..]) == 3
      refine ⟨fun σ' H' => ∃ (a' : Addr) (d' : Deed), σ' = [some (.ref b), some (nV lines), some (nV deeds), some (.ref kl), some (nV cells), some (.ref M), none, some (nV cnt), some (.ref O), none, some (.ref pl), some (.int (0 + (i : Int))), some (.ref a'), none] ∧
          H' a' = some (.tup d'.vs) ∧ DeedOk d' cnt cells ∧ (d'.word ∈ ws ∨ d'.word = "say") ∧ ((ds ++ [d']).filter isStart).length ≤ 3 ∧ Pds H' vs (ds.map Deed.d) ∧ H' pl = some (.lst vs) ∧ Box H' b l ∧ But [b, l] H6 H', ?_, fun σ' H' hM => ?_⟩
      · refine ⟨_, rfl, a, _, 0, .str d.word, rfl, rfl, sqA_t ha, at0, rfl, _, rfl, ite2 (fun e => ?_) (fun e => iteF ?_)⟩
        · have ew : d.word = "start" := by injection of_decide_eq_true e
          have es : isStart d = true := (word_start d).mp ew
          -- the comprehension
          refine ⟨_, rfl, pl, rfl, .inl ⟨_, sqL_l e5', fun D3 nD3 => ?_⟩⟩
          have plD : pl ≠ D3 := ne_of_none e5' nD3
          refine lc_it (walk_list (xs := vs)) (fun j H' => ∃ acc : List V, acc.length = ((ds.take j).filter isStart).length ∧ H' D3 = some (.lst acc) ∧ Same H11 H')
            ⟨[], rfl, upd_same, same_new nD3⟩ (fun j H' _ hp => by obtain ⟨_, _, _, sm⟩ := hp; exact sqL_l (sm _ _ e5')) (fun j x H12 H13 hj hp hy => ?_) (fun H12 hp => ?_)
          · obtain ⟨acc, a1, a2, sm⟩ := hp
            obtain ⟨rfl, hx⟩ := hy
            obtain ⟨dd, hdd, hpd⟩ := e4'.get' hx
            rw [List.getElem?_map] at hdd
            obtain ⟨d0, hd0, rfl⟩ : ∃ d0, ds[j]? = some d0 ∧ d0.d = dd := by simpa using hdd
            obtain ⟨a0, rfl, ha0⟩ := Deed.of hpd
            have tk : ((ds.take (j + 1)).filter isStart).length = ((ds.take j).filter isStart).length + (if isStart d0 then 1 else 0) := by
              rw [List.take_add_one, hd0]
              exact filter_app _ _ _
            refine ⟨rfl, _, rfl, a0, _, 0, .str d0.word, rfl, rfl, sqA_t (sm _ _ ha0), at0, rfl, _, rfl, ite2 (fun e => ?_) (fun e => ?_)⟩
            · have ew : d0.word = "start" := by injection of_decide_eq_true e
              have alen : acc.length ≤ 60 := by
                have := List.length_filter_le isStart (ds.take j)
                have := List.length_take_le' j ds
                omega
              refine ⟨_, rfl, acc, a2, fits (by omega), acc ++ [.ref a0], ?_, upd_same, fun c u hc => ?_⟩
              · rw [tk, (word_start d0).mp ew, List.length_append, a1]; rfl
              · rw [upd_ne (ne_of_none hc nD3)]; exact sm _ _ hc
            · have ew : ¬ isStart d0 = true := fun z => e (by rw [(word_start d0).mpr z]; exact decide_eq_true rfl)
              exact ⟨acc, by rw [tk, if_neg ew]; exact a1, a2, sm⟩
          · obtain ⟨acc, a1, a2, sm⟩ := hp
            have vlen : vs.length = ds.length := by rw [e4'.len, List.length_map]
            rw [vlen, List.take_length] at a1
            refine ⟨D3, _, rfl, .inl (sqL_l a2), rfl, _, rfl, ite2 (fun e7 => ?_) (fun e7 => ?_)⟩
            · refine ⟨_, rfl, _, rfl, b, l, _, cells, rfl, rfl, hB11.same sm, by omega, by omega, fun H14 r14 hB14 bt14 hr14 => ?_⟩
              refine ⟨by show 2 ≤ sizeLine; decide, fun a' na' => ?_⟩
              have s4 : Pds H14 vs (ds.map Deed.d) := Pds.but bt14 (hB11.same sm).lsts (noLs_map noL_deed _) (Pds.same sm e4')
              have s5 := bt14 _ _ (by simp [npl'.1, npl'.2]) (sm _ _ e5')
              refine ⟨a', .say r14, rfl, upd_same, hr14, .inr rfl, ?_, Pds.same (same_new na') s4, same_new na' _ _ s5, hB14.same (same_new na'), (((bt9.trans bt11).trans (Same.but sm)).trans bt14).trans (Same.but (same_new na'))⟩
              rw [filter_app]; exact e3
            · refine ⟨a, d, rfl, sm _ _ ha, hd, .inl hw, ?_, Pds.same sm e4', sm _ _ e5', hB11.same sm, (bt9.trans bt11).trans (Same.but sm)⟩
              rw [filter_app, if_pos es]
              have : ¬ acc.length = 3 := fun z => e7 (by rw [z]; rfl)
              omega
        · refine ⟨a, d, rfl, ha, hd, .inl hw, ?_, e4', e5', hB11, bt9.trans bt11⟩
          have ew : ¬ isStart d = true := fun z => e (by rw [(word_start d).mpr z]; exact decide_eq_true rfl)
          rw [filter_app, if_neg ew]; exact e3
      · obtain ⟨a', d', rfl, f1, f2, f3, f4, f5, f6, hB14, bt14⟩ := hM
        have vlen : vs.length = ds.length := by rw [f5.len, List.length_map]
        refine ⟨_, rfl, .inl ⟨rfl, _, sqL_l f6⟩, _, rfl, pl, _, _, rfl, rfl, f6, fits (by omega), ?_⟩
        have ap : a' ≠ pl := fun z => by rw [z, f6] at f1; cases f1
        have lsD : Lsts H' [pl] := fun c hc => ⟨vs, by rw [List.mem_singleton.mp hc]; exact f6⟩
        have stepB : But [pl] H' (upd H' pl (.lst (vs ++ [.ref a']))) := But.set (by simp)
        refine ⟨ds ++ [d'], vs ++ [.ref a'], _, _, rfl, by simp [e1], fun d hd => ?_, f4, ?_, upd_same, But.box hB14 npl'.1 npl'.2, But.newset npl bt14⟩
        · rcases List.mem_append.mp hd with h | h
          · exact e2 d h
          · rw [List.mem_singleton.mp h]; exact ⟨f2, f3⟩
        · rw [List.map_append]
          exact (Pds.but stepB lsD (noLs_map noL_deed _) f5).app (.cons (Deed.pd (by rw [upd_ne ap]; exact f1)) .nil)
    · obtain ⟨ds, vs, y1, y2, rfl, e1, e2, e3, e4, e5, hB9, bt9⟩ := hp
      refine ⟨_, rfl, _, rfl, _, rfl, pl, _, rfl, .inl ⟨sqL_l e5, fun Pt nPt => ?_⟩⟩
      refine ⟨by show 3 ≤ sizeLine; decide, fun v nv => ?_⟩
      have s1 : Same H9 (upd H9 Pt (.tup vs)) := same_new nPt
      have s2 := same_new (o := .tup [.ref M, .ref O, .ref Pt]) nv
      have s12 := s1.trans s2
      have gM := s12 _ _ (bt9 _ _ nMb hM6)
      have gO := s12 _ _ (bt9 _ _ nOb hO)
      have gP := s2 _ _ (show (upd H9 Pt (.tup vs)) Pt = some (.tup vs) from upd_same)
      refine q _ (.ref v) ⟨mem, os, ds⟩ (hB9.same s12) ((bt6.trans bt9).trans (Same.but s12)) ?_ ⟨?_, m2, ?_, fun j o hj => ?_, ?_, ?_, e3⟩ ?_ ?_ ?_ ?_
      · exact .tup upd_same (.cons (.tup gM (pds_ns _)) (.cons (.tup gO (Pds.same s12 (Pds.but bt9 hB6.lsts (noLs_map noL_ord _) hOs))) (.cons (.tup gP (Pds.same s12 e4)) .nil)))
      · dsimp only; rw [mlen]; exact cN
      · dsimp only; omega
      · dsimp only at hj ⊢; rw [olen, mlen]; exact o2 j o hj
      · dsimp only; omega
      · intro d hd; dsimp only at hd ⊢; rw [olen, mlen]; exact (e2 d hd).1
      · dsimp only; omega
      · dsimp only; omega
      · dsimp only; omega
      · intro d hd; exact (e2 d hd).2
end
end Vt
namespace Vt
open PySem PySem.Spec PyProof.Rows L2
/-! ### boards as they are handed in, and what is first wrong in them -/
structure ROrd where
  src : Int
  goal : Int
  many : Int
  later : Option Int
structure RDeed where
  word : Str
  nums : List Int
structure RBrd where
  mem : List Int
  ords : List ROrd
  prog : List RDeed
def iV : Option Int → V
  | none => .non
  | some k => .int k
def iD : Option Int → D
  | none => .non
  | some k => .int k
def ROrd.vs (o : ROrd) : List V := [.int o.src, .int o.goal, .int o.many, iV o.later]
def ROrd.d (o : ROrd) : D := .tup [.int o.src, .int o.goal, .int o.many, iD o.later]
def RDeed.vs (d : RDeed) : List V := .str d.word :: d.nums.map V.int
def RDeed.d (d : RDeed) : D := .tup (.str d.word :: d.nums.map D.int)
def RBrd.d (B : RBrd) : D := .tup [.tup (B.mem.map D.int), .tup (B.ords.map ROrd.d), .tup (B.prog.map RDeed.d)]
def Ord.raw (o : Ord) : ROrd := ⟨o.src, o.goal, o.many, o.later.map fun k => (k : Int)⟩
def Deed.raw (d : Deed) : RDeed := ⟨d.word, d.args.map fun (k : Nat) => (k : Int)⟩
def Brd.raw (B : Brd) : RBrd := ⟨B.mem.map (fun (k : Nat) => (k : Int)), B.ords.map Ord.raw, B.prog.map Deed.raw⟩
theorem raw_ord (o : Ord) : o.raw.d = o.d := by
  obtain ⟨s, g, m, l⟩ := o
  cases l <;> rfl
theorem raw_deed (d : Deed) : d.raw.d = d.d := by
  simp only [Deed.raw, RDeed.d, Deed.d, List.map_map]; rfl
theorem raw_brd (B : Brd) : B.raw.d = B.d := by
  simp only [Brd.raw, RBrd.d, Brd.d, nsD, List.map_map]
  have h1 : (ROrd.d ∘ Ord.raw) = Ord.d := funext raw_ord
  have h2 : (RDeed.d ∘ Deed.raw) = Deed.d := funext raw_deed
  rw [h1, h2]; rfl
section
variable {H : Hp}
theorem ROrd.of {o : ROrd} {v : V} (h : Pd H v o.d) : ∃ a, v = .ref a ∧ H a = some (.tup o.vs) := by
  obtain ⟨s, g, m, l⟩ := o
  cases h with
  | tup h hs =>
    cases hs with
    | cons h1 hs => cases h1; cases hs with
      | cons h2 hs => cases h2; cases hs with
        | cons h3 hs => cases h3; cases hs with
          | cons h4 hs =>
            cases hs
            refine ⟨_, rfl, ?_⟩
            cases l with
            | none => cases h4; exact h
            | some k => cases h4; exact h
theorem RDeed.of {d : RDeed} {v : V} (h : Pd H v d.d) : ∃ a, v = .ref a ∧ H a = some (.tup d.vs) := by
  cases h with
  | tup h hs =>
    cases hs with
    | cons h1 hs =>
      cases h1
      rw [hs.ints] at h
      exact ⟨_, rfl, h⟩
theorem RBrd.of {B : RBrd} {v : V} (h : Pd H v B.d) : ∃ a m o p os ps, v = .ref a ∧ H a = some (.tup [.ref m, .ref o, .ref p]) ∧ H m = some (.tup (B.mem.map V.int)) ∧ H o = some (.tup os) ∧ Pds H os (B.ords.map ROrd.d) ∧ H p = some (.tup ps) ∧ Pds H ps (B.prog.map RDeed.d) := by
  obtain ⟨mem, ords, prog⟩ := B
  cases h with
  | tup h hs =>
    cases hs with
    | cons h1 hs => cases h1 with
      | tup e1 k1 => cases hs with
        | cons h2 hs => cases h2 with
          | tup e2 k2 => cases hs with
            | cons h3 hs => cases h3 with
              | tup e3 k3 =>
                cases hs
                rw [k1.ints] at e1
                exact ⟨_, _, _, _, _, _, rfl, h, e1, e2, k2, e3, k3⟩
end
/-- the first place at which p stands -/
def fst {α : Type} (p : Nat → α → Bool) : Nat → List α → Option Nat
  | _, [] => none
  | i, x :: r => if p i x = true then some i else fst p (i + 1) r
theorem fst_none {α : Type} {p : Nat → α → Bool} : ∀ {xs : List α} {k : Nat}, (∀ i x, xs[i]? = some x → p (k + i) x = false) → fst p k xs = none
  | [], _, _ => rfl
  | x :: r, k, h => by
    rw [fst, if_neg (by rw [show p k x = false from h 0 x rfl]; simp)]
    exact fst_none fun i y e => by
      have := h (i + 1) y (by simpa using e)
      rw [show k + 1 + i = k + (i + 1) by omega]; exact this
theorem fst_some {α : Type} {p : Nat → α → Bool} : ∀ {xs : List α} {k i : Nat} {x : α}, xs[i]? = some x → p (k + i) x = true → (∀ j y, j < i → xs[j]? = some y → p (k + j) y = false) → fst p k xs = some (k + i)
  | [], _, _, _, e, _, _ => by simp at e
  | y :: r, k, 0, x, e, h, _ => by
    simp only [List.getElem?_cons_zero, Option.some.injEq] at e
    subst e
    rw [fst, if_pos (by simpa using h)]; rfl
  | y :: r, k, i + 1, x, e, h, hj => by
    rw [fst, if_neg (by rw [show p k y = false from hj 0 y (by omega) rfl]; simp)]
    rw [fst_some (k := k + 1) (i := i) (x := x) (by simpa using e) (by rw [show k + 1 + i = k + (i + 1) by omega]; exact h) fun j z hji ez => by
      rw [show k + 1 + j = k + (j + 1) by omega]
      exact hj (j + 1) z (by omega) (by simpa using ez)]
    congr 1; omega
theorem of_fst_none {α : Type} {p : Nat → α → Bool} : ∀ {xs : List α} {k : Nat}, fst p k xs = none → ∀ i x, xs[i]? = some x → p (k + i) x = false
  | [], _, _, i, x, e => by simp at e
  | y :: r, k, h, 0, x, e => by
    simp only [List.getElem?_cons_zero, Option.some.injEq] at e
    subst e
    rw [fst] at h
    split at h
    · cases h
    · rename_i hn; simpa using hn
  | y :: r, k, h, i + 1, x, e => by
    rw [fst] at h
    split at h
    · cases h
    · have := of_fst_none (k := k + 1) h i x (by simpa using e)
      rw [show k + (i + 1) = k + 1 + i by omega]; exact this
def badNum (_ : Nat) (n : Int) : Bool := !(decide (0 ≤ n) && decide (n < 10))
def fwCell (mem : List Int) : Option Nat :=
  if mem.length = 4 ∨ mem.length = 8 ∨ mem.length = 12 ∨ mem.length = 16 then fst badNum 0 mem else some 0
def laterCan (cnt : Int) (at_ : Nat) : Option Int → Bool
  | none => true
  | some k => decide ((at_ : Int) < k) && decide (k < cnt)
def ordCan (cnt cells : Int) (at_ : Nat) (o : ROrd) : Bool :=
  decide (1 ≤ o.many) && decide (o.many ≤ 8) && laterCan cnt at_ o.later &&
  decide (0 ≤ o.src) && decide (o.src ≤ cells - o.many) && decide (0 ≤ o.goal) && decide (o.goal ≤ cells - o.many)
def badOrd (cnt cells : Int) (at_ : Nat) (o : ROrd) : Bool := decide (at_ = 4) || !ordCan cnt cells at_ o
def fwOrd (ords : List ROrd) (cells : Int) : Option Nat := fst (badOrd ords.length cells) 0 ords
def kindsOf (z : Str) : Option (List Str) :=
  if z = "set" then some ["cell", "number"] else if z = "add" then some ["cell", "cell"] else if z = "say" then some ["cell"] else if z = "start" then some ["order"] else
  if z = "wait" then some [] else if z = "clean" then some ["line"] else if z = "drop" then some ["line"] else none
def cap (cnt cells : Int) (k : Str) : Int := if k = "cell" then cells else if k = "number" then 10 else if k = "order" then cnt else cells / 4
def numsCan (cnt cells : Int) : List Int → List Str → Bool
  | [], [] => true
  | n :: ns, k :: ks => (decide (0 ≤ n) && decide (n < cap cnt cells k)) && numsCan cnt cells ns ks
  | _, _ => false
def deedCan (cnt cells : Int) (d : RDeed) : Bool := match kindsOf d.word with
  | none => false
  | some ks => numsCan cnt cells d.nums ks
def rStart (d : RDeed) : Bool := decide (d.word = "start")
def badDeed (prog : List RDeed) (cnt cells : Int) (at_ : Nat) (d : RDeed) : Bool := decide (at_ = 60) || !deedCan cnt cells d || decide (3 < ((prog.take (at_ + 1)).filter rStart).length)
def fwDeed (prog : List RDeed) (cnt cells : Int) : Option Nat := fst (badDeed prog cnt cells) 0 prog
/-- a tuple of the written part -/
def KTup (K : PySem.W.Frag) (a : Addr) (xs : List V) : Prop := ∃ (o : Obj) (its : Array Value) (n : Nat), K.lookup a = some o ∧ o.cls = .type "tuple" ∧ o.data = .seq its n ∧ its.size ≤ sizeLine ∧ Vals xs its.toList
theorem KTup.sq {K : PySem.W.Frag} {a : Addr} {xs : List V} (h : KTup K a xs) (H : Hp) : SqT K H a xs := .inr h
/-- an enumerate's pair -/
theorem pair_at {H H' : Hp} {v : V} {x y : Nat → Option V} {i : Nat} (h : YPair x y i H v H') : ∃ T a b, v = .ref T ∧ H T = none ∧ H' = upd H T (.tup [a, b]) ∧ x i = some a ∧ y i = some b ∧ Same H H' ∧ H' T = some (.tup [a, b]) := by
  obtain ⟨T, a, b, h1, h2, h3, h4, h5⟩ := h
  subst h3
  exact ⟨T, a, b, h1, h2, rfl, h4, h5, same_new h2, upd_same⟩
section
variable {P : Program} {w : World} {K : PySem.W.Frag} {mg : Str → Option Value} {base : Heap}
/-- the module's numbers -/
structure Consts (K : PySem.W.Frag) (mg : Str → Option Value) : Prop where
  line : ∃ t, mg "LINE" = some (.int 4 t)
  numbers : ∃ t, mg "NUMBERS" = some (.int 10 t)
  orders : ∃ t, mg "MOST_ORDERS" = some (.int 4 t)
  moved : ∃ t, mg "MOST_MOVED" = some (.int 8 t)
  deeds : ∃ t, mg "MOST_DEEDS" = some (.int 60 t)
  starts : ∃ t, mg "MOST_STARTS" = some (.int 3 t)
  sizes : ∃ a, mg "MEMORY_SIZES" = some (.ref a) ∧ KTup K a [.int 4, .int 8, .int 12, .int 16]
abbrev st_first_wrong_cell : Stmt := (topS 18)
abbrev nm_first_wrong_cell : List Str := ["memory", "cell", "number"]
theorem sc_first_wrong_cell : FnScope ["memory", "cell", "number"] ["memory"] (defScope st_first_wrong_cell) := ⟨rfl, rfl, rfl, by decide +kernel, rfl, by decide +kernel, by decide +kernel⟩
def spFwCell : Sp := fun vs H Q _ => ∃ (m : Addr) (mem : List Int), vs = [.ref m] ∧ H m = some (.tup (mem.map V.int)) ∧ ∀ H', Same H H' → Q (oV (fwCell mem)) H'
theorem ok_fwcell {f : Addr} {fd : FuncData} (F : Fun K "first_wrong_cell" "first_wrong_cell" st_first_wrong_cell f fd) (C : Consts K mg) (z_len : mg "len" = none) (z_enumerate : mg "enumerate" = none) :
    FnOk P w K mg base CX0 1 f fd ["memory"] spFwCell := by
  obtain ⟨tN, mc_NUMBERS⟩ := C.numbers
  obtain ⟨ms, mc_MEMORY_SIZES, hms⟩ := C.sizes
  refine F.ok sc_first_wrong_cell (fun vs H Q E h => ?_) (fun cdv A outer s H vs Q E hr h => ?_)
  · obtain ⟨m, mem, rfl, _⟩ := h
    rfl
  · obtain ⟨m, mem, rfl, hm, q⟩ := h
    refine ⟨_, (pss_cons (ps_if (pt_cmpR op_notIn_seq (pe_callB call_len_seq (by rfl) z_len (by decide +kernel) (pa_cons (pv 0) pa_nil)) (pe_glob (v := .ref _) rfl mc_MEMORY_SIZES rfl) (by rfl)) (pss_one (ps_ret pe_int)) pss_nil)
  (pss_cons (ps_for PassesOwn.never rfl (pi_enumT (by rfl) z_enumerate (pa_cons (pv 0) pa_nil)) (pg_tup rfl (pgs_cons (pg_name (i := 1) sc_first_wrong_cell.nd rfl (Or.inl rfl)) (pgs_cons (pg_name (i := 2) sc_first_wrong_cell.nd rfl (Or.inl rfl)) pgs_nil)))
  (pss_one (ps_if (pt_not (pt_chain op_le op_lt pe_int (pv 2) (pe_glob (v := .int 10) rfl mc_NUMBERS ⟨_, rfl⟩))) (pss_one (ps_ret (pv 1))) pss_nil)))
  (pss_one (ps_ret pe_non)))), ?_⟩
    refine ⟨_, rfl, m, _, rfl, .inr (sqT_t hm), ms, _, rfl, .inr (hms.sq _), rfl, rfl, _, rfl, ite2 (fun e => ?_) (fun e => ?_)⟩
    · have hn : ¬ (mem.length = 4 ∨ mem.length = 8 ∨ mem.length = 12 ∨ mem.length = 16) := by
        simp only [inV, eqV, List.any_cons, List.any_nil, List.length_map] at e
        simp at e
        omega
      have := q H (Same.refl H)
      rw [fwCell, if_neg hn] at this
      exact this
    · have hn : mem.length = 4 ∨ mem.length = 8 ∨ mem.length = 12 ∨ mem.length = 16 := by
        simp only [inV, eqV, List.any_cons, List.any_nil, List.length_map] at e
        simp at e
        omega
      refine ⟨_, rfl, m, rfl, .inr ⟨_, sqT_t hm, ?_⟩⟩
      refine for_it (walk_enumT (xs := mem.map V.int)) (fun i σ H' => ∃ y1 y2, σ = [some (.ref m), y1, y2] ∧ Same H H' ∧ ∀ (j : Nat) (n : Int), j < i → mem[j]? = some n → badNum j n = false)
        ⟨_, _, rfl, Same.refl H, fun j n hj => absurd hj (by omega)⟩ (fun i σ H' _ hp => by obtain ⟨_, _, _, sm, _⟩ := hp; exact sqT_t (sm _ _ hm)) (fun i x σ H1 H2 hi hp hy => ?_) (fun σ H1 hp => ?_)
      · obtain ⟨y1, y2, rfl, sm, hall⟩ := hp
        obtain ⟨T, a, b, rfl, nT, _, ha, hb, s2, hT⟩ := pair_at hy
        cases ha
        obtain ⟨n, hn2, rfl⟩ : ∃ n, mem[i]? = some n ∧ V.int n = b := by rw [List.getElem?_map] at hb; simpa using hb
        refine ⟨T, _, rfl, sqT_t hT, rfl, _, _, rfl, _, _, rfl, rfl, ?_⟩
        have ret : badNum i n = true → Q (nV i) H2 := fun hb => by
          have := q H2 (sm.trans s2)
          rw [fwCell, if_pos hn, fst_some (i := i) hn2 (by rw [Nat.zero_add]; exact hb) fun j y hj ej => by rw [Nat.zero_add]; exact hall j y hj ej, Nat.zero_add] at this
          exact this
        have nxt : badNum i n = false → ∃ y1 y2, [some (V.ref m), some (V.int (i : Nat)), some (V.int n)] = [some (.ref m), y1, y2] ∧ Same H H2 ∧ ∀ (j : Nat) (n : Int), j < i + 1 → mem[j]? = some n → badNum j n = false := fun hb => by
          refine ⟨_, _, rfl, sm.trans s2, fun j y hj ej => ?_⟩
          by_cases hji : j < i
          · exact hall j y hji ej
          · have : j = i := by omega
            subst this
            rw [hn2] at ej; cases ej
            exact hb
        refine ⟨_, rfl, _, _, rfl, rfl, _, rfl, ?_⟩
        by_cases h0 : (0 : Int) ≤ n
        · rw [decide_eq_true h0]
          refine iteT ⟨_, _, rfl, rfl, _, rfl, ite2 (fun e => ⟨_, rfl, ret ?_⟩) (fun e => nxt ?_)⟩
          · simp [badNum, h0] at e ⊢; omega
          · simp [badNum, h0] at e ⊢; omega
        · rw [decide_eq_false h0]
          exact iteF ⟨_, rfl, ⟨_, rfl, ret (by simp [badNum, h0])⟩⟩
      · obtain ⟨y1, y2, rfl, sm, hall⟩ := hp
        have := q H1 sm
        rw [fwCell, if_pos hn, fst_none fun i x e => by
          rw [Nat.zero_add]
          exact hall i x (by have := (List.getElem?_eq_some_iff.mp e).1; simpa using this) e] at this
        exact this
end
end Vt
namespace Vt
open PySem PySem.Spec PyProof.Rows L2
/-! ### an order, a deed, the board -/
theorem valV_hit {k : Key} {v : V} {r : List (Key × V)} : valV ((k, v) :: r) k = some v := valV_pos rfl
/-- what a dict of four says -/
theorem counts_at {H : Hp} {a : Addr} {cnt cells : Int} {ks : List Str} {k : Str} (h : H a = some (.dK [(.inr "cell", .int cells), (.inr "number", .int 10), (.inr "order", .int cnt), (.inr "line", .int (cells / 4))]))
    (hk : k = "cell" ∨ k = "number" ∨ k = "order" ∨ k = "line") : DGet H a (.str k) (some (.int (cap cnt cells k))) := by
  have g := DGet.k (k := .inr k) h
  rcases hk with rfl | rfl | rfl | rfl
  · exact g
  · exact g
  · exact g
  · exact g
theorem kinds_known {z : Str} {ks : List Str} (h : kindsOf z = some ks) : ∀ k ∈ ks, k = "cell" ∨ k = "number" ∨ k = "order" ∨ k = "line" := by
  intro k hk
  unfold kindsOf at h
  repeat' split at h
  all_goals first
    | cases h
    | skip
  all_goals simp at hk
  all_goals first
    | (rcases hk with rfl | rfl <;> simp)
    | (subst hk; simp)
theorem kinds_len {z : Str} {ks : List Str} (h : kindsOf z = some ks) : ks.length ≤ 2 := by
  unfold kindsOf at h
  repeat' split at h
  all_goals first
    | (cases h; simp)
    | cases h
theorem numsCan_len {cnt cells : Int} : ∀ {ns : List Int} {ks : List Str}, ns.length ≠ ks.length → numsCan cnt cells ns ks = false
  | [], [], h => absurd rfl h
  | [], _ :: _, _ => by rw [numsCan]; all_goals simp
  | _ :: _, [], _ => by rw [numsCan]; all_goals simp
  | n :: ns, k :: ks, h => by
    rw [numsCan, numsCan_len (ns := ns) (ks := ks) (by simpa using h), Bool.and_false]
theorem numsCan_all {cnt cells : Int} : ∀ {ns : List Int} {ks : List Str}, ns.length = ks.length → ∀ (bs : List Bool), bs.length = ns.length → (∀ (i : Nat) (n : Int) (k : Str), ns[i]? = some n → ks[i]? = some k → bs[i]? = some (decide (0 ≤ n) && decide (n < cap cnt cells k))) → bs.all id = numsCan cnt cells ns ks
  | [], [], _, bs, hb, _ => by
    have : bs = [] := List.length_eq_zero_iff.mp hb
    subst this; rfl
  | [], _ :: _, h, _, _, _ => by simp at h
  | _ :: _, [], h, _, _, _ => by simp at h
  | n :: ns, k :: ks, h, bs, hb, hi => by
    cases bs with
    | nil => simp at hb
    | cons b bs =>
      have e0 := hi 0 n k rfl rfl
      simp only [List.getElem?_cons_zero, Option.some.injEq] at e0
      rw [numsCan, List.all_cons, numsCan_all (ns := ns) (ks := ks) (by simpa using h) bs (by simpa using hb) fun i n' k' e1 e2 => by
        have := hi (i + 1) n' k' (by simpa using e1) (by simpa using e2)
        simpa using this]
      rw [e0]; rfl
/-- the table of deeds -/
structure Kinds (K : PySem.W.Frag) (w : World) (mg : Str → Option Value) (dd : Addr) : Prop where
  at_ : mg "DEEDS" = some (.ref dd)
  low : (dd == sysModules) = false
  obj : ∃ es n, K.lookup dd = some ⟨.type "dict", none, .dict es n, #[]⟩ ∧ PySem.W.KeysLit w.params es.toList
  hit : ∀ z ks, kindsOf z = some ks → ∃ kt, KDct K w dd z (.ref kt) ∧ KTup K kt (ks.map V.str)
section
variable {P : Program} {w : World} {K : PySem.W.Frag} {mg : Str → Option Value} {base : Heap}
abbrev st_order_can_be : Stmt := (topS 20)
abbrev nm_order_can_be : List Str := ["order", "at", "order_count", "cell_count", "source", "goal", "many", "later"]
theorem sc_order_can_be : FnScope ["order", "at", "order_count", "cell_count", "source", "goal", "many", "later"] ["order", "at", "order_count", "cell_count"] (defScope st_order_can_be) := ⟨rfl, rfl, rfl, by decide +kernel, rfl, by decide +kernel, by decide +kernel⟩
def spOrdCan : Sp := fun vs H Q _ => ∃ (a : Addr) (o : ROrd) (at_ : Nat) (cnt cells : Int), vs = [.ref a, nV at_, .int cnt, .int cells] ∧ H a = some (.tup o.vs) ∧ Q (.bl (ordCan cnt cells at_ o)) H
theorem ok_ordcan {f : Addr} {fd : FuncData} (F : Fun K "order_can_be" "order_can_be" st_order_can_be f fd) (C : Consts K mg) : FnOk P w K mg base CX0 1 f fd ["order", "at", "order_count", "cell_count"] spOrdCan := by
  obtain ⟨tM, mc_MOST_MOVED⟩ := C.moved
  refine F.ok sc_order_can_be (fun vs H Q E h => ?_) (fun cdv A outer s H vs Q E hr h => ?_)
  · obtain ⟨a, o, at_, cnt, cells, rfl, _⟩ := h
    rfl
  · obtain ⟨a, ⟨src, goal, many, later⟩, at_, cnt, cells, rfl, ha, q⟩ := h
    refine ⟨_, (pss_cons (ps_asg (pv 0) (pg_tup rfl (pgs_cons (pg_name (i := 4) sc_order_can_be.nd rfl (Or.inl rfl)) (pgs_cons (pg_name (i := 5) sc_order_can_be.nd rfl (Or.inl rfl)) (pgs_cons (pg_name (i := 6) sc_order_can_be.nd rfl (Or.inl rfl)) (pgs_cons (pg_name (i := 7) sc_order_can_be.nd rfl (Or.inl rfl)) pgs_nil))))))
  (pss_cons (ps_if (pt_not (pt_chain op_le op_le pe_int (pv 6) (pe_glob (v := .int 8) rfl mc_MOST_MOVED ⟨_, rfl⟩))) (pss_one (ps_ret pe_bl)) pss_nil)
  (pss_cons (ps_if (PW.pt (pw_and (pt_cmpR op_notN (pv 7) pe_non (nomark _)) (pw_and1 (pt_not (pt_chain op_lt op_lt (pv 1) (pv 7) (pv 2)))))) (pss_one (ps_ret pe_bl)) pss_nil)
  (pss_one (ps_ret (pe_and (pe_chain op_le op_le pe_int (pv 4) (pe_op op_sub (pv 3) (pv 6))) (pe_one (pe_chain op_le op_le pe_int (pv 5) (pe_op op_sub (pv 3) (pv 6)))))))))), ?_⟩
    refine ⟨_, rfl, a, _, rfl, sqT_t ha, rfl, _, _, rfl, _, _, rfl, _, _, rfl, _, _, rfl, rfl, ?_⟩
    -- not 1 <= many <= MOST_MOVED
    refine ⟨_, rfl, _, _, rfl, rfl, _, rfl, ?_⟩
    by_cases h1 : (1 : Int) ≤ many
    · rw [decide_eq_true h1]
      refine iteT ⟨_, _, rfl, rfl, _, rfl, ite2 (fun e => ?_) (fun e => ?_)⟩
      · rw [show ordCan cnt cells at_ ⟨src, goal, many, later⟩ = false by simp [ordCan, laterCan] at e ⊢; omega] at q
        exact q
      · have h8 : many ≤ 8 := by simpa using e
        have rest : ∀ σ, σ = [some (.ref a), some (nV at_), some (.int cnt), some (.int cells), some (.int src), some (.int goal), some (.int many), some (iV later)] → laterCan cnt at_ later = true →
            tRet (tAndV (tChain (rI0 fun i j => V.bl (decide (i ≤ j))) (rI0 fun i j => V.bl (decide (i ≤ j))) (tC (.int 0)) (tVar 4) (tOp (rI0 fun i j => V.int (i - j)) (tVar 3) (tVar 6)))
              (tChain (rI0 fun i j => V.bl (decide (i ≤ j))) (rI0 fun i j => V.bl (decide (i ≤ j))) (tC (.int 0)) (tVar 5) (tOp (rI0 fun i j => V.int (i - j)) (tVar 3) (tVar 6)))) { nx := fun _ H' => Q .non H', rt := Q } σ H := fun σ hσ hl => by
          subst hσ
          have ev : ordCan cnt cells at_ ⟨src, goal, many, later⟩ = ((decide (0 ≤ src) && decide (src ≤ cells - many)) && (decide (0 ≤ goal) && decide (goal ≤ cells - many))) := by
            simp only [ordCan, decide_eq_true h1, decide_eq_true h8, hl, Bool.true_and, Bool.and_assoc]
          rw [ev] at q
          refine ⟨_, rfl, _, _, rfl, rfl, _, rfl, ?_⟩
          by_cases g1 : (0 : Int) ≤ src
          · rw [decide_eq_true g1] at q ⊢
            refine iteT ⟨_, rfl, _, rfl, _, _, rfl, rfl, _, _, rfl, rfl, _, rfl, ?_⟩
            by_cases g2 : src ≤ cells - many
            · rw [decide_eq_true g2] at q ⊢
              refine iteT ⟨_, rfl, _, _, rfl, rfl, _, rfl, ?_⟩
              by_cases g3 : (0 : Int) ≤ goal
              · rw [decide_eq_true g3] at q ⊢
                refine iteT ⟨_, rfl, _, rfl, _, _, rfl, rfl, _, _, rfl, rfl, ?_⟩
                exact q
              · rw [decide_eq_false g3] at q ⊢
                exact iteF q
            · rw [decide_eq_false g2] at q ⊢
              exact iteF q
          · rw [decide_eq_false g1] at q ⊢
            exact iteF ⟨_, rfl, iteF q⟩
        cases later with
        | none => exact ⟨_, rfl, rfl, _, rfl, iteF (rest _ rfl rfl)⟩
        | some k =>
          refine ⟨_, rfl, rfl, _, rfl, iteT ⟨_, rfl, _, rfl, _, _, rfl, rfl, _, rfl, ?_⟩⟩
          by_cases g1 : (at_ : Int) < k
          · rw [decide_eq_true g1]
            refine iteT ⟨_, rfl, _, _, rfl, rfl, _, rfl, ite2 (fun e => ?_) (fun e => rest _ rfl ?_)⟩
            · rw [show ordCan cnt cells at_ ⟨src, goal, many, some k⟩ = false by simp [ordCan, laterCan] at e ⊢; omega] at q
              exact q
            · simp [laterCan] at e ⊢; exact ⟨g1, e⟩
          · rw [decide_eq_false g1]
            refine iteF ⟨_, rfl, iteT ?_⟩
            rw [show ordCan cnt cells at_ ⟨src, goal, many, some k⟩ = false by simp [ordCan, laterCan, g1]] at q
            exact q
    · rw [decide_eq_false h1]
      refine iteF ⟨_, rfl, iteT ?_⟩
      rw [show ordCan cnt cells at_ ⟨src, goal, many, later⟩ = false by simp [ordCan, h1]] at q
      exact q
abbrev st_first_wrong_order : Stmt := (topS 19)
abbrev nm_first_wrong_order : List Str := ["orders", "cell_count", "at", "order"]
theorem sc_first_wrong_order : FnScope ["orders", "cell_count", "at", "order"] ["orders", "cell_count"] (defScope st_first_wrong_order) := ⟨rfl, rfl, rfl, by decide +kernel, rfl, by decide +kernel, by decide +kernel⟩
def spFwOrd : Sp := fun vs H Q _ => ∃ (a : Addr) (os : List V) (ords : List ROrd) (cells : Int), vs = [.ref a, .int cells] ∧ H a = some (.tup os) ∧ Pds H os (ords.map ROrd.d) ∧ ∀ H', Same H H' → Q (oV (fwOrd ords cells)) H'
theorem ok_fword {f : Addr} {fd : FuncData} (F : Fun K "first_wrong_order" "first_wrong_order" st_first_wrong_order f fd) (C : Consts K mg) (c_order_can_be : Callee P w K mg base "order_can_be" 1 4 spOrdCan) (z_len : mg "len" = none) (z_enumerate : mg "enumerate" = none) :
    FnOk P w K mg base CX0 2 f fd ["orders", "cell_count"] spFwOrd := by
  obtain ⟨tM, mc_MOST_ORDERS⟩ := C.orders
  refine F.ok sc_first_wrong_order (fun vs H Q E h => ?_) (fun cdv A outer s H vs Q E hr h => ?_)
  · obtain ⟨a, os, ords, cells, rfl, _⟩ := h
    rfl
  · obtain ⟨a, os, ords, cells, rfl, ha, hs, q⟩ := h
    have olen : os.length = ords.length := by rw [hs.len, List.length_map]
    refine ⟨_, (pss_cons (ps_for PassesOwn.never rfl (pi_enumT (by rfl) z_enumerate (pa_cons (pv 0) pa_nil)) (pg_tup rfl (pgs_cons (pg_name (i := 2) sc_first_wrong_order.nd rfl (Or.inl rfl)) (pgs_cons (pg_name (i := 3) sc_first_wrong_order.nd rfl (Or.inl rfl)) pgs_nil)))
  (pss_one (ps_if (PW.pt (pw_or (pt_cmpR op_eq (pv 2) (pe_glob (v := .int 4) rfl mc_MOST_ORDERS ⟨_, rfl⟩) (nomark _)) (pw_or1 (pt_not (pt_val (pe_cal c_order_can_be hr (by first | decide | exact Nat.le_refl _) (pa_cons (pv 3) (pa_cons (pv 2) (pa_cons (pe_callB call_len_seq (by rfl) z_len (by decide +kernel) (pa_cons (pv 0) pa_nil)) (pa_cons (pv 1) pa_nil)))))))))) (pss_one (ps_ret (pv 2))) pss_nil)))
  (pss_one (ps_ret pe_non))), ?_⟩
    refine ⟨_, rfl, a, rfl, .inr ⟨_, sqT_t ha, ?_⟩⟩
    refine for_it (walk_enumT (xs := os)) (fun i σ H' => ∃ y1 y2, σ = [some (.ref a), some (.int cells), y1, y2] ∧ Same H H' ∧ ∀ (j : Nat) (o : ROrd), j < i → ords[j]? = some o → badOrd ords.length cells j o = false)
      ⟨_, _, rfl, Same.refl H, fun j n hj => absurd hj (by omega)⟩ (fun i σ H' _ hp => by obtain ⟨_, _, _, sm, _⟩ := hp; exact sqT_t (sm _ _ ha)) (fun i x σ H1 H2 hi hp hy => ?_) (fun σ H1 hp => ?_)
    · obtain ⟨y1, y2, rfl, sm, hall⟩ := hp
      obtain ⟨T, a1, b, rfl, nT, _, h1, hb, s2, hT⟩ := pair_at hy
      cases h1
      obtain ⟨dd, hd, hpd⟩ := hs.get' hb
      rw [List.getElem?_map] at hd
      obtain ⟨o, ho, rfl⟩ : ∃ o, ords[i]? = some o ∧ o.d = dd := by simpa using hd
      obtain ⟨oa, rfl, hoa⟩ := ROrd.of ((hpd.same sm).same s2)
      have ret : badOrd ords.length cells i o = true → Q (nV i) H2 := fun hb => by
        have := q H2 (sm.trans s2)
        rw [fwOrd, fst_some (i := i) ho (by rw [Nat.zero_add]; exact hb) fun j y hj ej => by rw [Nat.zero_add]; exact hall j y hj ej, Nat.zero_add] at this
        exact this
      have nxt : badOrd ords.length cells i o = false → ∃ y1 y2, [some (V.ref a), some (.int cells), some (V.int (i : Nat)), some (V.ref oa)] = [some (.ref a), some (.int cells), y1, y2] ∧ Same H H2 ∧ ∀ (j : Nat) (o : ROrd), j < i + 1 → ords[j]? = some o → badOrd ords.length cells j o = false := fun hb => by
        refine ⟨_, _, rfl, sm.trans s2, fun j y hj ej => ?_⟩
        by_cases hji : j < i
        · exact hall j y hji ej
        · have : j = i := by omega
          subst this
          rw [ho] at ej; cases ej
          exact hb
      refine ⟨T, _, rfl, sqT_t hT, rfl, _, _, rfl, _, _, rfl, rfl, ?_⟩
      refine ⟨_, rfl, rfl, _, rfl, ite2 (fun e => iteT ?_) (fun e => ?_)⟩
      · have e4 : (i : Int) = 4 := by injection of_decide_eq_true e
        have e4' : i = 4 := by omega
        exact ⟨_, rfl, ret (by simp [badOrd, e4'])⟩
      · have n4 : ¬ i = 4 := fun z => e (by rw [z]; rfl)
        refine ⟨_, rfl, _, rfl, _, rfl, a, _, rfl, .inr (sqT_t ((sm.trans s2) _ _ ha)), _, rfl, oa, o, i, _, _, rfl, hoa, _, rfl, ite2 (fun e => ⟨_, rfl, ret ?_⟩) (fun e => nxt ?_)⟩
        · rw [olen] at e; simp only [badOrd, e, Bool.or_true]
        · rw [olen] at e
          have e' : (!ordCan ords.length cells i o) = false := by simpa using e
          simp only [badOrd, e', decide_eq_false n4, Bool.or_false]
    · obtain ⟨y1, y2, rfl, sm, hall⟩ := hp
      have := q H1 sm
      rw [fwOrd, fst_none fun i x e => by
        rw [Nat.zero_add]
        exact hall i x (by have := (List.getElem?_eq_some_iff.mp e).1; omega) e] at this
      exact this
end
end Vt
namespace Vt
open PySem PySem.Spec PyProof.Rows L2
section
variable {P : Program} {w : World} {K : PySem.W.Frag} {mg : Str → Option Value} {base : Heap}
def countsK (cnt cells : Int) : List (Key × V) := [(.inr "cell", .int cells), (.inr "number", .int 10), (.inr "order", .int cnt), (.inr "line", .int (cells / 4))]
abbrev st_deed_can_be : Stmt := (topS 23)
abbrev nm_deed_can_be : List Str := ["deed", "counts", "word", "numbers", "kinds", "number", "kind"]
theorem sc_deed_can_be : FnScope ["deed", "counts", "word", "numbers", "kinds", "number", "kind"] ["deed", "counts"] (defScope st_deed_can_be) := ⟨rfl, rfl, rfl, by decide +kernel, rfl, by decide +kernel, by decide +kernel⟩
def spDeedCan (K : PySem.W.Frag) (w : World) (dd : Addr) : Sp := fun vs H Q _ => ∃ (a c : Addr) (d : RDeed) (cnt cells : Int), vs = [.ref a, .ref c] ∧ H a = some (.tup d.vs) ∧ d.nums.length ≤ 1000 ∧ H c = some (.dK (countsK cnt cells)) ∧
  (kindsOf d.word = none → KMiss K w dd d.word) ∧ ∀ H', Same H H' → Q (.bl (deedCan cnt cells d)) H'
theorem ok_deedcan {f dd : Addr} {fd : FuncData} (F : Fun K "deed_can_be" "deed_can_be" st_deed_can_be f fd) (Kd : Kinds K w mg dd) (z_len : mg "len" = none) (z_all : mg "all" = none) (z_zip : mg "zip" = none) :
    FnOk P w K mg base CX0 1 f fd ["deed", "counts"] (spDeedCan K w dd) := by
  have mc_DEEDS := Kd.at_
  refine F.ok sc_deed_can_be (fun vs H Q E h => ?_) (fun cdv A outer s H vs Q E hr h => ?_)
  · obtain ⟨a, c, d, cnt, cells, rfl, _⟩ := h
    rfl
  · obtain ⟨a, c, ⟨wd, nums⟩, cnt, cells, rfl, ha, hl, hc, hmiss, q⟩ := h
    dsimp only at hl hmiss
    refine ⟨_, (pss_cons (ps_asg (pv 0) (pg_star (i := 2) (j := 3) rfl sc_deed_can_be.nd rfl rfl rfl rfl))
  (pss_cons (ps_set (i := 4) sc_deed_can_be.nd rfl (Or.inl rfl) (pe_kget (pe_glob (v := .ref _) rfl mc_DEEDS rfl) (pv 2) ⟨rfl, rfl, rfl, rfl⟩))
  (pss_cons (ps_if (PW.pt (pw_or (pt_cmpR op_isN (pv 4) pe_non (nomark _)) (pw_or1 (pt_cmpR op_ne (pe_callB call_len_seq (by rfl) z_len (by decide +kernel) (pa_cons (pv 3) pa_nil)) (pe_callB call_len_seq (by rfl) z_len (by decide +kernel) (pa_cons (pv 4) pa_nil)) (nomark _))))) (pss_one (ps_ret pe_bl)) pss_nil)
  (pss_one (ps_ret (pe_callB (cr_all rfl) (by rfl) z_all (by decide +kernel) (pa_cons (pe_lc (own := [("number", 5), ("kind", 6)]) rfl sc_deed_can_be.nd (pi_zipM (by rfl) z_zip (pa_cons (pv 3) (pa_cons (pv 4) pa_nil))) (blkOk_by (own := [("number", 5), ("kind", 6)]) (N := nm_deed_can_be) (sc := defScope (topS 23)) (by decide +kernel)) (fun _ _ _ _ _ => (pg_tupk K (n := 2) rfl (pgs_cons (pg_name (i := 5) sc_deed_can_be.nd rfl (Or.inl rfl)) (pgs_cons (pg_name (i := 6) sc_deed_can_be.nd rfl (Or.inl rfl)) pgs_nil)))) (fun _ _ _ _ _ => pts_nil) (fun _ _ _ _ _ => (pe_chain op_le op_lt pe_int (pv 5) (pe_dget (hu_of hr) (pv 1) (pv 6) (fun _ _ => rfl))))) pa_nil))))))), ?_⟩
    refine ⟨_, rfl, a, .str wd, nums.map V.int, rfl, sqT_t ha, by rw [List.length_map]; exact hl, fun p np => ?_⟩
    have s1 : Same H (upd H p (.lst (nums.map V.int))) := same_new np
    have hp1 : (upd H p (.lst (nums.map V.int))) p = some (.lst (nums.map V.int)) := upd_same
    generalize upd H p (.lst (nums.map V.int)) = H1 at s1 hp1
    obtain ⟨es, n, hobj, hlit⟩ := Kd.obj
    refine ⟨dd, rfl, Kd.low, ⟨es, n, hobj, hlit⟩, _, rfl, wd, rfl, ?_⟩
    cases hk : kindsOf wd with
    | none =>
      refine .inr ⟨hmiss hk, ?_⟩
      refine ⟨_, rfl, rfl, _, rfl, iteT (iteT ?_)⟩
      have := q H1 s1
      rw [show deedCan cnt cells ⟨wd, nums⟩ = false by simp [deedCan, hk]] at this
      exact this
    | some ks =>
      obtain ⟨kt, hkd, hkt⟩ := Kd.hit wd ks hk
      have k2 := kinds_len hk
      refine .inl ⟨.ref kt, hkd, ?_⟩
      refine ⟨_, rfl, rfl, _, rfl, iteF ⟨_, rfl, p, _, rfl, .inl (sqL_l hp1), _, rfl, kt, _, rfl, .inr (hkt.sq _), rfl, _, rfl, ite2 (fun e => ?_) (fun e => ?_)⟩⟩
      · have hne : nums.length ≠ ks.length := fun z => by
          simp only [List.length_map, z] at e
          simp at e
        have := q H1 s1
        rw [show deedCan cnt cells ⟨wd, nums⟩ = false by simp only [deedCan, hk]; exact numsCan_len hne] at this
        exact this
      · have heq : nums.length = ks.length := by
          simp only [List.length_map] at e
          simp at e
          omega
        have hc1 := s1 _ _ hc
        refine ⟨_, rfl, _, rfl, p, kt, nums.map V.int, ks.map V.str, rfl, sqL_l hp1, hkt.sq _, fun D nD => ?_⟩
        have pD : p ≠ D := ne_of_none hp1 nD
        refine lc_it (walk_zipM (xs := nums.map V.int) (ys := ks.map V.str) (n := nums.length) (by simp [heq])) (fun i H' => ∃ bs : List Bool, bs.length = i ∧ H' D = some (.lst (bs.map V.bl)) ∧ Same H1 H' ∧
            ∀ (j : Nat) (n : Int) (k : Str), j < i → nums[j]? = some n → ks[j]? = some k → bs[j]? = some (decide (0 ≤ n) && decide (n < cap cnt cells k)))
          ⟨[], rfl, upd_same, same_new nD, fun j _ _ hj => absurd hj (by omega)⟩ (fun i H' _ hp => by obtain ⟨_, _, _, sm, _⟩ := hp; exact ⟨sqL_l (sm _ _ hp1), hkt.sq _⟩) (fun i x H2 H3 hi hp hy => ?_) (fun H2 hp => ?_)
        · obtain ⟨bs, b1, b2, sm, ball⟩ := hp
          obtain ⟨T, v1, v2, rfl, nT, _, e1, e2, s3, hT⟩ := pair_at hy
          obtain ⟨n, hn, rfl⟩ : ∃ n, nums[i]? = some n ∧ V.int n = v1 := by rw [List.getElem?_map] at e1; simpa using e1
          obtain ⟨k, hk2, rfl⟩ : ∃ k, ks[i]? = some k ∧ V.str k = v2 := by rw [List.getElem?_map] at e2; simpa using e2
          have TD : D ≠ T := ne_of_none b2 nT
          have hb3 : H3 D = some (.lst (bs.map V.bl)) := s3 _ _ b2
          have hget : DGet H3 c (.str k) (some (.int (cap cnt cells k))) := counts_at (ks := ks) (s3 _ _ (sm _ _ hc1)) (kinds_known hk k (List.mem_of_getElem? hk2))
          have fin : ∀ r : Bool, r = (decide (0 ≤ n) && decide (n < cap cnt cells k)) → ∃ acc, H3 D = some (.lst acc) ∧ acc.length < sizeLine ∧ ∃ bs : List Bool, bs.length = i + 1 ∧ (upd H3 D (.lst (acc ++ [.bl r]))) D = some (.lst (bs.map V.bl)) ∧ Same H1 (upd H3 D (.lst (acc ++ [.bl r]))) ∧
              ∀ (j : Nat) (n : Int) (k : Str), j < i + 1 → nums[j]? = some n → ks[j]? = some k → bs[j]? = some (decide (0 ≤ n) && decide (n < cap cnt cells k)) := fun r hr => by
            refine ⟨_, hb3, by rw [List.length_map]; exact fits (by omega), bs ++ [r], by simp [b1], by rw [upd_same, List.map_append]; rfl, fun u o hu => ?_, fun j n' k' hj f1 f2 => ?_⟩
            · rw [upd_ne (ne_of_none hu nD)]; exact s3 _ _ (sm _ _ hu)
            · by_cases hji : j < i
              · rw [List.getElem?_append_left (by omega)]
                exact ball j n' k' hji f1 f2
              · have : j = i := by omega
                subst this
                rw [hn] at f1; cases f1
                rw [hk2] at f2; cases f2
                rw [List.getElem?_append_right (by omega), b1, Nat.sub_self, hr]; rfl
          refine ⟨T, _, rfl, sqT_t hT, rfl, _, _, rfl, _, _, rfl, rfl, rfl, ?_⟩
          refine ⟨_, rfl, _, _, rfl, rfl, _, rfl, ?_⟩
          by_cases h0 : (0 : Int) ≤ n
          · rw [decide_eq_true h0]
            refine iteT ⟨_, rfl, _, rfl, c, _, rfl, hget, _, _, rfl, rfl, ?_⟩
            exact fin _ (by rw [decide_eq_true h0]; rfl)
          · rw [decide_eq_false h0]
            exact iteF (fin _ (by rw [decide_eq_false h0]; rfl))
        · obtain ⟨bs, b1, b2, sm, ball⟩ := hp
          refine ⟨D, bs, rfl, sqL_l b2, ?_⟩
          have := q H2 (s1.trans sm)
          rw [show deedCan cnt cells ⟨wd, nums⟩ = bs.all id by
            simp only [deedCan, hk]
            exact (numsCan_all heq bs b1 fun j n k e1 e2 => ball j n k (by have := (List.getElem?_eq_some_iff.mp e1).1; omega) e1 e2).symm] at this
          exact this
theorem starts_take {prog : List RDeed} {i : Nat} {d : RDeed} (h : prog[i]? = some d) : ((prog.take (i + 1)).filter rStart).length = ((prog.take i).filter rStart).length + (if rStart d then 1 else 0) := by
  rw [List.take_add_one, h]
  exact filter_app _ _ _
abbrev st_counts_of_things : Stmt := (topS 22)
abbrev nm_counts_of_things : List Str := ["order_count", "cell_count"]
theorem sc_counts_of_things : FnScope ["order_count", "cell_count"] ["order_count", "cell_count"] (defScope st_counts_of_things) := ⟨rfl, rfl, rfl, by decide +kernel, rfl, by decide +kernel, by decide +kernel⟩
def spCounts : Sp := fun vs H Q _ => ∃ (cnt cells : Int), vs = [.int cnt, .int cells] ∧ ∀ (c : Addr) H', H c = none → H' c = some (.dK (countsK cnt cells)) → Same H H' → Q (.ref c) H'
theorem ok_counts {f : Addr} {fd : FuncData} (F : Fun K "counts_of_things" "counts_of_things" st_counts_of_things f fd) (C : Consts K mg) : FnOk P w K mg base CX0 1 f fd ["order_count", "cell_count"] spCounts := by
  obtain ⟨tN, mc_NUMBERS⟩ := C.numbers
  obtain ⟨tL, mc_LINE⟩ := C.line
  refine F.ok sc_counts_of_things (fun vs H Q E h => ?_) (fun cdv A outer s H vs Q E hr h => ?_)
  · obtain ⟨cnt, cells, rfl, _⟩ := h
    rfl
  · obtain ⟨cnt, cells, rfl, q⟩ := h
    refine ⟨_, (pss_one (ps_ret (pe_disp (pps_cons pe_str (pv 1) (pps_cons pe_str (pe_glob (v := .int 10) rfl mc_NUMBERS ⟨_, rfl⟩) (pps_cons pe_str (pv 0) (pps_cons pe_str (pe_op op_fdiv (pv 1) (pe_glob (v := .int 4) rfl mc_LINE ⟨_, rfl⟩)) pps_nil)))) (by rfl) (by rfl) (fun z => by cases z) (by decide)))), ?_⟩
    refine fun c nc => ?_
    refine ⟨_, rfl, _, rfl, _, rfl, _, _, rfl, rfl, ⟨by decide, by decide⟩, upd_same, countsK cnt cells, rfl, (by show 4 ≤ 15; decide), ?_⟩
    refine q c _ nc ?_ ?_
    · rw [upd_same]; rfl
    · rw [upd_upd]; exact same_new nc
abbrev st_first_wrong_deed : Stmt := (topS 21)
abbrev nm_first_wrong_deed : List Str := ["program", "order_count", "cell_count", "counts", "starts", "at", "deed"]
theorem sc_first_wrong_deed : FnScope ["program", "order_count", "cell_count", "counts", "starts", "at", "deed"] ["program", "order_count", "cell_count"] (defScope st_first_wrong_deed) := ⟨rfl, rfl, rfl, by decide +kernel, rfl, by decide +kernel, by decide +kernel⟩
def spFwDeed (K : PySem.W.Frag) (w : World) (dd : Addr) : Sp := fun vs H Q _ => ∃ (a : Addr) (ps : List V) (prog : List RDeed) (cnt cells : Int), vs = [.ref a, .int cnt, .int cells] ∧ H a = some (.tup ps) ∧ Pds H ps (prog.map RDeed.d) ∧ (∀ d ∈ prog, d.nums.length ≤ 1000) ∧
  (∀ d ∈ prog, kindsOf d.word = none → KMiss K w dd d.word) ∧ ∀ H', Same H H' → Q (oV (fwDeed prog cnt cells)) H'
theorem ok_fwdeed {f dd : Addr} {fd : FuncData} (F : Fun K "first_wrong_deed" "first_wrong_deed" st_first_wrong_deed f fd) (C : Consts K mg) (c_deed_can_be : Callee P w K mg base "deed_can_be" 1 2 (spDeedCan K w dd)) (c_counts_of_things : Callee P w K mg base "counts_of_things" 1 2 spCounts) (z_enumerate : mg "enumerate" = none) :
    FnOk P w K mg base CX0 2 f fd ["program", "order_count", "cell_count"] (spFwDeed K w dd) := by
  obtain ⟨tN, mc_NUMBERS⟩ := C.numbers
  obtain ⟨tL, mc_LINE⟩ := C.line
  obtain ⟨tD, mc_MOST_DEEDS⟩ := C.deeds
  obtain ⟨tS, mc_MOST_STARTS⟩ := C.starts
  refine F.ok sc_first_wrong_deed (fun vs H Q E h => ?_) (fun cdv A outer s H vs Q E hr h => ?_)
  · obtain ⟨a, ps, prog, cnt, cells, rfl, _⟩ := h
    rfl
  · obtain ⟨a, ps, prog, cnt, cells, rfl, ha, hs, hnum, hmiss, q⟩ := h
    have plen : ps.length = prog.length := by rw [hs.len, List.length_map]
    refine ⟨_, (pss_cons (ps_set (i := 3) sc_first_wrong_deed.nd rfl (Or.inl rfl) (pe_cal c_counts_of_things hr (by first | decide | exact Nat.le_refl _) (pa_cons (pv 1) (pa_cons (pv 2) pa_nil))))
  (pss_cons (ps_set (i := 4) sc_first_wrong_deed.nd rfl (Or.inl rfl) pe_int)
  (pss_cons (ps_for PassesOwn.never rfl (pi_enumT (by rfl) z_enumerate (pa_cons (pv 0) pa_nil)) (pg_tup rfl (pgs_cons (pg_name (i := 5) sc_first_wrong_deed.nd rfl (Or.inl rfl)) (pgs_cons (pg_name (i := 6) sc_first_wrong_deed.nd rfl (Or.inl rfl)) pgs_nil)))
  (pss_cons (ps_if (PW.pt (pw_or (pt_cmpR op_eq (pv 5) (pe_glob (v := .int 60) rfl mc_MOST_DEEDS ⟨_, rfl⟩) (nomark _)) (pw_or1 (pt_not (pt_val (pe_cal c_deed_can_be hr (by first | decide | exact Nat.le_refl _) (pa_cons (pv 6) (pa_cons (pv 3) pa_nil)))))))) (pss_one (ps_ret (pv 5))) pss_nil)
  (pss_cut (ps_if (pt_cmpR op_eq (pe_ix ix_lt (pv 6) pe_int (fun _ _ => rfl)) pe_str (nomark _)) (pss_one (ps_aug (i := 4) sc_first_wrong_deed.nd rfl (Or.inl rfl) pe_int ip_add)) pss_nil)
  (pss_one (ps_if (pt_cmpR op_gt (pv 4) (pe_glob (v := .int 3) rfl mc_MOST_STARTS ⟨_, rfl⟩) (nomark _)) (pss_one (ps_ret (pv 5))) pss_nil)))))
  (pss_one (ps_ret pe_non))))), ?_⟩
    -- counts
    refine ⟨_, rfl, _, rfl, cnt, cells, rfl, fun c H1 nc hc1 s1 => ?_⟩
    refine ⟨_, rfl, a, rfl, .inr ⟨_, sqT_t (s1 _ _ ha), ?_⟩⟩
    refine for_it (walk_enumT (xs := ps)) (fun i σ H' => ∃ y1 y2, σ = [some (.ref a), some (.int cnt), some (.int cells), some (.ref c), some (.int (((prog.take i).filter rStart).length : Nat)), y1, y2] ∧ Same H1 H' ∧
        ∀ (j : Nat) (d : RDeed), j < i → prog[j]? = some d → badDeed prog cnt cells j d = false)
      ⟨_, _, rfl, Same.refl _, fun j n hj => absurd hj (by omega)⟩ (fun i σ H' _ hp => by obtain ⟨_, _, _, sm, _⟩ := hp; exact sqT_t ((s1.trans sm) _ _ ha)) (fun i x σ H2 H3 hi hp hy => ?_) (fun σ H2 hp => ?_)
    · obtain ⟨y1, y2, rfl, sm, hall⟩ := hp
      obtain ⟨T, a1, b, rfl, nT, _, h1, hb, s2, hT⟩ := pair_at hy
      cases h1
      obtain ⟨dx, hd, hpd⟩ := hs.get' hb
      rw [List.getElem?_map] at hd
      obtain ⟨d, ho, rfl⟩ : ∃ d, prog[i]? = some d ∧ d.d = dx := by simpa using hd
      have hmem : d ∈ prog := List.mem_of_getElem? ho
      have s13 : Same H H3 := (s1.trans sm).trans s2
      obtain ⟨oa, rfl, hoa⟩ := RDeed.of (hpd.same s13)
      have ret : ∀ H', Same H3 H' → badDeed prog cnt cells i d = true → Q (nV i) H' := fun H' s4 hb => by
        have := q H' (s13.trans s4)
        rw [fwDeed, fst_some (i := i) ho (by rw [Nat.zero_add]; exact hb) fun j y hj ej => by rw [Nat.zero_add]; exact hall j y hj ej, Nat.zero_add] at this
        exact this
      refine ⟨T, _, rfl, sqT_t hT, rfl, _, _, rfl, _, _, rfl, rfl, ?_⟩
      refine ⟨_, rfl, rfl, _, rfl, ite2 (fun e => iteT ?_) (fun e => ?_)⟩
      · have e4 : (i : Int) = 60 := by injection of_decide_eq_true e
        have e4' : i = 60 := by omega
        exact ⟨_, rfl, ret H3 (Same.refl _) (by simp [badDeed, e4'])⟩
      · have n4 : ¬ i = 60 := fun z => e (by rw [z]; rfl)
        refine ⟨_, rfl, _, rfl, oa, c, d, cnt, cells, rfl, hoa, hnum d hmem, (sm.trans s2) _ _ hc1, hmiss d hmem, fun H4 s4 => ⟨_, rfl, ite2 (fun e => ⟨_, rfl, ret H4 s4 ?_⟩) (fun e => ?_)⟩⟩
        · simp only [badDeed, e, Bool.or_true, Bool.true_or]
        have can : deedCan cnt cells d = true := by simpa using e
        -- if deed[0] == "start": starts += 1
        refine ⟨fun σ' H' => σ' = [some (.ref a), some (.int cnt), some (.int cells), some (.ref c), some (.int (((prog.take (i + 1)).filter rStart).length : Nat)), some (.int (i : Nat)), some (.ref oa)] ∧ H' = H4, ?_, fun σ' H' hM => ?_⟩
        · refine ⟨_, rfl, oa, _, 0, .str d.word, rfl, rfl, sqA_t (s4 _ _ hoa), at0, rfl, _, rfl, ite2 (fun e => ?_) (fun e => ?_)⟩
          · have ew : d.word = "start" := by injection of_decide_eq_true e
            refine ⟨_, rfl, _, _, rfl, rfl, ?_, rfl⟩
            rw [starts_take ho, if_pos (by simp [rStart, ew])]
            rfl
          · have ew : ¬ d.word = "start" := fun z => e (by rw [z]; exact decide_eq_true rfl)
            refine ⟨?_, rfl⟩
            rw [starts_take ho, if_neg (by simp [rStart, ew])]
            rfl
        · obtain ⟨rfl, rfl⟩ := hM
          refine ⟨_, rfl, _, _, rfl, rfl, _, rfl, ite2 (fun e => ⟨_, rfl, ret _ s4 ?_⟩) (fun e => ?_)⟩
          · have h3 : 3 < ((prog.take (i + 1)).filter rStart).length := by have := of_decide_eq_true e; omega
            simp only [badDeed, decide_eq_true h3, Bool.or_true]
          · have h3 : ¬ 3 < ((prog.take (i + 1)).filter rStart).length := fun z => e (decide_eq_true (by omega))
            refine ⟨_, _, rfl, (sm.trans s2).trans s4, fun j y hj ej => ?_⟩
            by_cases hji : j < i
            · exact hall j y hji ej
            · have : j = i := by omega
              subst this
              rw [ho] at ej; cases ej
              simp only [badDeed, can, decide_eq_false n4, decide_eq_false h3]; rfl
    · obtain ⟨y1, y2, rfl, sm, hall⟩ := hp
      have := q H2 (s1.trans sm)
      rw [fwDeed, fst_none fun i x e => by
        rw [Nat.zero_add]
        exact hall i x (by have := (List.getElem?_eq_some_iff.mp e).1; omega) e] at this
      exact this
end
end Vt
namespace Vt
open PySem PySem.Spec PyProof.Rows L2
/-! ### boards that can be -/
theorem kinds_deed (d : Deed) : ∃ ks, kindsOf d.word = some ks ∧ ks.length = d.args.length := by
  cases d
  · exact ⟨["cell", "number"], rfl, rfl⟩
  · exact ⟨["cell", "cell"], rfl, rfl⟩
  · exact ⟨["cell"], rfl, rfl⟩
  · exact ⟨["order"], rfl, rfl⟩
  · exact ⟨[], rfl, rfl⟩
  · exact ⟨["line"], rfl, rfl⟩
  · exact ⟨["line"], rfl, rfl⟩
theorem can_deed {d : Deed} {cnt cells : Nat} (h : DeedOk d cnt cells) : deedCan cnt cells d.raw = true := by
  have c1 : ∀ a b : Int, cap a b "cell" = b := fun _ _ => rfl
  have c2 : ∀ a b : Int, cap a b "number" = 10 := fun _ _ => rfl
  have c3 : ∀ a b : Int, cap a b "order" = a := fun _ _ => rfl
  have c4 : ∀ a b : Int, cap a b "line" = b / 4 := fun _ _ => rfl
  cases d with
  | set c n =>
    obtain ⟨h1, h2⟩ := h
    have e : kindsOf "set" = (some ["cell", "number"] : Option (List Str)) := by decide
    simp only [deedCan, Deed.raw, Deed.word, Deed.args, e, List.map_cons, List.map_nil, numsCan, c1, c2, Bool.and_true, Bool.and_eq_true, decide_eq_true_eq]
    omega
  | add c n =>
    obtain ⟨h1, h2⟩ := h
    have e : kindsOf "add" = (some ["cell", "cell"] : Option (List Str)) := by decide
    simp only [deedCan, Deed.raw, Deed.word, Deed.args, e, List.map_cons, List.map_nil, numsCan, c1, c2, Bool.and_true, Bool.and_eq_true, decide_eq_true_eq]
    omega
  | say c =>
    have h1 : c < cells := h
    have e : kindsOf "say" = (some ["cell"] : Option (List Str)) := by decide
    simp only [deedCan, Deed.raw, Deed.word, Deed.args, e, List.map_cons, List.map_nil, numsCan, c1, c2, Bool.and_true, Bool.and_eq_true, decide_eq_true_eq]
    omega
  | start c =>
    have h1 : c < cnt := h
    have e : kindsOf "start" = (some ["order"] : Option (List Str)) := by decide
    simp only [deedCan, Deed.raw, Deed.word, Deed.args, e, List.map_cons, List.map_nil, numsCan, c3, Bool.and_true, Bool.and_eq_true, decide_eq_true_eq]
    omega
  | wait =>
    have e : kindsOf "wait" = (some [] : Option (List Str)) := by decide
    simp only [deedCan, Deed.raw, Deed.word, Deed.args, e, List.map_nil, numsCan]
  | clean c =>
    have h1 : c < cells / 4 := h
    have e : kindsOf "clean" = (some ["line"] : Option (List Str)) := by decide
    simp only [deedCan, Deed.raw, Deed.word, Deed.args, e, List.map_cons, List.map_nil, numsCan, c4, Bool.and_true, Bool.and_eq_true, decide_eq_true_eq]
    omega
  | drop c =>
    have h1 : c < cells / 4 := h
    have e : kindsOf "drop" = (some ["line"] : Option (List Str)) := by decide
    simp only [deedCan, Deed.raw, Deed.word, Deed.args, e, List.map_cons, List.map_nil, numsCan, c4, Bool.and_true, Bool.and_eq_true, decide_eq_true_eq]
    omega
theorem can_ord {o : Ord} {at_ cnt cells : Nat} (h : OrdOk o at_ cnt cells) : ordCan cnt cells at_ o.raw = true := by
  obtain ⟨h1, h2, h3, h4, h5⟩ := h
  have hl : laterCan cnt at_ o.raw.later = true := by
    obtain ⟨s, g, m, l⟩ := o
    cases l with
    | none => rfl
    | some k =>
      have := h5 k rfl
      show (decide ((at_ : Int) < (k : Int)) && decide ((k : Int) < (cnt : Int))) = true
      rw [Bool.and_eq_true, decide_eq_true_eq, decide_eq_true_eq]
      omega
  simp only [ordCan, hl, Bool.and_true, Bool.and_eq_true, decide_eq_true_eq]
  simp only [Ord.raw]
  refine ⟨⟨⟨⟨⟨?_, ?_⟩, ?_⟩, ?_⟩, ?_⟩, ?_⟩ <;> omega
theorem ok_mem {B : Brd} (h : BrdOk B) : fwCell B.raw.mem = none := by
  have hl : B.raw.mem.length = B.mem.length := by simp [Brd.raw]
  rw [fwCell, if_pos (by rw [hl]; exact h.cells)]
  refine fst_none fun i x e => ?_
  obtain ⟨n, hn, rfl⟩ : ∃ n, B.mem[i]? = some n ∧ (n : Int) = x := by
    simp only [Brd.raw, List.getElem?_map] at e
    simpa using e
  have := h.nums n (List.mem_of_getElem? hn)
  simp [badNum]; omega
theorem ok_ords {B : Brd} (h : BrdOk B) : fwOrd B.raw.ords B.mem.length = none := by
  refine fst_none fun i x e => ?_
  obtain ⟨o, ho, rfl⟩ : ∃ o, B.ords[i]? = some o ∧ o.raw = x := by
    simp only [Brd.raw, List.getElem?_map] at e
    simpa using e
  have hl : B.raw.ords.length = B.ords.length := by simp [Brd.raw]
  have hi : i < B.ords.length := (List.getElem?_eq_some_iff.mp ho).1
  have := h.four
  rw [Nat.zero_add, badOrd, hl, can_ord (h.ords i o ho)]
  simp; omega
theorem rstart_raw (d : Deed) : rStart d.raw = isStart d := by
  have := word_start d
  simp only [rStart, Deed.raw]
  cases h : isStart d with
  | true => exact decide_eq_true (this.mpr h)
  | false => exact decide_eq_false fun z => by rw [this.mp z] at h; cases h
theorem ok_prog {B : Brd} (h : BrdOk B) : fwDeed B.raw.prog B.ords.length B.mem.length = none := by
  refine fst_none fun i x e => ?_
  obtain ⟨d, hd, rfl⟩ : ∃ d, B.prog[i]? = some d ∧ d.raw = x := by
    simp only [Brd.raw, List.getElem?_map] at e
    simpa using e
  have hi : i < B.prog.length := (List.getElem?_eq_some_iff.mp hd).1
  have h60 := h.sixty
  have hs : ((B.raw.prog.take (i + 1)).filter rStart).length ≤ 3 := by
    have e1 : (B.raw.prog.take (i + 1)).filter rStart = ((B.prog.take (i + 1)).filter isStart).map Deed.raw := by
      simp only [Brd.raw, ← List.map_take, List.filter_map]
      congr 1
      exact List.filter_congr fun d _ => rstart_raw d
    rw [e1, List.length_map]
    exact Nat.le_trans (List.Sublist.length_le ((List.take_sublist _ _).filter _)) h.starts
  rw [Nat.zero_add, badDeed, can_deed (h.prog d (List.mem_of_getElem? hd)), decide_eq_false (show ¬ i = 60 by omega), decide_eq_false (show ¬ 3 < _ by omega)]
  rfl
section
variable {P : Program} {w : World} {K : PySem.W.Frag} {mg : Str → Option Value} {base : Heap}
abbrev st_require_board : Stmt := (topS 17)
abbrev nm_require_board : List Str := ["board", "memory", "orders", "program", "wrong"]
theorem sc_require_board : FnScope ["board", "memory", "orders", "program", "wrong"] ["board"] (defScope st_require_board) := ⟨rfl, rfl, rfl, by decide +kernel, rfl, by decide +kernel, by decide +kernel⟩
/-- a board that can be is let through -/
def spReq : Sp := fun vs H Q _ => ∃ (v : V) (B : Brd), vs = [v] ∧ Pd H v B.d ∧ BrdOk B ∧ ∀ H', Same H H' → Q .non H'
theorem ok_req {f dd : Addr} {fd : FuncData} (F : Fun K "require_board" "require_board" st_require_board f fd) (c_first_wrong_cell : Callee P w K mg base "first_wrong_cell" 1 1 spFwCell) (c_first_wrong_order : Callee P w K mg base "first_wrong_order" 2 2 spFwOrd)
    (c_first_wrong_deed : Callee P w K mg base "first_wrong_deed" 2 3 (spFwDeed K w dd)) (z_len : mg "len" = none) : FnOk P w K mg base CX0 3 f fd ["board"] spReq := by
  refine F.ok sc_require_board (fun vs H Q E h => ?_) (fun cdv A outer s H vs Q E hr h => ?_)
  · obtain ⟨v, B, rfl, _⟩ := h
    rfl
  · obtain ⟨v, B, rfl, hB, ok, q⟩ := h
    rw [← raw_brd] at hB
    obtain ⟨a, m, o, p, os, ps, rfl, ha, hm, ho, hos, hp, hps⟩ := RBrd.of hB
    refine ⟨_, (pss_cons (ps_asg (pv 0) (pg_tup rfl (pgs_cons (pg_name (i := 1) sc_require_board.nd rfl (Or.inl rfl)) (pgs_cons (pg_name (i := 2) sc_require_board.nd rfl (Or.inl rfl)) (pgs_cons (pg_name (i := 3) sc_require_board.nd rfl (Or.inl rfl)) pgs_nil)))))
  (pss_cons (ps_set (i := 4) sc_require_board.nd rfl (Or.inl rfl) (pe_cal c_first_wrong_cell hr (by first | decide | exact Nat.le_refl _) (pa_cons (pv 1) pa_nil)))
  (pss_cons (ps_if (pt_cmpR op_notN (pv 4) pe_non (nomark _)) (pss_one ps_never) pss_nil)
  (pss_cons (ps_set (i := 4) sc_require_board.nd rfl (Or.inl rfl) (pe_cal c_first_wrong_order hr (by first | decide | exact Nat.le_refl _) (pa_cons (pv 2) (pa_cons (pe_callB call_len_seq (by rfl) z_len (by decide +kernel) (pa_cons (pv 1) pa_nil)) pa_nil))))
  (pss_cons (ps_if (pt_cmpR op_notN (pv 4) pe_non (nomark _)) (pss_one ps_never) pss_nil)
  (pss_cons (ps_set (i := 4) sc_require_board.nd rfl (Or.inl rfl) (pe_cal c_first_wrong_deed hr (by first | decide | exact Nat.le_refl _) (pa_cons (pv 3) (pa_cons (pe_callB call_len_seq (by rfl) z_len (by decide +kernel) (pa_cons (pv 2) pa_nil)) (pa_cons (pe_callB call_len_seq (by rfl) z_len (by decide +kernel) (pa_cons (pv 1) pa_nil)) pa_nil)))))
  (pss_one (ps_if (pt_cmpR op_notN (pv 4) pe_non (nomark _)) (pss_one ps_never) pss_nil)))))))), ?_⟩
    refine ⟨_, rfl, a, _, rfl, sqT_t ha, rfl, _, _, rfl, _, _, rfl, _, _, rfl, rfl, ?_⟩
    have ml : (B.raw.mem.map V.int).length = B.mem.length := by simp [Brd.raw]
    have ol : os.length = B.ords.length := by rw [hos.len]; simp [Brd.raw]
    refine ⟨_, rfl, m, _, rfl, hm, fun H1 s1 => ?_⟩
    rw [ok_mem ok]
    refine ⟨_, rfl, rfl, _, rfl, iteF ?_⟩
    refine ⟨_, rfl, _, rfl, m, _, rfl, .inr (sqT_t (s1 _ _ hm)), o, os, B.raw.ords, _, rfl, s1 _ _ ho, hos.same s1, fun H2 s2 => ?_⟩
    rw [show fwOrd B.raw.ords ((B.raw.mem.map V.int).length : Nat) = none by rw [ml]; exact ok_ords ok]
    refine ⟨_, rfl, rfl, _, rfl, iteF ?_⟩
    have s12 := s1.trans s2
    refine ⟨_, rfl, _, rfl, o, _, rfl, .inr (sqT_t (s12 _ _ ho)), _, rfl, m, _, rfl, .inr (sqT_t (s12 _ _ hm)), p, ps, B.raw.prog, _, _, rfl, s12 _ _ hp, hps.same s12, fun d hd => ?_, fun d hd hk => ?_, fun H3 s3 => ?_⟩
    · obtain ⟨d0, _, rfl⟩ := List.mem_map.mp hd
      have : d0.raw.nums.length = d0.args.length := by simp [Deed.raw]
      rw [this]
      cases d0 <;> simp [Deed.args]
    · obtain ⟨d0, _, rfl⟩ := List.mem_map.mp hd
      obtain ⟨ks, e, _⟩ := kinds_deed d0
      rw [show d0.raw.word = d0.word from rfl, e] at hk; cases hk
    rw [show fwDeed B.raw.prog (os.length : Nat) ((B.raw.mem.map V.int).length : Nat) = none by rw [ml, ol]; exact ok_prog ok]
    exact ⟨_, rfl, rfl, _, rfl, iteF (q H3 (s12.trans s3))⟩
end
end Vt
namespace Vt
open PySem PySem.Spec PyProof.Rows L2
/-! ### what a chain of orders tells to move -/
structure Mv where
  src : Nat
  goal : Nat
  bell : Option Nat
def Mv.d (m : Mv) : D := .tup [nD m.src, nD m.goal, oD m.bell]
def Mv.vs (m : Mv) : List V := [nV m.src, nV m.goal, oV m.bell]
theorem Mv.pd {H : Hp} {m : Mv} {a : Addr} (h : H a = some (.tup m.vs)) : Pd H (.ref a) m.d := .tup h (.cons (.int _) (.cons (.int _) (.cons (pd_o _) .nil)))
theorem Mv.of {H : Hp} {m : Mv} {v : V} (h : Pd H v m.d) : ∃ a, v = .ref a ∧ H a = some (.tup m.vs) := by
  obtain ⟨s, g, l⟩ := m
  cases h with
  | tup h hs =>
    cases hs with
    | cons h1 hs => cases h1; cases hs with
      | cons h2 hs => cases h2; cases hs with
        | cons h4 hs =>
          cases hs
          refine ⟨_, rfl, ?_⟩
          cases l with
          | none => cases h4; exact h
          | some k => cases h4; exact h
theorem noL_mv (m : Mv) : m.d.noL = true := by
  obtain ⟨s, g, l⟩ := m
  cases l <;> simp [Mv.d, D.noL, noLs, nD, oD]
def mvAt (o : Ord) (at_ s : Nat) : Mv := ⟨o.src + s, o.goal + s, if s + 1 = o.many then some at_ else none⟩
def movesOf (o : Ord) (at_ : Nat) : List Mv := (List.range o.many).map (mvAt o at_)
def chain (ords : List Ord) : Nat → Option Nat → List Mv
  | _, none => []
  | 0, some _ => []
  | f + 1, some k => match ords[k]? with
    | none => []
    | some o => movesOf o k ++ chain ords f o.later
def told (ords : List Ord) (k : Nat) : List Mv := chain ords 4 (some k)
theorem movesOf_take {o : Ord} {at_ i : Nat} (h : i < o.many) : (movesOf o at_).take (i + 1) = (movesOf o at_).take i ++ [mvAt o at_ i] := by
  rw [List.take_add_one]
  congr 1
  rw [movesOf, List.getElem?_map, List.getElem?_range h]; rfl
theorem movesOf_len {o : Ord} {at_ : Nat} : (movesOf o at_).length = o.many := by simp [movesOf]
theorem chain_len (ords : List Ord) (hm : ∀ o ∈ ords, o.many ≤ 8) : ∀ f k, (chain ords f k).length ≤ 8 * f
  | 0, none => by simp [chain]
  | 0, some _ => by simp [chain]
  | f + 1, none => by simp [chain]
  | f + 1, some k => by
    rw [chain]
    split
    · simp
    · rename_i o e
      have := chain_len ords hm f o.later
      have := hm o (List.mem_of_getElem? e)
      rw [List.length_append, movesOf_len]; omega
theorem told_len {ords : List Ord} (hm : ∀ o ∈ ords, o.many ≤ 8) (k : Nat) : (told ords k).length ≤ 32 := chain_len ords hm 4 _
/-- a measure of what is left of a chain -/
def leftAt (i n : Nat) (σ : L2.St) : Nat := match σ[i]? with
  | some (some (.int k)) => n - k.toNat
  | _ => 0
def spMoves : Sp := fun vs H Q _ => ∃ (a : Addr) (os : List V) (ords : List Ord) (cells k : Nat), vs = [.ref a, nV k] ∧ H a = some (.tup os) ∧ Pds H os (ords.map Ord.d) ∧ ords.length ≤ 4 ∧ (∀ (i : Nat) (o : Ord), ords[i]? = some o → OrdOk o i ords.length cells) ∧ k < ords.length ∧
  ∀ (H' : Hp) (p : Addr) (xs : List V), Same H H' → H p = none → H' p = some (.lst xs) → Pds H' xs ((told ords k).map Mv.d) → Q (.ref p) H'
end Vt
namespace Vt
open PySem PySem.Spec PyProof.Rows L2
section
variable {P : Program} {w : World} {K : PySem.W.Frag} {mg : Str → Option Value} {base : Heap}
abbrev st_moves_told : Stmt := (topS 24)
abbrev nm_moves_told : List Str := ["orders", "first", "moves", "at", "source", "goal", "many", "later", "step", "bell"]
theorem sc_moves_told : FnScope ["orders", "first", "moves", "at", "source", "goal", "many", "later", "step", "bell"] ["orders", "first"] (defScope st_moves_told) := ⟨rfl, rfl, rfl, by decide +kernel, rfl, by decide +kernel, by decide +kernel⟩
theorem ok_moves {f : Addr} {fd : FuncData} (F : Fun K "moves_told" "moves_told" st_moves_told f fd) (z_range : mg "range" = none) : FnOk P w K mg base CX0 1 f fd ["orders", "first"] spMoves := by
  refine F.ok sc_moves_told (fun vs H Q E h => ?_) (fun cdv A outer s H vs Q E hr h => ?_)
  · obtain ⟨a, os, ords, cells, k, rfl, _⟩ := h
    rfl
  · obtain ⟨a, os, ords, cells, k0, rfl, ha, hos, h4, hok, hk0, q⟩ := h
    refine ⟨_, (pss_cons (ps_set (i := 2) sc_moves_told.nd rfl (Or.inl rfl) (pe_lst pa_nil))
  (pss_cons (ps_set (i := 3) sc_moves_told.nd rfl (Or.inl rfl) (pv 1))
  (pss_cons (ps_while PassesOwn.never (pt_cmpR op_notN (pv 3) pe_non (nomark _))
  (pss_cons (ps_asg (pe_ix ix_lt (pv 0) (pv 3) (fun _ _ => rfl)) (pg_tup rfl (pgs_cons (pg_name (i := 4) sc_moves_told.nd rfl (Or.inl rfl)) (pgs_cons (pg_name (i := 5) sc_moves_told.nd rfl (Or.inl rfl)) (pgs_cons (pg_name (i := 6) sc_moves_told.nd rfl (Or.inl rfl)) (pgs_cons (pg_name (i := 7) sc_moves_told.nd rfl (Or.inl rfl)) pgs_nil))))))
  (pss_cons (ps_for PassesOwn.never rfl (pi_range1 (by rfl) z_range (pa_cons (pv 6) pa_nil)) (pg_name (i := 8) sc_moves_told.nd rfl (Or.inl rfl))
  (pss_cons (ps_set (i := 9) sc_moves_told.nd rfl (Or.inl rfl) (pe_ifExp (pt_cmpR op_eq (pv 8) (pe_op op_sub (pv 6) pe_int) (nomark _)) (pv 3) pe_non))
  (pss_one (ps_expr (pe_bm PySem.F.plainAttrs_list PySem.F.slot_list_append PySem.F.type_list_append mt_append (pv 2) (pa_cons (pe_tup (pa_cons (pe_op op_add (pv 4) (pv 8)) (pa_cons (pe_op op_add (pv 5) (pv 8)) (pa_cons (pv 9) pa_nil)))) pa_nil))))))
  (pss_one (ps_set (i := 3) sc_moves_told.nd rfl (Or.inl rfl) (pv 7))))))
  (pss_one (ps_ret (pv 2)))))), ?_⟩
    refine ⟨Nat.zero_le _, fun p np => ?_⟩
    refine ⟨_, rfl, ?_⟩
    have olen : os.length = ords.length := by rw [hos.len, List.length_map]
    refine while_by (fun σ H' => ∃ (y4 y5 y6 y7 y8 y9 : Option V) (at_ : Option Nat) (f : Nat) (done : List Mv) (xs : List V), σ = [some (.ref a), some (nV k0), some (.ref p), some (oV at_), y4, y5, y6, y7, y8, y9] ∧ H' p = some (.lst xs) ∧ Pds H' xs (done.map Mv.d) ∧
        done ++ chain ords f at_ = told ords k0 ∧ (∀ k, at_ = some k → k < ords.length ∧ ords.length ≤ k + f) ∧ Same H H') (fun σ _ => leftAt 3 ords.length σ)
      ⟨_, _, _, _, _, _, some k0, 4, [], [], rfl, upd_same, .nil, rfl, fun k e => by cases e; omega, same_new np⟩ (fun σ H1 hp => ?_) (fun σ H1 Q1 Q2 hq h => by obtain ⟨v, e, e2, k, e3, h⟩ := h; exact ⟨v, e, e2, k, e3, hq _ _ h⟩)
    obtain ⟨y4, y5, y6, y7, y8, y9, at_, f, done, xs, rfl, hx, hpx, hd, hat, sm⟩ := hp
    refine ⟨_, rfl, rfl, _, rfl, ?_⟩
    cases at_ with
    | none =>
      refine iteF ⟨_, rfl, ?_⟩
      have : done = told ords k0 := by rw [← hd]; cases f <;> simp [chain]
      subst this
      exact q _ p xs sm np hx hpx
    | some k =>
      refine iteT ?_
      obtain ⟨hk, hf⟩ := hat k rfl
      obtain ⟨o, ho⟩ : ∃ o, ords[k]? = some o := ⟨ords[k], List.getElem?_eq_getElem hk⟩
      have oo := hok k o ho
      obtain ⟨v, hv, hpd⟩ := (hos.same sm).get (show (ords.map Ord.d)[k]? = some o.d by rw [List.getElem?_map, ho]; rfl)
      obtain ⟨oa, rfl, hoa⟩ := Ord.of hpd
      obtain ⟨f, rfl⟩ : ∃ f', f = f' + 1 := ⟨f - 1, by omega⟩
      have hch : chain ords (f + 1) (some k) = movesOf o k ++ chain ords f o.later := by rw [chain, ho]
      rw [hch] at hd
      have dlen : done.length + o.many ≤ 32 := by
        have h1 := told_len (ords := ords) (fun o ho => by
          obtain ⟨i, hi, rfl⟩ := List.mem_iff_getElem.mp ho
          exact (hok i _ (List.getElem?_eq_getElem hi)).eight) k0
        rw [← hd, List.length_append, List.length_append, movesOf_len] at h1
        omega
      refine ⟨_, rfl, _, rfl, a, os, (k : Int), .ref oa, rfl, rfl, sqA_t (sm _ _ ha), atI_nat hv, oa, _, rfl, sqT_t hoa, rfl, _, _, rfl, _, _, rfl, _, _, rfl, _, _, rfl, rfl, ?_⟩
      -- for step in range(many)
      refine ⟨_, rfl, _, rfl, by have := oo.eight; omega, by have := oo.eight; omega, ?_⟩
      refine for_it (walk_range (lo := 0) (n := (o.many : Int).toNat)) (fun i σ H' => ∃ (y8 y9 : Option V) (xs : List V), σ = [some (.ref a), some (nV k0), some (.ref p), some (nV k), some (nV o.src), some (nV o.goal), some (nV o.many), some (oV o.later), y8, y9] ∧ H' p = some (.lst xs) ∧
          Pds H' xs ((done ++ (movesOf o k).take i).map Mv.d) ∧ Same H H')
        ⟨_, _, xs, rfl, hx, by simpa using hpx, sm⟩ (fun _ _ _ _ _ => trivial) (fun i x σ H2 H3 hi hp hy => ?_) (fun σ H2 hp => ?_)
      · obtain ⟨z8, z9, xs, rfl, hx, hpx, sm2⟩ := hp
        obtain ⟨rfl, rfl⟩ := hy
        have hi' : i < o.many := by simpa using hi
        have step : ∀ (H4 : Hp) (T : Addr), H4 = upd H3 T (.tup [.int ((o.src : Int) + (0 + (i : Int))), .int ((o.goal : Int) + (0 + (i : Int))), oV (if i + 1 = o.many then some k else none)]) → H3 T = none →
            H4 p = some (.lst xs) ∧ xs.length < sizeLine ∧ (upd H4 p (.lst (xs ++ [.ref T]))) p = some (.lst (xs ++ [.ref T])) ∧ Pds (upd H4 p (.lst (xs ++ [.ref T]))) (xs ++ [.ref T]) ((done ++ (movesOf o k).take (i + 1)).map Mv.d) ∧ Same H (upd H4 p (.lst (xs ++ [.ref T]))) := fun H4 T e nT => by
          have s3 : Same H3 H4 := by rw [e]; exact same_new nT
          have hT : H4 T = some (.tup (mvAt o k i).vs) := by
            rw [e, upd_same]
            simp [Mv.vs, mvAt, nV]
          have hx4 := s3 _ _ hx
          have pT : T ≠ p := fun z => by rw [z, hx4] at hT; cases hT
          have ls : Lsts H4 [p] := fun c hc => ⟨xs, by rw [List.mem_singleton.mp hc]; exact hx4⟩
          have sB : But [p] H4 (upd H4 p (.lst (xs ++ [.ref T]))) := But.set (by simp)
          have xlen : xs.length ≤ 100 := by
            rw [hpx.len, List.length_map, List.length_append, List.length_take]
            omega
          refine ⟨hx4, fits (by omega), upd_same, ?_, fun c u hc => ?_⟩
          · rw [movesOf_take hi', ← List.append_assoc, List.map_append]
            exact (Pds.but sB ls (noLs_map noL_mv _) (hpx.same s3)).app (.cons (Mv.pd (by rw [upd_ne pT]; exact hT)) .nil)
          · rw [upd_ne (ne_of_none hc np)]; exact s3 _ _ (sm2 _ _ hc)
        refine ⟨_, rfl, _, rfl, _, _, rfl, rfl, rfl, _, rfl, ite2 (fun e => ⟨_, rfl, ?_⟩) (fun e => ?_)⟩
        · have e1 : i + 1 = o.many := by
            have : (0 : Int) + (i : Int) = (o.many : Int) - 1 := by injection of_decide_eq_true e
            omega
          rw [if_pos e1] at step
          refine ⟨_, rfl, .inl ⟨rfl, _, sqL_l hx⟩, _, rfl, _, rfl, _, _, rfl, rfl, _, rfl, _, rfl, _, _, rfl, rfl, _, rfl, by show 3 ≤ sizeLine; decide, fun T nT => ?_⟩
          obtain ⟨g1, g2, g3, g4, g5⟩ := step _ T rfl nT
          exact ⟨p, _, _, rfl, rfl, g1, g2, _, _, _, rfl, g3, g4, g5⟩
        · have e1 : ¬ i + 1 = o.many := fun z => e (by
            have : (0 : Int) + (i : Int) = (o.many : Int) - 1 := by omega
            exact decide_eq_true (congrArg V.int this))
          rw [if_neg e1] at step
          refine ⟨_, rfl, .inl ⟨rfl, _, sqL_l hx⟩, _, rfl, _, rfl, _, _, rfl, rfl, _, rfl, _, rfl, _, _, rfl, rfl, _, rfl, by show 3 ≤ sizeLine; decide, fun T nT => ?_⟩
          obtain ⟨g1, g2, g3, g4, g5⟩ := step _ T rfl nT
          exact ⟨p, _, _, rfl, rfl, g1, g2, _, _, _, rfl, g3, g4, g5⟩
      · obtain ⟨z8, z9, xs, rfl, hx, hpx, sm2⟩ := hp
        have et : (movesOf o k).take (o.many : Int).toNat = movesOf o k := List.take_of_length_le (by rw [movesOf_len]; simp)
        rw [et] at hpx
        refine ⟨_, rfl, ⟨_, _, _, _, _, _, o.later, f, done ++ movesOf o k, xs, rfl, hx, hpx, by rw [List.append_assoc]; exact hd, fun k' e => ?_, sm2⟩, ?_⟩
        · have := oo.later k' e
          omega
        · show leftAt 3 ords.length [some (.ref a), some (nV k0), some (.ref p), some (oV o.later), _, _, _, _, _, _] < leftAt 3 ords.length [some (.ref a), some (nV k0), some (.ref p), some (oV (some k)), _, _, _, _, _, _]
          cases hl : o.later with
          | none => simp [leftAt, oV, nV]; omega
          | some k' =>
            have := oo.later k' hl
            simp [leftAt, oV, nV]; omega
end
end Vt
namespace Vt
open PySem PySem.Spec PyProof.Rows L2
/-! ### plainly -/
def rdD (p : Nat × Nat) : D := .tup [nD p.1, nD p.2]
theorem noL_rd (p : Nat × Nat) : (rdD p).noL = true := by simp [rdD, D.noL, noLs, nD]
theorem rd_pd {c n : Nat} (H : Hp) (a : Addr) (h : H a = some (.tup [nV c, nV n])) : Pd H (.ref a) (rdD (c, n)) := .tup h (.cons (.int _) (.cons (.int _) .nil))
def mvStep (p : List Nat × List (Nat × Nat)) (m : Mv) : List Nat × List (Nat × Nat) := (p.1.set m.goal (p.1.getD m.src 0), p.2 ++ [(m.src, p.1.getD m.src 0)])
structure Pst where
  mem : List Nat
  said : List Nat
  reads : List (Nat × Nat)
  fet : List (Nat × Nat)
def pstep (ords : List Ord) (s : Pst) : Deed → Pst
  | .set c n => { s with mem := s.mem.set c n }
  | .add c o => { s with reads := (s.reads ++ [(c, s.mem.getD c 0)]) ++ [(o, s.mem.getD o 0)], mem := s.mem.set c ((s.mem.getD c 0 + s.mem.getD o 0) % 10) }
  | .say c => { s with reads := s.reads ++ [(c, s.mem.getD c 0)], said := s.said ++ [s.mem.getD c 0] }
  | .start o => { s with mem := ((told ords o).foldl mvStep (s.mem, [])).1, fet := s.fet ++ ((told ords o).foldl mvStep (s.mem, [])).2 }
  | _ => s
def plain (B : Brd) : Pst := B.prog.foldl (pstep B.ords) ⟨B.mem, [], [], []⟩
theorem chain_bd {ords : List Ord} {cells : Nat} (hok : ∀ (i : Nat) (o : Ord), ords[i]? = some o → OrdOk o i ords.length cells) : ∀ f k, ∀ m ∈ chain ords f k, m.src < cells ∧ m.goal < cells
  | 0, none => by simp [chain]
  | 0, some _ => by simp [chain]
  | f + 1, none => by simp [chain]
  | f + 1, some k => by
    intro m hm
    rw [chain] at hm
    split at hm
    · simp at hm
    · rename_i o e
      rcases List.mem_append.mp hm with h | h
      · obtain ⟨s, hs, rfl⟩ := List.mem_map.mp h
        have := List.mem_range.mp hs
        have := (hok k o e).src
        have := (hok k o e).goal
        simp only [mvAt]; omega
      · exact chain_bd hok f o.later m h
theorem mv_len : ∀ (ms : List Mv) (p : List Nat × List (Nat × Nat)), (ms.foldl mvStep p).1.length = p.1.length ∧ (ms.foldl mvStep p).2.length = p.2.length + ms.length
  | [], p => ⟨rfl, rfl⟩
  | m :: r, p => by
    obtain ⟨h1, h2⟩ := mv_len r (mvStep p m)
    rw [List.foldl_cons, h1, h2]
    simp [mvStep]; omega
theorem mv_ten : ∀ (ms : List Mv) (p : List Nat × List (Nat × Nat)), (∀ n ∈ p.1, n < 10) → ∀ n ∈ (ms.foldl mvStep p).1, n < 10
  | [], p, h => h
  | m :: r, p, h => by
    rw [List.foldl_cons]
    refine mv_ten r (mvStep p m) fun n hn => ?_
    simp only [mvStep] at hn
    rcases List.mem_or_eq_of_mem_set hn with h' | h'
    · exact h n h'
    · rw [h', List.getD_eq_getElem?_getD]
      cases e : p.1[m.src]? with
      | none => simp
      | some x => simpa using h x (List.mem_of_getElem? e)
structure PInv (s : Pst) (n cells : Nat) : Prop where
  len : s.mem.length = cells
  ten : ∀ x ∈ s.mem, x < 10
  said : s.said.length ≤ n
  reads : s.reads.length ≤ 2 * n
  fet : s.fet.length ≤ 32 * n
theorem PInv.step {s : Pst} {n cells : Nat} {ords : List Ord} {d : Deed} (h : PInv s n cells) (hm : ∀ o ∈ ords, o.many ≤ 8) (hd : DeedOk d ords.length cells) : PInv (pstep ords s d) (n + 1) cells := by
  obtain ⟨h1, h2, h3, h4, h5⟩ := h
  have mset : ∀ c v, v < 10 → ∀ x ∈ s.mem.set c v, x < 10 := fun c v hv x hx => by
    rcases List.mem_or_eq_of_mem_set hx with h' | h'
    · exact h2 x h'
    · rw [h']; exact hv
  cases d with
  | set c v => exact ⟨by simpa [pstep] using h1, mset c v hd.2, by simp only [pstep]; omega, by simp only [pstep]; omega, by simp only [pstep]; omega⟩
  | add c v => exact ⟨by simpa [pstep] using h1, mset c _ (Nat.mod_lt _ (by decide)), by simp only [pstep]; omega, by simp [pstep]; omega, by simp only [pstep]; omega⟩
  | say c => exact ⟨by simpa [pstep] using h1, h2, by simp [pstep]; omega, by simp [pstep]; omega, by simp only [pstep]; omega⟩
  | start o =>
    obtain ⟨e1, e2⟩ := mv_len (told ords o) (s.mem, [])
    have e3 := told_len hm o
    refine ⟨?_, mv_ten _ _ h2, ?_, ?_, ?_⟩
    · simp only [pstep]; rw [e1]; exact h1
    · simp only [pstep]; omega
    · simp only [pstep]; omega
    · simp only [pstep, List.length_append]; rw [e2]; simp; omega
  | wait => exact ⟨h1, h2, by simp only [pstep]; omega, by simp only [pstep]; omega, by simp only [pstep]; omega⟩
  | clean l => exact ⟨h1, h2, by simp only [pstep]; omega, by simp only [pstep]; omega, by simp only [pstep]; omega⟩
  | drop l => exact ⟨h1, h2, by simp only [pstep]; omega, by simp only [pstep]; omega, by simp only [pstep]; omega⟩
section
variable {P : Program} {w : World} {K : PySem.W.Frag} {mg : Str → Option Value} {base : Heap}
abbrev st_moved_at_once : Stmt := (topS 29)
abbrev nm_moved_at_once : List Str := ["memory", "orders", "first", "fetches", "source", "goal", "bell"]
theorem sc_moved_at_once : FnScope ["memory", "orders", "first", "fetches", "source", "goal", "bell"] ["memory", "orders", "first"] (defScope st_moved_at_once) := ⟨rfl, rfl, rfl, by decide +kernel, rfl, by decide +kernel, by decide +kernel⟩
def spOnce : Sp := fun vs H Q _ => ∃ (m a : Addr) (mem : List Nat) (os : List V) (ords : List Ord) (k : Nat), vs = [.ref m, .ref a, nV k] ∧ H m = some (.lst (mem.map nV)) ∧ H a = some (.tup os) ∧ Pds H os (ords.map Ord.d) ∧ ords.length ≤ 4 ∧ (∀ (i : Nat) (o : Ord), ords[i]? = some o → OrdOk o i ords.length mem.length) ∧ k < ords.length ∧
  ∀ (H' : Hp) (p : Addr) (xs : List V), But [m] H H' → H p = none → H' m = some (.lst (((told ords k).foldl mvStep (mem, [])).1.map nV)) → H' p = some (.lst xs) → Pds H' xs (((told ords k).foldl mvStep (mem, [])).2.map rdD) → Q (.ref p) H'
theorem ok_once {f : Addr} {fd : FuncData} (F : Fun K "moved_at_once" "moved_at_once" st_moved_at_once f fd) (c_moves_told : Callee P w K mg base "moves_told" 1 2 spMoves) : FnOk P w K mg base CX0 2 f fd ["memory", "orders", "first"] spOnce := by
  refine F.ok sc_moved_at_once (fun vs H Q E h => ?_) (fun cdv A outer s H vs Q E hr h => ?_)
  · obtain ⟨m, a, mem, os, ords, k, rfl, _⟩ := h
    rfl
  · obtain ⟨m, a, mem, os, ords, k, rfl, hm, ha, hos, h4, hok, hk, q⟩ := h
    refine ⟨_, (pss_cons (ps_set (i := 3) sc_moved_at_once.nd rfl (Or.inl rfl) (pe_lst pa_nil))
  (pss_cons (ps_for PassesOwn.never rfl (pi_lt (pe_cal c_moves_told hr (by first | decide | exact Nat.le_refl _) (pa_cons (pv 1) (pa_cons (pv 2) pa_nil)))) (pg_tup rfl (pgs_cons (pg_name (i := 4) sc_moved_at_once.nd rfl (Or.inl rfl)) (pgs_cons (pg_name (i := 5) sc_moved_at_once.nd rfl (Or.inl rfl)) (pgs_cons (pg_name (i := 6) sc_moved_at_once.nd rfl (Or.inl rfl)) pgs_nil))))
  (pss_cons (ps_expr (pe_bm PySem.F.plainAttrs_list PySem.F.slot_list_append PySem.F.type_list_append mt_append (pv 3) (pa_cons (pe_tup (pa_cons (pv 4) (pa_cons (pe_ix ix_lt (pv 0) (pv 4) (fun _ _ => rfl)) pa_nil))) pa_nil)))
  (pss_one (ps_asg (pe_ix ix_lt (pv 0) (pv 4) (fun _ _ => rfl)) (pg_sub (pv 0) (pv 5) set_list)))))
  (pss_one (ps_ret (pv 3))))), ?_⟩
    refine ⟨Nat.zero_le _, fun p np => ?_⟩
    have s1 : Same H (upd H p (.lst [])) := same_new np
    have hp1 : (upd H p (.lst [])) p = some (.lst []) := upd_same
    generalize upd H p (.lst []) = H1 at s1 hp1
    have mp : m ≠ p := ne_of_none hm np
    refine ⟨_, rfl, _, rfl, a, os, ords, mem.length, k, rfl, s1 _ _ ha, hos.same s1, h4, hok, hk, fun H2 l ms s2 nl hl hms => ?_⟩
    have hp2 := s2 _ _ hp1
    have lp : l ≠ p := (ne_of_none hp1 nl).symm
    have lm : l ≠ m := (ne_of_none (s1 _ _ hm) nl).symm
    have ml : ms.length = (told ords k).length := by rw [hms.len, List.length_map]
    have t32 := told_len (ords := ords) (fun o ho => by
      obtain ⟨i, hi, rfl⟩ := List.mem_iff_getElem.mp ho
      exact (hok i _ (List.getElem?_eq_getElem hi)).eight) k
    refine ⟨l, rfl, .inl ⟨_, sqL_l hl, ?_⟩⟩
    refine for_it (walk_list (xs := ms)) (fun i σ H' => ∃ (y4 y5 y6 : Option V) (xs : List V), σ = [some (.ref m), some (.ref a), some (nV k), some (.ref p), y4, y5, y6] ∧ H' m = some (.lst ((((told ords k).take i).foldl mvStep (mem, [])).1.map nV)) ∧
        H' p = some (.lst xs) ∧ Pds H' xs ((((told ords k).take i).foldl mvStep (mem, [])).2.map rdD) ∧ H' l = some (.lst ms) ∧ Pds H' ms ((told ords k).map Mv.d) ∧ But [m] H H')
      ⟨_, _, _, [], rfl, s2 _ _ (s1 _ _ hm), hp2, .nil, hl, hms, Same.but (s1.trans s2)⟩ (fun i σ H' _ hp => by obtain ⟨_, _, _, _, _, _, _, _, e, _⟩ := hp; exact sqL_l e) (fun i x σ H3 H4 hi hp hy => ?_) (fun σ H3 hp => ?_)
    · obtain ⟨y4, y5, y6, xs, rfl, g1, g2, g3, g4, g5, g6⟩ := hp
      obtain ⟨rfl, hx⟩ := hy
      obtain ⟨dd, hdd, hpd⟩ := g5.get' hx
      rw [List.getElem?_map] at hdd
      obtain ⟨mv, hmv, rfl⟩ : ∃ mv, (told ords k)[i]? = some mv ∧ mv.d = dd := by simpa using hdd
      obtain ⟨ma, rfl, hma⟩ := Mv.of hpd
      have bd := chain_bd hok 4 (some k) mv (List.mem_of_getElem? hmv)
      have stp : ((told ords k).take (i + 1)).foldl mvStep (mem, []) = mvStep (((told ords k).take i).foldl mvStep (mem, [])) mv := by
        rw [List.take_add_one, hmv, List.foldl_append]; rfl
      obtain ⟨L1, L2'⟩ := mv_len ((told ords k).take i) (mem, [])
      generalize hrr : ((told ords k).take i).foldl mvStep (mem, []) = rr at *
      have b1 : mv.src < rr.1.length := by rw [L1]; exact bd.1
      have b2 : mv.goal < rr.1.length := by rw [L1]; exact bd.2
      refine ⟨ma, _, rfl, sqT_t hma, rfl, _, _, rfl, _, _, rfl, _, _, rfl, rfl, ?_⟩
      -- fetches.append((source, memory[source]))
      refine ⟨_, rfl, .inl ⟨rfl, _, sqL_l g2⟩, _, rfl, _, rfl, _, rfl, m, _, (mv.src : Int), nV (rr.1.getD mv.src 0), rfl, rfl, sqA_l g1, atI_nat (nat_at b1), by show 2 ≤ sizeLine; decide, fun T nT => ?_⟩
      obtain ⟨k1, k2, k3⟩ := grow g2 g3 (noLs_map noL_rd _) nT (fun H a h => rd_pd (c := mv.src) (n := rr.1.getD mv.src 0) H a h)
      have xlen : xs.length ≤ 32 := by
        rw [g3.len, List.length_map, L2']; simp; omega
      refine ⟨p, _, _, rfl, rfl, k1, fits (by omega), ?_⟩
      have g1' := But.at1 k3 g1 mp
      have g2' : (upd (upd H4 T (.tup [nV mv.src, nV (rr.1.getD mv.src 0)])) p (.lst (xs ++ [.ref T]))) p = some (.lst (xs ++ [.ref T])) := upd_same
      have g4' := But.at1 k3 g4 lp
      have g5' := But.pds1 k3 g2 (noLs_map noL_mv _) g5
      have g6' : But [m] H (upd (upd H4 T (.tup [nV mv.src, nV (rr.1.getD mv.src 0)])) p (.lst (xs ++ [.ref T]))) := fun c o hc h => k3 c o (by simp [ne_of_none h np]) (g6 c o hc h)
      generalize upd (upd H4 T (.tup [nV mv.src, nV (rr.1.getD mv.src 0)])) p (.lst (xs ++ [.ref T])) = H5 at g1' g2' g4' g5' g6' k2
      -- memory[goal] = memory[source]
      refine ⟨_, rfl, _, rfl, m, _, (mv.src : Int), nV (rr.1.getD mv.src 0), rfl, rfl, sqA_l g1', atI_nat (nat_at b1), ?_⟩
      refine ⟨_, rfl, _, rfl, m, _, _, mv.goal, rfl, rfl, g1', ixN_of rfl (by rw [List.length_map]; exact b2), ?_⟩
      have sB : But [m] H5 (upd H5 m (.lst ((rr.1.map nV).set mv.goal (nV (rr.1.getD mv.src 0))))) := But.set (by simp)
      refine ⟨_, _, _, xs ++ [.ref T], rfl, ?_, ?_, ?_, ?_, But.pds1 sB g1' (noLs_map noL_mv _) g5', g6'.trans sB⟩
      · rw [stp, upd_same, set_map rfl]; rfl
      · exact But.at1 sB g2' mp.symm
      · rw [stp]
        simp only [mvStep, List.map_append, List.map_cons, List.map_nil]
        refine But.pds1 sB g1' ?_ k2
        rw [show rr.2.map rdD ++ [rdD (mv.src, rr.1.getD mv.src 0)] = (rr.2 ++ [(mv.src, rr.1.getD mv.src 0)]).map rdD by simp]
        exact noLs_map noL_rd _
      · exact But.at1 sB g4' lm
    · obtain ⟨y4, y5, y6, xs, rfl, g1, g2, g3, g4, g5, g6⟩ := hp
      rw [ml, List.take_length] at g1 g3
      exact ⟨_, rfl, q _ p xs g6 np g1 g2 g3⟩
end
end Vt
namespace Vt
open PySem PySem.Spec PyProof.Rows L2
/-- the lists of a plain run so far -/
structure Held (H : Hp) (m s r f : Addr) (st : Pst) : Prop where
  mem : H m = some (.lst (st.mem.map nV))
  said : H s = some (.lst (st.said.map nV))
  reads : ∃ xs, H r = some (.lst xs) ∧ Pds H xs (st.reads.map rdD)
  fet : ∃ xs, H f = some (.lst xs) ∧ Pds H xs (st.fet.map rdD)
structure Apart (m s r f : Addr) : Prop where
  ms : m ≠ s
  mr : m ≠ r
  mf : m ≠ f
  sr : s ≠ r
  sf : s ≠ f
  rf : r ≠ f
section
variable {H H' : Hp} {m s r f : Addr} {st : Pst}
theorem Held.same (h : Held H m s r f st) (e : Same H H') : Held H' m s r f st := by
  obtain ⟨h1, h2, ⟨x3, h3, k3⟩, ⟨x4, h4, k4⟩⟩ := h
  exact ⟨e _ _ h1, e _ _ h2, ⟨x3, e _ _ h3, k3.same e⟩, ⟨x4, e _ _ h4, k4.same e⟩⟩
/-- the memory is written -/
theorem Held.setMem (h : Held H m s r f st) (a : Apart m s r f) {mem : List Nat} (b : But [m] H H') (e : H' m = some (.lst (mem.map nV))) : Held H' m s r f { st with mem := mem } := by
  obtain ⟨h1, h2, ⟨x3, h3, k3⟩, ⟨x4, h4, k4⟩⟩ := h
  exact ⟨e, b.at1 h2 a.ms.symm, ⟨x3, b.at1 h3 a.mr.symm, b.pds1 h1 (noLs_map noL_rd _) k3⟩, ⟨x4, b.at1 h4 a.mf.symm, b.pds1 h1 (noLs_map noL_rd _) k4⟩⟩
theorem Held.setSaid (h : Held H m s r f st) (a : Apart m s r f) {said : List Nat} (b : But [s] H H') (e : H' s = some (.lst (said.map nV))) : Held H' m s r f { st with said := said } := by
  obtain ⟨h1, h2, ⟨x3, h3, k3⟩, ⟨x4, h4, k4⟩⟩ := h
  exact ⟨b.at1 h1 a.ms, e, ⟨x3, b.at1 h3 a.sr.symm, b.pds1 h2 (noLs_map noL_rd _) k3⟩, ⟨x4, b.at1 h4 a.sf.symm, b.pds1 h2 (noLs_map noL_rd _) k4⟩⟩
theorem Held.setReads (h : Held H m s r f st) (a : Apart m s r f) {reads : List (Nat × Nat)} {ys : List V} (b : But [r] H H') (e : H' r = some (.lst ys)) (k : Pds H' ys (reads.map rdD)) : Held H' m s r f { st with reads := reads } := by
  obtain ⟨h1, h2, ⟨x3, h3, k3⟩, ⟨x4, h4, k4⟩⟩ := h
  exact ⟨b.at1 h1 a.mr, b.at1 h2 a.sr, ⟨ys, e, k⟩, ⟨x4, b.at1 h4 a.rf.symm, b.pds1 h3 (noLs_map noL_rd _) k4⟩⟩
theorem Held.setFet (h : Held H m s r f st) (a : Apart m s r f) {fet : List (Nat × Nat)} {ys : List V} (b : But [f] H H') (e : H' f = some (.lst ys)) (k : Pds H' ys (fet.map rdD)) : Held H' m s r f { st with fet := fet } := by
  obtain ⟨h1, h2, ⟨x3, h3, k3⟩, ⟨x4, h4, k4⟩⟩ := h
  exact ⟨b.at1 h1 a.mf, b.at1 h2 a.sf, ⟨x3, b.at1 h3 a.rf, b.pds1 h4 (noLs_map noL_rd _) k3⟩, ⟨ys, e, k⟩⟩
/-- a reading noted -/
theorem Held.noteRead (h : Held H m s r f st) (a : Apart m s r f) {T : Addr} {c n : Nat} (nT : H T = none) : ∃ xs, (upd H T (.tup [nV c, nV n])) r = some (.lst xs) ∧ xs.length = st.reads.length ∧
    Held (upd (upd H T (.tup [nV c, nV n])) r (.lst (xs ++ [.ref T]))) m s r f { st with reads := st.reads ++ [(c, n)] } ∧ But [r] H (upd (upd H T (.tup [nV c, nV n])) r (.lst (xs ++ [.ref T]))) := by
  have ⟨h1, h2, ⟨x3, h3, k3⟩, ⟨x4, h4, k4⟩⟩ := h
  obtain ⟨g1, g2, g3⟩ := grow h3 k3 (noLs_map noL_rd _) nT (fun H a h => rd_pd (c := c) (n := n) H a h)
  exact ⟨x3, g1, by rw [k3.len, List.length_map], h.setReads a g3 upd_same (by rw [List.map_append]; exact g2), g3⟩
end
section
variable {P : Program} {w : World} {K : PySem.W.Frag} {mg : Str → Option Value} {base : Heap}
theorem nw {a b : Str} {p : Prop} (h : decide (a = b) = false) : ¬ (a = b ∧ p) := fun q => of_decide_eq_false h q.1
theorem hd_word {H : Hp} {a : Addr} {d : Deed} (h : H a = some (.tup d.vs)) : SqT K H a (.str d.word :: d.args.map nV) := sqT_t h
abbrev st_plain_run : Stmt := (topS 28)
abbrev nm_plain_run : List Str := ["board", "cells", "orders", "program", "memory", "said", "reads", "fetches", "deed", "cell", "number", "other", "order"]
theorem sc_plain_run : FnScope ["board", "cells", "orders", "program", "memory", "said", "reads", "fetches", "deed", "cell", "number", "other", "order"] ["board"] (defScope st_plain_run) := ⟨rfl, rfl, rfl, by decide +kernel, rfl, by decide +kernel, by decide +kernel⟩
def spRun : Sp := fun vs H Q _ => ∃ (v : V) (B : Brd), vs = [v] ∧ Pd H v B.d ∧ BrdOk B ∧ ∀ (H' : Hp) (t m s r f : Addr), Same H H' → H m = none → H s = none → H r = none → H f = none → Apart m s r f → H' t = some (.tup [.ref m, .ref s, .ref r, .ref f]) → Held H' m s r f (plain B) → Q (.ref t) H'
theorem ok_run {f : Addr} {fd : FuncData} (F : Fun K "plain_run" "plain_run" st_plain_run f fd) (C : Consts K mg) (c_require_board : Callee P w K mg base "require_board" 3 1 spReq) (c_moved_at_once : Callee P w K mg base "moved_at_once" 2 3 spOnce) (z_list : mg "list" = none) :
    FnOk P w K mg base CX0 4 f fd ["board"] spRun := by
  obtain ⟨tN, mc_NUMBERS⟩ := C.numbers
  refine F.ok sc_plain_run (fun vs H Q E h => ?_) (fun cdv A outer s H vs Q E hr h => ?_)
  · obtain ⟨v, B, rfl, _⟩ := h
    rfl
  · obtain ⟨v, B, rfl, hB, ok, q⟩ := h
    refine ⟨_, (pss_cons (ps_expr (pe_cal c_require_board hr (by first | decide | exact Nat.le_refl _) (pa_cons (pv 0) pa_nil)))
  (pss_cons (ps_asg (pv 0) (pg_tup rfl (pgs_cons (pg_name (i := 1) sc_plain_run.nd rfl (Or.inl rfl)) (pgs_cons (pg_name (i := 2) sc_plain_run.nd rfl (Or.inl rfl)) (pgs_cons (pg_name (i := 3) sc_plain_run.nd rfl (Or.inl rfl)) pgs_nil)))))
  (pss_cons (ps_set (i := 4) sc_plain_run.nd rfl (Or.inl rfl) (pe_callTy call_list_of (by rfl) z_list (by decide +kernel) (pa_cons (pv 1) pa_nil)))
  (pss_cons (ps_set (i := 5) sc_plain_run.nd rfl (Or.inl rfl) (pe_lst pa_nil))
  (pss_cons (ps_set (i := 6) sc_plain_run.nd rfl (Or.inl rfl) (pe_lst pa_nil))
  (pss_cons (ps_set (i := 7) sc_plain_run.nd rfl (Or.inl rfl) (pe_lst pa_nil))
  (pss_cons (ps_for PassesOwn.never rfl (pi_lt (pv 3)) (pg_name (i := 8) sc_plain_run.nd rfl (Or.inl rfl))
  (pss_one (ps_match (pv 8)
  (pc_seq2 (i0 := 9) (i1 := 10) sc_plain_run.nd (pss_one (ps_asg (pv 10) (pg_sub (pv 4) (pv 9) set_list)))
  (pc_seq2 (i0 := 9) (i1 := 11) sc_plain_run.nd (pss_cons (ps_expr (pe_bm PySem.F.plainAttrs_list PySem.F.slot_list_append PySem.F.type_list_append mt_append (pv 6) (pa_cons (pe_tup (pa_cons (pv 9) (pa_cons (pe_ix ix_lt (pv 4) (pv 9) (fun _ _ => rfl)) pa_nil))) pa_nil)))
  (pss_cons (ps_expr (pe_bm PySem.F.plainAttrs_list PySem.F.slot_list_append PySem.F.type_list_append mt_append (pv 6) (pa_cons (pe_tup (pa_cons (pv 11) (pa_cons (pe_ix ix_lt (pv 4) (pv 11) (fun _ _ => rfl)) pa_nil))) pa_nil)))
  (pss_one (ps_asg (pe_op op_mod (pe_op op_add (pe_ix ix_lt (pv 4) (pv 9) (fun _ _ => rfl)) (pe_ix ix_lt (pv 4) (pv 11) (fun _ _ => rfl))) (pe_glob (v := .int 10) rfl mc_NUMBERS ⟨_, rfl⟩)) (pg_sub (pv 4) (pv 9) set_list)))))
  (pc_seq1 (i0 := 9) sc_plain_run.nd (pss_cons (ps_expr (pe_bm PySem.F.plainAttrs_list PySem.F.slot_list_append PySem.F.type_list_append mt_append (pv 6) (pa_cons (pe_tup (pa_cons (pv 9) (pa_cons (pe_ix ix_lt (pv 4) (pv 9) (fun _ _ => rfl)) pa_nil))) pa_nil)))
  (pss_one (ps_expr (pe_bm PySem.F.plainAttrs_list PySem.F.slot_list_append PySem.F.type_list_append mt_append (pv 5) (pa_cons (pe_ix ix_lt (pv 4) (pv 9) (fun _ _ => rfl)) pa_nil)))))
  (pc_seq1 (i0 := 12) sc_plain_run.nd (pss_one (ps_expr (pe_bm PySem.F.plainAttrs_list PySem.F.slot_list_extend PySem.F.type_list_extend mt_extend (pv 7) (pa_cons (pe_cal c_moved_at_once hr (by first | decide | exact Nat.le_refl _) (pa_cons (pv 4) (pa_cons (pv 2) (pa_cons (pv 12) pa_nil)))) pa_nil))))
  pc_nil)))))))
  (pss_one (ps_ret (pe_tup (pa_cons (pv 4) (pa_cons (pv 5) (pa_cons (pv 6) (pa_cons (pv 7) pa_nil)))))))))))))), ?_⟩
    refine ⟨_, rfl, v, B, rfl, hB, ok, fun H1 s1 => ?_⟩
    obtain ⟨a, mm, o, p, os, ps, rfl, ha, hm, ho, hos, hp, hps⟩ := Brd.of (hB.same s1)
    refine ⟨_, rfl, a, _, rfl, sqT_t ha, rfl, _, _, rfl, _, _, rfl, _, _, rfl, rfl, ?_⟩
    refine ⟨_, rfl, mm, _, rfl, .inr (sqT_t hm), fun m nm => ⟨Nat.zero_le _, fun s ns => ⟨Nat.zero_le _, fun r nr => ⟨Nat.zero_le _, fun f nf => ?_⟩⟩⟩⟩
    have e1 := same_new (o := .lst (B.mem.map nV)) nm
    have e2 := same_new (o := .lst []) ns
    have e3 := same_new (o := .lst []) nr
    have e4 := same_new (o := .lst []) nf
    have nm0 : H m = none := s1.free nm
    have ns0 : H s = none := (s1.trans e1).free ns
    have nr0 : H r = none := ((s1.trans e1).trans e2).free nr
    have nf0 : H f = none := (((s1.trans e1).trans e2).trans e3).free nf
    have am : (upd H1 m (.lst (B.mem.map nV))) m = some (.lst (B.mem.map nV)) := upd_same
    have as : (upd (upd H1 m (.lst (B.mem.map nV))) s (.lst [])) s = some (.lst []) := upd_same
    have ar : (upd (upd (upd H1 m (.lst (B.mem.map nV))) s (.lst [])) r (.lst [])) r = some (.lst []) := upd_same
    have ap : Apart m s r f := ⟨ne_of_none am ns, ne_of_none (e2 _ _ am) nr, ne_of_none (e3 _ _ (e2 _ _ am)) nf, ne_of_none as nr, ne_of_none (e3 _ _ as) nf, ne_of_none ar nf⟩
    have hd0 : Held (upd (upd (upd (upd H1 m (.lst (B.mem.map nV))) s (.lst [])) r (.lst [])) f (.lst [])) m s r f ⟨B.mem, [], [], []⟩ :=
      ⟨e4 _ _ (e3 _ _ (e2 _ _ am)), e4 _ _ (e3 _ _ as), ⟨[], e4 _ _ ar, .nil⟩, ⟨[], upd_same, .nil⟩⟩
    have sm0 : Same H1 (upd (upd (upd (upd H1 m (.lst (B.mem.map nV))) s (.lst [])) r (.lst [])) f (.lst [])) := ((e1.trans e2).trans e3).trans e4
    generalize upd (upd (upd (upd H1 m (.lst (B.mem.map nV))) s (.lst [])) r (.lst [])) f (.lst []) = H2 at hd0 sm0
    have many8 : ∀ o ∈ B.ords, o.many ≤ 8 := fun o ho => by
      obtain ⟨i, hi, rfl⟩ := List.mem_iff_getElem.mp ho
      exact (ok.ords i _ (List.getElem?_eq_getElem hi)).eight
    -- for deed in program
    refine ⟨_, rfl, p, rfl, .inr ⟨_, sqT_t (sm0 _ _ hp), ?_⟩⟩
    refine for_it (walk_tup (xs := ps)) (fun i σ H' => ∃ (y8 y9 y10 y11 y12 : Option V), σ = [some (.ref a), some (.ref mm), some (.ref o), some (.ref p), some (.ref m), some (.ref s), some (.ref r), some (.ref f), y8, y9, y10, y11, y12] ∧
        Held H' m s r f ((B.prog.take i).foldl (pstep B.ords) ⟨B.mem, [], [], []⟩) ∧ PInv ((B.prog.take i).foldl (pstep B.ords) ⟨B.mem, [], [], []⟩) i B.mem.length ∧ Same H1 H')
      ⟨_, _, _, _, _, rfl, hd0, ⟨rfl, ok.nums, Nat.zero_le _, Nat.zero_le _, Nat.zero_le _⟩, sm0⟩ (fun i σ H' _ hp' => by obtain ⟨_, _, _, _, _, _, _, _, sm⟩ := hp'; exact sqT_t (sm _ _ hp)) (fun i x σ H3 H4 hi hp' hy => ?_) (fun σ H3 hp' => ?_)
    · obtain ⟨y8, y9, y10, y11, y12, rfl, hh, pin, sm⟩ := hp'
      obtain ⟨rfl, hx⟩ := hy
      obtain ⟨dd, hdd, hpd⟩ := (hps.same sm).get' hx
      rw [List.getElem?_map] at hdd
      obtain ⟨d, hd, rfl⟩ : ∃ d, B.prog[i]? = some d ∧ d.d = dd := by simpa using hdd
      obtain ⟨da, rfl, hda⟩ := Deed.of hpd
      have dok := ok.prog d (List.mem_of_getElem? hd)
      have stp : (B.prog.take (i + 1)).foldl (pstep B.ords) ⟨B.mem, [], [], []⟩ = pstep B.ords ((B.prog.take i).foldl (pstep B.ords) ⟨B.mem, [], [], []⟩) d := by
        rw [List.take_add_one, hd, List.foldl_append]; rfl
      have pin' := pin.step many8 dok
      have hi60 : i < 60 := by have := (List.getElem?_eq_some_iff.mp hd).1; have := ok.sixty; omega
      have hfin : ∀ (H' : Hp) (y9 y10 y11 y12 : Option V), Held H' m s r f (pstep B.ords ((B.prog.take i).foldl (pstep B.ords) ⟨B.mem, [], [], []⟩) d) → Same H1 H' → ∃ (y8 z9 z10 z11 z12 : Option V), [some (.ref a), some (.ref mm), some (.ref o), some (.ref p), some (.ref m), some (.ref s), some (.ref r), some (.ref f), some (.ref da), y9, y10, y11, y12] =
          [some (.ref a), some (.ref mm), some (.ref o), some (.ref p), some (.ref m), some (.ref s), some (.ref r), some (.ref f), y8, z9, z10, z11, z12] ∧ Held H' m s r f ((B.prog.take (i + 1)).foldl (pstep B.ords) ⟨B.mem, [], [], []⟩) ∧ PInv ((B.prog.take (i + 1)).foldl (pstep B.ords) ⟨B.mem, [], [], []⟩) (i + 1) B.mem.length ∧ Same H1 H' := fun H' y9 y10 y11 y12 g e => by
        rw [stp]
        exact ⟨_, _, _, _, _, rfl, g, pin', e⟩
      clear stp pin'
      generalize (B.prog.take i).foldl (pstep B.ords) ⟨B.mem, [], [], []⟩ = st at *
      have hsq := hd_word (K := K) hda
      have nb : ∀ {c : Addr}, c = m ∨ c = s ∨ c = r ∨ c = f → H1 c = none := fun hc => by
        rcases hc with rfl | rfl | rfl | rfl
        · exact nm
        · exact e1.free ns
        · exact (e1.trans e2).free nr
        · exact ((e1.trans e2).trans e3).free nf
      obtain ⟨xr, hxr, hkr⟩ := hh.reads
      obtain ⟨xf, hxf, hkf⟩ := hh.fet
      have mlen := pin.len
      cases d with
      | set c n =>
        have hc : c < st.mem.length := by rw [mlen]; exact dok.1
        refine ⟨_, rfl, da, "set", [nV c, nV n], rfl, hsq, .inl ⟨rfl, rfl, ?_⟩⟩
        refine ⟨_, rfl, _, rfl, _, rfl, m, _, _, c, rfl, rfl, hh.mem, ixN_of rfl (by rw [List.length_map]; exact hc), ?_⟩
        have b : But [m] H4 (upd H4 m (.lst ((st.mem.map nV).set c (nV n)))) := But.set (by simp)
        exact hfin _ _ _ _ _ (hh.setMem ap b (by rw [upd_same, set_map rfl])) (But.new1 sm (nb (.inl rfl)) b)
      | add c o2 =>
        have hc : c < st.mem.length := by rw [mlen]; exact dok.1
        have ho2 : o2 < st.mem.length := by rw [mlen]; exact dok.2
        refine ⟨_, rfl, da, "add", [nV c, nV o2], rfl, hsq, .inr ⟨nw rfl, da, "add", [nV c, nV o2], rfl, hsq, .inl ⟨rfl, rfl, ?_⟩⟩⟩
        -- reads.append((cell, memory[cell]))
        refine ⟨_, rfl, .inl ⟨rfl, _, sqL_l hxr⟩, _, rfl, _, rfl, _, rfl, m, _, (c : Int), nV (st.mem.getD c 0), rfl, rfl, sqA_l hh.mem, atI_nat (nat_at hc), by show 2 ≤ sizeLine; decide, fun T nT => ?_⟩
        obtain ⟨xs1, g1, l1, hh1, b1⟩ := hh.noteRead ap (c := c) (n := st.mem.getD c 0) nT
        refine ⟨r, _, _, rfl, rfl, g1, fits (by have := pin.reads; omega), ?_⟩
        have sm1 := But.new1 sm (nb (.inr (.inr (.inl rfl)))) b1
        generalize upd (upd H4 T (.tup [nV c, nV (st.mem.getD c 0)])) r (.lst (xs1 ++ [.ref T])) = H5 at hh1 sm1
        obtain ⟨xr1, hxr1, _⟩ := hh1.reads
        -- reads.append((other, memory[other]))
        refine ⟨_, rfl, .inl ⟨rfl, _, sqL_l hxr1⟩, _, rfl, _, rfl, _, rfl, m, _, (o2 : Int), nV (st.mem.getD o2 0), rfl, rfl, sqA_l hh1.mem, atI_nat (nat_at ho2), by show 2 ≤ sizeLine; decide, fun T2 nT2 => ?_⟩
        obtain ⟨xs2, g2, l2, hh2, b2⟩ := hh1.noteRead ap (c := o2) (n := st.mem.getD o2 0) nT2
        refine ⟨r, _, _, rfl, rfl, g2, fits (by have := pin.reads; simp at l2; omega), ?_⟩
        have sm2 := But.new1 sm1 (nb (.inr (.inr (.inl rfl)))) b2
        generalize upd (upd H5 T2 (.tup [nV o2, nV (st.mem.getD o2 0)])) r (.lst (xs2 ++ [.ref T2])) = H6 at hh2 sm2
        -- memory[cell] = (memory[cell] + memory[other]) % NUMBERS
        refine ⟨_, rfl, _, rfl, m, _, (c : Int), nV (st.mem.getD c 0), rfl, rfl, sqA_l hh2.mem, atI_nat (nat_at hc), _, rfl, _, rfl, m, _, (o2 : Int), nV (st.mem.getD o2 0), rfl, rfl, sqA_l hh2.mem, atI_nat (nat_at ho2), _, _, rfl, rfl, _, _, rfl, rfl, (by show (0 : Int) < 10; decide), ?_⟩
        refine ⟨_, rfl, _, rfl, m, _, _, c, rfl, rfl, hh2.mem, ixN_of rfl (by rw [List.length_map]; exact hc), ?_⟩
        have b3 : But [m] H6 (upd H6 m (.lst ((st.mem.map nV).set c (.int (((st.mem.getD c 0 : Nat) + (st.mem.getD o2 0 : Nat) : Int) % 10))))) := But.set (by simp)
        exact hfin _ _ _ _ _ (hh2.setMem ap b3 (by rw [upd_same, set_map (n := (st.mem.getD c 0 + st.mem.getD o2 0) % 10) (congrArg V.int (by omega))])) (But.new1 sm2 (nb (.inl rfl)) b3)
      | say c =>
        have hc : c < st.mem.length := by rw [mlen]; exact dok
        refine ⟨_, rfl, da, "say", [nV c], rfl, hsq, .inr ⟨nw rfl, da, "say", [nV c], rfl, hsq, .inr ⟨nw rfl, da, "say", [nV c], rfl, hsq, .inl ⟨rfl, rfl, ?_⟩⟩⟩⟩
        refine ⟨_, rfl, .inl ⟨rfl, _, sqL_l hxr⟩, _, rfl, _, rfl, _, rfl, m, _, (c : Int), nV (st.mem.getD c 0), rfl, rfl, sqA_l hh.mem, atI_nat (nat_at hc), by show 2 ≤ sizeLine; decide, fun T nT => ?_⟩
        obtain ⟨xs1, g1, l1, hh1, b1⟩ := hh.noteRead ap (c := c) (n := st.mem.getD c 0) nT
        refine ⟨r, _, _, rfl, rfl, g1, fits (by have := pin.reads; omega), ?_⟩
        have sm1 := But.new1 sm (nb (.inr (.inr (.inl rfl)))) b1
        generalize upd (upd H4 T (.tup [nV c, nV (st.mem.getD c 0)])) r (.lst (xs1 ++ [.ref T])) = H5 at hh1 sm1
        refine ⟨_, rfl, .inl ⟨rfl, _, sqL_l hh1.said⟩, _, rfl, _, rfl, m, _, (c : Int), nV (st.mem.getD c 0), rfl, rfl, sqA_l hh1.mem, atI_nat (nat_at hc), ?_⟩
        refine ⟨s, _, _, rfl, rfl, hh1.said, by rw [List.length_map]; exact fits (show st.said.length ≤ 16000 by have := pin.said; omega), ?_⟩
        have b2 : But [s] H5 (upd H5 s (.lst (st.said.map nV ++ [nV (st.mem.getD c 0)]))) := But.set (by simp)
        exact hfin _ _ _ _ _ (hh1.setSaid ap (said := st.said ++ [st.mem.getD c 0]) b2 (by rw [upd_same, List.map_append]; rfl)) (But.new1 sm1 (nb (.inr (.inl rfl))) b2)
      | start k =>
        refine ⟨_, rfl, da, "start", [nV k], rfl, hsq, .inr ⟨nw rfl, da, "start", [nV k], rfl, hsq, .inr ⟨nw rfl, da, "start", [nV k], rfl, hsq, .inr ⟨nw rfl, da, "start", [nV k], rfl, hsq, .inl ⟨rfl, rfl, ?_⟩⟩⟩⟩⟩
        refine ⟨_, rfl, .inl ⟨rfl, _, sqL_l hxf⟩, _, rfl, _, rfl, _, rfl, m, o, st.mem, os, B.ords, k, rfl, hh.mem, sm _ _ ho, hos.same sm, ok.four, by rw [mlen]; exact ok.ords, dok, fun H5 p5 x5 b5 n5 e5 g5 k5 => ?_⟩
        have hh1 := hh.setMem ap b5 e5
        have sm1 := But.new1 sm (nb (.inl rfl)) b5
        obtain ⟨xf1, hxf1, hkf1⟩ := hh1.fet
        have hlen : xf1.length + x5.length ≤ 16000 := by
          obtain ⟨_, q2⟩ := mv_len (told B.ords k) (st.mem, [])
          have q3 := told_len many8 k
          rw [hkf1.len, k5.len, List.length_map, List.length_map, q2]
          have := pin.fet
          simp only [List.length_nil]; omega
        refine ⟨f, p5, _, _, rfl, rfl, hxf1, g5, fits' hlen, ?_⟩
        have b6 : But [f] H5 (upd H5 f (.lst (xf1 ++ x5))) := But.set (by simp)
        refine hfin _ _ _ _ _ (hh1.setFet ap (fet := st.fet ++ ((told B.ords k).foldl mvStep (st.mem, [])).2) b6 upd_same ?_) (But.new1 sm1 (nb (.inr (.inr (.inr rfl)))) b6)
        rw [List.map_append]
        exact (b6.pds1 hxf1 (noLs_map noL_rd _) hkf1).app (b6.pds1 hxf1 (noLs_map noL_rd _) k5)
      | wait =>
        refine ⟨_, rfl, da, "wait", [], rfl, hsq, .inr ⟨nw rfl, da, "wait", [], rfl, hsq, .inr ⟨nw rfl, da, "wait", [], rfl, hsq, .inr ⟨nw rfl, da, "wait", [], rfl, hsq, .inr ⟨nw rfl, ?_⟩⟩⟩⟩⟩
        exact hfin _ _ _ _ _ hh sm
      | clean l =>
        refine ⟨_, rfl, da, "clean", [nV l], rfl, hsq, .inr ⟨nw rfl, da, "clean", [nV l], rfl, hsq, .inr ⟨nw rfl, da, "clean", [nV l], rfl, hsq, .inr ⟨nw rfl, da, "clean", [nV l], rfl, hsq, .inr ⟨nw rfl, ?_⟩⟩⟩⟩⟩
        exact hfin _ _ _ _ _ hh sm
      | drop l =>
        refine ⟨_, rfl, da, "drop", [nV l], rfl, hsq, .inr ⟨nw rfl, da, "drop", [nV l], rfl, hsq, .inr ⟨nw rfl, da, "drop", [nV l], rfl, hsq, .inr ⟨nw rfl, da, "drop", [nV l], rfl, hsq, .inr ⟨nw rfl, ?_⟩⟩⟩⟩⟩
        exact hfin _ _ _ _ _ hh sm
    · obtain ⟨y8, y9, y10, y11, y12, rfl, hh, pin, sm⟩ := hp'
      have pl : ps.length = B.prog.length := by rw [hps.len, List.length_map]
      rw [pl, List.take_length] at hh
      refine ⟨_, rfl, _, rfl, _, rfl, _, rfl, by show 4 ≤ sizeLine; decide, fun t nt => ?_⟩
      exact q _ t m s r f (s1.trans (sm.trans (same_new nt))) nm0 ns0 nr0 nf0 ap upd_same (hh.same (same_new nt))
end
end Vt
namespace Vt
open PySem PySem.Spec PyProof.Rows L2
/-! ### data that is alike -/
mutual
def D.sm : D → Bool
  | .lst ds => decide (ds.length ≤ 100000) && smAll ds
  | .tup ds => decide (ds.length ≤ 100000) && smAll ds
  | _ => true
def smAll : List D → Bool
  | [] => true
  | d :: ds => d.sm && smAll ds
end
theorem sm_get : ∀ {ds : List D} {i : Nat} {d : D}, smAll ds = true → ds[i]? = some d → d.sm = true
  | [], _, _, _, e => by simp at e
  | x :: r, 0, d, h, e => by
    simp only [List.getElem?_cons_zero, Option.some.injEq] at e
    rw [smAll, Bool.and_eq_true] at h
    subst e; exact h.1
  | x :: r, i + 1, d, h, e => by
    rw [smAll, Bool.and_eq_true] at h
    exact sm_get (ds := r) (i := i) h.2 (by simpa using e)
theorem sm_map {α : Type} {f : α → D} (h : ∀ x, (f x).sm = true) : ∀ xs : List α, smAll (xs.map f) = true
  | [] => by rw [List.map_nil, smAll]
  | x :: r => by rw [List.map_cons, smAll, h x, sm_map h r]; rfl
theorem sm_nD (n : Nat) : (nD n).sm = true := by simp [nD, D.sm]
end Vt
namespace Vt
open PySem PySem.Spec PyProof.Rows L2
/-! ### d.update(e), both of int and text keys -/
def tDUpd (td te : TE) : TE := fun σ H Q => td σ H fun x H1 => ∃ a, x = .ref a ∧ IsD H1 a ∧ te σ H1 fun y H2 => ∃ b kvs more, y = .ref b ∧ a ≠ b ∧ H2 a = some (.dK kvs) ∧ H2 b = some (.dK more) ∧ kvs.length + more.length ≤ sizeLine ∧ Q .non (upd H2 a (.dK (mergeK kvs more)))
section
variable {X : Cx} {o e : Expr} {apos cpos : Pos} {td ty : TE}
theorem pe_dupd (ho : PE X o td) (he : PE X e ty) (m : M1 X o "update" apos e cpos) : PE X (.Call (.Attribute o "update" apos) [e] [] cpos) (tDUpd td ty) := by
  refine ⟨fun pins s σ H Q I h => ?_⟩
  refine wpAny_Call_method m.base m.few m.line PySem.F.plainAttrs_dict PySem.F.slot_dict_update PySem.F.type_dict_update (thn (ho.run pins s σ H _ I h) fun u s1 ⟨x, H1, I1, rx, a, ex, d, q1⟩ => ?_)
  subst ex
  obtain rfl : u = Value.ref a := rx
  obtain ⟨t1, t2, _⟩ := isD_at I1 d
  refine ⟨t1, t2, ?_⟩
  rw [m.trees]
  refine Calls.callWith_builtin rfl (Calls.evalArgs_plain (Calls.spliced_cons (thn (he.run pins s1 σ H1 _ I1 q1) fun iv s2 ⟨y, H2, I2, ry, b, kvs, more, ey, ne, ea, eb, hz, q2⟩ => Calls.spliced_nil ?_)))
  subst ey
  obtain rfl : iv = Value.ref b := ry
  obtain ⟨z1, hd1, vs1, rel1, dd1⟩ := dk_of I2.hok ea
  obtain ⟨z2, hd2, vs2, rel2, dd2⟩ := dk_of I2.hok eb
  refine call_meetsIn PySem.F.slot_dict_update dd1.typeIs PySem.F.entry_dict_update (PySem.F.args_dict_update_2 _ _) (meets_dict_update (mixKind X.prog X.w) a b ne hd2)
    ⟨vs1, vs2, dd1, dd2, by rw [← rel1.length, ← rel2.length]; exact hz, fun h' dd' dd2' hs => ⟨.non, _, ?_, rfl, q2⟩⟩
  have he : ∃ q, h'.get? a = some q := let ⟨q, _, _, hq, _⟩ := dd'; ⟨q, hq⟩
  exact d_write I2 (by rw [ea]; exact True.intro) hs he (dk_new (Nat.le_trans (length_mergeK more kvs) hz) hd1 (KV.merge rel2 rel1) dd')
end
end Vt
namespace Vt
open PySem PySem.Spec PyProof.Rows L2
/-! ### the machine, plainly: memory, lines held, moves left, the story -/
structure Row where
  beat : Nat
  word : Str
  place : Nat
  num : Nat
def Row.vs (r : Row) : List V := [nV r.beat, .str r.word, nV r.place, nV r.num]
def Row.d (r : Row) : D := .tup [nD r.beat, .str r.word, nD r.place, nD r.num]
theorem Row.pd {H : Hp} {r : Row} {a : Addr} (h : H a = some (.tup r.vs)) : Pd H (.ref a) r.d := .tup h (.cons (.int _) (.cons (.str _) (.cons (.int _) (.cons (.int _) .nil))))
theorem Row.of {H : Hp} {r : Row} {v : V} (h : Pd H v r.d) : ∃ a, v = .ref a ∧ H a = some (.tup r.vs) := by
  cases h with
  | tup h hs =>
    cases hs with
    | cons h1 hs => cases h1; cases hs with
      | cons h2 hs => cases h2; cases hs with
        | cons h3 hs => cases h3; cases hs with
          | cons h4 hs =>
            cases h4; cases hs
            exact ⟨_, rfl, h⟩
theorem noL_row (r : Row) : r.d.noL = true := by simp [Row.d, D.noL, noLs, nD]
structure Mst where
  mem : List Nat
  held : List (Option (List Nat))
  tou : List Bool
  left : List Mv
  at_ : Nat
  beats : Nat
  rows : List Row
  pace : List Bool
namespace Mst
def tell (M : Mst) (w : Str) (p n : Nat) : Mst := { M with rows := M.rows ++ [⟨M.beats, w, p, n⟩] }
def holds (M : Mst) (l : Nat) : Bool := match M.held[l]? with
  | some (some _) => true
  | _ => false
def cellsOf (M : Mst) (l : Nat) : List Nat := match M.held[l]? with
  | some (some cs) => cs
  | _ => []
def touched (M : Mst) (l : Nat) : Bool := M.tou.getD l false
def take (M : Mst) (l : Nat) : Mst := if M.holds l = true then M else tell { M with held := M.held.set l (some ((M.mem.drop (4 * l)).take 4)) } "take" l 0
def readN (M : Mst) (c : Nat) : Nat := ((M.take (c / 4)).cellsOf (c / 4)).getD (c % 4) 0
def read (M : Mst) (c : Nat) : Mst := (M.take (c / 4)).tell "read" c (M.readN c)
def write0 (M : Mst) (c n : Nat) : Mst := { M with held := M.held.set (c / 4) (some ((M.cellsOf (c / 4)).set (c % 4) n)), tou := M.tou.set (c / 4) true }
def write (M : Mst) (c n : Nat) : Mst := ((M.take (c / 4)).write0 c n).tell "write" c n
def clean (M : Mst) (l : Nat) : Mst := if M.touched l = true then tell { M with mem := M.mem.take (4 * l) ++ M.cellsOf l ++ M.mem.drop (4 * l + 4), tou := M.tou.set l false } "clean" l 0 else M
def drop (M : Mst) (l : Nat) : Mst := if M.holds l = true then tell { M with held := M.held.set l none, tou := M.tou.set l false } "drop" l 0 else M
def deed (ords : List Ord) (M : Mst) : Deed → Mst
  | .set c n => M.write c n
  | .add c o => ((M.read c).read o).write c ((M.readN c + (M.read c).readN o) % 10)
  | .say c => (M.read c).tell "say" c (M.readN c)
  | .start k => tell { M with left := M.left ++ told ords k } "start" k 0
  | .wait => M
  | .clean l => M.clean l
  | .drop l => M.drop l
def idle (prog : List Deed) (M : Mst) : Bool := match prog[M.at_]? with
  | none => true
  | some d => decide (d = .wait) && !M.left.isEmpty
/-- the processor's part of a beat -/
def proc (ords : List Ord) (prog : List Deed) (M : Mst) : Mst := if M.idle prog = true then M else match prog[M.at_]? with
  | none => M
  | some d => { M.deed ords d with at_ := M.at_ + 1 }
/-- the carrier's, in which it moves -/
def carry (M : Mst) : Mst := match M.left with
  | [] => M
  | mv :: r =>
    let n := M.mem.getD mv.src 0
    let M1 := (tell { M with left := r, mem := M.mem.set mv.goal n } "fetch" mv.src n).tell "put" mv.goal n
    match mv.bell with
    | none => M1
    | some b => M1.tell "bell" b 0
/-- whether a truth is used up in this beat -/
def uses (prog : List Deed) (M M1 : Mst) : Bool := !M.idle prog && !M1.left.isEmpty && !M.pace.isEmpty
def beat (ords : List Ord) (prog : List Deed) (M : Mst) : Mst :=
  let M1 := M.proc ords prog
  let M2 := if uses prog M M1 = true then (if M.pace.headD true = true then { M1 with pace := M.pace.tail }.carry else { M1 with pace := M.pace.tail }) else M1.carry
  { M2 with beats := M.beats + 1 }
def over (prog : List Deed) (M : Mst) : Bool := decide (M.at_ = prog.length) && M.left.isEmpty
def run (ords : List Ord) (prog : List Deed) : Nat → Mst → Mst
  | 0, M => M
  | f + 1, M => if M.over prog = true then M else run ords prog f (M.beat ords prog)
def finish (M : Mst) : Mst := (((M.clean 0).clean 1).clean 2).clean 3
def begin (B : Brd) (pace : List Bool) : Mst := ⟨B.mem, List.replicate (B.mem.length / 4) none, List.replicate (B.mem.length / 4) false, [], 0, 0, [], pace⟩
/-- how far it is from its end -/
def mu (prog : List Deed) (M : Mst) : Nat := (prog.length - M.at_) * 100 + M.left.length
end Mst
def gone (B : Brd) (pace : List Bool) : Mst := (Mst.run B.ords B.prog 7000 (Mst.begin B pace)).finish
/-- what holds of a machine -/
structure MOk0 (cells : Nat) (M : Mst) : Prop where
  lines : cells = 4 ∨ cells = 8 ∨ cells = 12 ∨ cells = 16
  mem : M.mem.length = cells
  held : M.held.length = cells / 4
  tou : M.tou.length = cells / 4
  four : ∀ (l : Nat) (cs : List Nat), M.held[l]? = some (some cs) → cs.length = 4
  th : ∀ (l : Nat), M.touched l = true → M.holds l = true
  left : ∀ m ∈ M.left, m.src < cells ∧ m.goal < cells
structure MOk (cells : Nat) (prog : List Deed) (M : Mst) : Prop extends MOk0 cells M where
  at_ : M.at_ ≤ prog.length
  room : M.rows.length + 12 * M.mu prog ≤ 90000
  sixty : prog.length ≤ 60
  n32 : M.left.length ≤ 32 * M.at_
end Vt
namespace Vt
open PySem PySem.Spec PyProof.Rows L2
namespace Mst
theorem holds_iff {M : Mst} {l : Nat} : M.holds l = true ↔ ∃ cs, M.held[l]? = some (some cs) := by
  unfold holds
  split
  · rename_i cs e; exact ⟨fun _ => ⟨cs, e⟩, fun _ => rfl⟩
  · rename_i h; exact ⟨fun z => (nomatch z), fun ⟨cs, e⟩ => absurd e (h cs)⟩
theorem cellsOf_of {M : Mst} {l : Nat} {cs : List Nat} (e : M.held[l]? = some (some cs)) : M.cellsOf l = cs := by
  unfold cellsOf; rw [e]
theorem holds_lt {M : Mst} {l : Nat} (h : M.holds l = true) : l < M.held.length := by
  obtain ⟨cs, e⟩ := holds_iff.mp h
  exact (List.getElem?_eq_some_iff.mp e).1
end Mst
section
variable {cells : Nat} {M : Mst} {prog : List Deed} {ords : List Ord}
open Mst
theorem MOk0.line {c : Nat} (h : MOk0 cells M) (hc : c < cells) : c / 4 < cells / 4 := by
  have := h.lines
  omega
theorem MOk0.tell {w : Str} {p n : Nat} (h : MOk0 cells M) : MOk0 cells (M.tell w p n) := ⟨h.lines, h.mem, h.held, h.tou, h.four, h.th, h.left⟩
theorem MOk0.take {l : Nat} (h : MOk0 cells M) (hl : l < cells / 4) : MOk0 cells (M.take l) := by
  unfold Mst.take
  split
  · exact h
  · rename_i hn
    refine MOk0.tell ⟨h.lines, h.mem, by rw [List.length_set]; exact h.held, h.tou, fun k cs e => ?_, fun k e => ?_, h.left⟩
    · by_cases hk : l = k
      · subst hk
        rw [List.getElem?_set_self (by rw [h.held]; exact hl)] at e
        cases e
        rw [List.length_take, List.length_drop, h.mem]
        have := h.lines
        omega
      · rw [List.getElem?_set_ne hk] at e
        exact h.four k cs e
    · obtain ⟨cs, e'⟩ := holds_iff.mp (h.th k e)
      refine holds_iff.mpr ?_
      by_cases hk : l = k
      · subst hk
        exact ⟨_, List.getElem?_set_self (by rw [h.held]; exact hl)⟩
      · exact ⟨cs, by rw [List.getElem?_set_ne hk]; exact e'⟩
theorem take_holds {l : Nat} (h : MOk0 cells M) (hl : l < cells / 4) : (M.take l).holds l = true := by
  unfold Mst.take
  split
  · assumption
  · exact holds_iff.mpr ⟨_, List.getElem?_set_self (by rw [h.held]; exact hl)⟩
theorem MOk0.read {c : Nat} (h : MOk0 cells M) (hc : c < cells) : MOk0 cells (M.read c) := (h.take (h.line hc)).tell
theorem MOk0.write0 {c n : Nat} (h : MOk0 cells M) (hc : c < cells) (hh : M.holds (c / 4) = true) : MOk0 cells (M.write0 c n) := by
  have hl := h.line hc
  obtain ⟨cs0, e0⟩ := holds_iff.mp hh
  refine ⟨h.lines, h.mem, by simp only [Mst.write0, List.length_set]; exact h.held, by simp only [Mst.write0, List.length_set]; exact h.tou, fun k cs e => ?_, fun k e => ?_, h.left⟩
  · simp only [Mst.write0] at e
    by_cases hk : c / 4 = k
    · subst hk
      rw [List.getElem?_set_self (by rw [h.held]; exact hl)] at e
      cases e
      rw [List.length_set, cellsOf_of e0]
      exact h.four _ _ e0
    · rw [List.getElem?_set_ne hk] at e
      exact h.four k cs e
  · refine holds_iff.mpr ?_
    simp only [Mst.write0]
    by_cases hk : c / 4 = k
    · subst hk
      exact ⟨_, List.getElem?_set_self (by rw [h.held]; exact hl)⟩
    · simp only [Mst.touched, Mst.write0, List.getD_eq_getElem?_getD, List.getElem?_set_ne hk] at e
      obtain ⟨cs, e'⟩ := holds_iff.mp (h.th k (by simp only [Mst.touched, List.getD_eq_getElem?_getD]; exact e))
      exact ⟨cs, by rw [List.getElem?_set_ne hk]; exact e'⟩
theorem MOk0.write {c n : Nat} (h : MOk0 cells M) (hc : c < cells) : MOk0 cells (M.write c n) :=
  ((h.take (h.line hc)).write0 hc (take_holds h (h.line hc))).tell
theorem touched_set {l k : Nat} {M : Mst} {b : Bool} : (List.getD (M.tou.set l b) k false = true) → (k = l ∧ b = true) ∨ (k ≠ l ∧ M.touched k = true) := fun e => by
  rw [List.getD_eq_getElem?_getD] at e
  by_cases hk : l = k
  · subst hk
    rcases Nat.lt_or_ge l M.tou.length with h | h
    · rw [List.getElem?_set_self h] at e
      exact .inl ⟨rfl, by simpa using e⟩
    · rw [List.getElem?_eq_none (by rw [List.length_set]; exact h)] at e
      simp at e
  · rw [List.getElem?_set_ne hk] at e
    exact .inr ⟨fun z => hk z.symm, by rw [Mst.touched, List.getD_eq_getElem?_getD]; exact e⟩
theorem MOk0.clean {l : Nat} (h : MOk0 cells M) : MOk0 cells (M.clean l) := by
  unfold Mst.clean
  split
  · rename_i ht
    have hh := h.th l ht
    obtain ⟨cs, e⟩ := holds_iff.mp hh
    have hl := holds_lt hh
    have hlen : (M.mem.take (4 * l) ++ M.cellsOf l ++ M.mem.drop (4 * l + 4)).length = cells := by
      rw [List.length_append, List.length_append, List.length_take, List.length_drop, cellsOf_of e, h.four l cs e, h.mem]
      have := h.lines
      have := h.held
      omega
    refine MOk0.tell ⟨h.lines, hlen, h.held, by rw [List.length_set]; exact h.tou, h.four, fun k e' => ?_, h.left⟩
    rcases touched_set e' with ⟨_, z⟩ | ⟨_, z⟩
    · cases z
    · exact h.th k z
  · exact h
theorem MOk0.drop {l : Nat} (h : MOk0 cells M) : MOk0 cells (M.drop l) := by
  unfold Mst.drop
  split
  · rename_i hh
    have hl := holds_lt hh
    refine MOk0.tell ⟨h.lines, h.mem, by rw [List.length_set]; exact h.held, by rw [List.length_set]; exact h.tou, fun k cs e => ?_, fun k e' => ?_, h.left⟩
    · by_cases hk : l = k
      · subst hk
        rw [List.getElem?_set_self hl] at e
        cases e
      · rw [List.getElem?_set_ne hk] at e
        exact h.four k cs e
    · rcases touched_set e' with ⟨_, z⟩ | ⟨hk, z⟩
      · cases z
      · obtain ⟨cs, e⟩ := holds_iff.mp (h.th k z)
        exact holds_iff.mpr ⟨cs, by rw [List.getElem?_set_ne (fun z => hk z.symm)]; exact e⟩
  · exact h
theorem MOk0.deed {d : Deed} (h : MOk0 cells M) (hok : ∀ (i : Nat) (o : Ord), ords[i]? = some o → OrdOk o i ords.length cells) (hd : DeedOk d ords.length cells) : MOk0 cells (M.deed ords d) := by
  cases d with
  | set c n => exact h.write hd.1
  | add c o => exact ((h.read hd.1).read hd.2).write hd.1
  | say c => exact (h.read hd).tell
  | start k =>
    refine MOk0.tell ⟨h.lines, h.mem, h.held, h.tou, h.four, h.th, fun m hm => ?_⟩
    rcases List.mem_append.mp hm with q | q
    · exact h.left m q
    · have hb : ∀ f k, ∀ m ∈ chain ords f k, m.src < cells ∧ m.goal < cells := by
        intro f
        induction f with
        | zero => intro k m hm; cases k <;> simp [chain] at hm
        | succ f ih =>
          intro k m hm
          cases k with
          | none => simp [chain] at hm
          | some k =>
            rw [chain] at hm
            split at hm
            · simp at hm
            · rename_i o e
              rcases List.mem_append.mp hm with q | q
              · obtain ⟨s, hs, rfl⟩ := List.mem_map.mp q
                have := List.mem_range.mp hs
                have := (hok k o e).src
                have := (hok k o e).goal
                simp only [mvAt]; omega
              · exact ih o.later m q
      exact hb 4 (some k) m q
  | wait => exact h
  | clean l => exact h.clean
  | drop l => exact h.drop
theorem MOk0.carry (h : MOk0 cells M) : MOk0 cells M.carry := by
  unfold Mst.carry
  split
  · exact h
  · rename_i mv r e
    have hl : ∀ m ∈ r, m.src < cells ∧ m.goal < cells := fun m hm => h.left m (by rw [e]; exact List.mem_cons_of_mem _ hm)
    have base : MOk0 cells { M with left := r, mem := M.mem.set mv.goal (M.mem.getD mv.src 0) } := ⟨h.lines, by rw [List.length_set]; exact h.mem, h.held, h.tou, h.four, h.th, hl⟩
    dsimp only
    split
    · exact base.tell.tell
    · exact base.tell.tell.tell
/-! ### how much is told, and how far the end is -/
theorem take_rows {l : Nat} : (M.take l).rows.length ≤ M.rows.length + 1 ∧ (M.take l).left = M.left ∧ (M.take l).at_ = M.at_ ∧ (M.take l).beats = M.beats ∧ (M.take l).pace = M.pace := by
  unfold Mst.take
  split
  · exact ⟨by omega, rfl, rfl, rfl, rfl⟩
  · exact ⟨by simp [Mst.tell], rfl, rfl, rfl, rfl⟩
theorem read_rows {c : Nat} : (M.read c).rows.length ≤ M.rows.length + 2 ∧ (M.read c).left = M.left ∧ (M.read c).at_ = M.at_ ∧ (M.read c).beats = M.beats ∧ (M.read c).pace = M.pace := by
  obtain ⟨h1, h2, h3, h4, h5⟩ := take_rows (M := M) (l := c / 4)
  refine ⟨?_, h2, h3, h4, h5⟩
  simp only [Mst.read, Mst.tell, List.length_append, List.length_cons, List.length_nil]; omega
theorem write_rows {c n : Nat} : (M.write c n).rows.length ≤ M.rows.length + 2 ∧ (M.write c n).left = M.left ∧ (M.write c n).at_ = M.at_ ∧ (M.write c n).beats = M.beats ∧ (M.write c n).pace = M.pace := by
  obtain ⟨h1, h2, h3, h4, h5⟩ := take_rows (M := M) (l := c / 4)
  refine ⟨?_, h2, h3, h4, h5⟩
  simp only [Mst.write, Mst.tell, Mst.write0, List.length_append, List.length_cons, List.length_nil]; omega
theorem clean_rows {l : Nat} : (M.clean l).rows.length ≤ M.rows.length + 1 ∧ (M.clean l).left = M.left ∧ (M.clean l).at_ = M.at_ ∧ (M.clean l).beats = M.beats ∧ (M.clean l).pace = M.pace := by
  unfold Mst.clean
  split
  · exact ⟨by simp [Mst.tell], rfl, rfl, rfl, rfl⟩
  · exact ⟨by omega, rfl, rfl, rfl, rfl⟩
theorem drop_rows {l : Nat} : (M.drop l).rows.length ≤ M.rows.length + 1 ∧ (M.drop l).left = M.left ∧ (M.drop l).at_ = M.at_ ∧ (M.drop l).beats = M.beats ∧ (M.drop l).pace = M.pace := by
  unfold Mst.drop
  split
  · exact ⟨by simp [Mst.tell], rfl, rfl, rfl, rfl⟩
  · exact ⟨by omega, rfl, rfl, rfl, rfl⟩
theorem deed_rows {d : Deed} (hm : ∀ o ∈ ords, o.many ≤ 8) : (M.deed ords d).rows.length ≤ M.rows.length + 6 ∧ (M.deed ords d).left.length ≤ M.left.length + 32 ∧ (M.deed ords d).at_ = M.at_ ∧ (M.deed ords d).beats = M.beats ∧ (M.deed ords d).pace = M.pace ∧ (d = .wait → M.deed ords d = M) := by
  cases d with
  | set c n =>
    obtain ⟨h1, h2, h3, h4, h5⟩ := write_rows (M := M) (c := c) (n := n)
    exact ⟨by simp only [Mst.deed]; omega, by simp only [Mst.deed]; rw [h2]; omega, h3, h4, h5, fun z => nomatch z⟩
  | add c o =>
    obtain ⟨h1, h2, h3, h4, h5⟩ := read_rows (M := M) (c := c)
    obtain ⟨g1, g2, g3, g4, g5⟩ := read_rows (M := M.read c) (c := o)
    obtain ⟨k1, k2, k3, k4, k5⟩ := write_rows (M := (M.read c).read o) (c := c) (n := (M.readN c + (M.read c).readN o) % 10)
    exact ⟨by simp only [Mst.deed]; omega, by simp only [Mst.deed]; rw [k2, g2, h2]; omega, by simp only [Mst.deed]; rw [k3, g3, h3], by simp only [Mst.deed]; rw [k4, g4, h4], by simp only [Mst.deed]; rw [k5, g5, h5], fun z => nomatch z⟩
  | say c =>
    obtain ⟨h1, h2, h3, h4, h5⟩ := read_rows (M := M) (c := c)
    exact ⟨by simp only [Mst.deed, Mst.tell, List.length_append, List.length_cons, List.length_nil]; omega, by simp only [Mst.deed, Mst.tell]; rw [h2]; omega, h3, h4, h5, fun z => nomatch z⟩
  | start k =>
    have := told_len hm k
    exact ⟨by simp [Mst.deed, Mst.tell], by simp only [Mst.deed, Mst.tell, List.length_append]; omega, rfl, rfl, rfl, fun z => nomatch z⟩
  | wait => exact ⟨by simp only [Mst.deed]; omega, by simp only [Mst.deed]; omega, rfl, rfl, rfl, fun _ => rfl⟩
  | clean l =>
    obtain ⟨h1, h2, h3, h4, h5⟩ := clean_rows (M := M) (l := l)
    exact ⟨by simp only [Mst.deed]; omega, by simp only [Mst.deed]; rw [h2]; omega, h3, h4, h5, fun z => nomatch z⟩
  | drop l =>
    obtain ⟨h1, h2, h3, h4, h5⟩ := drop_rows (M := M) (l := l)
    exact ⟨by simp only [Mst.deed]; omega, by simp only [Mst.deed]; rw [h2]; omega, h3, h4, h5, fun z => nomatch z⟩
theorem carry_rows : M.carry.rows.length ≤ M.rows.length + 3 ∧ M.carry.left = M.left.tail ∧ M.carry.at_ = M.at_ ∧ M.carry.beats = M.beats ∧ M.carry.pace = M.pace := by
  unfold Mst.carry
  split
  · rename_i e; exact ⟨by omega, by rw [e]; rfl, rfl, rfl, rfl⟩
  · rename_i mv r e
    dsimp only
    split
    · exact ⟨by simp [Mst.tell], by rw [e]; rfl, rfl, rfl, rfl⟩
    · exact ⟨by simp [Mst.tell], by rw [e]; rfl, rfl, rfl, rfl⟩
/-- what is not over goes on -/
theorem beat_ok (h : MOk cells prog M) (hno : M.over prog = false) (hok : ∀ (i : Nat) (o : Ord), ords[i]? = some o → OrdOk o i ords.length cells) (hm : ∀ o ∈ ords, o.many ≤ 8) (hp : ∀ d ∈ prog, DeedOk d ords.length cells) :
    MOk cells prog (M.beat ords prog) ∧ (M.beat ords prog).mu prog < M.mu prog := by
  -- the processor
  have key : ∀ M1, M1 = M.proc ords prog → MOk0 cells M1 ∧ M1.pace = M.pace ∧ M1.beats = M.beats ∧ M1.rows.length ≤ M.rows.length + 6 ∧
      ((M.idle prog = true ∧ M1 = M ∧ M.left ≠ []) ∨ (M.idle prog = false ∧ M1.at_ = M.at_ + 1 ∧ M.at_ < prog.length ∧ M1.left.length ≤ M.left.length + 32)) := by
    intro M1 e
    unfold Mst.proc at e
    split at e
    · rename_i hi
      refine ⟨by rw [e]; exact h.toMOk0, by rw [e], by rw [e], by rw [e]; omega, .inl ⟨hi, e, fun z => ?_⟩⟩
      unfold Mst.idle at hi
      unfold Mst.over at hno
      split at hi
      · rename_i e
        have := List.getElem?_eq_none_iff.mp e
        have := h.at_
        rw [z, decide_eq_true (show M.at_ = prog.length by omega)] at hno
        simp at hno
      · rw [z] at hi; simp at hi
    · rename_i hi
      have hi' : M.idle prog = false := by simpa using hi
      split at e
      · rename_i e0
        unfold Mst.idle at hi'
        rw [e0] at hi'; cases hi'
      · rename_i d e0
        subst e
        have hd := hp d (List.mem_of_getElem? e0)
        have h0 := h.toMOk0.deed hok hd
        obtain ⟨h1, h2, h3, h4, h5, _⟩ := deed_rows (M := M) (d := d) hm
        exact ⟨⟨h0.lines, h0.mem, h0.held, h0.tou, h0.four, h0.th, h0.left⟩, h5, h4, h1, .inr ⟨hi', rfl, (List.getElem?_eq_some_iff.mp e0).1, h2⟩⟩
  obtain ⟨k1, k2, k3, k4, k5⟩ := key _ rfl
  unfold Mst.beat
  generalize M.proc ords prog = M1 at *
  dsimp only
  -- the carrier
  have fin : ∀ M2 : Mst, MOk0 cells M2 → M2.rows.length ≤ M1.rows.length + 3 → M2.at_ = M1.at_ → (M2.left = M1.left.tail ∨ (M2.left = M1.left ∧ M.idle prog = false)) →
      MOk cells prog { M2 with beats := M.beats + 1 } ∧ Mst.mu prog { M2 with beats := M.beats + 1 } < M.mu prog := fun M2 g0 g1 g2 g3 => by
    have hroom := h.room
    have hat := h.at_
    have hn32 := h.n32
    have hmu : Mst.mu prog { M2 with beats := M.beats + 1 } < M.mu prog := by
      simp only [Mst.mu] at hroom ⊢
      rw [g2]
      rcases k5 with ⟨hi, rfl, hl⟩ | ⟨hi, ha, hlt, hl⟩
      · rcases g3 with g3 | ⟨_, g3⟩
        · rw [g3, List.length_tail]
          have : 0 < M1.left.length := List.length_pos_iff.mpr hl
          omega
        · rw [hi] at g3; cases g3
      · have : M2.left.length ≤ M1.left.length := by
          rcases g3 with g3 | ⟨g3, _⟩
          · rw [g3, List.length_tail]; omega
          · rw [g3]; omega
        rw [ha]; omega
    refine ⟨⟨⟨g0.lines, g0.mem, g0.held, g0.tou, g0.four, g0.th, g0.left⟩, ?_, ?_, h.sixty, ?_⟩, hmu⟩
    · show M2.at_ ≤ prog.length
      rw [g2]
      rcases k5 with ⟨_, rfl, _⟩ | ⟨_, ha, hlt, _⟩
      · exact hat
      · rw [ha]; omega
    · show M2.rows.length + 12 * Mst.mu prog { M2 with beats := M.beats + 1 } ≤ 90000
      omega
    · show M2.left.length ≤ 32 * M2.at_
      have : M2.left.length ≤ M1.left.length := by
        rcases g3 with g3 | ⟨g3, _⟩
        · rw [g3, List.length_tail]; omega
        · rw [g3]; omega
      rw [g2]
      rcases k5 with ⟨_, rfl, _⟩ | ⟨_, ha, hlt, hl⟩
      · omega
      · rw [ha]; omega
  split
  · rename_i hu
    have hi : M.idle prog = false := by
      simp only [Mst.uses, Bool.and_eq_true, Bool.not_eq_true'] at hu
      exact hu.1.1
    have kp : MOk0 cells { M1 with pace := M.pace.tail } := ⟨k1.lines, k1.mem, k1.held, k1.tou, k1.four, k1.th, k1.left⟩
    split
    · obtain ⟨c1, c2, c3, c4, c5⟩ := carry_rows (M := { M1 with pace := M.pace.tail })
      exact fin _ kp.carry c1 c3 (.inl c2)
    · exact fin _ kp (by show M1.rows.length ≤ _; omega) rfl (.inr ⟨rfl, hi⟩)
  · obtain ⟨c1, c2, c3, c4, c5⟩ := carry_rows (M := M1)
    exact fin _ k1.carry c1 c3 (.inl c2)
theorem begin_ok {B : Brd} (ok : BrdOk B) (pace : List Bool) : MOk B.mem.length B.prog (Mst.begin B pace) := by
  refine ⟨⟨ok.cells, rfl, by simp [Mst.begin], by simp [Mst.begin], fun l cs e => ?_, fun l e => ?_, by simp [Mst.begin]⟩, Nat.zero_le _, ?_, ok.sixty, Nat.zero_le _⟩
  · simp only [Mst.begin, List.getElem?_replicate] at e
    split at e <;> simp at e
  · simp only [Mst.begin, Mst.touched, List.getD_eq_getElem?_getD, List.getElem?_replicate] at e
    split at e <;> simp at e
  · have := ok.sixty
    simp only [Mst.begin, Mst.mu, List.length_nil]; omega
theorem begin_mu {B : Brd} (ok : BrdOk B) (pace : List Bool) : (Mst.begin B pace).mu B.prog ≤ 7000 := by
  have := ok.sixty
  simp only [Mst.begin, Mst.mu, List.length_nil]; omega
/-- a run that has come to its end -/
theorem run_over {f : Nat} (h : M.over prog = true) : Mst.run ords prog f M = M := by
  cases f with
  | zero => rfl
  | succ f => rw [Mst.run, if_pos h]
/-- a run that goes on -/
theorem run_on {f : Nat} (ha : M.at_ ≤ prog.length) (h : M.over prog = false) (hf : M.mu prog ≤ f) : ∃ f', f = f' + 1 ∧ Mst.run ords prog f M = Mst.run ords prog f' (M.beat ords prog) := by
  cases f with
  | zero =>
    exfalso
    unfold Mst.over at h
    simp only [Mst.mu] at hf
    have h1 : M.left = [] := List.length_eq_zero_iff.mp (by omega)
    rw [h1, decide_eq_true (show M.at_ = prog.length by omega)] at h
    cases h
  | succ f => exact ⟨f, rfl, by rw [Mst.run, if_neg (by rw [h]; simp)]⟩
end
end Vt
namespace Vt
open PySem PySem.Spec PyProof.Rows L2
def cleans (M : Mst) : Nat → Mst
  | 0 => M
  | n + 1 => (cleans M n).clean n
theorem cleans_ok {cells : Nat} {M : Mst} (h : MOk0 cells M) : ∀ n, MOk0 cells (cleans M n) ∧ (cleans M n).rows.length ≤ M.rows.length + n
  | 0 => ⟨h, Nat.le_refl _⟩
  | n + 1 => by
    obtain ⟨h1, h2⟩ := cleans_ok h n
    have := (clean_rows (M := cleans M n) (l := n)).1
    exact ⟨h1.clean, by show ((cleans M n).clean n).rows.length ≤ _; omega⟩
theorem cut_nat {α : Type} (xs : List V) (a b : Nat) (ha : a ≤ b) (hb : b ≤ xs.length) : cutV xs (some (a : Int)) (some (b : Int)) = (xs.drop a).take (b - a) := by
  unfold cutV
  rw [HT.sIx_nat, HT.sIx_nat, Nat.min_eq_left hb, Nat.min_eq_left (show a ≤ xs.length by omega)]
/-! ### the next deed's number changes nothing else -/
def atN (M : Mst) (a : Nat) : Mst := { M with at_ := a }
theorem take_at {M : Mst} {a l : Nat} : (atN M a).take l = atN (M.take l) a := by
  unfold Mst.take
  show (if M.holds l = true then _ else _) = _
  split <;> rfl
theorem readN_at {M : Mst} {a c : Nat} : (atN M a).readN c = M.readN c := by
  unfold Mst.readN; rw [take_at]; rfl
theorem read_at {M : Mst} {a c : Nat} : (atN M a).read c = atN (M.read c) a := by
  unfold Mst.read; rw [take_at, readN_at]; rfl
theorem write_at {M : Mst} {a c n : Nat} : (atN M a).write c n = atN (M.write c n) a := by
  unfold Mst.write; rw [take_at]; rfl
theorem clean_at {M : Mst} {a l : Nat} : (atN M a).clean l = atN (M.clean l) a := by
  unfold Mst.clean
  show (if M.touched l = true then _ else _) = _
  split <;> rfl
theorem drop_at {M : Mst} {a l : Nat} : (atN M a).drop l = atN (M.drop l) a := by
  unfold Mst.drop
  show (if M.holds l = true then _ else _) = _
  split <;> rfl
theorem proc_some {M : Mst} {ords : List Ord} {prog : List Deed} {d : Deed} (h : M.idle prog = false) (e : prog[M.at_]? = some d) : M.proc ords prog = atN (M.deed ords d) (M.at_ + 1) := by
  unfold Mst.proc
  rw [if_neg (by rw [h]; simp), e]; rfl
theorem proc_idle {M : Mst} {ords : List Ord} {prog : List Deed} (h : M.idle prog = true) : M.proc ords prog = M := by
  unfold Mst.proc
  rw [if_pos h]
end Vt
namespace Vt
open PySem PySem.Spec PyProof.Rows L2
section
variable {H H' : Hp}
mutual
theorem Pd.tups (s : ∀ a xs, H a = some (.tup xs) → H' a = some (.tup xs)) : ∀ {d : D} {v : V}, d.noL = true → Pd H v d → Pd H' v d
  | .non, _, _, .non => .non
  | .bl _, _, _, .bl b => .bl b
  | .int _, _, _, .int b => .int b
  | .str _, _, _, .str b => .str b
  | .tup ds, _, n, .tup h hs => .tup (s _ _ h) (Pds.tups s (by rw [D.noL] at n; exact n) hs)
  | .lst ds, _, n, .lst h hs => by rw [D.noL] at n; cases n
theorem Pds.tups (s : ∀ a xs, H a = some (.tup xs) → H' a = some (.tup xs)) : ∀ {ds : List D} {vs : List V}, noLs ds = true → Pds H vs ds → Pds H' vs ds
  | [], _, _, .nil => .nil
  | d :: ds, _, n, .cons h hs => by
    rw [noLs, Bool.and_eq_true] at n
    exact .cons (Pd.tups s n.1 h) (Pds.tups s n.2 hs)
end
end
theorem big {n : Nat} (h : n ≤ 1000000) : n < sizeLine := Nat.lt_of_le_of_lt h (by decide)
theorem big' {n : Nat} (h : n ≤ 1000000) : n ≤ sizeLine := Nat.le_of_lt (big h)
/-! ### the asker's machine in the heap -/
/-- where its parts stand -/
structure Ad where
  mem : Addr
  held : Addr
  tou : Addr
  left : Addr
  rows : Addr
  hk : List (Key × V)
  tk : List (Key × V)
  ha : Nat → Addr
  xs : List V
  ls : List V
/-- the machine's flag and its counts of readings and fetches -/
structure Fl where
  i : Bool
  nr : Nat
  nf : Nat
  fx : Addr → Prop := fun _ => False
instance : Coe Bool Fl := ⟨fun b => ⟨b, 0, 0, fun _ => False⟩⟩
/-- what is owned by others: lists that are not memory's and not the moves' -/
def FX (H : Hp) (fx : Addr → Prop) (mem left : Addr) : Prop := ¬ fx mem ∧ ¬ fx left ∧ ∀ c, fx c → ∃ o, H c = some o
theorem FX.same {H H' : Hp} {fx : Addr → Prop} {a b : Addr} (x : FX H fx a b) (s : Same H H') : FX H' fx a b := ⟨x.1, x.2.1, fun c h => let ⟨o, e⟩ := x.2.2 c h; ⟨o, s _ _ e⟩⟩
theorem FX.upd {H : Hp} {fx : Addr → Prop} {a b q : Addr} {o : HO} (x : FX H fx a b) : FX (upd H q o) fx a b := ⟨x.1, x.2.1, fun c h => by
  by_cases e : c = q
  · subst e; exact ⟨o, upd_same⟩
  · obtain ⟨u, hu⟩ := x.2.2 c h
    exact ⟨u, by rw [upd_ne e]; exact hu⟩⟩
theorem FX.new {H : Hp} {fx : Addr → Prop} {a b p : Addr} (x : FX H fx a b) (n : H p = none) : ¬ fx p := fun h => by
  obtain ⟨o, e⟩ := x.2.2 p h
  rw [n] at e; cases e
def Fl.put (f : Fl) (b : Bool) : Fl := { f with i := b }
def kM (A : Ad) (idle : Fl) (at_ beats : Nat) : List (Key × V) :=
  [(.inr "memory", .ref A.mem), (.inr "held", .ref A.held), (.inr "touched", .ref A.tou), (.inr "left", .ref A.left), (.inr "rows", .ref A.rows), (.inr "idle", .bl idle.i), (.inr "at", nV at_), (.inr "beats", nV beats), (.inr "reads", nV idle.nr), (.inr "fetches", nV idle.nf)]
def lk (l : Nat) : Key := .inl (l : Int)
theorem lk_inj {a b : Nat} (h : lk a = lk b) : a = b := by
  have : (a : Int) = b := Sum.inl.inj h
  omega
/-- a dict by lines -/
structure ByLine (kvs : List (Key × V)) (f : Nat → Option V) : Prop where
  val : ∀ l, valV kvs (lk l) = f l
  nd : (kvs.map (·.1)).Nodup
  low : ∀ k ∈ kvs.map (·.1), ∃ l : Nat, l < 4 ∧ k = lk l
theorem len_sub {α : Type} [DecidableEq α] : ∀ (l t : List α), l.Nodup → (∀ x ∈ l, x ∈ t) → l.length ≤ t.length
  | [], t, _, _ => Nat.zero_le _
  | x :: r, t, nd, h => by
    have hx : x ∈ t := h x (by simp)
    obtain ⟨n1, n2⟩ := List.nodup_cons.mp nd
    have := len_sub r (t.erase x) n2 fun y hy => (List.mem_erase_of_ne (fun e => n1 (by rw [← e]; exact hy))).mpr (h y (by simp [hy]))
    rw [List.length_erase_of_mem hx] at this
    have : 0 < t.length := List.length_pos_of_mem hx
    simp only [List.length_cons]; omega
theorem ByLine.len {kvs : List (Key × V)} {f : Nat → Option V} (h : ByLine kvs f) : kvs.length ≤ 4 := by
  have := len_sub (kvs.map (·.1)) [lk 0, lk 1, lk 2, lk 3] h.nd fun k hk => by
    obtain ⟨l, hl, rfl⟩ := h.low k hk
    rcases (show l = 0 ∨ l = 1 ∨ l = 2 ∨ l = 3 by omega) with rfl | rfl | rfl | rfl <;> simp
  simpa using this
theorem putK_keys {kvs : List (Key × V)} {k : Key} {v : V} : ∀ j ∈ (putK kvs k v).map (·.1), j ∈ kvs.map (·.1) ∨ j = k := by
  intro j hj
  unfold putK at hj
  split at hj
  · rw [List.map_map] at hj
    left
    have : ((fun p : Key × V => p.1) ∘ fun kv : Key × V => if kv.1 = k then (kv.1, v) else kv) = fun p => p.1 := by
      funext p; simp only [Function.comp]; split <;> rfl
    rw [this] at hj; exact hj
  · rw [List.map_append] at hj
    rcases List.mem_append.mp hj with h | h
    · exact .inl h
    · exact .inr (by simpa using h)
theorem ByLine.put {kvs : List (Key × V)} {f : Nat → Option V} {l : Nat} {v : V} (h : ByLine kvs f) (hl : l < 4) : ByLine (putK kvs (lk l) v) (fun k => if k = l then some v else f k) := by
  refine ⟨fun k => ?_, ?_, fun k hk => ?_⟩
  · rw [valV_put]
    by_cases e : k = l
    · rw [if_pos (by rw [e]), if_pos e]
    · rw [if_neg (fun z => e (lk_inj z)), if_neg e]; exact h.val k
  · cases hv : valV kvs (lk l) with
    | none => exact nd_putK v h.nd hv
    | some w =>
      unfold putK
      rw [if_pos (by rw [valV_any, hv]; rfl)]
      rw [List.map_map]
      have : ((fun p : Key × V => p.1) ∘ fun kv : Key × V => if kv.1 = lk l then (kv.1, v) else kv) = fun p => p.1 := by
        funext p; simp only [Function.comp]; split <;> rfl
      rw [this]; exact h.nd
  · rcases putK_keys k hk with q | q
    · exact h.low k q
    · exact ⟨l, hl, q⟩
theorem valV_drop {kvs : List (Key × V)} {k j : Key} (hn : (kvs.map (·.1)).Nodup) : valV (dropK kvs k) j = if j = k then none else valV kvs j := by
  induction kvs with
  | nil => simp [dropK, valV]
  | cons p r ih =>
    obtain ⟨n1, n2⟩ := List.nodup_cons.mp (show (p.1 :: r.map (·.1)).Nodup from hn)
    by_cases e : p.1 = k
    · rw [dropK_pos e, ih n2]
      by_cases ej : j = k
      · rw [if_pos ej, if_pos ej]
      · rw [if_neg ej, if_neg ej, valV_neg (fun z => ej (z.symm.trans e))]
    · rw [dropK_neg e]
      by_cases e2 : p.1 = j
      · rw [valV_pos e2, valV_pos e2, if_neg (fun z => e (e2.trans z))]
      · rw [valV_neg e2, valV_neg e2, ih n2]
theorem ByLine.dropL {kvs : List (Key × V)} {f : Nat → Option V} {l : Nat} (h : ByLine kvs f) : ByLine (dropK kvs (lk l)) (fun k => if k = l then none else f k) := by
  refine ⟨fun k => ?_, nd_dropK h.nd, fun k hk => ?_⟩
  · rw [valV_drop h.nd]
    by_cases e : k = l
    · rw [if_pos (by rw [e]), if_pos e]
    · rw [if_neg (fun z => e (lk_inj z)), if_neg e]; exact h.val k
  · obtain ⟨p, hp, rfl⟩ := List.mem_map.mp hk
    exact h.low _ (List.mem_map.mpr ⟨p, dropK_mem hp, rfl⟩)
theorem ByLine.congr {kvs : List (Key × V)} {f g : Nat → Option V} (h : ByLine kvs f) (e : ∀ l, f l = g l) : ByLine kvs g := ⟨fun l => (h.val l).trans (e l), h.nd, h.low⟩
structure LM (ow : Addr → Prop) (H : Hp) (m : Addr) (idle : Fl) (M : Mst) (A : Ad) : Prop where
  obj : H m = some (.dK (kM A idle M.at_ M.beats))
  mem : H A.mem = some (.lst (M.mem.map nV))
  held : H A.held = some (.dK A.hk)
  tou : H A.tou = some (.dK A.tk)
  left : H A.left = some (.lst A.ls)
  leftD : Pds H A.ls (M.left.map Mv.d)
  rows : H A.rows = some (.lst A.xs)
  rowsD : Pds H A.xs (M.rows.map Row.d)
  line : ∀ l, M.holds l = true → H (A.ha l) = some (.lst ((M.cellsOf l).map nV))
  hk : ByLine A.hk fun l => if M.holds l = true then some (.ref (A.ha l)) else none
  tk : ByLine A.tk fun l => if M.touched l = true then some (.bl true) else none
  inj : ∀ l k, M.holds l = true → M.holds k = true → A.ha l = A.ha k → l = k
  om : ow m
  oh : ow A.held
  ot : ow A.tou
  or : ow A.rows
  ol : ∀ l, M.holds l = true → ow (A.ha l)
  nmem : ¬ ow A.mem
  nleft : ¬ ow A.left
  mh : m ≠ A.held
  mt : m ≠ A.tou
  ht : A.held ≠ A.tou
  rl : ∀ l, M.holds l = true → A.rows ≠ A.ha l
  kind : ∀ c, ow c → (∃ xs, H c = some (.lst xs)) ∨ ∃ kvs, H c = some (.dK kvs)
  xx : FX H idle.fx A.mem A.left
/-- what is not the machine's own stands, and is not its own then -/
def Keep (ow ow' : Addr → Prop) (H H' : Hp) : Prop := ∀ c o, ¬ ow c → H c = some o → H' c = some o ∧ ¬ ow' c
theorem Keep.refl {ow : Addr → Prop} {H : Hp} : Keep ow ow H H := fun c o n h => ⟨h, n⟩
theorem Keep.trans {o1 o2 o3 : Addr → Prop} {H1 H2 H3 : Hp} (a : Keep o1 o2 H1 H2) (b : Keep o2 o3 H2 H3) : Keep o1 o3 H1 H3 := fun c o n h => by
  obtain ⟨h1, n1⟩ := a c o n h
  exact b c o n1 h1
theorem Same.keep {ow : Addr → Prop} {H H' : Hp} (s : Same H H') : Keep ow ow H H' := fun c o n h => ⟨s c o h, n⟩
theorem Keep.setOwn {ow : Addr → Prop} {H : Hp} {q : Addr} {o : HO} (hq : ow q) : Keep ow ow H (upd H q o) := fun c u n h => ⟨by rw [upd_ne (fun e => n (by rw [e]; exact hq))]; exact h, n⟩
section
variable {ow : Addr → Prop} {H H' : Hp} {m : Addr} {idle : Fl} {M : Mst} {A : Ad}
theorem LM.notTup (h : LM ow H m idle M A) {c : Addr} {xs : List V} (e : H c = some (.tup xs)) : ¬ ow c := fun n => by
  rcases h.kind c n with ⟨ys, q⟩ | ⟨ys, q⟩
  · rw [q] at e; cases e
  · rw [q] at e; cases e
theorem LM.keepPd {ow' : Addr → Prop} (h : LM ow H m idle M A) (k : Keep ow ow' H H') {d : D} {v : V} (n : d.noL = true) (p : Pd H v d) : Pd H' v d :=
  Pd.tups (fun a xs e => (k a _ (h.notTup e) e).1) n p
theorem LM.keepPds {ow' : Addr → Prop} (h : LM ow H m idle M A) (k : Keep ow ow' H H') {ds : List D} {vs : List V} (n : noLs ds = true) (p : Pds H vs ds) : Pds H' vs ds :=
  Pds.tups (fun a xs e => (k a _ (h.notTup e) e).1) n p
/-- new things stand beside it -/
theorem LM.same (h : LM ow H m idle M A) (s : Same H H') : LM ow H' m idle M A :=
  ⟨s _ _ h.obj, s _ _ h.mem, s _ _ h.held, s _ _ h.tou, s _ _ h.left, h.leftD.same s, s _ _ h.rows, h.rowsD.same s, fun l e => s _ _ (h.line l e), h.hk, h.tk, h.inj, h.om, h.oh, h.ot, h.or, h.ol, h.nmem, h.nleft, h.mh, h.mt, h.ht, h.rl,
    fun c n => (h.kind c n).elim (fun ⟨xs, e⟩ => .inl ⟨xs, s _ _ e⟩) fun ⟨xs, e⟩ => .inr ⟨xs, s _ _ e⟩, h.xx.same s⟩
theorem LM.lineNe (h : LM ow H m idle M A) {l : Nat} (e : M.holds l = true) : m ≠ A.ha l ∧ A.held ≠ A.ha l ∧ A.tou ≠ A.ha l :=
  ⟨ne_of h.obj (h.line l e) (by intro z; cases z), ne_of h.held (h.line l e) (by intro z; cases z), ne_of h.tou (h.line l e) (by intro z; cases z)⟩
theorem LM.rowsNe (h : LM ow H m idle M A) : m ≠ A.rows ∧ A.held ≠ A.rows ∧ A.tou ≠ A.rows :=
  ⟨ne_of h.obj h.rows (by intro z; cases z), ne_of h.held h.rows (by intro z; cases z), ne_of h.tou h.rows (by intro z; cases z)⟩
theorem kindUpd (h : ∀ c, ow c → (∃ xs, H c = some (.lst xs)) ∨ ∃ kvs, H c = some (.dK kvs)) {q : Addr} {o : HO} (ho : (∃ xs, o = .lst xs) ∨ ∃ kvs, o = .dK kvs) : ∀ c, ow c → (∃ xs, upd H q o c = some (.lst xs)) ∨ ∃ kvs, upd H q o c = some (.dK kvs) := fun c n => by
  by_cases e : c = q
  · subst e
    rw [upd_same]
    rcases ho with ⟨xs, rfl⟩ | ⟨xs, rfl⟩
    · exact .inl ⟨xs, rfl⟩
    · exact .inr ⟨xs, rfl⟩
  · rw [upd_ne e]; exact h c n
theorem LM.ne {q c : Addr} (hq : ow q) (hc : ¬ ow c) : c ≠ q := fun e => hc (by rw [e]; exact hq)
/-- the dict itself is written: other parts, the same lines -/
theorem LM.setObj (h : LM ow H m idle M A) {idle' : Fl} {at' beats' : Nat} {mem' left' : Addr} {mm : List Nat} {lf : List Mv} {ls : List V} (e1 : H mem' = some (.lst (mm.map nV))) (n1 : ¬ ow mem') (e2 : H left' = some (.lst ls)) (n2 : ¬ ow left') (e3 : Pds H ls (lf.map Mv.d)) (x : FX H idle'.fx mem' left') {pace : List Bool} :
    LM ow (upd H m (.dK (kM { A with mem := mem', left := left', ls := ls } idle' at' beats'))) m idle' { M with mem := mm, left := lf, at_ := at', beats := beats', pace := pace } { A with mem := mem', left := left', ls := ls } := by
  have k : Keep ow ow H (upd H m (.dK (kM { A with mem := mem', left := left', ls := ls } idle' at' beats'))) := Keep.setOwn h.om
  exact ⟨upd_same, (k _ _ n1 e1).1, by rw [upd_ne h.mh.symm]; exact h.held, by rw [upd_ne h.mt.symm]; exact h.tou, (k _ _ n2 e2).1, h.keepPds k (noLs_map noL_mv _) e3, by rw [upd_ne h.rowsNe.1.symm]; exact h.rows, h.keepPds k (noLs_map noL_row _) h.rowsD,
    fun l e => by rw [upd_ne (h.lineNe e).1.symm]; exact h.line l e, h.hk, h.tk, h.inj, h.om, h.oh, h.ot, h.or, h.ol, n1, n2, h.mh, h.mt, h.ht, h.rl, kindUpd h.kind (.inr ⟨_, rfl⟩), x.upd⟩
/-- a row is told -/
theorem LM.tell (h : LM ow H m idle M A) {T : Addr} {w : Str} {p n : Nat} (nT : H T = none) : (upd H T (.tup (Row.mk M.beats w p n).vs)) A.rows = some (.lst A.xs) ∧
    LM ow (upd (upd H T (.tup (Row.mk M.beats w p n).vs)) A.rows (.lst (A.xs ++ [.ref T]))) m idle (M.tell w p n) { A with xs := A.xs ++ [.ref T] } ∧ Keep ow ow H (upd (upd H T (.tup (Row.mk M.beats w p n).vs)) A.rows (.lst (A.xs ++ [.ref T]))) := by
  have s := same_new (o := .tup (Row.mk M.beats w p n).vs) nT
  have h1 := h.same s
  have hT : (upd H T (.tup (Row.mk M.beats w p n).vs)) T = some (.tup (Row.mk M.beats w p n).vs) := upd_same
  have Tr : T ≠ A.rows := (ne_of_none h.rows nT).symm
  generalize upd H T (.tup (Row.mk M.beats w p n).vs) = H1 at *
  have k : Keep ow ow H1 (upd H1 A.rows (.lst (A.xs ++ [.ref T]))) := Keep.setOwn h.or
  refine ⟨h1.rows, ⟨by rw [upd_ne h1.rowsNe.1]; exact h1.obj, (k _ _ h.nmem h1.mem).1, by rw [upd_ne h1.rowsNe.2.1]; exact h1.held, by rw [upd_ne h1.rowsNe.2.2]; exact h1.tou, (k _ _ h.nleft h1.left).1, h1.keepPds k (noLs_map noL_mv _) h1.leftD, upd_same, ?_,
    fun l e => by rw [upd_ne (h.rl l e).symm]; exact h1.line l e, h.hk, h.tk, h.inj, h.om, h.oh, h.ot, h.or, h.ol, h.nmem, h.nleft, h.mh, h.mt, h.ht, h.rl, kindUpd h1.kind (.inl ⟨_, rfl⟩), h1.xx.upd⟩, (Same.keep s).trans k⟩
  show Pds _ _ ((M.rows ++ [Row.mk M.beats w p n]).map Row.d)
  rw [List.map_append]
  exact (h1.keepPds k (noLs_map noL_row _) h1.rowsD).app (.cons (Row.pd (by rw [upd_ne Tr]; exact hT)) .nil)
/-- a line is taken -/
theorem LM.takeL (h : LM ow H m idle M A) {l : Nat} {p : Addr} {cs : List Nat} (hl : l < 4) (hl2 : l < M.held.length) (hn : M.holds l = false) (e : H p = some (.lst (cs.map nV))) (np : ¬ ow p) (pm : p ≠ A.mem) (pl : p ≠ A.left) :
    LM (fun c => ow c ∨ c = p) (upd H A.held (.dK (putK A.hk (lk l) (.ref p)))) m idle { M with held := M.held.set l (some cs) } { A with hk := putK A.hk (lk l) (.ref p), ha := fun k => if k = l then p else A.ha k } := by
  have k : Keep ow ow H (upd H A.held (.dK (putK A.hk (lk l) (.ref p)))) := Keep.setOwn h.oh
  have hs : ∀ k, Mst.holds { M with held := M.held.set l (some cs) } k = true ↔ k = l ∨ M.holds k = true := fun k => by
    rw [Mst.holds_iff, Mst.holds_iff]
    by_cases ek : l = k
    · subst ek
      simp only [List.getElem?_set_self hl2, true_or, iff_true]
      exact ⟨cs, rfl⟩
    · simp only [List.getElem?_set_ne ek]
      exact ⟨.inr, fun z => z.elim (fun z => absurd z.symm ek) id⟩
  have cl : ∀ k, k ≠ l → Mst.cellsOf { M with held := M.held.set l (some cs) } k = M.cellsOf k := fun k ek => by
    unfold Mst.cellsOf
    rw [List.getElem?_set_ne (fun z => ek z.symm)]
  have cll : Mst.cellsOf { M with held := M.held.set l (some cs) } l = cs := Mst.cellsOf_of (List.getElem?_set_self hl2)
  have nl : ∀ k, M.holds k = true → k ≠ l := fun k hk z => by rw [z, hn] at hk; cases hk
  have ph : p ≠ A.held := LM.ne h.oh np
  refine ⟨by rw [upd_ne h.mh]; exact h.obj, (k _ _ h.nmem h.mem).1, upd_same, by rw [upd_ne h.ht.symm]; exact h.tou, (k _ _ h.nleft h.left).1, h.keepPds k (noLs_map noL_mv _) h.leftD, by rw [upd_ne h.rowsNe.2.1.symm]; exact h.rows, h.keepPds k (noLs_map noL_row _) h.rowsD,
    fun j hj => ?_, (h.hk.put hl).congr fun j => ?_, h.tk, fun j j' hj hj' ej => ?_, .inl h.om, .inl h.oh, .inl h.ot, .inl h.or, fun j hj => ?_, ?_, ?_, h.mh, h.mt, h.ht, fun j hj => ?_, fun c hc => ?_, h.xx.upd⟩
  · by_cases ej : j = l
    · subst ej
      simp only [eq_self, if_true]
      rw [upd_ne ph, cll]; exact e
    · have hj' : M.holds j = true := ((hs j).mp hj).resolve_left ej
      simp only [if_neg ej]
      rw [upd_ne (h.lineNe hj').2.1.symm, cl j ej]; exact h.line j hj'
  · by_cases ej : j = l
    · subst ej
      simp only [eq_self, if_true]
      rw [if_pos ((hs j).mpr (.inl rfl))]
    · simp only [if_neg ej]
      by_cases hj : M.holds j = true
      · rw [if_pos hj, if_pos ((hs j).mpr (.inr hj))]
      · rw [if_neg hj, if_neg (fun z => hj (((hs j).mp z).resolve_left ej))]
  · rcases (hs j).mp hj with rfl | g
    · rcases (hs j').mp hj' with rfl | g'
      · rfl
      · simp only [eq_self, if_true, if_neg (nl j' g')] at ej
        exact absurd (h.ol j' g') (by rw [← ej]; exact np)
    · rcases (hs j').mp hj' with rfl | g'
      · simp only [eq_self, if_true, if_neg (nl j g)] at ej
        exact absurd (h.ol j g) (by rw [ej]; exact np)
      · simp only [if_neg (nl j g), if_neg (nl j' g')] at ej
        exact h.inj j j' g g' ej
  · by_cases ej : j = l
    · refine .inr ?_
      show (if j = l then p else A.ha j) = p
      rw [if_pos ej]
    · simp only [if_neg ej]
      exact .inl (h.ol j (((hs j).mp hj).resolve_left ej))
  · rintro (q | q)
    · exact h.nmem q
    · exact pm q.symm
  · rintro (q | q)
    · exact h.nleft q
    · exact pl q.symm
  · by_cases ej : j = l
    · simp only [if_pos ej]; exact (LM.ne h.or np).symm
    · simp only [if_neg ej]
      exact h.rl j (((hs j).mp hj).resolve_left ej)
  · rcases hc with hc | rfl
    · exact kindUpd h.kind (.inr ⟨_, rfl⟩) c hc
    · exact .inl ⟨_, by rw [upd_ne ph]; exact e⟩
/-- a line is written -/
theorem LM.writeL (h : LM ow H m idle M A) {l : Nat} {cs : List Nat} (hl : M.holds l = true) :
    LM ow (upd H (A.ha l) (.lst (cs.map nV))) m idle { M with held := M.held.set l (some cs) } A := by
  have k : Keep ow ow H (upd H (A.ha l) (.lst (cs.map nV))) := Keep.setOwn (h.ol l hl)
  have hl2 := Mst.holds_lt hl
  have hs : ∀ k, Mst.holds { M with held := M.held.set l (some cs) } k = M.holds k := fun k => by
    by_cases ek : l = k
    · subst ek
      rw [hl]
      exact Mst.holds_iff.mpr ⟨cs, List.getElem?_set_self hl2⟩
    · unfold Mst.holds
      rw [List.getElem?_set_ne ek]
  have cll : Mst.cellsOf { M with held := M.held.set l (some cs) } l = cs := Mst.cellsOf_of (List.getElem?_set_self hl2)
  obtain ⟨a1, a2, a3⟩ := h.lineNe hl
  refine ⟨by rw [upd_ne a1]; exact h.obj, (k _ _ h.nmem h.mem).1, by rw [upd_ne a2]; exact h.held, by rw [upd_ne a3]; exact h.tou, (k _ _ h.nleft h.left).1, h.keepPds k (noLs_map noL_mv _) h.leftD, by rw [upd_ne (h.rl l hl)]; exact h.rows, h.keepPds k (noLs_map noL_row _) h.rowsD,
    fun j hj => ?_, h.hk.congr fun j => by rw [hs], h.tk, fun j j' hj hj' ej => h.inj j j' (by rw [← hs]; exact hj) (by rw [← hs]; exact hj') ej, h.om, h.oh, h.ot, h.or, fun j hj => h.ol j (by rw [← hs]; exact hj), h.nmem, h.nleft, h.mh, h.mt, h.ht, fun j hj => h.rl j (by rw [← hs]; exact hj), kindUpd h.kind (.inl ⟨_, rfl⟩), h.xx.upd⟩
  rw [hs] at hj
  by_cases ej : j = l
  · subst ej; rw [upd_same, cll]
  · rw [upd_ne (fun z => ej (h.inj j l hj hl z)), h.line j hj]
    unfold Mst.cellsOf
    rw [List.getElem?_set_ne (fun z => ej z.symm)]
/-- a line is touched -/
theorem LM.touch (h : LM ow H m idle M A) {l : Nat} (hl : l < 4) (hl2 : l < M.tou.length) :
    LM ow (upd H A.tou (.dK (putK A.tk (lk l) (.bl true)))) m idle { M with tou := M.tou.set l true } { A with tk := putK A.tk (lk l) (.bl true) } := by
  have k : Keep ow ow H (upd H A.tou (.dK (putK A.tk (lk l) (.bl true)))) := Keep.setOwn h.ot
  refine ⟨by rw [upd_ne h.mt]; exact h.obj, (k _ _ h.nmem h.mem).1, by rw [upd_ne h.ht]; exact h.held, upd_same, (k _ _ h.nleft h.left).1, h.keepPds k (noLs_map noL_mv _) h.leftD, by rw [upd_ne h.rowsNe.2.2.symm]; exact h.rows, h.keepPds k (noLs_map noL_row _) h.rowsD,
    fun j hj => by rw [upd_ne (h.lineNe hj).2.2.symm]; exact h.line j hj, h.hk, (h.tk.put hl).congr fun j => ?_, h.inj, h.om, h.oh, h.ot, h.or, h.ol, h.nmem, h.nleft, h.mh, h.mt, h.ht, h.rl, kindUpd h.kind (.inr ⟨_, rfl⟩), h.xx.upd⟩
  simp only [Mst.touched, List.getD_eq_getElem?_getD]
  by_cases ej : l = j
  · subst ej
    rw [if_pos rfl, List.getElem?_set_self hl2]; rfl
  · rw [if_neg (fun z => ej z.symm), List.getElem?_set_ne ej]
/-- a line is not touched any more -/
theorem LM.untouch (h : LM ow H m idle M A) {l : Nat} :
    LM ow (upd H A.tou (.dK (dropK A.tk (lk l)))) m idle { M with tou := M.tou.set l false } { A with tk := dropK A.tk (lk l) } := by
  have k : Keep ow ow H (upd H A.tou (.dK (dropK A.tk (lk l)))) := Keep.setOwn h.ot
  refine ⟨by rw [upd_ne h.mt]; exact h.obj, (k _ _ h.nmem h.mem).1, by rw [upd_ne h.ht]; exact h.held, upd_same, (k _ _ h.nleft h.left).1, h.keepPds k (noLs_map noL_mv _) h.leftD, by rw [upd_ne h.rowsNe.2.2.symm]; exact h.rows, h.keepPds k (noLs_map noL_row _) h.rowsD,
    fun j hj => by rw [upd_ne (h.lineNe hj).2.2.symm]; exact h.line j hj, h.hk, h.tk.dropL.congr fun j => ?_, h.inj, h.om, h.oh, h.ot, h.or, h.ol, h.nmem, h.nleft, h.mh, h.mt, h.ht, h.rl, kindUpd h.kind (.inr ⟨_, rfl⟩), h.xx.upd⟩
  simp only [Mst.touched, List.getD_eq_getElem?_getD]
  by_cases ej : l = j
  · subst ej
    rw [if_pos rfl]
    rcases Nat.lt_or_ge l M.tou.length with g | g
    · rw [List.getElem?_set_self g]; rfl
    · rw [List.getElem?_eq_none (by rw [List.length_set]; exact g)]; rfl
  · rw [if_neg (fun z => ej z.symm), List.getElem?_set_ne ej]
/-- a line is not held any more -/
theorem LM.unhold (h : LM ow H m idle M A) {l : Nat} :
    LM ow (upd H A.held (.dK (dropK A.hk (lk l)))) m idle { M with held := M.held.set l none } { A with hk := dropK A.hk (lk l) } := by
  have k : Keep ow ow H (upd H A.held (.dK (dropK A.hk (lk l)))) := Keep.setOwn h.oh
  have hs : ∀ j, Mst.holds { M with held := M.held.set l none } j = true ↔ j ≠ l ∧ M.holds j = true := fun j => by
    rw [Mst.holds_iff, Mst.holds_iff]
    by_cases ek : l = j
    · subst ek
      constructor
      · rintro ⟨cs, e⟩
        simp only [List.getElem?_set] at e
        split at e <;> simp_all
      · rintro ⟨z, _⟩; exact absurd rfl z
    · simp only [List.getElem?_set_ne ek]
      exact ⟨fun z => ⟨fun q => ek q.symm, z⟩, fun z => z.2⟩
  have cl : ∀ j, j ≠ l → Mst.cellsOf { M with held := M.held.set l none } j = M.cellsOf j := fun j ek => by
    unfold Mst.cellsOf
    rw [List.getElem?_set_ne (fun z => ek z.symm)]
  refine ⟨by rw [upd_ne h.mh]; exact h.obj, (k _ _ h.nmem h.mem).1, upd_same, by rw [upd_ne h.ht.symm]; exact h.tou, (k _ _ h.nleft h.left).1, h.keepPds k (noLs_map noL_mv _) h.leftD, by rw [upd_ne h.rowsNe.2.1.symm]; exact h.rows, h.keepPds k (noLs_map noL_row _) h.rowsD,
    fun j hj => by obtain ⟨q1, q2⟩ := (hs j).mp hj; rw [upd_ne (h.lineNe q2).2.1.symm, cl j q1]; exact h.line j q2, h.hk.dropL.congr fun j => ?_, h.tk, fun j j' hj hj' ej => h.inj j j' ((hs j).mp hj).2 ((hs j').mp hj').2 ej, h.om, h.oh, h.ot, h.or, fun j hj => h.ol j ((hs j).mp hj).2, h.nmem, h.nleft, h.mh, h.mt, h.ht, fun j hj => h.rl j ((hs j).mp hj).2, kindUpd h.kind (.inr ⟨_, rfl⟩), h.xx.upd⟩
  by_cases ej : j = l
  · rw [if_pos ej, if_neg (fun z => ((hs j).mp z).1 ej)]
  · rw [if_neg ej]
    by_cases hj : M.holds j = true
    · rw [if_pos hj, if_pos ((hs j).mpr ⟨ej, hj⟩)]
    · rw [if_neg hj, if_neg (fun z => hj ((hs j).mp z).2)]
end
end Vt
namespace Vt
open PySem PySem.Spec PyProof.Rows L2
/-! ### data compared with a written [] or a written tuple of one word -/
mutual
def D.py : D → PyData
  | .non => .none
  | .bl b => .bool b
  | .int i => .int i
  | .str x => .str x
  | .tup ds => .tuple (pys ds)
  | .lst ds => .list (pys ds)
def pys : List D → List PyData
  | [] => []
  | d :: ds => d.py :: pys ds
end
section
variable {K : PySem.W.Frag} {H : Hp}
mutual
theorem Pd.dp : ∀ {d : D} {v : V}, Pd H v d → Dp K H v d.py
  | .non, _, .non => by rw [D.py]; exact .non
  | .bl _, _, .bl b => by rw [D.py]; exact .bl b
  | .int _, _, .int b => by rw [D.py]; exact .int b
  | .str _, _, .str b => by rw [D.py]; exact .str b
  | .tup _, _, .tup h hs => by rw [D.py]; exact .tup (sqT_t h) (Pds.dp hs)
  | .lst _, _, .lst h hs => by rw [D.py]; exact .lst (sqL_l h) (Pds.dp hs)
theorem Pds.dp : ∀ {ds : List D} {vs : List V}, Pds H vs ds → DpAll K H vs (pys ds)
  | [], _, .nil => by rw [pys]; exact .nil
  | _ :: _, _, .cons h hs => by rw [pys]; exact .cons (Pd.dp h) (Pds.dp hs)
end
mutual
theorem dep_py : ∀ d : D, d.py.depth = d.dep
  | .non => by simp [D.py, PyData.depth, D.dep]
  | .bl _ => by simp [D.py, PyData.depth, D.dep]
  | .int _ => by simp [D.py, PyData.depth, D.dep]
  | .str _ => by simp [D.py, PyData.depth, D.dep]
  | .tup ds => by simp [D.py, PyData.depth, D.dep, deps_py ds]
  | .lst ds => by simp [D.py, PyData.depth, D.dep, deps_py ds]
theorem deps_py : ∀ ds : List D, PyData.depthAll (pys ds) = deps ds
  | [] => by simp [pys, PyData.depthAll, deps]
  | d :: ds => by simp [pys, PyData.depthAll, deps, dep_py d, deps_py ds]
end
theorem lay_map {α : Type} {f : α → D} (h : ∀ x, (f x).py.canLay0 = true) : ∀ xs : List α, PyData.canLayAll0 (pys (xs.map f)) = true
  | [] => by simp [pys, PyData.canLayAll0]
  | x :: r => by simp [pys, PyData.canLayAll0, h x, lay_map h r]
theorem shaped_lst {ds : List D} (h : PyData.canLayAll0 (pys ds) = true) (hd : deps ds ≤ 60) : SeqAt.shaped (.list (pys ds)) = true := by
  simp only [SeqAt.shaped, PyData.canLay0, PyData.depth, h, deps_py, Bool.true_and, decide_eq_true_eq]
  omega
theorem rd_neNil {a b : Addr} {xs : List V} {ds : List D} {Q : VK} (ha : H a = some (.lst xs)) (hp : Pds H xs ds) (hl : PyData.canLayAll0 (pys ds) = true) (hd : deps ds ≤ 60) (hb : H b = some (.lst [])) (q : Q (.bl (!ds.isEmpty)) H) : rNeD K (.ref a) (.ref b) H Q := by
  refine ⟨.list (pys ds), .list [], .lst (sqL_l ha) hp.dp, .lst (sqL_l hb) .nil, shaped_lst hl hd, rfl, ?_⟩
  have e : PyData.eqv (.list (pys ds)) (.list []) = ds.isEmpty := by
    cases ds with
    | nil => simp [pys, PyData.eqv, PyData.eqvAll]
    | cons d r => simp [pys, PyData.eqv, PyData.eqvAll]
  rw [e]; exact q
theorem rd_eqNil {a b : Addr} {xs : List V} {ds : List D} {Q : VK} (ha : H a = some (.lst xs)) (hp : Pds H xs ds) (hl : PyData.canLayAll0 (pys ds) = true) (hd : deps ds ≤ 60) (hb : H b = some (.lst [])) (q : Q (.bl ds.isEmpty) H) : rEqD K (.ref a) (.ref b) H Q := by
  refine ⟨.list (pys ds), .list [], .lst (sqL_l ha) hp.dp, .lst (sqL_l hb) .nil, shaped_lst hl hd, rfl, ?_⟩
  have e : PyData.eqv (.list (pys ds)) (.list []) = ds.isEmpty := by
    cases ds with
    | nil => simp [pys, PyData.eqv, PyData.eqvAll]
    | cons d r => simp [pys, PyData.eqv, PyData.eqvAll]
  rw [e]; exact q
theorem lay_mv (m : Mv) : m.d.py.canLay0 = true := by
  obtain ⟨s, g, b⟩ := m
  cases b <;> simp [Mv.d, D.py, pys, nD, oD, PyData.canLay0, PyData.canLayAll0]
theorem dep_mvs : ∀ ms : List Mv, deps (ms.map Mv.d) ≤ 1
  | [] => by simp [deps]
  | m :: r => by
    have := dep_mvs r
    obtain ⟨s, g, b⟩ := m
    cases b <;> (simp only [List.map_cons, deps, Mv.d, D.dep, nD, oD]; omega)
theorem lay_bl (b : Bool) : (D.bl b).py.canLay0 = true := by simp [D.py, PyData.canLay0]
theorem dep_bls : ∀ bs : List Bool, deps (bs.map D.bl) = 0
  | [] => by simp [deps]
  | b :: r => by simp [deps, D.dep, dep_bls r]
theorem pds_bls {H : Hp} : ∀ bs : List Bool, Pds H (bs.map V.bl) (bs.map D.bl)
  | [] => .nil
  | b :: r => .cons (.bl b) (pds_bls r)
/-- t == ("x",), t a tuple of a word and ints -/
theorem rd_tag {a b : Addr} {z x : Str} {zs : List Int} {Q : VK} (ha : H a = some (.tup (.str z :: zs.map V.int))) (hb : H b = some (.tup [.str x])) (oz : z.length ≤ 100 ∧ (PyData.str z).canLay0 = true) (ox : (PyData.str x).canLay0 = true) (q : Q (.bl (decide (z = x ∧ zs = []))) H) : rEqD K (.ref a) (.ref b) H Q := by
  have hint : ∀ zs : List Int, PyData.canLayAll0 (zs.map PyData.int) = true ∧ PyData.depthAll (zs.map PyData.int) = 0 := by
    intro zs
    induction zs with
    | nil => simp [PyData.canLayAll0, PyData.depthAll]
    | cons n r ih => simp [PyData.canLayAll0, PyData.canLay0, PyData.depthAll, PyData.depth, ih]
  have hsh : SeqAt.shaped (.tuple (.str z :: zs.map PyData.int)) = true := by
    simp only [SeqAt.shaped, PyData.canLay0, PyData.canLayAll0, PyData.depth, PyData.depthAll, (hint zs).1, (hint zs).2, Bool.and_true]
    have := oz.2
    simp only [PyData.canLay0] at this
    rw [this]; simp
  have hsh2 : SeqAt.shaped (.tuple [.str x]) = true := by
    simp only [SeqAt.shaped, PyData.canLay0, PyData.canLayAll0, PyData.depth, PyData.depthAll, Bool.and_true]
    simp only [PyData.canLay0] at ox
    rw [ox]; simp
  refine ⟨.tuple (.str z :: zs.map PyData.int), .tuple [.str x], .tup (sqT_t ha) (.cons (.str z) (dpInts zs)), .tup (sqT_t hb) (.cons (.str x) .nil), hsh, hsh2, ?_⟩
  have e : PyData.eqv (.tuple (.str z :: zs.map PyData.int)) (.tuple [.str x]) = decide (z = x ∧ zs = []) := by
    cases zs with
    | nil =>
      simp only [List.map_nil, PyData.eqv, PyData.eqvAll, Bool.and_true, and_true]
      rfl
    | cons n r =>
      simp [PyData.eqv, PyData.eqvAll]
  rw [e]; exact q
end
/-! ### a tuple and a tuple -/
def rCatS (K : PySem.W.Frag) : R2 := fun x y H Q => ∃ a b xs ys, x = .ref a ∧ y = .ref b ∧ H a = some (.tup xs) ∧ H b = some (.tup ys) ∧ ys ≠ [] ∧ xs.length + ys.length ≤ sizeLine ∧ ∀ p H', Same H H' → H' p = some (.tup (xs ++ ys)) → Q (.ref p) H'
theorem op_catS {X : Cx} : OpR X (binaryOp .Add) (rCatS X.K) := by
  intro pins s σ H x y v u Q I rx ry h
  obtain ⟨a, b, xs, ys, ex, ey, ha, hb, hn, hz, q⟩ := h
  refine op_catA pins s σ H x y v u Q I rx ry ⟨a, b, xs, ys, ex, ey, sqT_t ha, sqT_t hb, hz, fun e => ?_, fun _ e => absurd e hn, fun _ _ p np => ?_⟩
  · subst e
    exact q b H (Same.refl H) hb
  · exact q p _ (same_new np) upd_same
end Vt
namespace Vt
open PySem PySem.Spec PyProof.Rows L2
/-- while, by a count kept beside the state -/
theorem while_to {c : TT} {tb : TS} {D : Ends} {σ : L2.St} {H : Hp} (Pv : Nat → L2.St → Hp → Prop) (h0 : ∃ n, Pv n σ H)
    (hs : ∀ n σ H, Pv n σ H → c σ H fun b H1 => if b = true then tb { D with nx := fun σ' H' => ∃ k, k < n ∧ Pv k σ' H', ct := fun σ' H' => ∃ k, k < n ∧ Pv k σ' H', bk := D.nx } σ H1 else D.nx σ H1)
    (mono : ∀ σ H Q Q', (∀ b H1, Q b H1 → Q' b H1) → c σ H Q → c σ H Q') : tWhile c tb D σ H := by
  refine ⟨Pv, h0, ?_⟩
  intro n σ H p
  refine mono σ H _ _ (fun b H1 q => ?_) (hs n σ H p)
  cases b with
  | true => exact ⟨_, fun σ' H' z => z, q⟩
  | false => exact q
/-- another list is written, not the machine's -/
theorem LM.setOther {ow : Addr → Prop} {H : Hp} {m : Addr} {idle : Fl} {M : Mst} {A : Ad} (h : LM ow H m idle M A) {q : Addr} {xs ys : List V} (hq : H q = some (.lst xs)) (nq : ¬ ow q) (n1 : q ≠ A.mem) (n2 : q ≠ A.left) :
    LM ow (upd H q (.lst ys)) m idle M A := by
  have ne : ∀ c, ow c → c ≠ q := fun c hc e => nq (by rw [← e]; exact hc)
  have tt : ∀ a us, H a = some (.tup us) → (upd H q (.lst ys)) a = some (.tup us) := fun a us e => by
    rw [upd_ne (ne_of e hq (by intro z; cases z))]; exact e
  refine ⟨by rw [upd_ne (ne _ h.om)]; exact h.obj, by rw [upd_ne n1.symm]; exact h.mem, by rw [upd_ne (ne _ h.oh)]; exact h.held, by rw [upd_ne (ne _ h.ot)]; exact h.tou, by rw [upd_ne n2.symm]; exact h.left, Pds.tups tt (noLs_map noL_mv _) h.leftD, by rw [upd_ne (ne _ h.or)]; exact h.rows, Pds.tups tt (noLs_map noL_row _) h.rowsD,
    fun l e => by rw [upd_ne (ne _ (h.ol l e))]; exact h.line l e, h.hk, h.tk, h.inj, h.om, h.oh, h.ot, h.or, h.ol, h.nmem, h.nleft, h.mh, h.mt, h.ht, h.rl, kindUpd h.kind (.inl ⟨_, rfl⟩), h.xx.upd⟩
def kA (l e t L r : Addr) : List (Key × V) := [(.inr "memory", .ref l), (.inr "held", .ref e), (.inr "touched", .ref t), (.inr "left", .ref L), (.inr "rows", .ref r), (.inr "idle", .bl false)]
def kB : List (Key × V) := [(.inr "at", .int 0), (.inr "beats", .int 0), (.inr "reads", .int 0), (.inr "fetches", .int 0)]
def adN (l e t L r : Addr) : Ad := ⟨l, e, t, L, r, [], [], fun _ => 0, [], []⟩
theorem kA_m {l e t L r : Addr} : mergeK [] (kA l e t L r) = kA l e t L r := rfl
theorem kB_m : mergeK [] kB = kB := rfl
theorem kAB {l e t L r : Addr} : mergeK (kA l e t L r) kB = kM (adN l e t L r) false 0 0 := rfl
theorem begin_holds {B : Brd} {pace : List Bool} {l : Nat} : (Mst.begin B pace).holds l = false := by
  cases h : (Mst.begin B pace).holds l with
  | false => rfl
  | true =>
    obtain ⟨cs, e⟩ := Mst.holds_iff.mp h
    simp only [Mst.begin, List.getElem?_replicate] at e
    split at e <;> simp at e
theorem begin_touched {B : Brd} {pace : List Bool} {l : Nat} : (Mst.begin B pace).touched l = false := by
  simp only [Mst.begin, Mst.touched, List.getD_eq_getElem?_getD, List.getElem?_replicate]
  split <;> rfl
theorem byLine0 {f : Nat → Option V} (h : ∀ l, f l = none) : ByLine [] f := ⟨fun l => by rw [h]; rfl, List.nodup_nil, fun k hk => by cases hk⟩
theorem LM.begin {H : Hp} {d l e t L r : Addr} {B : Brd} {pace : List Bool} (hd : H d = some (.dK (kM (adN l e t L r) false 0 0))) (he : H e = some (.dK [])) (ht : H t = some (.dK [])) (hL : H L = some (.lst [])) (hr : H r = some (.lst [])) (hl : H l = some (.lst (B.mem.map nV)))
    (et : e ≠ t) (ed : e ≠ d) (td : t ≠ d) (Lr : L ≠ r) (lr : l ≠ r) : LM (fun c => c = d ∨ c = e ∨ c = t ∨ c = r) H d false (Mst.begin B pace) (adN l e t L r) := by
  have nh : ∀ k, (Mst.begin B pace).holds k = true → False := fun k z => by rw [begin_holds] at z; cases z
  refine ⟨hd, hl, he, ht, hL, .nil, hr, .nil, fun k z => (nh k z).elim, byLine0 fun k => by rw [begin_holds]; rfl, byLine0 fun k => by rw [begin_touched]; rfl, fun k _ z => (nh k z).elim, .inl rfl, .inr (.inl rfl), .inr (.inr (.inl rfl)), .inr (.inr (.inr rfl)), fun k z => (nh k z).elim, ?_, ?_, ed.symm, td.symm, et, fun k z => (nh k z).elim, ?_, ⟨fun z => z, fun z => z, fun _ z => z.elim⟩⟩
  · rintro (h | h | h | h)
    · exact ne_of hl hd (by intro z; cases z) h
    · exact ne_of hl he (by intro z; cases z) h
    · exact ne_of hl ht (by intro z; cases z) h
    · exact lr h
  · rintro (h | h | h | h)
    · exact ne_of hL hd (by intro z; cases z) h
    · exact ne_of hL he (by intro z; cases z) h
    · exact ne_of hL ht (by intro z; cases z) h
    · exact Lr h
  · rintro c (rfl | rfl | rfl | rfl)
    · exact .inr ⟨_, hd⟩
    · exact .inr ⟨_, he⟩
    · exact .inr ⟨_, ht⟩
    · exact .inl ⟨_, hr⟩
theorem Keep.other {ow : Addr → Prop} {H H' : Hp} {p : Addr} {o : HO} (k : Keep (fun _ => False) ow H H') (n : H p = none) : Keep (fun _ => False) ow H (upd H' p o) := fun c u z h => by rw [upd_ne (ne_of_none h n)]; exact k c u z h
theorem Same.own1 {H H' : Hp} {d : Addr} {o : HO} (s : Same H H') (n : H d = none) : Same H (upd H' d o) := fun c u h => by rw [upd_ne (ne_of_none h n)]; exact s c u h
theorem proc_ok {cells : Nat} {ords : List Ord} {prog : List Deed} {M : Mst} (h : MOk cells prog M) (hok : ∀ (i : Nat) (o : Ord), ords[i]? = some o → OrdOk o i ords.length cells) (hm : ∀ o ∈ ords, o.many ≤ 8) (hp : ∀ d ∈ prog, DeedOk d ords.length cells) :
    MOk0 cells (M.proc ords prog) ∧ (M.proc ords prog).pace = M.pace ∧ (M.proc ords prog).beats = M.beats ∧ (M.proc ords prog).rows.length ≤ M.rows.length + 6 ∧ (M.proc ords prog).left.length ≤ M.left.length + 32 := by
  unfold Mst.proc
  split
  · exact ⟨h.toMOk0, rfl, rfl, by omega, by omega⟩
  · split
    · exact ⟨h.toMOk0, rfl, rfl, by omega, by omega⟩
    · rename_i d e0
      have h0 := h.toMOk0.deed hok (hp d (List.mem_of_getElem? e0))
      obtain ⟨h1, h2, h3, h4, h5, _⟩ := deed_rows (M := M) (d := d) hm
      exact ⟨⟨h0.lines, h0.mem, h0.held, h0.tou, h0.four, h0.th, h0.left⟩, h5, h4, h1, h2⟩
theorem BrdOk.eight {B : Brd} (ok : BrdOk B) : ∀ o ∈ B.ords, o.many ≤ 8 := fun o ho => by
  obtain ⟨i, hi, rfl⟩ := List.mem_iff_getElem.mp ho
  exact (ok.ords i _ (List.getElem?_eq_getElem hi)).eight
theorem beat_no {ords : List Ord} {prog : List Deed} {M : Mst} (h : Mst.uses prog M (M.proc ords prog) = false) : M.beat ords prog = { (M.proc ords prog).carry with beats := M.beats + 1 } := by
  unfold Mst.beat
  dsimp only
  rw [if_neg (by rw [h]; simp)]
theorem beat_yes {ords : List Ord} {prog : List Deed} {M : Mst} {b : Bool} {r : List Bool} (h : Mst.uses prog M (M.proc ords prog) = true) (e : M.pace = b :: r) :
    M.beat ords prog = { (if b = true then { M.proc ords prog with pace := r }.carry else { M.proc ords prog with pace := r }) with beats := M.beats + 1 } := by
  unfold Mst.beat
  dsimp only
  rw [if_pos h, e]
  rfl
/-- left != [], a list of truths -/
theorem rd_pace {K : PySem.W.Frag} {σ : L2.St} {H : Hp} {i : Nat} {p : Addr} {bs : List Bool} {Q : VK} (hσ : σ[i]? = some (some (.ref p))) (hp : H p = some (.lst (bs.map V.bl))) (q : ∀ H', Same H H' → Q (.bl (!bs.isEmpty)) H') : tOp (rNeD K) (tVar i) (tLst tNil) σ H Q := by
  refine ⟨_, hσ, Nat.zero_le _, fun T nT => ?_⟩
  have s := same_new (o := .lst []) nT
  refine rd_neNil (s _ _ hp) (pds_bls _) (lay_map lay_bl _) (by rw [dep_bls]; decide) upd_same ?_
  have := q _ s
  cases bs with
  | nil => exact this
  | cons x r => exact this
def goneM (B : Brd) (pace : List Bool) : Mst := Mst.run B.ords B.prog 7000 (Mst.begin B pace)
end Vt
namespace Vt
open PySem PySem.Spec PyProof.Rows L2
/-! ### what a run tells -/
def saidOf (rows : List Row) : List Nat := (rows.filter fun r => decide (r.word = ("say" : Str))).map Row.num
def rowsD (rows : List Row) : D := .lst (rows.map Row.d)
def tellD (G : Mst) : D := .tup [.tup ((saidOf G.rows).map nD), .tup (G.mem.map nD), nD G.beats]
theorem run_ok {B : Brd} (ok : BrdOk B) : ∀ (f : Nat) (M : Mst), MOk B.mem.length B.prog M → MOk B.mem.length B.prog (Mst.run B.ords B.prog f M)
  | 0, M, h => h
  | f + 1, M, h => by
    rw [Mst.run]
    cases ho : M.over B.prog with
    | true => exact h
    | false => exact run_ok ok f _ (beat_ok h ho ok.ords ok.eight ok.prog).1
theorem gone_ok {B : Brd} (ok : BrdOk B) (pace : List Bool) : MOk0 B.mem.length (gone B pace) ∧ (gone B pace).rows.length ≤ 90004 := by
  have h := run_ok ok 7000 _ (begin_ok ok pace)
  have g := cleans_ok h.toMOk0 4
  have := h.room
  refine ⟨g.1, ?_⟩
  have e : (gone B pace).rows.length ≤ (Mst.run B.ords B.prog 7000 (Mst.begin B pace)).rows.length + 4 := g.2
  omega
def spStory : Sp := fun vs H Q _ => ∃ (v : V) (B : Brd) (pl : Addr) (pace : List Bool), vs = [v, .ref pl] ∧ Pd H v B.d ∧ BrdOk B ∧ H pl = some (.lst (pace.map V.bl)) ∧ pace.length ≤ 1000 ∧
  ∀ (H' : Hp) (l : Addr) (xs : List V), Same H H' → H l = none → H' l = some (.lst xs) → Pds H' xs ((gone B pace).rows.map Row.d) → Q (.ref l) H'
def spEnded : Sp := fun vs H Q _ => ∃ (v : V) (B : Brd) (pl : Addr) (pace : List Bool), vs = [v, .ref pl] ∧ Pd H v B.d ∧ BrdOk B ∧ H pl = some (.lst (pace.map V.bl)) ∧ pace.length ≤ 1000 ∧
  ∀ (H' : Hp) (u : V), Same H H' → Pd H' u (tellD (gone B pace)) → Q u H'
theorem dep_rows : ∀ rs : List Row, deps (rs.map Row.d) ≤ 1
  | [] => by simp [deps]
  | r :: t => by
    have := dep_rows t
    simp only [List.map_cons, deps, Row.d, D.dep, nD]
    omega
theorem sm_row (r : Row) : r.d.sm = true := by simp [Row.d, D.sm, smAll, nD]
theorem sm_ns' {xs : List Nat} (h : xs.length ≤ 100000) : (D.tup (xs.map nD)).sm = true := by
  simp only [D.sm, List.length_map, Bool.and_eq_true, decide_eq_true_eq]
  exact ⟨h, sm_map sm_nD _⟩
theorem dep_ns' : ∀ xs : List Nat, deps (xs.map nD) = 0
  | [] => rfl
  | x :: r => by simp [deps, D.dep, nD, dep_ns' r]
theorem Keep.toSame {ow : Addr → Prop} {H H' : Hp} (k : Keep (fun _ => False) ow H H') : Same H H' := fun c o h => (k c o (by simp) h).1
/-- two lists of truths that are the same, asked whether they differ -/
theorem rd_nePace {K : PySem.W.Frag} {H : Hp} {a b : Addr} {bs : List Bool} {Q : VK} (ha : H a = some (.lst (bs.map V.bl))) (hb : H b = some (.lst (bs.map V.bl))) (q : Q (.bl false) H) : rNeD K (.ref a) (.ref b) H Q := by
  have hl := shaped_lst (ds := bs.map D.bl) (lay_map lay_bl _) (by rw [dep_bls]; decide)
  refine ⟨.list (pys (bs.map D.bl)), .list (pys (bs.map D.bl)), .lst (sqL_l ha) (pds_bls _).dp, .lst (sqL_l hb) (pds_bls _).dp, hl, hl, ?_⟩
  rw [PySem.SeqAt.eqv_refl _ (by rw [PyData.canLay0]; exact lay_map lay_bl _)]; exact q
theorem word_say (r : Row) : (decide (V.str r.word = V.str "say") = true) ↔ r.word = ("say" : Str) := by
  rw [decide_eq_true_iff]
  exact ⟨fun z => by injection z, fun z => by rw [z]⟩
theorem said_take {rows : List Row} {j : Nat} {r : Row} (h : rows[j]? = some r) : saidOf (rows.take (j + 1)) = saidOf (rows.take j) ++ (if r.word = ("say" : Str) then [r.num] else []) := by
  unfold saidOf
  rw [List.take_add_one, h]
  simp only [Option.toList_some, List.filter_append, List.map_append]
  by_cases e : r.word = ("say" : Str) <;> simp [e]
end Vt
namespace Vt
open PySem PySem.Spec PyProof.Rows L2
/-! ### the program's machine in the heap -/
/-- the program, and further fields of an instance of a class below -/
structure PX where
  v : V
  ex : List (Str × V)
  le : ex.length ≤ 100
  nm : ∀ p ∈ ex, p.1 = ("due" : Str) ∨ p.1 = ("readings" : Str)
structure PA where
  dx : Addr
  mem : Addr
  held : Addr
  tou : Addr
  left : Addr
  rows : Addr
  said : Addr
  ords : V
  prog : PX
  ha : Nat → Addr
  xs : List V
  ls : List V
def PA.all (A : PA) (m : Addr) : List Addr := [m, A.dx, A.mem, A.held, A.tou, A.left, A.rows, A.said]
def slotV (A : PA) (M : Mst) (l : Nat) : V := if M.holds l = true then .ref (A.ha l) else .non
def heldV (A : PA) (M : Mst) : List V := (List.range M.held.length).map (slotV A M)
def fsM (A : PA) (at_ beats : Nat) : List (Str × V) :=
  ([("memory", .ref A.mem), ("orders", A.ords), ("program", A.prog.v), ("deeds_done", nV at_), ("held", .ref A.held), ("touched", .ref A.tou), ("left", .ref A.left), ("beats", nV beats), ("rows", .ref A.rows), ("said", .ref A.said)] : List (Str × V)) ++ A.prog.ex
theorem fsM_len {A : PA} {a b : Nat} : (fsM A a b).length < 1000 := by
  have := A.prog.le
  show (_ :: _ :: _ :: _ :: _ :: _ :: _ :: _ :: _ :: _ :: A.prog.ex).length < 1000
  simp only [List.length_cons]; omega
def fieldNames : List Str := ["memory", "orders", "program", "deeds_done", "held", "touched", "left", "beats", "rows", "said"]
theorem fsM_no {A : PA} {a b : Nat} {x : Str} (h : (fieldNames ++ [("due" : Str), "readings"]).all (fun y => !decide (y = x)) = true) : (fsM A a b).lookup x = none := by
  have h' : ∀ y ∈ fieldNames ++ [("due" : Str), "readings"], y ≠ x := fun y hy z => by
    have := List.all_eq_true.mp h y hy
    rw [z, decide_eq_true rfl] at this; cases this
  cases e : (fsM A a b).lookup x with
  | none => rfl
  | some v =>
    exfalso
    rcases List.mem_append.mp (PySem.mem_of_lookup e) with m | m
    · have k : x ∈ fieldNames := by
        have := List.mem_map_of_mem (f := Prod.fst) m
        exact this
      exact h' x (List.mem_append_left _ k) rfl
    · rcases A.prog.nm _ m with z | z
      · exact h' "due" (by decide) z.symm
      · exact h' "readings" (by decide) z.symm
structure MC (K : PySem.W.Frag) (C : Addr) : Prop where
  cl : Cls K C
  n : ∀ f ∈ fieldNames, NoAttr K C f
structure PM (ow : Addr → Prop) (H : Hp) (C m : Addr) (M : Mst) (sd : List Nat) (A : PA) : Prop where
  obj : H m = some (.ins C A.dx (fsM A M.at_ M.beats))
  dxo : H A.dx = some (.own m)
  mem : H A.mem = some (.lst (M.mem.map nV))
  held : H A.held = some (.lst (heldV A M))
  tou : H A.tou = some (.lst (M.tou.map V.bl))
  left : H A.left = some (.lst A.ls)
  leftD : Pds H A.ls (M.left.map Mv.d)
  rows : H A.rows = some (.lst A.xs)
  rowsD : Pds H A.xs (M.rows.map Row.d)
  said : H A.said = some (.lst (sd.map nV))
  line : ∀ l, M.holds l = true → H (A.ha l) = some (.lst ((M.cellsOf l).map nV))
  inj : ∀ l k, M.holds l = true → M.holds k = true → A.ha l = A.ha k → l = k
  nd : (A.all m).Nodup
  hl : ∀ l, M.holds l = true → A.ha l ∉ A.all m
  oa : ∀ c ∈ A.all m, ow c
  ol : ∀ l, M.holds l = true → ow (A.ha l)
  kind : ∀ c, ow c → ∃ o, H c = some o ∧ ∀ xs, o ≠ .tup xs
theorem nd_dif : ∀ {l : List Addr} {i j : Nat} {a b : Addr}, l.Nodup → l[i]? = some a → l[j]? = some b → i ≠ j → b ≠ a
  | [], _, _, _, _, _, h, _, _ => by simp at h
  | x :: r, 0, 0, _, _, _, _, _, n => absurd rfl n
  | x :: r, 0, j + 1, a, b, nd, h1, h2, _ => by
    simp only [List.getElem?_cons_zero, Option.some.injEq] at h1
    simp only [List.getElem?_cons_succ] at h2
    subst h1
    exact fun e => (List.nodup_cons.mp nd).1 (by rw [← e]; exact List.mem_of_getElem? h2)
  | x :: r, i + 1, 0, a, b, nd, h1, h2, _ => by
    simp only [List.getElem?_cons_zero, Option.some.injEq] at h2
    simp only [List.getElem?_cons_succ] at h1
    subst h2
    exact fun e => (List.nodup_cons.mp nd).1 (by rw [e]; exact List.mem_of_getElem? h1)
  | x :: r, i + 1, j + 1, a, b, nd, h1, h2, n => nd_dif (List.nodup_cons.mp nd).2 (by simpa using h1) (by simpa using h2) (fun e => n (by rw [e]))
section
variable {ow : Addr → Prop} {H H' : Hp} {C m : Addr} {M : Mst} {sd : List Nat} {A : PA} {K : PySem.W.Frag}
theorem PM.notTup (h : PM ow H C m M sd A) {c : Addr} {xs : List V} (e : H c = some (.tup xs)) : ¬ ow c := fun n => by
  obtain ⟨o, e1, e2⟩ := h.kind c n
  rw [e1] at e
  exact e2 xs (Option.some.inj e)
theorem PM.fresh (h : PM ow H C m M sd A) {p : Addr} (np : H p = none) : ¬ ow p := fun n => by
  obtain ⟨o, e1, _⟩ := h.kind p n
  rw [np] at e1; cases e1
theorem PM.same (h : PM ow H C m M sd A) (s : Same H H') : PM ow H' C m M sd A :=
  ⟨s _ _ h.obj, s _ _ h.dxo, s _ _ h.mem, s _ _ h.held, s _ _ h.tou, s _ _ h.left, h.leftD.same s, s _ _ h.rows, h.rowsD.same s, s _ _ h.said, fun l e => s _ _ (h.line l e), h.inj, h.nd, h.hl, h.oa, h.ol,
    fun c n => by obtain ⟨o, e1, e2⟩ := h.kind c n; exact ⟨o, s _ _ e1, e2⟩⟩
theorem PM.fr (h : PM ow H C m M sd A) {i : Nat} {q : Addr} {o : HO} (hq : (A.all m)[i]? = some q) : (∀ (j : Nat) (c : Addr), j ≠ i → (A.all m)[j]? = some c → upd H q o c = H c) ∧ (∀ l, M.holds l = true → upd H q o (A.ha l) = H (A.ha l)) ∧ (∀ c xs, H c = some (.tup xs) → upd H q o c = some (.tup xs)) := by
  refine ⟨fun j c n e => upd_ne (nd_dif h.nd hq e (fun z => n z.symm)), fun l e => upd_ne (fun z => h.hl l e (by rw [z]; exact List.mem_of_getElem? hq)), fun c xs e => ?_⟩
  rw [upd_ne (fun z => h.notTup e (by rw [z]; exact h.oa _ (List.mem_of_getElem? hq)))]; exact e
theorem PM.kindU (h : PM ow H C m M sd A) {q : Addr} {o : HO} (no : ∀ xs, o ≠ .tup xs) : ∀ c, ow c → ∃ u, upd H q o c = some u ∧ ∀ xs, u ≠ .tup xs := fun c n => by
  by_cases e : c = q
  · subst e; exact ⟨o, upd_same, no⟩
  · rw [upd_ne e]; exact h.kind c n
theorem Keep.ofOw {q : Addr} {o : HO} (hq : ow q) : Keep ow ow H (upd H q o) := Keep.setOwn hq
theorem slot_congr {M' : Mst} {A' : PA} (e1 : M'.held.length = M.held.length) (e2 : ∀ l, slotV A' M' l = slotV A M l) : heldV A' M' = heldV A M := by
  unfold heldV
  rw [e1]
  exact List.map_congr_left fun l _ => e2 l
theorem slot_set {M' : Mst} {A' : PA} {l : Nat} {v : V} (e1 : M'.held.length = M.held.length) (e2 : ∀ k, k ≠ l → slotV A' M' k = slotV A M k) (e3 : slotV A' M' l = v) : (heldV A M).set l v = heldV A' M' := by
  refine List.ext_getElem? fun k => ?_
  unfold heldV
  rw [e1]
  by_cases ek : l = k
  · subst ek
    rcases Nat.lt_or_ge l M.held.length with c | c
    · rw [List.getElem?_set_self (by simpa using c), List.getElem?_map, List.getElem?_range c]
      simp [e3]
    · rw [List.getElem?_eq_none (by simpa using c), List.getElem?_eq_none (by simpa using c)]
  · rw [List.getElem?_set_ne ek, List.getElem?_map, List.getElem?_map]
    rcases Nat.lt_or_ge k M.held.length with c | c
    · rw [List.getElem?_range c]
      simp [e2 k (fun z => ek z.symm)]
    · rw [List.getElem?_eq_none (by simpa using c)]; rfl
theorem heldV_get {l : Nat} (hl : l < M.held.length) : (heldV A M)[l]? = some (slotV A M l) := by
  unfold heldV
  rw [List.getElem?_map, List.getElem?_range hl]; rfl
theorem heldV_len : (heldV A M).length = M.held.length := by simp [heldV]
/-! fields read -/
theorem PM.f (h : PM ow H C m M sd A) (c : MC K C) {f : Str} {v : V} {Q : VK} (hf : f ∈ fieldNames) (hl : (fsM A M.at_ M.beats).lookup f = some v) (q : Q v H) : ∃ a C' dx fs v', V.ref m = .ref a ∧ H a = some (.ins C' dx fs) ∧ Cls K C' ∧ NoAttr K C' f ∧ fs.lookup f = some v' ∧ Q v' H :=
  ⟨m, C, _, _, v, rfl, h.obj, c.cl, c.n f hf, hl, q⟩
/-! writes -/
theorem PM.tell (h : PM ow H C m M sd A) {T : Addr} {w : Str} {p n : Nat} (nT : H T = none) : (upd H T (.tup (Row.mk M.beats w p n).vs)) A.rows = some (.lst A.xs) ∧
    PM ow (upd (upd H T (.tup (Row.mk M.beats w p n).vs)) A.rows (.lst (A.xs ++ [.ref T]))) C m (M.tell w p n) sd { A with xs := A.xs ++ [.ref T] } ∧ Keep ow ow H (upd (upd H T (.tup (Row.mk M.beats w p n).vs)) A.rows (.lst (A.xs ++ [.ref T]))) := by
  have s := same_new (o := .tup (Row.mk M.beats w p n).vs) nT
  have h1 := h.same s
  have hT : (upd H T (.tup (Row.mk M.beats w p n).vs)) T = some (.tup (Row.mk M.beats w p n).vs) := upd_same
  generalize upd H T (.tup (Row.mk M.beats w p n).vs) = H1 at *
  obtain ⟨f1, f2, f3⟩ := h1.fr (i := 6) (q := A.rows) (o := .lst (A.xs ++ [.ref T])) rfl
  refine ⟨h1.rows, ⟨(f1 0 m (by decide) rfl).trans h1.obj, (f1 1 _ (by decide) rfl).trans h1.dxo, (f1 2 _ (by decide) rfl).trans h1.mem, (f1 3 _ (by decide) rfl).trans h1.held, (f1 4 _ (by decide) rfl).trans h1.tou, (f1 5 _ (by decide) rfl).trans h1.left, Pds.tups f3 (noLs_map noL_mv _) h1.leftD, upd_same, ?_,
    (f1 7 _ (by decide) rfl).trans h1.said, fun l e => (f2 l e).trans (h1.line l e), h1.inj, h1.nd, h1.hl, h1.oa, h1.ol, h1.kindU (fun xs z => by cases z)⟩, (Same.keep s).trans (Keep.ofOw (h1.oa _ (List.mem_of_getElem? (i := 6) rfl)))⟩
  show Pds _ _ ((M.rows ++ [Row.mk M.beats w p n]).map Row.d)
  rw [List.map_append]
  exact (Pds.tups f3 (noLs_map noL_row _) h1.rowsD).app (.cons (Row.pd (f3 _ _ hT)) .nil)
theorem PM.setNums (h : PM ow H C m M sd A) {a b : Nat} : PM ow (upd H m (.ins C A.dx (fsM A a b))) C m { M with at_ := a, beats := b } sd A := by
  obtain ⟨f1, f2, f3⟩ := h.fr (i := 0) (q := m) (o := .ins C A.dx (fsM A a b)) rfl
  exact ⟨upd_same, (f1 1 _ (by decide) rfl).trans h.dxo, (f1 2 _ (by decide) rfl).trans h.mem, (f1 3 _ (by decide) rfl).trans h.held, (f1 4 _ (by decide) rfl).trans h.tou, (f1 5 _ (by decide) rfl).trans h.left, Pds.tups f3 (noLs_map noL_mv _) h.leftD, (f1 6 _ (by decide) rfl).trans h.rows, Pds.tups f3 (noLs_map noL_row _) h.rowsD,
    (f1 7 _ (by decide) rfl).trans h.said, fun l e => (f2 l e).trans (h.line l e), h.inj, h.nd, h.hl, h.oa, h.ol, h.kindU (fun xs z => by cases z)⟩
theorem PM.setSaid (h : PM ow H C m M sd A) {sd' : List Nat} : PM ow (upd H A.said (.lst (sd'.map nV))) C m M sd' A := by
  obtain ⟨f1, f2, f3⟩ := h.fr (i := 7) (q := A.said) (o := .lst (sd'.map nV)) rfl
  exact ⟨(f1 0 m (by decide) rfl).trans h.obj, (f1 1 _ (by decide) rfl).trans h.dxo, (f1 2 _ (by decide) rfl).trans h.mem, (f1 3 _ (by decide) rfl).trans h.held, (f1 4 _ (by decide) rfl).trans h.tou, (f1 5 _ (by decide) rfl).trans h.left, Pds.tups f3 (noLs_map noL_mv _) h.leftD, (f1 6 _ (by decide) rfl).trans h.rows, Pds.tups f3 (noLs_map noL_row _) h.rowsD,
    upd_same, fun l e => (f2 l e).trans (h.line l e), h.inj, h.nd, h.hl, h.oa, h.ol, h.kindU (fun xs z => by cases z)⟩
theorem PM.setMem (h : PM ow H C m M sd A) {mm : List Nat} : PM ow (upd H A.mem (.lst (mm.map nV))) C m { M with mem := mm } sd A := by
  obtain ⟨f1, f2, f3⟩ := h.fr (i := 2) (q := A.mem) (o := .lst (mm.map nV)) rfl
  exact ⟨(f1 0 m (by decide) rfl).trans h.obj, (f1 1 _ (by decide) rfl).trans h.dxo, upd_same, (f1 3 _ (by decide) rfl).trans h.held, (f1 4 _ (by decide) rfl).trans h.tou, (f1 5 _ (by decide) rfl).trans h.left, Pds.tups f3 (noLs_map noL_mv _) h.leftD, (f1 6 _ (by decide) rfl).trans h.rows, Pds.tups f3 (noLs_map noL_row _) h.rowsD,
    (f1 7 _ (by decide) rfl).trans h.said, fun l e => (f2 l e).trans (h.line l e), h.inj, h.nd, h.hl, h.oa, h.ol, h.kindU (fun xs z => by cases z)⟩
theorem PM.setTou (h : PM ow H C m M sd A) {t : List Bool} : PM ow (upd H A.tou (.lst (t.map V.bl))) C m { M with tou := t } sd A := by
  obtain ⟨f1, f2, f3⟩ := h.fr (i := 4) (q := A.tou) (o := .lst (t.map V.bl)) rfl
  exact ⟨(f1 0 m (by decide) rfl).trans h.obj, (f1 1 _ (by decide) rfl).trans h.dxo, (f1 2 _ (by decide) rfl).trans h.mem, (f1 3 _ (by decide) rfl).trans h.held, upd_same, (f1 5 _ (by decide) rfl).trans h.left, Pds.tups f3 (noLs_map noL_mv _) h.leftD, (f1 6 _ (by decide) rfl).trans h.rows, Pds.tups f3 (noLs_map noL_row _) h.rowsD,
    (f1 7 _ (by decide) rfl).trans h.said, fun l e => (f2 l e).trans (h.line l e), h.inj, h.nd, h.hl, h.oa, h.ol, h.kindU (fun xs z => by cases z)⟩
theorem PM.setLeft (h : PM ow H C m M sd A) {ls : List V} {lf : List Mv} (d : Pds H ls (lf.map Mv.d)) : PM ow (upd H A.left (.lst ls)) C m { M with left := lf } sd { A with ls := ls } := by
  obtain ⟨f1, f2, f3⟩ := h.fr (i := 5) (q := A.left) (o := .lst ls) rfl
  exact ⟨(f1 0 m (by decide) rfl).trans h.obj, (f1 1 _ (by decide) rfl).trans h.dxo, (f1 2 _ (by decide) rfl).trans h.mem, (f1 3 _ (by decide) rfl).trans h.held, (f1 4 _ (by decide) rfl).trans h.tou, upd_same, Pds.tups f3 (noLs_map noL_mv _) d, (f1 6 _ (by decide) rfl).trans h.rows, Pds.tups f3 (noLs_map noL_row _) h.rowsD,
    (f1 7 _ (by decide) rfl).trans h.said, fun l e => (f2 l e).trans (h.line l e), h.inj, h.nd, h.hl, h.oa, h.ol, h.kindU (fun xs z => by cases z)⟩
theorem PM.rePace (h : PM ow H C m M sd A) {p : List Bool} : PM ow H C m { M with pace := p } sd A :=
  ⟨h.obj, h.dxo, h.mem, h.held, h.tou, h.left, h.leftD, h.rows, h.rowsD, h.said, h.line, h.inj, h.nd, h.hl, h.oa, h.ol, h.kind⟩
/-- a line is taken -/
theorem PM.takeL (h : PM ow H C m M sd A) {l : Nat} {p : Addr} {cs : List Nat} (hl2 : l < M.held.length) (e : H p = some (.lst (cs.map nV))) (np : ¬ ow p) (hn : M.holds l = false) :
    PM (fun c => ow c ∨ c = p) (upd H A.held (.lst ((heldV A M).set l (.ref p)))) C m { M with held := M.held.set l (some cs) } sd { A with ha := fun k => if k = l then p else A.ha k } := by
  obtain ⟨f1, f2, f3⟩ := h.fr (i := 3) (q := A.held) (o := .lst ((heldV A M).set l (.ref p))) rfl
  have hs : ∀ k, Mst.holds { M with held := M.held.set l (some cs) } k = true ↔ k = l ∨ M.holds k = true := fun k => by
    rw [Mst.holds_iff, Mst.holds_iff]
    by_cases ek : l = k
    · subst ek
      simp only [List.getElem?_set_self hl2, true_or, iff_true]
      exact ⟨cs, rfl⟩
    · simp only [List.getElem?_set_ne ek]
      exact ⟨.inr, fun z => z.elim (fun z => absurd z.symm ek) id⟩
  have cl : ∀ k, k ≠ l → Mst.cellsOf { M with held := M.held.set l (some cs) } k = M.cellsOf k := fun k ek => by
    unfold Mst.cellsOf
    rw [List.getElem?_set_ne (fun z => ek z.symm)]
  have cll : Mst.cellsOf { M with held := M.held.set l (some cs) } l = cs := Mst.cellsOf_of (List.getElem?_set_self hl2)
  have hb : ∀ k, k ≠ l → Mst.holds { M with held := M.held.set l (some cs) } k = M.holds k := fun k ek => by
    have := hs k
    cases h1 : Mst.holds { M with held := M.held.set l (some cs) } k <;> cases h2 : M.holds k <;> simp_all
  have nl : ∀ k, M.holds k = true → k ≠ l := fun k hk z => by rw [z, hn] at hk; cases hk
  have pall : p ∉ A.all m := fun z => np (h.oa _ z)
  have ph : p ≠ A.held := fun z => pall (by rw [z]; exact List.mem_of_getElem? (i := 3) rfl)
  refine ⟨(f1 0 m (by decide) rfl).trans h.obj, (f1 1 _ (by decide) rfl).trans h.dxo, (f1 2 _ (by decide) rfl).trans h.mem, ?_, (f1 4 _ (by decide) rfl).trans h.tou, (f1 5 _ (by decide) rfl).trans h.left, Pds.tups f3 (noLs_map noL_mv _) h.leftD, (f1 6 _ (by decide) rfl).trans h.rows, Pds.tups f3 (noLs_map noL_row _) h.rowsD,
    (f1 7 _ (by decide) rfl).trans h.said, fun j hj => ?_, fun j j' hj hj' ej => ?_, h.nd, fun j hj => ?_, fun c hc => .inl (h.oa c hc), fun j hj => ?_, fun c hc => ?_⟩
  · show upd H A.held _ A.held = _
    rw [upd_same]
    congr 2
    refine slot_set (by simp) (fun k ek => ?_) ?_
    · unfold slotV
      rw [hb k ek]
      simp only [if_neg ek]
    · unfold slotV
      rw [if_pos ((hs l).mpr (.inl rfl))]
      simp
  · by_cases ej : j = l
    · subst ej
      simp only [eq_self, if_true]
      rw [upd_ne ph, cll]; exact e
    · have hj' : M.holds j = true := ((hs j).mp hj).resolve_left ej
      simp only [if_neg ej]
      rw [f2 j hj', cl j ej]; exact h.line j hj'
  · rcases (hs j).mp hj with rfl | g
    · rcases (hs j').mp hj' with rfl | g'
      · rfl
      · simp only [eq_self, if_true, if_neg (nl j' g')] at ej
        exact absurd (h.ol j' g') (by rw [← ej]; exact np)
    · rcases (hs j').mp hj' with rfl | g'
      · simp only [eq_self, if_true, if_neg (nl j g)] at ej
        exact absurd (h.ol j g) (by rw [ej]; exact np)
      · simp only [if_neg (nl j g), if_neg (nl j' g')] at ej
        exact h.inj j j' g g' ej
  · by_cases ej : j = l
    · simp only [if_pos ej]; exact pall
    · simp only [if_neg ej]
      exact h.hl j (((hs j).mp hj).resolve_left ej)
  · by_cases ej : j = l
    · simp only [if_pos ej]; exact .inr trivial
    · simp only [if_neg ej]
      exact .inl (h.ol j (((hs j).mp hj).resolve_left ej))
  · rcases hc with hc | rfl
    · exact h.kindU (fun xs z => by cases z) c hc
    · exact ⟨_, by rw [upd_ne ph]; exact e, fun xs z => by cases z⟩
/-- a line is written -/
theorem PM.writeL (h : PM ow H C m M sd A) {l : Nat} {cs : List Nat} (hl : M.holds l = true) : PM ow (upd H (A.ha l) (.lst (cs.map nV))) C m { M with held := M.held.set l (some cs) } sd A := by
  have hl2 := Mst.holds_lt hl
  have f1 : ∀ (j : Nat) (c : Addr), (A.all m)[j]? = some c → upd H (A.ha l) (.lst (cs.map nV)) c = H c := fun j c e => upd_ne (fun z => h.hl l hl (by rw [← z]; exact List.mem_of_getElem? e))
  have f3 : ∀ c xs, H c = some (.tup xs) → upd H (A.ha l) (.lst (cs.map nV)) c = some (.tup xs) := fun c xs e => by
    rw [upd_ne (fun z => h.notTup e (by rw [z]; exact h.ol l hl))]; exact e
  have hs : ∀ k, Mst.holds { M with held := M.held.set l (some cs) } k = M.holds k := fun k => by
    by_cases ek : l = k
    · subst ek
      rw [hl]
      exact Mst.holds_iff.mpr ⟨cs, List.getElem?_set_self hl2⟩
    · unfold Mst.holds
      rw [List.getElem?_set_ne ek]
  have cll : Mst.cellsOf { M with held := M.held.set l (some cs) } l = cs := Mst.cellsOf_of (List.getElem?_set_self hl2)
  refine ⟨(f1 0 m rfl).trans h.obj, (f1 1 _ rfl).trans h.dxo, (f1 2 _ rfl).trans h.mem, ?_, (f1 4 _ rfl).trans h.tou, (f1 5 _ rfl).trans h.left, Pds.tups f3 (noLs_map noL_mv _) h.leftD, (f1 6 _ rfl).trans h.rows, Pds.tups f3 (noLs_map noL_row _) h.rowsD, (f1 7 _ rfl).trans h.said,
    fun j hj => ?_, fun j j' hj hj' ej => h.inj j j' (by rw [← hs]; exact hj) (by rw [← hs]; exact hj') ej, h.nd, fun j hj => h.hl j (by rw [← hs]; exact hj), h.oa, fun j hj => h.ol j (by rw [← hs]; exact hj), h.kindU (fun xs z => by cases z)⟩
  · rw [(f1 3 _ rfl).trans h.held]
    congr 2
    exact (slot_congr (by simp) fun k => by unfold slotV; rw [hs]).symm
  · rw [hs] at hj
    by_cases ej : j = l
    · subst ej; rw [upd_same, cll]
    · rw [upd_ne (fun z => ej (h.inj j l hj hl z)), h.line j hj]
      unfold Mst.cellsOf
      rw [List.getElem?_set_ne (fun z => ej z.symm)]
/-- a line is not held any more -/
theorem PM.unhold (h : PM ow H C m M sd A) {l : Nat} : PM ow (upd H A.held (.lst ((heldV A M).set l .non))) C m { M with held := M.held.set l none } sd A := by
  obtain ⟨f1, f2, f3⟩ := h.fr (i := 3) (q := A.held) (o := .lst ((heldV A M).set l .non)) rfl
  have hs : ∀ j, Mst.holds { M with held := M.held.set l none } j = true ↔ j ≠ l ∧ M.holds j = true := fun j => by
    rw [Mst.holds_iff, Mst.holds_iff]
    by_cases ek : l = j
    · subst ek
      constructor
      · rintro ⟨cs, e⟩
        simp only [List.getElem?_set] at e
        split at e <;> simp_all
      · rintro ⟨z, _⟩; exact absurd rfl z
    · simp only [List.getElem?_set_ne ek]
      exact ⟨fun z => ⟨fun q => ek q.symm, z⟩, fun z => z.2⟩
  have cl : ∀ j, j ≠ l → Mst.cellsOf { M with held := M.held.set l none } j = M.cellsOf j := fun j ek => by
    unfold Mst.cellsOf
    rw [List.getElem?_set_ne (fun z => ek z.symm)]
  have hb : ∀ k, k ≠ l → Mst.holds { M with held := M.held.set l none } k = M.holds k := fun k ek => by
    have := hs k
    cases h1 : Mst.holds { M with held := M.held.set l none } k <;> cases h2 : M.holds k <;> simp_all
  refine ⟨(f1 0 m (by decide) rfl).trans h.obj, (f1 1 _ (by decide) rfl).trans h.dxo, (f1 2 _ (by decide) rfl).trans h.mem, ?_, (f1 4 _ (by decide) rfl).trans h.tou, (f1 5 _ (by decide) rfl).trans h.left, Pds.tups f3 (noLs_map noL_mv _) h.leftD, (f1 6 _ (by decide) rfl).trans h.rows, Pds.tups f3 (noLs_map noL_row _) h.rowsD,
    (f1 7 _ (by decide) rfl).trans h.said, fun j hj => by obtain ⟨q1, q2⟩ := (hs j).mp hj; rw [f2 j q2, cl j q1]; exact h.line j q2, fun j j' hj hj' ej => h.inj j j' ((hs j).mp hj).2 ((hs j').mp hj').2 ej, h.nd, fun j hj => h.hl j ((hs j).mp hj).2, h.oa, fun j hj => h.ol j ((hs j).mp hj).2, h.kindU (fun xs z => by cases z)⟩
  rw [upd_same]
  congr 2
  refine slot_set (by simp) (fun k ek => ?_) ?_
  · unfold slotV; rw [hb k ek]
  · unfold slotV
    rw [if_neg (fun z => ((hs l).mp z).1 rfl)]
end
end Vt
namespace Vt
open PySem PySem.Spec PyProof.Rows L2
section
variable {P : Program} {w : World} {K : PySem.W.Frag} {mg : Str → Option Value} {base : Heap} {C : Addr}
abbrev st_Machine_tell : Stmt := (inClass (topS 26) 12)
abbrev nm_Machine_tell : List Str := ["self", "word", "place", "number"]
theorem sc_Machine_tell : FnScope ["self", "word", "place", "number"] ["self", "word", "place", "number"] (defScope st_Machine_tell) := ⟨rfl, rfl, rfl, by decide +kernel, rfl, by decide +kernel, by decide +kernel⟩
def spTell (C : Addr) : Sp := fun vs H Q _ => ∃ (ow : Addr → Prop) (m : Addr) (M : Mst) (sd : List Nat) (A : PA) (wd : Str) (p n : Nat), vs = [.ref m, .str wd, nV p, nV n] ∧ PM ow H C m M sd A ∧ M.rows.length ≤ 900000 ∧
  ∀ (H' : Hp) (A' : PA), PM ow H' C m (M.tell wd p n) sd A' → Keep ow ow H H' → A'.ords = A.ords → A'.prog = A.prog → Q .non H'
theorem ok_tell {f : Addr} {fd : FuncData} (F : Fun K "tell" "Machine.tell" st_Machine_tell f fd) (c : MC K C) : FnOk P w K mg base CX0 1 f fd ["self", "word", "place", "number"] (spTell C) := by
  refine F.ok sc_Machine_tell (fun vs H Q E h => ?_) (fun cdv A outer s H vs Q E hr h => ?_)
  · obtain ⟨ow, m, M, sd, A, wd, p, n, rfl, _⟩ := h
    rfl
  · obtain ⟨ow, m, M, sd, A, wd, p, n, rfl, hM, hl, q⟩ := h
    refine ⟨_, (pss_one (ps_expr (pe_bm PySem.F.plainAttrs_list PySem.F.slot_list_append PySem.F.type_list_append mt_append (pe_fld (pv 0) rfl) (pa_cons (pe_tup (pa_cons (pe_fld (pv 0) rfl) (pa_cons (pv 1) (pa_cons (pv 2) (pa_cons (pv 3) pa_nil))))) pa_nil)))), ?_⟩
    have xl : A.xs.length = M.rows.length := by rw [hM.rowsD.len, List.length_map]
    refine ⟨_, rfl, m, C, _, _, _, rfl, hM.obj, c.cl, c.n _ (by decide), rfl, .inl ⟨rfl, _, sqL_l hM.rows⟩, _, rfl, m, C, _, _, _, rfl, hM.obj, c.cl, c.n _ (by decide), rfl, _, rfl, _, rfl, _, rfl, by show 4 ≤ sizeLine; decide, fun T nT => ?_⟩
    obtain ⟨g1, g2, g3⟩ := hM.tell (w := wd) (p := p) (n := n) nT
    exact ⟨A.rows, A.xs, _, rfl, rfl, g1, big (by omega), q _ _ g2 g3 rfl rfl⟩
abbrev st_Machine_line_of : Stmt := (inClass (topS 26) 7)
abbrev nm_Machine_line_of : List Str := ["self", "cell", "line", "first"]
theorem sc_Machine_line_of : FnScope ["self", "cell", "line", "first"] ["self", "cell"] (defScope st_Machine_line_of) := ⟨rfl, rfl, rfl, by decide +kernel, rfl, by decide +kernel, by decide +kernel⟩
def spLineOf (C : Addr) : Sp := fun vs H Q _ => ∃ (ow : Addr → Prop) (m : Addr) (M : Mst) (sd : List Nat) (A : PA) (cells k : Nat), vs = [.ref m, nV k] ∧ PM ow H C m M sd A ∧ MOk0 cells M ∧ k < cells ∧ M.rows.length ≤ 800000 ∧
  ∀ (H' : Hp) (ow' : Addr → Prop) (A' : PA), PM ow' H' C m (M.take (k / 4)) sd A' → Keep ow ow' H H' → A'.ords = A.ords → A'.prog = A.prog → Q (.ref (A'.ha (k / 4))) H'
theorem ok_lineof {f : Addr} {fd : FuncData} (F : Fun K "line_of" "Machine.line_of" st_Machine_line_of f fd) (c : MC K C) (CC : Consts K mg) (m_tell : MCallee P w K mg base C "tell" 1 (spTell C)) : FnOk P w K mg base CX0 2 f fd ["self", "cell"] (spLineOf C) := by
  obtain ⟨tL, mc_LINE⟩ := CC.line
  refine F.ok sc_Machine_line_of (fun vs H Q E h => ?_) (fun cdv A outer s H vs Q E hr h => ?_)
  · obtain ⟨ow, m, M, sd, A, cells, k, rfl, _⟩ := h
    rfl
  · obtain ⟨ow, m, M, sd, A, cells, k, rfl, hM, ok, hk, hrow, q⟩ := h
    have hl := ok.line hk
    have c16 : cells ≤ 16 := by have := ok.lines; omega
    have lcells : 4 * (k / 4) + 4 ≤ cells := by have := ok.lines; omega
    refine ⟨_, (pss_cons (ps_set (i := 2) sc_Machine_line_of.nd rfl (Or.inl rfl) (pe_op op_fdiv (pv 1) (pe_glob (v := .int 4) rfl mc_LINE ⟨_, rfl⟩)))
  (pss_cut (ps_if (pt_cmpR op_isN (pe_ix ix_lt (pe_fld (pv 0) rfl) (pv 2) (fun _ _ => rfl)) pe_non (nomark _)) (pss_cons (ps_set (i := 3) sc_Machine_line_of.nd rfl (Or.inl rfl) (pe_op op_mul (pv 2) (pe_glob (v := .int 4) rfl mc_LINE ⟨_, rfl⟩)))
  (pss_cons (ps_asg (pe_slice sl_list (pe_fld (pv 0) rfl) (po_some (pv 3)) (po_some (pe_op op_add (pv 3) (pe_glob (v := .int 4) rfl mc_LINE ⟨_, rfl⟩)))) (pg_sub (pe_fld (pv 0) rfl) (pv 2) set_list))
  (pss_one (ps_expr (pe_mcal m_tell hr (by first | decide | exact Nat.le_refl _) (pv 0) (pa_cons pe_str (pa_cons (pv 2) (pa_cons pe_int pa_nil)))))))) pss_nil)
  (pss_one (ps_ret (pe_ix ix_lt (pe_fld (pv 0) rfl) (pv 2) (fun _ _ => rfl)))))), ?_⟩
    refine ⟨_, rfl, _, _, rfl, rfl, ⟨by decide, by decide⟩, ?_⟩
    refine chgN (y := nV (k / 4)) (congrArg V.int (by omega)) ?_
    refine ⟨fun σ' H' => ∃ (y : Option V), σ' = [some (.ref m), some (nV k), some (nV (k / 4)), y] ∧ ∃ (ow' : Addr → Prop) (A' : PA), PM ow' H' C m (M.take (k / 4)) sd A' ∧ Keep ow ow' H H' ∧ A'.ords = A.ords ∧ A'.prog = A.prog, ?_, fun σ' H' hMid => ?_⟩
    · have hlh : k / 4 < M.held.length := by rw [ok.held]; exact hl
      have g : atI (heldV A M) ((k / 4 : Nat) : Int) = some (slotV A M (k / 4)) := atI_nat (heldV_get hlh)
      refine ⟨_, rfl, m, C, _, _, _, rfl, hM.obj, c.cl, c.n _ (by decide), rfl, _, rfl, A.held, _, _, _, rfl, rfl, sqA_l hM.held, g, ?_⟩
      unfold slotV
      cases hh : M.holds (k / 4) with
      | true =>
        rw [if_pos rfl]
        refine ⟨rfl, _, rfl, iteF ?_⟩
        exact ⟨_, rfl, ow, A, by rw [Mst.take, if_pos hh]; exact hM, Keep.refl, rfl, rfl⟩
      | false =>
        rw [if_neg (by simp)]
        refine ⟨rfl, _, rfl, iteT ?_⟩
        -- first = line * LINE; self.held[line] = self.memory[first:first + LINE]
        refine ⟨_, rfl, _, _, rfl, rfl, .inl ⟨by omega, by omega⟩, ?_⟩
        refine chgN (y := nV (4 * (k / 4))) (congrArg V.int (by omega)) ?_
        refine ⟨_, rfl, m, C, _, _, _, rfl, hM.obj, c.cl, c.n _ (by decide), rfl, _, rfl, _, rfl, _, rfl, _, _, rfl, rfl, _, rfl, A.mem, _, rfl, sqL_l hM.mem, fun p np => ?_⟩
        have ecut : cutV (M.mem.map nV) (some ((4 * (k / 4) : Nat) : Int)) (some (((4 * (k / 4) : Nat) : Int) + 4)) = ((M.mem.drop (4 * (k / 4))).take 4).map nV := by
          have := cut_nat (α := V) (M.mem.map nV) (4 * (k / 4)) (4 * (k / 4) + 4) (by omega) (by rw [List.length_map, ok.mem]; omega)
          rw [show ((4 * (k / 4) + 4 : Nat) : Int) = ((4 * (k / 4) : Nat) : Int) + 4 by omega] at this
          rw [this, ← List.map_drop, ← List.map_take]
          congr 2; omega
        have s1 := same_new (o := .lst (cutV (M.mem.map nV) (some ((4 * (k / 4) : Nat) : Int)) (some (((4 * (k / 4) : Nat) : Int) + 4)))) np
        have hp : (upd H p (.lst (cutV (M.mem.map nV) (some ((4 * (k / 4) : Nat) : Int)) (some (((4 * (k / 4) : Nat) : Int) + 4))))) p = some (.lst (((M.mem.drop (4 * (k / 4))).take 4).map nV)) := by rw [upd_same, ecut]
        have hM1 := hM.same s1
        have now : ¬ ow p := hM.fresh np
        generalize upd H p (.lst (cutV (M.mem.map nV) (some ((4 * (k / 4) : Nat) : Int)) (some (((4 * (k / 4) : Nat) : Int) + 4)))) = H1 at s1 hp hM1
        refine ⟨_, rfl, m, C, _, _, _, rfl, hM1.obj, c.cl, c.n _ (by decide), rfl, _, rfl, A.held, _, _, k / 4, rfl, rfl, hM1.held, ixN_of rfl (by rw [heldV_len]; exact hlh), ?_⟩
        have hM2 := hM1.takeL hlh hp now hh
        have k2 : Keep ow (fun c => ow c ∨ c = p) H (upd H1 A.held (.lst ((heldV A M).set (k / 4) (.ref p)))) := fun c o nc hc => by
          obtain ⟨e1, _⟩ := Keep.ofOw (H := H1) (o := .lst ((heldV A M).set (k / 4) (.ref p))) (hM1.oa A.held (List.mem_of_getElem? (i := 3) rfl)) c o nc (s1 _ _ hc)
          exact ⟨e1, fun z => z.elim nc fun e => by rw [e, np] at hc; cases hc⟩
        generalize upd H1 A.held (.lst ((heldV A M).set (k / 4) (.ref p))) = H2 at hM2 k2
        refine ⟨_, rfl, m, _, _, rfl, hM2.obj, fsM_no (by decide), _, rfl, _, m, _, sd, _, "take", k / 4, 0, rfl, hM2, by show M.rows.length ≤ 900000; omega, fun H3 A3 hM3 k3 eo ep => ?_⟩
        refine ⟨_, rfl, _, A3, ?_, k2.trans k3, eo, ep⟩
        rw [Mst.take, if_neg (by rw [hh]; simp)]
        exact hM3
    · obtain ⟨y, rfl, ow', A', hM', k', eo, ep⟩ := hMid
      have hh := take_holds ok hl
      have ok' := ok.take hl
      have g : atI (heldV A' (M.take (k / 4))) ((k / 4 : Nat) : Int) = some (slotV A' (M.take (k / 4)) (k / 4)) := atI_nat (heldV_get (by rw [ok'.held]; exact hl))
      unfold slotV at g
      rw [if_pos hh] at g
      exact ⟨_, rfl, m, C, _, _, _, rfl, hM'.obj, c.cl, c.n _ (by decide), rfl, _, rfl, A'.held, _, _, _, rfl, rfl, sqA_l hM'.held, g, q H' ow' A' hM' k' eo ep⟩
abbrev st_Machine_read_cell : Stmt := (inClass (topS 26) 8)
abbrev nm_Machine_read_cell : List Str := ["self", "cell", "number"]
theorem sc_Machine_read_cell : FnScope ["self", "cell", "number"] ["self", "cell"] (defScope st_Machine_read_cell) := ⟨rfl, rfl, rfl, by decide +kernel, rfl, by decide +kernel, by decide +kernel⟩
def spReadCell (C : Addr) : Sp := fun vs H Q _ => ∃ (ow : Addr → Prop) (m : Addr) (M : Mst) (sd : List Nat) (A : PA) (cells k : Nat), vs = [.ref m, nV k] ∧ PM ow H C m M sd A ∧ MOk0 cells M ∧ k < cells ∧ M.rows.length ≤ 700000 ∧
  ∀ (H' : Hp) (ow' : Addr → Prop) (A' : PA), PM ow' H' C m (M.read k) sd A' → Keep ow ow' H H' → A'.ords = A.ords → A'.prog = A.prog → Q (nV (M.readN k)) H'
theorem ok_readcell {f : Addr} {fd : FuncData} (F : Fun K "read_cell" "Machine.read_cell" st_Machine_read_cell f fd) (c : MC K C) (CC : Consts K mg) (m_tell : MCallee P w K mg base C "tell" 1 (spTell C)) (m_line_of : MCallee P w K mg base C "line_of" 2 (spLineOf C)) : FnOk P w K mg base CX0 3 f fd ["self", "cell"] (spReadCell C) := by
  obtain ⟨tL, mc_LINE⟩ := CC.line
  refine F.ok sc_Machine_read_cell (fun vs H Q E h => ?_) (fun cdv A outer s H vs Q E hr h => ?_)
  · obtain ⟨ow, m, M, sd, A, cells, k, rfl, _⟩ := h
    rfl
  · obtain ⟨ow, m, M, sd, A, cells, k, rfl, hM, ok, hk, hrow, q⟩ := h
    have hl := ok.line hk
    refine ⟨_, (pss_cons (ps_set (i := 2) sc_Machine_read_cell.nd rfl (Or.inl rfl) (pe_ix ix_lt (pe_mcal m_line_of hr (by first | decide | exact Nat.le_refl _) (pv 0) (pa_cons (pv 1) pa_nil)) (pe_op op_mod (pv 1) (pe_glob (v := .int 4) rfl mc_LINE ⟨_, rfl⟩)) (fun _ _ => rfl)))
  (pss_cons (ps_expr (pe_mcal m_tell hr (by first | decide | exact Nat.le_refl _) (pv 0) (pa_cons pe_str (pa_cons (pv 1) (pa_cons (pv 2) pa_nil)))))
  (pss_one (ps_ret (pv 2))))), ?_⟩
    refine ⟨_, rfl, m, _, _, rfl, hM.obj, fsM_no (by decide), _, rfl, ow, m, M, sd, A, cells, k, rfl, hM, ok, hk, by omega, fun H1 ow1 A1 hM1 k1 eo1 ep1 => ?_⟩
    have ok1 := ok.take hl
    have hh := take_holds ok hl
    obtain ⟨cs, ecs⟩ := Mst.holds_iff.mp hh
    have clen : ((M.take (k / 4)).cellsOf (k / 4)).length = 4 := by rw [Mst.cellsOf_of ecs]; exact ok1.four _ _ ecs
    refine ⟨_, rfl, _, _, rfl, rfl, (by show (0 : Int) < 4; decide), A1.ha (k / 4), _, (k : Int) % 4, nV (M.readN k), rfl, rfl, sqA_l (hM1.line _ hh), ?_, ?_⟩
    · rw [show (k : Int) % 4 = ((k % 4 : Nat) : Int) by omega]
      exact atI_nat (nat_at (by rw [clen]; omega))
    have tr := (take_rows (M := M) (l := k / 4)).1
    refine ⟨_, rfl, m, _, _, rfl, hM1.obj, fsM_no (by decide), _, rfl, _, rfl, ow1, m, _, sd, A1, "read", k, M.readN k, rfl, hM1, by omega, fun H2 A2 hM2 k2 eo2 ep2 => ?_⟩
    exact ⟨_, rfl, q H2 ow1 A2 hM2 (k1.trans k2) (eo2.trans eo1) (ep2.trans ep1)⟩
abbrev st_Machine_write_cell : Stmt := (inClass (topS 26) 9)
abbrev nm_Machine_write_cell : List Str := ["self", "cell", "number"]
theorem sc_Machine_write_cell : FnScope ["self", "cell", "number"] ["self", "cell", "number"] (defScope st_Machine_write_cell) := ⟨rfl, rfl, rfl, by decide +kernel, rfl, by decide +kernel, by decide +kernel⟩
def spWriteCell (C : Addr) : Sp := fun vs H Q _ => ∃ (ow : Addr → Prop) (m : Addr) (M : Mst) (sd : List Nat) (A : PA) (cells k n : Nat), vs = [.ref m, nV k, nV n] ∧ PM ow H C m M sd A ∧ MOk0 cells M ∧ k < cells ∧ M.rows.length ≤ 700000 ∧
  ∀ (H' : Hp) (ow' : Addr → Prop) (A' : PA), PM ow' H' C m (M.write k n) sd A' → Keep ow ow' H H' → A'.ords = A.ords → A'.prog = A.prog → Q .non H'
theorem ok_writecell {f : Addr} {fd : FuncData} (F : Fun K "write_cell" "Machine.write_cell" st_Machine_write_cell f fd) (c : MC K C) (CC : Consts K mg) (m_tell : MCallee P w K mg base C "tell" 1 (spTell C)) (m_line_of : MCallee P w K mg base C "line_of" 2 (spLineOf C)) : FnOk P w K mg base CX0 3 f fd ["self", "cell", "number"] (spWriteCell C) := by
  obtain ⟨tL, mc_LINE⟩ := CC.line
  refine F.ok sc_Machine_write_cell (fun vs H Q E h => ?_) (fun cdv A outer s H vs Q E hr h => ?_)
  · obtain ⟨ow, m, M, sd, A, cells, k, n, rfl, _⟩ := h
    rfl
  · obtain ⟨ow, m, M, sd, A, cells, k, n, rfl, hM, ok, hk, hrow, q⟩ := h
    have hl := ok.line hk
    refine ⟨_, (pss_cons (ps_asg (pv 2) (pg_sub (pe_mcal m_line_of hr (by first | decide | exact Nat.le_refl _) (pv 0) (pa_cons (pv 1) pa_nil)) (pe_op op_mod (pv 1) (pe_glob (v := .int 4) rfl mc_LINE ⟨_, rfl⟩)) set_list))
  (pss_cons (ps_asg pe_bl (pg_sub (pe_fld (pv 0) rfl) (pe_op op_fdiv (pv 1) (pe_glob (v := .int 4) rfl mc_LINE ⟨_, rfl⟩)) set_list))
  (pss_one (ps_expr (pe_mcal m_tell hr (by first | decide | exact Nat.le_refl _) (pv 0) (pa_cons pe_str (pa_cons (pv 1) (pa_cons (pv 2) pa_nil)))))))), ?_⟩
    refine ⟨_, rfl, _, rfl, m, _, _, rfl, hM.obj, fsM_no (by decide), _, rfl, ow, m, M, sd, A, cells, k, rfl, hM, ok, hk, by omega, fun H1 ow1 A1 hM1 k1 eo1 ep1 => ?_⟩
    have ok1 := ok.take hl
    have hh := take_holds ok hl
    obtain ⟨cs, ecs⟩ := Mst.holds_iff.mp hh
    have clen : ((M.take (k / 4)).cellsOf (k / 4)).length = 4 := by rw [Mst.cellsOf_of ecs]; exact ok1.four _ _ ecs
    refine ⟨_, rfl, _, _, rfl, rfl, (by show (0 : Int) < 4; decide), A1.ha (k / 4), _, (k : Int) % 4, k % 4, rfl, rfl, hM1.line _ hh, ixN_of (by omega) (by rw [List.length_map, clen]; omega), ?_⟩
    rw [show (((M.take (k / 4)).cellsOf (k / 4)).map nV).set (k % 4) (nV n) = (((M.take (k / 4)).cellsOf (k / 4)).set (k % 4) n).map nV from set_map rfl]
    have hM2 := hM1.writeL (cs := ((M.take (k / 4)).cellsOf (k / 4)).set (k % 4) n) hh
    have k2 := k1.trans (Keep.ofOw (o := .lst ((((M.take (k / 4)).cellsOf (k / 4)).set (k % 4) n).map nV)) (hM1.ol _ hh))
    generalize upd H1 (A1.ha (k / 4)) (.lst ((((M.take (k / 4)).cellsOf (k / 4)).set (k % 4) n).map nV)) = H2 at hM2 k2
    -- self.touched[cell // LINE] = True
    refine ⟨_, rfl, m, C, _, _, _, rfl, hM2.obj, c.cl, c.n _ (by decide), rfl, _, rfl, _, _, rfl, rfl, ⟨by decide, by decide⟩, A1.tou, _, (k : Int) / 4, k / 4, rfl, rfl, hM2.tou, ixN_of (by omega) (by rw [List.length_map]; show k / 4 < (M.take (k / 4)).tou.length; rw [ok1.tou]; exact hl), ?_⟩
    rw [show ((M.take (k / 4)).tou.map V.bl).set (k / 4) (.bl true) = ((M.take (k / 4)).tou.set (k / 4) true).map V.bl from by rw [List.map_set]]
    have hM3 := hM2.setTou (t := (M.take (k / 4)).tou.set (k / 4) true)
    have k3 := k2.trans (Keep.ofOw (o := .lst (((M.take (k / 4)).tou.set (k / 4) true).map V.bl)) (hM2.oa A1.tou (List.mem_of_getElem? (i := 4) rfl)))
    generalize upd H2 A1.tou (.lst (((M.take (k / 4)).tou.set (k / 4) true).map V.bl)) = H3 at hM3 k3
    have tr := (take_rows (M := M) (l := k / 4)).1
    refine ⟨_, rfl, m, _, _, rfl, hM3.obj, fsM_no (by decide), _, rfl, _, rfl, ow1, m, _, sd, _, "write", k, n, rfl, hM3, by show (M.take (k / 4)).rows.length ≤ 900000; omega, fun H4 A4 hM4 k4 eo4 ep4 => ?_⟩
    exact q H4 ow1 A4 hM4 (k3.trans k4) (eo4.trans eo1) (ep4.trans ep1)
end
end Vt
namespace Vt
open PySem PySem.Spec PyProof.Rows L2
section
variable {P : Program} {w : World} {K : PySem.W.Frag} {mg : Str → Option Value} {base : Heap} {C : Addr}
abbrev st_Machine_clean_line : Stmt := (inClass (topS 26) 10)
abbrev nm_Machine_clean_line : List Str := ["self", "line", "first"]
theorem sc_Machine_clean_line : FnScope ["self", "line", "first"] ["self", "line"] (defScope st_Machine_clean_line) := ⟨rfl, rfl, rfl, by decide +kernel, rfl, by decide +kernel, by decide +kernel⟩
def spCleanLine (C : Addr) : Sp := fun vs H Q _ => ∃ (ow : Addr → Prop) (m : Addr) (M : Mst) (sd : List Nat) (A : PA) (cells l : Nat), vs = [.ref m, nV l] ∧ PM ow H C m M sd A ∧ MOk0 cells M ∧ l < cells / 4 ∧ M.rows.length ≤ 800000 ∧
  ∀ (H' : Hp) (A' : PA), PM ow H' C m (M.clean l) sd A' → Keep ow ow H H' → A'.ords = A.ords → A'.prog = A.prog → Q .non H'
theorem ok_cleanline {f : Addr} {fd : FuncData} (F : Fun K "clean_line" "Machine.clean_line" st_Machine_clean_line f fd) (c : MC K C) (CC : Consts K mg) (m_tell : MCallee P w K mg base C "tell" 1 (spTell C)) : FnOk P w K mg base CX0 2 f fd ["self", "line"] (spCleanLine C) := by
  obtain ⟨tL, mc_LINE⟩ := CC.line
  refine F.ok sc_Machine_clean_line (fun vs H Q E h => ?_) (fun cdv A outer s H vs Q E hr h => ?_)
  · obtain ⟨ow, m, M, sd, A, cells, l, rfl, _⟩ := h
    rfl
  · obtain ⟨ow, m, M, sd, A, cells, l, rfl, hM, ok, hl, hrow, q⟩ := h
    have lc : 4 * l + 4 ≤ cells := by have := ok.lines; omega
    have c16 : cells ≤ 16 := by have := ok.lines; omega
    have tl : l < M.tou.length := by rw [ok.tou]; exact hl
    refine ⟨_, (pss_one (ps_if (pt_val (pe_ix ix_lt (pe_fld (pv 0) rfl) (pv 1) (fun _ _ => rfl))) (pss_cons (ps_set (i := 2) sc_Machine_clean_line.nd rfl (Or.inl rfl) (pe_op op_mul (pv 1) (pe_glob (v := .int 4) rfl mc_LINE ⟨_, rfl⟩)))
  (pss_cons (ps_asg (pe_ix ix_lt (pe_fld (pv 0) rfl) (pv 1) (fun _ _ => rfl)) (pg_slset (pe_fld (pv 0) rfl) (po_some (pv 2)) (po_some (pe_op op_add (pv 2) (pe_glob (v := .int 4) rfl mc_LINE ⟨_, rfl⟩)))))
  (pss_cons (ps_asg pe_bl (pg_sub (pe_fld (pv 0) rfl) (pv 1) set_list))
  (pss_one (ps_expr (pe_mcal m_tell hr (by first | decide | exact Nat.le_refl _) (pv 0) (pa_cons pe_str (pa_cons (pv 1) (pa_cons pe_int pa_nil))))))))) pss_nil)), ?_⟩
    have g : atI (M.tou.map V.bl) (l : Int) = some (.bl (M.touched l)) := atI_nat (by
      rw [List.getElem?_map, List.getElem?_eq_getElem tl, Mst.touched, List.getD_eq_getElem?_getD, List.getElem?_eq_getElem tl]; rfl)
    refine ⟨_, rfl, m, C, _, _, _, rfl, hM.obj, c.cl, c.n _ (by decide), rfl, _, rfl, A.tou, _, _, _, rfl, rfl, sqA_l hM.tou, g, _, rfl, ?_⟩
    cases ht : M.touched l with
    | false => exact iteF (q H A (by rw [Mst.clean, if_neg (by rw [ht]; simp)]; exact hM) Keep.refl rfl rfl)
    | true =>
      refine iteT ?_
      have hh := ok.th l ht
      have hlh := Mst.holds_lt hh
      obtain ⟨cs, ecs⟩ := Mst.holds_iff.mp hh
      have clen : (M.cellsOf l).length = 4 := by rw [Mst.cellsOf_of ecs]; exact ok.four _ _ ecs
      have mlen : (M.mem.map nV).length = cells := by rw [List.length_map, ok.mem]
      have gh : atI (heldV A M) (l : Int) = some (slotV A M l) := atI_nat (heldV_get hlh)
      unfold slotV at gh
      rw [if_pos hh] at gh
      refine ⟨_, rfl, _, _, rfl, rfl, .inl ⟨by omega, by omega⟩, ?_⟩
      refine chgN (y := nV (4 * l)) (congrArg V.int (by omega)) ?_
      refine ⟨_, rfl, m, C, _, _, _, rfl, hM.obj, c.cl, c.n _ (by decide), rfl, _, rfl, A.held, _, _, _, rfl, rfl, sqA_l hM.held, gh, ?_⟩
      refine ⟨_, rfl, m, C, _, _, _, rfl, hM.obj, c.cl, c.n _ (by decide), rfl, _, rfl, _, rfl, _, rfl, _, _, rfl, rfl, _, rfl, A.mem, A.ha l, _, _, 4 * l, 4 * l + 4, rfl, rfl, rfl, congrArg some (by omega), hM.mem, hM.line l hh, fun z => hM.hl l hh (by rw [← z]; exact List.mem_of_getElem? (i := 2) rfl), by omega, by omega, by rw [mlen, List.length_map, clen]; exact big' (by omega), ?_⟩
      rw [show (M.mem.map nV).take (4 * l) ++ (M.cellsOf l).map nV ++ (M.mem.map nV).drop (4 * l + 4) = (M.mem.take (4 * l) ++ M.cellsOf l ++ M.mem.drop (4 * l + 4)).map nV by rw [List.map_append, List.map_append, List.map_take, List.map_drop]]
      have hM1 := hM.setMem (mm := M.mem.take (4 * l) ++ M.cellsOf l ++ M.mem.drop (4 * l + 4))
      have k1 : Keep ow ow H (upd H A.mem (.lst ((M.mem.take (4 * l) ++ M.cellsOf l ++ M.mem.drop (4 * l + 4)).map nV))) := Keep.ofOw (hM.oa A.mem (List.mem_of_getElem? (i := 2) rfl))
      generalize upd H A.mem (.lst ((M.mem.take (4 * l) ++ M.cellsOf l ++ M.mem.drop (4 * l + 4)).map nV)) = H1 at hM1 k1
      refine ⟨_, rfl, m, C, _, _, _, rfl, hM1.obj, c.cl, c.n _ (by decide), rfl, _, rfl, A.tou, _, _, l, rfl, rfl, hM1.tou, ixN_of rfl (by rw [List.length_map]; exact tl), ?_⟩
      rw [show (M.tou.map V.bl).set l (.bl false) = (M.tou.set l false).map V.bl from by rw [List.map_set]]
      have hM2 := hM1.setTou (t := M.tou.set l false)
      have k2 := k1.trans (Keep.ofOw (o := .lst ((M.tou.set l false).map V.bl)) (hM1.oa A.tou (List.mem_of_getElem? (i := 4) rfl)))
      generalize upd H1 A.tou (.lst ((M.tou.set l false).map V.bl)) = H2 at hM2 k2
      refine ⟨_, rfl, m, _, _, rfl, hM2.obj, fsM_no (by decide), _, rfl, ow, m, _, sd, _, "clean", l, 0, rfl, hM2, by show M.rows.length ≤ 900000; omega, fun H3 A3 hM3 k3 eo ep => ?_⟩
      refine q H3 A3 ?_ (k2.trans k3) eo ep
      rw [Mst.clean, if_pos ht]
      exact hM3
abbrev st_Machine_drop_line : Stmt := (inClass (topS 26) 11)
abbrev nm_Machine_drop_line : List Str := ["self", "line"]
theorem sc_Machine_drop_line : FnScope ["self", "line"] ["self", "line"] (defScope st_Machine_drop_line) := ⟨rfl, rfl, rfl, by decide +kernel, rfl, by decide +kernel, by decide +kernel⟩
def spDropLine (C : Addr) : Sp := fun vs H Q _ => ∃ (ow : Addr → Prop) (m : Addr) (M : Mst) (sd : List Nat) (A : PA) (cells l : Nat), vs = [.ref m, nV l] ∧ PM ow H C m M sd A ∧ MOk0 cells M ∧ l < cells / 4 ∧ M.rows.length ≤ 800000 ∧
  ∀ (H' : Hp) (A' : PA), PM ow H' C m (M.drop l) sd A' → Keep ow ow H H' → A'.ords = A.ords → A'.prog = A.prog → Q .non H'
theorem ok_dropline {f : Addr} {fd : FuncData} (F : Fun K "drop_line" "Machine.drop_line" st_Machine_drop_line f fd) (c : MC K C) (m_tell : MCallee P w K mg base C "tell" 1 (spTell C)) : FnOk P w K mg base CX0 2 f fd ["self", "line"] (spDropLine C) := by
  refine F.ok sc_Machine_drop_line (fun vs H Q E h => ?_) (fun cdv A outer s H vs Q E hr h => ?_)
  · obtain ⟨ow, m, M, sd, A, cells, l, rfl, _⟩ := h
    rfl
  · obtain ⟨ow, m, M, sd, A, cells, l, rfl, hM, ok, hl, hrow, q⟩ := h
    have tl : l < M.tou.length := by rw [ok.tou]; exact hl
    have hlh : l < M.held.length := by rw [ok.held]; exact hl
    refine ⟨_, (pss_one (ps_if (pt_cmpR op_notN (pe_ix ix_lt (pe_fld (pv 0) rfl) (pv 1) (fun _ _ => rfl)) pe_non (nomark _)) (pss_cons (ps_asg pe_non (pg_sub (pe_fld (pv 0) rfl) (pv 1) set_list))
  (pss_cons (ps_asg pe_bl (pg_sub (pe_fld (pv 0) rfl) (pv 1) set_list))
  (pss_one (ps_expr (pe_mcal m_tell hr (by first | decide | exact Nat.le_refl _) (pv 0) (pa_cons pe_str (pa_cons (pv 1) (pa_cons pe_int pa_nil)))))))) pss_nil)), ?_⟩
    have gh : atI (heldV A M) (l : Int) = some (slotV A M l) := atI_nat (heldV_get hlh)
    refine ⟨_, rfl, m, C, _, _, _, rfl, hM.obj, c.cl, c.n _ (by decide), rfl, _, rfl, A.held, _, _, _, rfl, rfl, sqA_l hM.held, gh, ?_⟩
    unfold slotV
    cases hh : M.holds l with
    | false =>
      rw [if_neg (by simp)]
      refine ⟨rfl, _, rfl, iteF ?_⟩
      exact q H A (by rw [Mst.drop, if_neg (by rw [hh]; simp)]; exact hM) Keep.refl rfl rfl
    | true =>
      rw [if_pos rfl]
      refine ⟨rfl, _, rfl, iteT ?_⟩
      refine ⟨_, rfl, m, C, _, _, _, rfl, hM.obj, c.cl, c.n _ (by decide), rfl, _, rfl, A.held, _, _, l, rfl, rfl, hM.held, ixN_of rfl (by rw [heldV_len]; exact hlh), ?_⟩
      have hM1 := hM.unhold (l := l)
      have k1 : Keep ow ow H (upd H A.held (.lst ((heldV A M).set l .non))) := Keep.ofOw (hM.oa A.held (List.mem_of_getElem? (i := 3) rfl))
      generalize upd H A.held (.lst ((heldV A M).set l .non)) = H1 at hM1 k1
      refine ⟨_, rfl, m, C, _, _, _, rfl, hM1.obj, c.cl, c.n _ (by decide), rfl, _, rfl, A.tou, _, _, l, rfl, rfl, hM1.tou, ixN_of rfl (by rw [List.length_map]; exact tl), ?_⟩
      rw [show (M.tou.map V.bl).set l (.bl false) = (M.tou.set l false).map V.bl from by rw [List.map_set]]
      have hM2 := hM1.setTou (t := M.tou.set l false)
      have k2 := k1.trans (Keep.ofOw (o := .lst ((M.tou.set l false).map V.bl)) (hM1.oa A.tou (List.mem_of_getElem? (i := 4) rfl)))
      generalize upd H1 A.tou (.lst ((M.tou.set l false).map V.bl)) = H2 at hM2 k2
      refine ⟨_, rfl, m, _, _, rfl, hM2.obj, fsM_no (by decide), _, rfl, ow, m, _, sd, _, "drop", l, 0, rfl, hM2, by show M.rows.length ≤ 900000; omega, fun H3 A3 hM3 k3 eo ep => ?_⟩
      refine q H3 A3 ?_ (k2.trans k3) eo ep
      rw [Mst.drop, if_pos hh]
      exact hM3
end
end Vt
namespace Vt
open PySem PySem.Spec PyProof.Rows L2
theorem hd_w {K : PySem.W.Frag} {H : Hp} {a : Addr} {d : Deed} (h : H a = some (.tup d.vs)) : SqT K H a (.str d.word :: d.args.map nV) := sqT_t h
theorem nwd {a b : Str} {n k : Nat} (h : decide (a = b) = false) : ¬ (a = b ∧ n = k) := fun z => of_decide_eq_false h z.1
/-! ### what is said in a story -/
theorem said_app (rs : List Row) (r : Row) : saidOf (rs ++ [r]) = saidOf rs ++ (if r.word = ("say" : Str) then [r.num] else []) := by
  unfold saidOf
  simp only [List.filter_append, List.map_append]
  by_cases e : r.word = ("say" : Str) <;> simp [e]
theorem said_tell {M : Mst} {w : Str} {p n : Nat} (h : decide (w = ("say" : Str)) = false) : saidOf (M.tell w p n).rows = saidOf M.rows := by
  show saidOf (M.rows ++ [⟨M.beats, w, p, n⟩]) = _
  rw [said_app, if_neg (of_decide_eq_false h), List.append_nil]
theorem said_takeL {M : Mst} {l : Nat} : saidOf (M.take l).rows = saidOf M.rows := by
  unfold Mst.take
  split
  · rfl
  · exact said_tell (by decide)
theorem said_read {M : Mst} {k : Nat} : saidOf (M.read k).rows = saidOf M.rows := (said_tell (by decide)).trans said_takeL
theorem said_write {M : Mst} {k n : Nat} : saidOf (M.write k n).rows = saidOf M.rows := (said_tell (by decide)).trans said_takeL
theorem said_clean {M : Mst} {l : Nat} : saidOf (M.clean l).rows = saidOf M.rows := by
  unfold Mst.clean
  split
  · exact said_tell (by decide)
  · rfl
theorem said_drop {M : Mst} {l : Nat} : saidOf (M.drop l).rows = saidOf M.rows := by
  unfold Mst.drop
  split
  · exact said_tell (by decide)
  · rfl
theorem said_carry {M : Mst} : saidOf M.carry.rows = saidOf M.rows := by
  unfold Mst.carry
  split
  · rfl
  · dsimp only
    split
    · exact (said_tell (by decide)).trans (said_tell (by decide))
    · exact (said_tell (by decide)).trans ((said_tell (by decide)).trans (said_tell (by decide)))
/-- the orders and the program that a machine holds -/
def PB (H : Hp) (A : PA) (B : Brd) : Prop := Pd H A.ords (.tup (B.ords.map Ord.d)) ∧ Pd H A.prog.v (.tup (B.prog.map Deed.d))
theorem PB.keep {ow ow' : Addr → Prop} {H H' : Hp} {C m : Addr} {M : Mst} {sd : List Nat} {A A' : PA} {B : Brd} (h : PB H A B) (hM : PM ow H C m M sd A) (k : Keep ow ow' H H') (eo : A'.ords = A.ords) (ep : A'.prog = A.prog) : PB H' A' B := by
  have t : ∀ a xs, H a = some (.tup xs) → H' a = some (.tup xs) := fun a xs e => (k a _ (hM.notTup e) e).1
  refine ⟨?_, ?_⟩
  · rw [eo]; exact Pd.tups t (by rw [D.noL]; exact noLs_map noL_ord _) h.1
  · rw [ep]; exact Pd.tups t (by rw [D.noL]; exact noLs_map noL_deed _) h.2
theorem PB.same {H H' : Hp} {A : PA} {B : Brd} (h : PB H A B) (s : Same H H') : PB H' A B := ⟨h.1.same s, h.2.same s⟩
theorem Pd.tupOf {H : Hp} {v : V} {ds : List D} (h : Pd H v (.tup ds)) : ∃ a xs, v = .ref a ∧ H a = some (.tup xs) ∧ Pds H xs ds := by
  cases h with
  | tup h hs => exact ⟨_, _, rfl, h, hs⟩
section
variable {P : Program} {w : World} {K : PySem.W.Frag} {mg : Str → Option Value} {base : Heap} {C : Addr}
abbrev st_Machine_clean_all : Stmt := (inClass (topS 26) 6)
abbrev nm_Machine_clean_all : List Str := ["self", "line"]
theorem sc_Machine_clean_all : FnScope ["self", "line"] ["self"] (defScope st_Machine_clean_all) := ⟨rfl, rfl, rfl, by decide +kernel, rfl, by decide +kernel, by decide +kernel⟩
def spCleanAll (C : Addr) : Sp := fun vs H Q _ => ∃ (ow : Addr → Prop) (m : Addr) (M : Mst) (sd : List Nat) (A : PA) (cells : Nat), vs = [.ref m] ∧ PM ow H C m M sd A ∧ MOk0 cells M ∧ M.rows.length ≤ 700000 ∧
  ∀ (H' : Hp) (A' : PA), PM ow H' C m M.finish sd A' → Keep ow ow H H' → A'.ords = A.ords → A'.prog = A.prog → Q .non H'
theorem clean_out {cells : Nat} {M : Mst} {l : Nat} (ok : MOk0 cells M) (h : cells / 4 ≤ l) : M.clean l = M := by
  unfold Mst.clean
  rw [if_neg]
  unfold Mst.touched
  rw [List.getD_eq_getElem?_getD, List.getElem?_eq_none (by rw [ok.tou]; exact h)]
  decide
theorem cleans_fin {cells : Nat} {M : Mst} (ok : MOk0 cells M) : cleans M (cells / 4) = M.finish := by
  have h4 : M.finish = cleans M 4 := rfl
  rw [h4]
  rcases ok.lines with e | e | e | e
  · have e' : cells / 4 = 1 := by omega
    rw [e']
    have o1 := (cleans_ok ok 1).1
    have s1 : cleans M 2 = cleans M 1 := clean_out (l := 1) o1 (by omega)
    have s2 : cleans M 3 = cleans M 2 := by show (cleans M 2).clean 2 = _; rw [s1]; exact clean_out (l := 2) o1 (by omega)
    have s3 : cleans M 4 = cleans M 3 := by show (cleans M 3).clean 3 = _; rw [s2, s1]; exact clean_out (l := 3) o1 (by omega)
    rw [s3, s2, s1]
  · have e' : cells / 4 = 2 := by omega
    rw [e']
    have o1 := (cleans_ok ok 2).1
    have s2 : cleans M 3 = cleans M 2 := clean_out (l := 2) o1 (by omega)
    have s3 : cleans M 4 = cleans M 3 := by show (cleans M 3).clean 3 = _; rw [s2]; exact clean_out (l := 3) o1 (by omega)
    rw [s3, s2]
  · have e' : cells / 4 = 3 := by omega
    rw [e']
    exact (clean_out (l := 3) (cleans_ok ok 3).1 (by omega)).symm
  · have e' : cells / 4 = 4 := by omega
    rw [e']
theorem ok_cleanall {f : Addr} {fd : FuncData} (F : Fun K "clean_all" "Machine.clean_all" st_Machine_clean_all f fd) (c : MC K C) (m_clean_line : MCallee P w K mg base C "clean_line" 2 (spCleanLine C)) (z_len : mg "len" = none) (z_range : mg "range" = none) : FnOk P w K mg base CX0 3 f fd ["self"] (spCleanAll C) := by
  refine F.ok sc_Machine_clean_all (fun vs H Q E h => ?_) (fun cdv A outer s H vs Q E hr h => ?_)
  · obtain ⟨ow, m, M, sd, A, cells, rfl, _⟩ := h
    rfl
  · obtain ⟨ow, m, M, sd, A, cells, rfl, hM, ok, hrow, q⟩ := h
    have c16 : cells ≤ 16 := by have := ok.lines; omega
    have hlen : (heldV A M).length = cells / 4 := by rw [heldV_len, ok.held]
    refine ⟨_, (pss_one (ps_for PassesOwn.never rfl (pi_range1 (by rfl) z_range (pa_cons (pe_callB call_len_seq (by rfl) z_len (by decide +kernel) (pa_cons (pe_fld (pv 0) rfl) pa_nil)) pa_nil)) (pg_name (i := 1) sc_Machine_clean_all.nd rfl (Or.inl rfl))
  (pss_one (ps_expr (pe_mcal m_clean_line hr (by first | decide | exact Nat.le_refl _) (pv 0) (pa_cons (pv 1) pa_nil)))))), ?_⟩
    refine ⟨_, rfl, m, C, _, _, _, rfl, hM.obj, c.cl, c.n _ (by decide), rfl, A.held, _, rfl, .inl (sqL_l hM.held), ((heldV A M).length : Int), rfl, by omega, by omega, ?_⟩
    rw [hlen]
    refine for_it (walk_range (lo := 0) (n := ((cells / 4 : Nat) : Int).toNat)) (fun i σ H' => ∃ (y : Option V) (A' : PA), σ = [some (.ref m), y] ∧ PM ow H' C m (cleans M i) sd A' ∧ Keep ow ow H H' ∧ A'.ords = A.ords ∧ A'.prog = A.prog)
      ⟨_, A, rfl, hM, Keep.refl, rfl, rfl⟩ (fun _ _ _ _ _ => trivial) (fun i x σ H1 H2 hi hp hy => ?_) (fun σ H1 hp => ?_)
    · obtain ⟨y, A1, rfl, hM1, k1, eo1, ep1⟩ := hp
      obtain ⟨rfl, rfl⟩ := hy
      obtain ⟨o1, o2⟩ := cleans_ok ok i
      have i4 : i < cells / 4 := by rw [Int.toNat_natCast] at hi; exact hi
      refine ⟨_, rfl, m, _, _, rfl, hM1.obj, fsM_no (by decide), _, rfl, ow, m, cleans M i, sd, A1, cells, i, by simp [nV], hM1, o1, i4, by omega, fun H3 A3 hM3 k3 eo3 ep3 => ?_⟩
      exact ⟨_, A3, rfl, hM3, k1.trans k3, eo3.trans eo1, ep3.trans ep1⟩
    · obtain ⟨y, A1, rfl, hM1, k1, eo1, ep1⟩ := hp
      refine q H1 A1 ?_ k1 eo1 ep1
      rw [← cleans_fin ok]
      rw [Int.toNat_natCast] at hM1
      exact hM1
end
end Vt
namespace Vt
open PySem PySem.Spec PyProof.Rows L2
section
variable {P : Program} {w : World} {K : PySem.W.Frag} {mg : Str → Option Value} {base : Heap} {C : Addr}
abbrev st_Machine_do_deed : Stmt := (inClass (topS 26) 3)
abbrev nm_Machine_do_deed : List Str := ["self", "deed", "cell", "number", "other", "seen", "order", "line"]
theorem sc_Machine_do_deed : FnScope ["self", "deed", "cell", "number", "other", "seen", "order", "line"] ["self", "deed"] (defScope st_Machine_do_deed) := ⟨rfl, rfl, rfl, by decide +kernel, rfl, by decide +kernel, by decide +kernel⟩
def spDoDeed (C : Addr) : Sp := fun vs H Q _ => ∃ (ow : Addr → Prop) (m da : Addr) (M : Mst) (A : PA) (B : Brd) (d : Deed), vs = [.ref m, .ref da] ∧ PM ow H C m M (saidOf M.rows) A ∧ PB H A B ∧ BrdOk B ∧ MOk0 B.mem.length M ∧ H da = some (.tup d.vs) ∧ DeedOk d B.ords.length B.mem.length ∧ M.rows.length ≤ 600000 ∧ M.left.length ≤ 2000 ∧
  ∀ (H' : Hp) (ow' : Addr → Prop) (A' : PA), PM ow' H' C m (M.deed B.ords d) (saidOf (M.deed B.ords d).rows) A' → Keep ow ow' H H' → A'.ords = A.ords → A'.prog = A.prog → Q .non H'
theorem ok_dodeed {f : Addr} {fd : FuncData} (F : Fun K "do_deed" "Machine.do_deed" st_Machine_do_deed f fd) (c : MC K C) (CC : Consts K mg) (m_tell : MCallee P w K mg base C "tell" 1 (spTell C)) (m_read_cell : MCallee P w K mg base C "read_cell" 3 (spReadCell C)) (m_write_cell : MCallee P w K mg base C "write_cell" 3 (spWriteCell C))
    (m_clean_line : MCallee P w K mg base C "clean_line" 2 (spCleanLine C)) (m_drop_line : MCallee P w K mg base C "drop_line" 2 (spDropLine C)) (c_moves_told : Callee P w K mg base "moves_told" 1 2 spMoves) : FnOk P w K mg base CX0 4 f fd ["self", "deed"] (spDoDeed C) := by
  obtain ⟨tN, mc_NUMBERS⟩ := CC.numbers
  refine F.ok sc_Machine_do_deed (fun vs H Q E h => ?_) (fun cdv A outer s H vs Q E hr h => ?_)
  · obtain ⟨ow, m, da, M, A, B, d, rfl, _⟩ := h
    rfl
  · obtain ⟨ow, m, da, M, A, B, d, rfl, hM, hPB, ok, mok, hda, dok, hrow, hleft, q⟩ := h
    refine ⟨_, (pss_one (ps_match (pv 1)
  (pc_seq2 (i0 := 2) (i1 := 3) sc_Machine_do_deed.nd (pss_one (ps_expr (pe_mcal m_write_cell hr (by first | decide | exact Nat.le_refl _) (pv 0) (pa_cons (pv 2) (pa_cons (pv 3) pa_nil)))))
  (pc_seq2 (i0 := 2) (i1 := 4) sc_Machine_do_deed.nd (pss_cons (ps_set (i := 5) sc_Machine_do_deed.nd rfl (Or.inl rfl) (pe_mcal m_read_cell hr (by first | decide | exact Nat.le_refl _) (pv 0) (pa_cons (pv 2) pa_nil)))
  (pss_one (ps_expr (pe_mcal m_write_cell hr (by first | decide | exact Nat.le_refl _) (pv 0) (pa_cons (pv 2) (pa_cons (pe_op op_mod (pe_op op_add (pv 5) (pe_mcal m_read_cell hr (by first | decide | exact Nat.le_refl _) (pv 0) (pa_cons (pv 4) pa_nil))) (pe_glob (v := .int 10) rfl mc_NUMBERS ⟨_, rfl⟩)) pa_nil))))))
  (pc_seq1 (i0 := 2) sc_Machine_do_deed.nd (pss_cons (ps_set (i := 5) sc_Machine_do_deed.nd rfl (Or.inl rfl) (pe_mcal m_read_cell hr (by first | decide | exact Nat.le_refl _) (pv 0) (pa_cons (pv 2) pa_nil)))
  (pss_cons (ps_expr (pe_bm PySem.F.plainAttrs_list PySem.F.slot_list_append PySem.F.type_list_append mt_append (pe_fld (pv 0) rfl) (pa_cons (pv 5) pa_nil)))
  (pss_one (ps_expr (pe_mcal m_tell hr (by first | decide | exact Nat.le_refl _) (pv 0) (pa_cons pe_str (pa_cons (pv 2) (pa_cons (pv 5) pa_nil))))))))
  (pc_seq1 (i0 := 6) sc_Machine_do_deed.nd (pss_cons (ps_expr (pe_mcal m_tell hr (by first | decide | exact Nat.le_refl _) (pv 0) (pa_cons pe_str (pa_cons (pv 6) (pa_cons pe_int pa_nil)))))
  (pss_one (ps_expr (pe_bm PySem.F.plainAttrs_list PySem.F.slot_list_extend PySem.F.type_list_extend mt_extend (pe_fld (pv 0) rfl) (pa_cons (pe_cal c_moves_told hr (by first | decide | exact Nat.le_refl _) (pa_cons (pe_fld (pv 0) rfl) (pa_cons (pv 6) pa_nil))) pa_nil)))))
  (pc_seq1 (i0 := 7) sc_Machine_do_deed.nd (pss_one (ps_expr (pe_mcal m_clean_line hr (by first | decide | exact Nat.le_refl _) (pv 0) (pa_cons (pv 7) pa_nil))))
  (pc_seq1 (i0 := 7) sc_Machine_do_deed.nd (pss_one (ps_expr (pe_mcal m_drop_line hr (by first | decide | exact Nat.le_refl _) (pv 0) (pa_cons (pv 7) pa_nil))))
  pc_nil)))))))), ?_⟩
    have hsq := hd_w (K := K) hda
    cases d with
    | set k n =>
      refine ⟨_, rfl, da, "set", [nV k, nV n], rfl, hsq, .inl ⟨rfl, rfl, ?_⟩⟩
      refine ⟨_, rfl, m, _, _, rfl, hM.obj, fsM_no (by decide), _, rfl, _, rfl, ow, m, M, _, A, B.mem.length, k, n, rfl, hM, mok, dok.1, by omega, fun H1 ow1 A1 hM1 k1 eo1 ep1 => ?_⟩
      exact q H1 ow1 A1 (by rw [show saidOf (M.deed B.ords (.set k n)).rows = saidOf M.rows from said_write]; exact hM1) k1 eo1 ep1
    | add k o =>
      refine ⟨_, rfl, da, "add", [nV k, nV o], rfl, hsq, .inr ⟨nwd rfl, da, "add", [nV k, nV o], rfl, hsq, .inl ⟨rfl, rfl, ?_⟩⟩⟩
      refine ⟨_, rfl, m, _, _, rfl, hM.obj, fsM_no (by decide), _, rfl, ow, m, M, _, A, B.mem.length, k, rfl, hM, mok, dok.1, by omega, fun H1 ow1 A1 hM1 k1 eo1 ep1 => ?_⟩
      have rr := (read_rows (M := M) (c := k)).1
      have ok1 := mok.read dok.1
      refine ⟨_, rfl, m, _, _, rfl, hM1.obj, fsM_no (by decide), _, rfl, _, rfl, _, rfl, m, _, _, rfl, hM1.obj, fsM_no (by decide), _, rfl, ow1, m, _, _, A1, B.mem.length, o, rfl, hM1, ok1, dok.2, by omega, fun H2 ow2 A2 hM2 k2 eo2 ep2 => ?_⟩
      have rr2 := (read_rows (M := M.read k) (c := o)).1
      have ok2 := ok1.read dok.2
      refine ⟨_, _, rfl, rfl, _, _, rfl, rfl, (by show (0 : Int) < 10; decide), ow2, m, _, _, A2, B.mem.length, k, (M.readN k + (M.read k).readN o) % 10, ?_, hM2, ok2, dok.1, by omega, fun H3 ow3 A3 hM3 k3 eo3 ep3 => ?_⟩
      · show [V.ref m, nV k, V.int _] = [V.ref m, nV k, V.int _]
        congr 3
      · exact q H3 ow3 A3 (by rw [show saidOf (M.deed B.ords (.add k o)).rows = saidOf M.rows from said_write.trans (said_read.trans said_read)]; exact hM3) ((k1.trans k2).trans k3) (eo3.trans (eo2.trans eo1)) (ep3.trans (ep2.trans ep1))
    | say k =>
      refine ⟨_, rfl, da, "say", [nV k], rfl, hsq, .inr ⟨nwd rfl, da, "say", [nV k], rfl, hsq, .inr ⟨nwd rfl, da, "say", [nV k], rfl, hsq, .inl ⟨rfl, rfl, ?_⟩⟩⟩⟩
      refine ⟨_, rfl, m, _, _, rfl, hM.obj, fsM_no (by decide), _, rfl, ow, m, M, _, A, B.mem.length, k, rfl, hM, mok, dok, by omega, fun H1 ow1 A1 hM1 k1 eo1 ep1 => ?_⟩
      have rr := (read_rows (M := M) (c := k)).1
      have sl : (saidOf M.rows).length ≤ M.rows.length := by
        unfold saidOf
        rw [List.length_map]
        exact List.length_filter_le _ _
      refine ⟨_, rfl, m, C, _, _, _, rfl, hM1.obj, c.cl, c.n _ (by decide), rfl, .inl ⟨rfl, _, sqL_l hM1.said⟩, _, rfl, A1.said, _, _, rfl, rfl, hM1.said, by rw [List.length_map]; exact big (by omega), ?_⟩
      rw [show (saidOf M.rows).map nV ++ [nV (M.readN k)] = (saidOf M.rows ++ [M.readN k]).map nV from by rw [List.map_append]; rfl]
      have hM2 := hM1.setSaid (sd' := saidOf M.rows ++ [M.readN k])
      have k2 := k1.trans (Keep.ofOw (o := .lst ((saidOf M.rows ++ [M.readN k]).map nV)) (hM1.oa A1.said (List.mem_of_getElem? (i := 7) rfl)))
      generalize upd H1 A1.said (.lst ((saidOf M.rows ++ [M.readN k]).map nV)) = H2 at hM2 k2
      refine ⟨_, rfl, m, _, _, rfl, hM2.obj, fsM_no (by decide), _, rfl, _, rfl, ow1, m, _, _, A1, "say", k, M.readN k, rfl, hM2, by omega, fun H3 A3 hM3 k3 eo3 ep3 => ?_⟩
      refine q H3 ow1 A3 ?_ (k2.trans k3) (eo3.trans eo1) (ep3.trans ep1)
      have e : saidOf (M.deed B.ords (.say k)).rows = saidOf M.rows ++ [M.readN k] := by
        show saidOf ((M.read k).rows ++ [⟨(M.read k).beats, "say", k, M.readN k⟩]) = _
        rw [said_app, if_pos rfl, said_read]
      rw [e]
      exact hM3
    | start k =>
      refine ⟨_, rfl, da, "start", [nV k], rfl, hsq, .inr ⟨nwd rfl, da, "start", [nV k], rfl, hsq, .inr ⟨nwd rfl, da, "start", [nV k], rfl, hsq, .inr ⟨nwd rfl, da, "start", [nV k], rfl, hsq, .inl ⟨rfl, rfl, ?_⟩⟩⟩⟩⟩
      refine ⟨_, rfl, m, _, _, rfl, hM.obj, fsM_no (by decide), _, rfl, ow, m, M, _, A, "start", k, 0, rfl, hM, by omega, fun H1 A1 hM1 k1 eo1 ep1 => ?_⟩
      have hPB1 := hPB.keep hM k1 eo1 ep1
      obtain ⟨o, os, eo, ho, hos⟩ := Pd.tupOf hPB1.1
      refine ⟨_, rfl, m, C, _, _, _, rfl, hM1.obj, c.cl, c.n _ (by decide), rfl, .inl ⟨rfl, _, sqL_l hM1.left⟩, _, rfl, m, C, _, _, _, rfl, hM1.obj, c.cl, c.n _ (by decide), rfl, _, rfl, o, os, B.ords, B.mem.length, k, by rw [eo]; rfl, ho, hos, ok.four, ok.ords, dok, fun H2 l ms s2 nl hl hms => ?_⟩
      have hM2 := hM1.same s2
      have ll : A1.ls.length = M.left.length := by have := hM1.leftD.len; rw [List.length_map] at this; exact this
      have ml : ms.length ≤ 32 := by rw [hms.len, List.length_map]; exact told_len ok.eight k
      refine ⟨A1.left, l, _, _, rfl, rfl, hM2.left, hl, big' (by omega), ?_⟩
      refine q _ ow { A1 with ls := A1.ls ++ ms } ?_ ((k1.trans (Same.keep s2)).trans (Keep.ofOw (o := .lst (A1.ls ++ ms)) (hM2.oa A1.left (List.mem_of_getElem? (i := 5) rfl)))) eo1 ep1
      rw [show saidOf (M.deed B.ords (.start k)).rows = saidOf M.rows from said_tell (M := { M with left := M.left ++ told B.ords k }) (by decide)]
      exact hM2.setLeft (lf := M.left ++ told B.ords k) (ls := A1.ls ++ ms) (by rw [List.map_append]; exact hM2.leftD.app hms)
    | wait =>
      refine ⟨_, rfl, da, "wait", [], rfl, hsq, .inr ⟨nwd rfl, da, "wait", [], rfl, hsq, .inr ⟨nwd rfl, da, "wait", [], rfl, hsq, .inr ⟨nwd rfl, da, "wait", [], rfl, hsq, .inr ⟨nwd rfl, da, "wait", [], rfl, hsq, .inr ⟨nwd rfl, da, "wait", [], rfl, hsq, .inr ⟨nwd rfl, ?_⟩⟩⟩⟩⟩⟩⟩
      exact q H ow A hM Keep.refl rfl rfl
    | clean l =>
      refine ⟨_, rfl, da, "clean", [nV l], rfl, hsq, .inr ⟨nwd rfl, da, "clean", [nV l], rfl, hsq, .inr ⟨nwd rfl, da, "clean", [nV l], rfl, hsq, .inr ⟨nwd rfl, da, "clean", [nV l], rfl, hsq, .inr ⟨nwd rfl, da, "clean", [nV l], rfl, hsq, .inl ⟨rfl, rfl, ?_⟩⟩⟩⟩⟩⟩
      refine ⟨_, rfl, m, _, _, rfl, hM.obj, fsM_no (by decide), _, rfl, ow, m, M, _, A, B.mem.length, l, rfl, hM, mok, dok, by omega, fun H1 A1 hM1 k1 eo1 ep1 => ?_⟩
      exact q H1 ow A1 (by rw [show saidOf (M.deed B.ords (.clean l)).rows = saidOf M.rows from said_clean]; exact hM1) k1 eo1 ep1
    | drop l =>
      refine ⟨_, rfl, da, "drop", [nV l], rfl, hsq, .inr ⟨nwd rfl, da, "drop", [nV l], rfl, hsq, .inr ⟨nwd rfl, da, "drop", [nV l], rfl, hsq, .inr ⟨nwd rfl, da, "drop", [nV l], rfl, hsq, .inr ⟨nwd rfl, da, "drop", [nV l], rfl, hsq, .inr ⟨nwd rfl, da, "drop", [nV l], rfl, hsq, .inl ⟨rfl, rfl, ?_⟩⟩⟩⟩⟩⟩⟩
      refine ⟨_, rfl, m, _, _, rfl, hM.obj, fsM_no (by decide), _, rfl, ow, m, M, _, A, B.mem.length, l, rfl, hM, mok, dok, by omega, fun H1 A1 hM1 k1 eo1 ep1 => ?_⟩
      exact q H1 ow A1 (by rw [show saidOf (M.deed B.ords (.drop l)).rows = saidOf M.rows from said_drop]; exact hM1) k1 eo1 ep1
end
end Vt
namespace Vt
open PySem PySem.Spec PyProof.Rows L2
section
variable {P : Program} {w : World} {K : PySem.W.Frag} {mg : Str → Option Value} {base : Heap} {C : Addr}
def spInit (C : Addr) : Sp := fun vs H Q _ => ∃ (m dx : Addr) (v : V) (B : Brd), vs = [.ref m, v] ∧ H m = some (.ins C dx []) ∧ H dx = some (.own m) ∧ Pd H v B.d ∧ BrdOk B ∧
  ∀ (H' : Hp) (ow : Addr → Prop) (A : PA), (∀ pace, PM ow H' C m (Mst.begin B pace) [] A) → A.prog.ex = [] → PB H' A B → (∀ c o, c ≠ m → c ≠ dx → H c = some o → H' c = some o ∧ ¬ ow c) → Q .non H'
theorem said_finish {M : Mst} : saidOf M.finish.rows = saidOf M.rows := by
  unfold Mst.finish
  rw [said_clean, said_clean, said_clean, said_clean]
end
end Vt
namespace Vt
open PySem PySem.Spec PyProof.Rows L2
/-- addresses that differ, and stand -/
def Frs (H : Hp) (l : List Addr) : Prop := l.Nodup ∧ ∀ y ∈ l, ∃ o, H y = some o
theorem Frs.new {H : Hp} {l : List Addr} {p : Addr} {o : HO} (h : Frs H l) (n : H p = none) : Frs (upd H p o) (l ++ [p]) := by
  refine ⟨List.nodup_append.mpr ⟨h.1, by simp, fun a ha b hb e => ?_⟩, fun y hy => ?_⟩
  · rw [List.mem_singleton.mp hb] at e
    obtain ⟨u, hu⟩ := h.2 a ha
    rw [e, n] at hu; cases hu
  · by_cases e : y = p
    · exact ⟨o, by rw [e]; exact upd_same⟩
    · rw [upd_ne e]
      rcases List.mem_append.mp hy with q | q
      · exact h.2 y q
      · exact absurd (List.mem_singleton.mp q) e
theorem Frs.set {H : Hp} {l : List Addr} {p : Addr} {o : HO} (h : Frs H l) : Frs (upd H p o) l :=
  ⟨h.1, fun y hy => by
    by_cases e : y = p
    · exact ⟨o, by rw [e]; exact upd_same⟩
    · rw [upd_ne e]; exact h.2 y hy⟩
section
variable {P : Program} {w : World} {K : PySem.W.Frag} {mg : Str → Option Value} {base : Heap} {C : Addr}
abbrev st_Machine___init__ : Stmt := (inClass (topS 26) 0)
abbrev nm_Machine___init__ : List Str := ["self", "board", "memory", "orders", "program"]
theorem sc_Machine___init__ : FnScope ["self", "board", "memory", "orders", "program"] ["self", "board"] (defScope st_Machine___init__) := ⟨rfl, rfl, rfl, by decide +kernel, rfl, by decide +kernel, by decide +kernel⟩
theorem ok_init {f : Addr} {fd : FuncData} (F : Fun K "__init__" "Machine.__init__" st_Machine___init__ f fd) (c : MC K C) (CC : Consts K mg) (z_list : mg "list" = none) (z_len : mg "len" = none) : FnOk P w K mg base CX0 1 f fd ["self", "board"] (spInit C) := by
  obtain ⟨tL, mc_LINE⟩ := CC.line
  refine F.ok sc_Machine___init__ (fun vs H Q E h => ?_) (fun cdv A outer s H vs Q E hr h => ?_)
  · obtain ⟨m, dx, v, B, rfl, _⟩ := h
    rfl
  · obtain ⟨m, dx, v, B, rfl, hm0, hdx, hB, ok, q⟩ := h
    obtain ⟨a, mm, o, p, os, ps, rfl, ha, hm, ho, hos, hp, hps⟩ := Brd.of hB
    have mdx : m ≠ dx := ne_of hm0 hdx (by intro z; cases z)
    have fr0 : Frs H [m, dx] := ⟨by simp [mdx], fun y hy => by
      rcases List.mem_cons.mp hy with rfl | hy
      · exact ⟨_, hm0⟩
      · rw [List.mem_singleton.mp hy]; exact ⟨_, hdx⟩⟩
    have c16 : B.mem.length ≤ 16 := by have := ok.cells; omega
    refine ⟨_, (pss_cons (ps_asg (pv 1) (pg_tup rfl (pgs_cons (pg_name (i := 2) sc_Machine___init__.nd rfl (Or.inl rfl)) (pgs_cons (pg_name (i := 3) sc_Machine___init__.nd rfl (Or.inl rfl)) (pgs_cons (pg_name (i := 4) sc_Machine___init__.nd rfl (Or.inl rfl)) pgs_nil)))))
  (pss_cons (ps_fld (pv 0) (pe_callTy call_list_of (by rfl) z_list (by decide +kernel) (pa_cons (pv 2) pa_nil)) rfl)
  (pss_cons (ps_fld (pv 0) (pv 3) rfl)
  (pss_cons (ps_fld (pv 0) (pv 4) rfl)
  (pss_cons (ps_fld (pv 0) pe_int rfl)
  (pss_cons (ps_fld (pv 0) (pe_op op_rep (pe_lst (pa_cons pe_non pa_nil)) (pe_op op_fdiv (pe_callB call_len_seq (by rfl) z_len (by decide +kernel) (pa_cons (pv 2) pa_nil)) (pe_glob (v := .int 4) rfl mc_LINE ⟨_, rfl⟩))) rfl)
  (pss_cons (ps_fld (pv 0) (pe_op op_rep (pe_lst (pa_cons pe_bl pa_nil)) (pe_op op_fdiv (pe_callB call_len_seq (by rfl) z_len (by decide +kernel) (pa_cons (pv 2) pa_nil)) (pe_glob (v := .int 4) rfl mc_LINE ⟨_, rfl⟩))) rfl)
  (pss_cons (ps_fld (pv 0) (pe_lst pa_nil) rfl)
  (pss_cons (ps_fld (pv 0) pe_int rfl)
  (pss_cons (ps_fld (pv 0) (pe_lst pa_nil) rfl)
  (pss_one (ps_fld (pv 0) (pe_lst pa_nil) rfl)))))))))))), ?_⟩
    refine ⟨_, rfl, a, _, rfl, sqT_t ha, rfl, _, _, rfl, _, _, rfl, _, _, rfl, rfl, ?_⟩
    refine ⟨_, rfl, mm, _, rfl, .inr (sqT_t hm), fun l nl => ?_⟩
    have s_1 := same_new (o := .lst (B.mem.map nV)) nl
    have c_1 : (upd H l (.lst (B.mem.map nV))) l = some (.lst (B.mem.map nV)) := upd_same
    have fr_1 : Frs (upd H l (.lst (B.mem.map nV))) _ := Frs.new fr0 nl
    have b_1 : But [m] H (upd H l (.lst (B.mem.map nV))) := But.trans But.refl (Same.but s_1)
    generalize upd H l (.lst (B.mem.map nV)) = H1 at s_1 c_1 fr_1 b_1
    have hm_1 := s_1 _ _ hm0
    have hmm_1 := s_1 _ _ hm
    refine ⟨_, rfl, m, C, dx, [], rfl, hm_1, c.cl, c.n _ (by decide), by show 0 < 1000; decide, ?_⟩
    have hm_2 : (upd H1 m (.ins C dx (putF "memory" (.ref l) []))) m = some (.ins C dx [("memory", (.ref l))]) := upd_same
    have w_2 : ∀ y u, y ≠ m → H1 y = some u → (upd H1 m (.ins C dx (putF "memory" (.ref l) []))) y = some u := fun y u ne e => by rw [upd_ne ne]; exact e
    have fr_2 : Frs (upd H1 m (.ins C dx (putF "memory" (.ref l) []))) _ := Frs.set fr_1
    have b_2 : But [m] H (upd H1 m (.ins C dx (putF "memory" (.ref l) []))) := But.trans b_1 (But.set (by simp))
    generalize upd H1 m (.ins C dx (putF "memory" (.ref l) [])) = H2 at hm_2 w_2 fr_2 b_2
    have hmm_2 := w_2 _ _ (ne_of hmm_1 hm_1 (by intro z; cases z)) hmm_1
    have hl_2 := w_2 _ _ (ne_of c_1 hm_1 (by intro z; cases z)) c_1
    refine ⟨_, rfl, _, rfl, m, C, dx, [("memory", (.ref l))], rfl, hm_2, c.cl, c.n _ (by decide), by show 1 < 1000; decide, ?_⟩
    have hm_3 : (upd H2 m (.ins C dx (putF "orders" (.ref o) [("memory", (.ref l))]))) m = some (.ins C dx [("memory", (.ref l)), ("orders", (.ref o))]) := upd_same
    have w_3 : ∀ y u, y ≠ m → H2 y = some u → (upd H2 m (.ins C dx (putF "orders" (.ref o) [("memory", (.ref l))]))) y = some u := fun y u ne e => by rw [upd_ne ne]; exact e
    have fr_3 : Frs (upd H2 m (.ins C dx (putF "orders" (.ref o) [("memory", (.ref l))]))) _ := Frs.set fr_2
    have b_3 : But [m] H (upd H2 m (.ins C dx (putF "orders" (.ref o) [("memory", (.ref l))]))) := But.trans b_2 (But.set (by simp))
    generalize upd H2 m (.ins C dx (putF "orders" (.ref o) [("memory", (.ref l))])) = H3 at hm_3 w_3 fr_3 b_3
    have hmm_3 := w_3 _ _ (ne_of hmm_2 hm_2 (by intro z; cases z)) hmm_2
    have hl_3 := w_3 _ _ (ne_of hl_2 hm_2 (by intro z; cases z)) hl_2
    refine ⟨_, rfl, _, rfl, m, C, dx, [("memory", (.ref l)), ("orders", (.ref o))], rfl, hm_3, c.cl, c.n _ (by decide), by show 2 < 1000; decide, ?_⟩
    have hm_4 : (upd H3 m (.ins C dx (putF "program" (.ref p) [("memory", (.ref l)), ("orders", (.ref o))]))) m = some (.ins C dx [("memory", (.ref l)), ("orders", (.ref o)), ("program", (.ref p))]) := upd_same
    have w_4 : ∀ y u, y ≠ m → H3 y = some u → (upd H3 m (.ins C dx (putF "program" (.ref p) [("memory", (.ref l)), ("orders", (.ref o))]))) y = some u := fun y u ne e => by rw [upd_ne ne]; exact e
    have fr_4 : Frs (upd H3 m (.ins C dx (putF "program" (.ref p) [("memory", (.ref l)), ("orders", (.ref o))]))) _ := Frs.set fr_3
    have b_4 : But [m] H (upd H3 m (.ins C dx (putF "program" (.ref p) [("memory", (.ref l)), ("orders", (.ref o))]))) := But.trans b_3 (But.set (by simp))
    generalize upd H3 m (.ins C dx (putF "program" (.ref p) [("memory", (.ref l)), ("orders", (.ref o))])) = H4 at hm_4 w_4 fr_4 b_4
    have hmm_4 := w_4 _ _ (ne_of hmm_3 hm_3 (by intro z; cases z)) hmm_3
    have hl_4 := w_4 _ _ (ne_of hl_3 hm_3 (by intro z; cases z)) hl_3
    refine ⟨_, rfl, m, C, dx, [("memory", (.ref l)), ("orders", (.ref o)), ("program", (.ref p))], rfl, hm_4, c.cl, c.n _ (by decide), by show 3 < 1000; decide, ?_⟩
    have hm_5 : (upd H4 m (.ins C dx (putF "deeds_done" (.int 0) [("memory", (.ref l)), ("orders", (.ref o)), ("program", (.ref p))]))) m = some (.ins C dx [("memory", (.ref l)), ("orders", (.ref o)), ("program", (.ref p)), ("deeds_done", (.int 0))]) := upd_same
    have w_5 : ∀ y u, y ≠ m → H4 y = some u → (upd H4 m (.ins C dx (putF "deeds_done" (.int 0) [("memory", (.ref l)), ("orders", (.ref o)), ("program", (.ref p))]))) y = some u := fun y u ne e => by rw [upd_ne ne]; exact e
    have fr_5 : Frs (upd H4 m (.ins C dx (putF "deeds_done" (.int 0) [("memory", (.ref l)), ("orders", (.ref o)), ("program", (.ref p))]))) _ := Frs.set fr_4
    have b_5 : But [m] H (upd H4 m (.ins C dx (putF "deeds_done" (.int 0) [("memory", (.ref l)), ("orders", (.ref o)), ("program", (.ref p))]))) := But.trans b_4 (But.set (by simp))
    generalize upd H4 m (.ins C dx (putF "deeds_done" (.int 0) [("memory", (.ref l)), ("orders", (.ref o)), ("program", (.ref p))])) = H5 at hm_5 w_5 fr_5 b_5
    have hmm_5 := w_5 _ _ (ne_of hmm_4 hm_4 (by intro z; cases z)) hmm_4
    have hl_5 := w_5 _ _ (ne_of hl_4 hm_4 (by intro z; cases z)) hl_4
    refine ⟨by show 1 ≤ sizeLine; decide, fun T1 nT1 => ?_⟩
    have s_6 := same_new (o := .lst [.non]) nT1
    have c_6 : (upd H5 T1 (.lst [.non])) T1 = some (.lst [.non]) := upd_same
    have fr_6 : Frs (upd H5 T1 (.lst [.non])) _ := Frs.set fr_5
    have b_6 : But [m] H (upd H5 T1 (.lst [.non])) := But.trans b_5 (Same.but s_6)
    generalize upd H5 T1 (.lst [.non]) = H6 at s_6 c_6 fr_6 b_6
    have hm_6 := s_6 _ _ hm_5
    have hmm_6 := s_6 _ _ hmm_5
    have hl_6 := s_6 _ _ hl_5
    refine ⟨_, rfl, mm, _, rfl, .inr (sqT_t hmm_6), _, _, rfl, rfl, ⟨by decide, by decide⟩, T1, _, [.non], rfl, rfl, c_6, by rw [List.length_map]; omega, by rw [List.length_map]; omega, by rw [List.length_map]; exact big' (by simp only [List.length_cons, List.length_nil]; omega), fun p1 np1 => ?_⟩
    have s_7 := same_new (o := .lst (List.replicate (((B.mem.map nV).length : Int) / 4).toNat [.non]).flatten) np1
    have c_7 : (upd H6 p1 (.lst (List.replicate (((B.mem.map nV).length : Int) / 4).toNat [.non]).flatten)) p1 = some (.lst (List.replicate (((B.mem.map nV).length : Int) / 4).toNat [.non]).flatten) := upd_same
    have fr_7 : Frs (upd H6 p1 (.lst (List.replicate (((B.mem.map nV).length : Int) / 4).toNat [.non]).flatten)) _ := Frs.new fr_6 np1
    have b_7 : But [m] H (upd H6 p1 (.lst (List.replicate (((B.mem.map nV).length : Int) / 4).toNat [.non]).flatten)) := But.trans b_6 (Same.but s_7)
    generalize upd H6 p1 (.lst (List.replicate (((B.mem.map nV).length : Int) / 4).toNat [.non]).flatten) = H7 at s_7 c_7 fr_7 b_7
    have hm_7 := s_7 _ _ hm_6
    have hmm_7 := s_7 _ _ hmm_6
    have hl_7 := s_7 _ _ hl_6
    refine ⟨_, rfl, m, C, dx, [("memory", (.ref l)), ("orders", (.ref o)), ("program", (.ref p)), ("deeds_done", (.int 0))], rfl, hm_7, c.cl, c.n _ (by decide), by show 4 < 1000; decide, ?_⟩
    have hm_8 : (upd H7 m (.ins C dx (putF "held" (.ref p1) [("memory", (.ref l)), ("orders", (.ref o)), ("program", (.ref p)), ("deeds_done", (.int 0))]))) m = some (.ins C dx [("memory", (.ref l)), ("orders", (.ref o)), ("program", (.ref p)), ("deeds_done", (.int 0)), ("held", (.ref p1))]) := upd_same
    have w_8 : ∀ y u, y ≠ m → H7 y = some u → (upd H7 m (.ins C dx (putF "held" (.ref p1) [("memory", (.ref l)), ("orders", (.ref o)), ("program", (.ref p)), ("deeds_done", (.int 0))]))) y = some u := fun y u ne e => by rw [upd_ne ne]; exact e
    have fr_8 : Frs (upd H7 m (.ins C dx (putF "held" (.ref p1) [("memory", (.ref l)), ("orders", (.ref o)), ("program", (.ref p)), ("deeds_done", (.int 0))]))) _ := Frs.set fr_7
    have b_8 : But [m] H (upd H7 m (.ins C dx (putF "held" (.ref p1) [("memory", (.ref l)), ("orders", (.ref o)), ("program", (.ref p)), ("deeds_done", (.int 0))]))) := But.trans b_7 (But.set (by simp))
    generalize upd H7 m (.ins C dx (putF "held" (.ref p1) [("memory", (.ref l)), ("orders", (.ref o)), ("program", (.ref p)), ("deeds_done", (.int 0))])) = H8 at hm_8 w_8 fr_8 b_8
    have hmm_8 := w_8 _ _ (ne_of hmm_7 hm_7 (by intro z; cases z)) hmm_7
    have hl_8 := w_8 _ _ (ne_of hl_7 hm_7 (by intro z; cases z)) hl_7
    have hp1_8 := w_8 _ _ (ne_of c_7 hm_7 (by intro z; cases z)) c_7
    refine ⟨by show 1 ≤ sizeLine; decide, fun T2 nT2 => ?_⟩
    have s_9 := same_new (o := .lst [.bl false]) nT2
    have c_9 : (upd H8 T2 (.lst [.bl false])) T2 = some (.lst [.bl false]) := upd_same
    have fr_9 : Frs (upd H8 T2 (.lst [.bl false])) _ := Frs.set fr_8
    have b_9 : But [m] H (upd H8 T2 (.lst [.bl false])) := But.trans b_8 (Same.but s_9)
    generalize upd H8 T2 (.lst [.bl false]) = H9 at s_9 c_9 fr_9 b_9
    have hm_9 := s_9 _ _ hm_8
    have hmm_9 := s_9 _ _ hmm_8
    have hl_9 := s_9 _ _ hl_8
    have hp1_9 := s_9 _ _ hp1_8
    refine ⟨_, rfl, mm, _, rfl, .inr (sqT_t hmm_9), _, _, rfl, rfl, ⟨by decide, by decide⟩, T2, _, [.bl false], rfl, rfl, c_9, by rw [List.length_map]; omega, by rw [List.length_map]; omega, by rw [List.length_map]; exact big' (by simp only [List.length_cons, List.length_nil]; omega), fun p2 np2 => ?_⟩
    have s_10 := same_new (o := .lst (List.replicate (((B.mem.map nV).length : Int) / 4).toNat [.bl false]).flatten) np2
    have c_10 : (upd H9 p2 (.lst (List.replicate (((B.mem.map nV).length : Int) / 4).toNat [.bl false]).flatten)) p2 = some (.lst (List.replicate (((B.mem.map nV).length : Int) / 4).toNat [.bl false]).flatten) := upd_same
    have fr_10 : Frs (upd H9 p2 (.lst (List.replicate (((B.mem.map nV).length : Int) / 4).toNat [.bl false]).flatten)) _ := Frs.new fr_9 np2
    have b_10 : But [m] H (upd H9 p2 (.lst (List.replicate (((B.mem.map nV).length : Int) / 4).toNat [.bl false]).flatten)) := But.trans b_9 (Same.but s_10)
    generalize upd H9 p2 (.lst (List.replicate (((B.mem.map nV).length : Int) / 4).toNat [.bl false]).flatten) = H10 at s_10 c_10 fr_10 b_10
    have hm_10 := s_10 _ _ hm_9
    have hmm_10 := s_10 _ _ hmm_9
    have hl_10 := s_10 _ _ hl_9
    have hp1_10 := s_10 _ _ hp1_9
    refine ⟨_, rfl, m, C, dx, [("memory", (.ref l)), ("orders", (.ref o)), ("program", (.ref p)), ("deeds_done", (.int 0)), ("held", (.ref p1))], rfl, hm_10, c.cl, c.n _ (by decide), by show 5 < 1000; decide, ?_⟩
    have hm_11 : (upd H10 m (.ins C dx (putF "touched" (.ref p2) [("memory", (.ref l)), ("orders", (.ref o)), ("program", (.ref p)), ("deeds_done", (.int 0)), ("held", (.ref p1))]))) m = some (.ins C dx [("memory", (.ref l)), ("orders", (.ref o)), ("program", (.ref p)), ("deeds_done", (.int 0)), ("held", (.ref p1)), ("touched", (.ref p2))]) := upd_same
    have w_11 : ∀ y u, y ≠ m → H10 y = some u → (upd H10 m (.ins C dx (putF "touched" (.ref p2) [("memory", (.ref l)), ("orders", (.ref o)), ("program", (.ref p)), ("deeds_done", (.int 0)), ("held", (.ref p1))]))) y = some u := fun y u ne e => by rw [upd_ne ne]; exact e
    have fr_11 : Frs (upd H10 m (.ins C dx (putF "touched" (.ref p2) [("memory", (.ref l)), ("orders", (.ref o)), ("program", (.ref p)), ("deeds_done", (.int 0)), ("held", (.ref p1))]))) _ := Frs.set fr_10
    have b_11 : But [m] H (upd H10 m (.ins C dx (putF "touched" (.ref p2) [("memory", (.ref l)), ("orders", (.ref o)), ("program", (.ref p)), ("deeds_done", (.int 0)), ("held", (.ref p1))]))) := But.trans b_10 (But.set (by simp))
    generalize upd H10 m (.ins C dx (putF "touched" (.ref p2) [("memory", (.ref l)), ("orders", (.ref o)), ("program", (.ref p)), ("deeds_done", (.int 0)), ("held", (.ref p1))])) = H11 at hm_11 w_11 fr_11 b_11
    have hmm_11 := w_11 _ _ (ne_of hmm_10 hm_10 (by intro z; cases z)) hmm_10
    have hl_11 := w_11 _ _ (ne_of hl_10 hm_10 (by intro z; cases z)) hl_10
    have hp1_11 := w_11 _ _ (ne_of hp1_10 hm_10 (by intro z; cases z)) hp1_10
    have hp2_11 := w_11 _ _ (ne_of c_10 hm_10 (by intro z; cases z)) c_10
    refine ⟨Nat.zero_le _, fun L3 nL3 => ?_⟩
    have s_12 := same_new (o := .lst []) nL3
    have c_12 : (upd H11 L3 (.lst [])) L3 = some (.lst []) := upd_same
    have fr_12 : Frs (upd H11 L3 (.lst [])) _ := Frs.new fr_11 nL3
    have b_12 : But [m] H (upd H11 L3 (.lst [])) := But.trans b_11 (Same.but s_12)
    generalize upd H11 L3 (.lst []) = H12 at s_12 c_12 fr_12 b_12
    have hm_12 := s_12 _ _ hm_11
    have hmm_12 := s_12 _ _ hmm_11
    have hl_12 := s_12 _ _ hl_11
    have hp1_12 := s_12 _ _ hp1_11
    have hp2_12 := s_12 _ _ hp2_11
    refine ⟨_, rfl, m, C, dx, [("memory", (.ref l)), ("orders", (.ref o)), ("program", (.ref p)), ("deeds_done", (.int 0)), ("held", (.ref p1)), ("touched", (.ref p2))], rfl, hm_12, c.cl, c.n _ (by decide), by show 6 < 1000; decide, ?_⟩
    have hm_13 : (upd H12 m (.ins C dx (putF "left" (.ref L3) [("memory", (.ref l)), ("orders", (.ref o)), ("program", (.ref p)), ("deeds_done", (.int 0)), ("held", (.ref p1)), ("touched", (.ref p2))]))) m = some (.ins C dx [("memory", (.ref l)), ("orders", (.ref o)), ("program", (.ref p)), ("deeds_done", (.int 0)), ("held", (.ref p1)), ("touched", (.ref p2)), ("left", (.ref L3))]) := upd_same
    have w_13 : ∀ y u, y ≠ m → H12 y = some u → (upd H12 m (.ins C dx (putF "left" (.ref L3) [("memory", (.ref l)), ("orders", (.ref o)), ("program", (.ref p)), ("deeds_done", (.int 0)), ("held", (.ref p1)), ("touched", (.ref p2))]))) y = some u := fun y u ne e => by rw [upd_ne ne]; exact e
    have fr_13 : Frs (upd H12 m (.ins C dx (putF "left" (.ref L3) [("memory", (.ref l)), ("orders", (.ref o)), ("program", (.ref p)), ("deeds_done", (.int 0)), ("held", (.ref p1)), ("touched", (.ref p2))]))) _ := Frs.set fr_12
    have b_13 : But [m] H (upd H12 m (.ins C dx (putF "left" (.ref L3) [("memory", (.ref l)), ("orders", (.ref o)), ("program", (.ref p)), ("deeds_done", (.int 0)), ("held", (.ref p1)), ("touched", (.ref p2))]))) := But.trans b_12 (But.set (by simp))
    generalize upd H12 m (.ins C dx (putF "left" (.ref L3) [("memory", (.ref l)), ("orders", (.ref o)), ("program", (.ref p)), ("deeds_done", (.int 0)), ("held", (.ref p1)), ("touched", (.ref p2))])) = H13 at hm_13 w_13 fr_13 b_13
    have hmm_13 := w_13 _ _ (ne_of hmm_12 hm_12 (by intro z; cases z)) hmm_12
    have hl_13 := w_13 _ _ (ne_of hl_12 hm_12 (by intro z; cases z)) hl_12
    have hp1_13 := w_13 _ _ (ne_of hp1_12 hm_12 (by intro z; cases z)) hp1_12
    have hp2_13 := w_13 _ _ (ne_of hp2_12 hm_12 (by intro z; cases z)) hp2_12
    have hL_13 := w_13 _ _ (ne_of c_12 hm_12 (by intro z; cases z)) c_12
    refine ⟨_, rfl, m, C, dx, [("memory", (.ref l)), ("orders", (.ref o)), ("program", (.ref p)), ("deeds_done", (.int 0)), ("held", (.ref p1)), ("touched", (.ref p2)), ("left", (.ref L3))], rfl, hm_13, c.cl, c.n _ (by decide), by show 7 < 1000; decide, ?_⟩
    have hm_14 : (upd H13 m (.ins C dx (putF "beats" (.int 0) [("memory", (.ref l)), ("orders", (.ref o)), ("program", (.ref p)), ("deeds_done", (.int 0)), ("held", (.ref p1)), ("touched", (.ref p2)), ("left", (.ref L3))]))) m = some (.ins C dx [("memory", (.ref l)), ("orders", (.ref o)), ("program", (.ref p)), ("deeds_done", (.int 0)), ("held", (.ref p1)), ("touched", (.ref p2)), ("left", (.ref L3)), ("beats", (.int 0))]) := upd_same
    have w_14 : ∀ y u, y ≠ m → H13 y = some u → (upd H13 m (.ins C dx (putF "beats" (.int 0) [("memory", (.ref l)), ("orders", (.ref o)), ("program", (.ref p)), ("deeds_done", (.int 0)), ("held", (.ref p1)), ("touched", (.ref p2)), ("left", (.ref L3))]))) y = some u := fun y u ne e => by rw [upd_ne ne]; exact e
    have fr_14 : Frs (upd H13 m (.ins C dx (putF "beats" (.int 0) [("memory", (.ref l)), ("orders", (.ref o)), ("program", (.ref p)), ("deeds_done", (.int 0)), ("held", (.ref p1)), ("touched", (.ref p2)), ("left", (.ref L3))]))) _ := Frs.set fr_13
    have b_14 : But [m] H (upd H13 m (.ins C dx (putF "beats" (.int 0) [("memory", (.ref l)), ("orders", (.ref o)), ("program", (.ref p)), ("deeds_done", (.int 0)), ("held", (.ref p1)), ("touched", (.ref p2)), ("left", (.ref L3))]))) := But.trans b_13 (But.set (by simp))
    generalize upd H13 m (.ins C dx (putF "beats" (.int 0) [("memory", (.ref l)), ("orders", (.ref o)), ("program", (.ref p)), ("deeds_done", (.int 0)), ("held", (.ref p1)), ("touched", (.ref p2)), ("left", (.ref L3))])) = H14 at hm_14 w_14 fr_14 b_14
    have hmm_14 := w_14 _ _ (ne_of hmm_13 hm_13 (by intro z; cases z)) hmm_13
    have hl_14 := w_14 _ _ (ne_of hl_13 hm_13 (by intro z; cases z)) hl_13
    have hp1_14 := w_14 _ _ (ne_of hp1_13 hm_13 (by intro z; cases z)) hp1_13
    have hp2_14 := w_14 _ _ (ne_of hp2_13 hm_13 (by intro z; cases z)) hp2_13
    have hL_14 := w_14 _ _ (ne_of hL_13 hm_13 (by intro z; cases z)) hL_13
    refine ⟨Nat.zero_le _, fun L4 nL4 => ?_⟩
    have s_15 := same_new (o := .lst []) nL4
    have c_15 : (upd H14 L4 (.lst [])) L4 = some (.lst []) := upd_same
    have fr_15 : Frs (upd H14 L4 (.lst [])) _ := Frs.new fr_14 nL4
    have b_15 : But [m] H (upd H14 L4 (.lst [])) := But.trans b_14 (Same.but s_15)
    generalize upd H14 L4 (.lst []) = H15 at s_15 c_15 fr_15 b_15
    have hm_15 := s_15 _ _ hm_14
    have hmm_15 := s_15 _ _ hmm_14
    have hl_15 := s_15 _ _ hl_14
    have hp1_15 := s_15 _ _ hp1_14
    have hp2_15 := s_15 _ _ hp2_14
    have hL_15 := s_15 _ _ hL_14
    refine ⟨_, rfl, m, C, dx, [("memory", (.ref l)), ("orders", (.ref o)), ("program", (.ref p)), ("deeds_done", (.int 0)), ("held", (.ref p1)), ("touched", (.ref p2)), ("left", (.ref L3)), ("beats", (.int 0))], rfl, hm_15, c.cl, c.n _ (by decide), by show 8 < 1000; decide, ?_⟩
    have hm_16 : (upd H15 m (.ins C dx (putF "rows" (.ref L4) [("memory", (.ref l)), ("orders", (.ref o)), ("program", (.ref p)), ("deeds_done", (.int 0)), ("held", (.ref p1)), ("touched", (.ref p2)), ("left", (.ref L3)), ("beats", (.int 0))]))) m = some (.ins C dx [("memory", (.ref l)), ("orders", (.ref o)), ("program", (.ref p)), ("deeds_done", (.int 0)), ("held", (.ref p1)), ("touched", (.ref p2)), ("left", (.ref L3)), ("beats", (.int 0)), ("rows", (.ref L4))]) := upd_same
    have w_16 : ∀ y u, y ≠ m → H15 y = some u → (upd H15 m (.ins C dx (putF "rows" (.ref L4) [("memory", (.ref l)), ("orders", (.ref o)), ("program", (.ref p)), ("deeds_done", (.int 0)), ("held", (.ref p1)), ("touched", (.ref p2)), ("left", (.ref L3)), ("beats", (.int 0))]))) y = some u := fun y u ne e => by rw [upd_ne ne]; exact e
    have fr_16 : Frs (upd H15 m (.ins C dx (putF "rows" (.ref L4) [("memory", (.ref l)), ("orders", (.ref o)), ("program", (.ref p)), ("deeds_done", (.int 0)), ("held", (.ref p1)), ("touched", (.ref p2)), ("left", (.ref L3)), ("beats", (.int 0))]))) _ := Frs.set fr_15
    have b_16 : But [m] H (upd H15 m (.ins C dx (putF "rows" (.ref L4) [("memory", (.ref l)), ("orders", (.ref o)), ("program", (.ref p)), ("deeds_done", (.int 0)), ("held", (.ref p1)), ("touched", (.ref p2)), ("left", (.ref L3)), ("beats", (.int 0))]))) := But.trans b_15 (But.set (by simp))
    generalize upd H15 m (.ins C dx (putF "rows" (.ref L4) [("memory", (.ref l)), ("orders", (.ref o)), ("program", (.ref p)), ("deeds_done", (.int 0)), ("held", (.ref p1)), ("touched", (.ref p2)), ("left", (.ref L3)), ("beats", (.int 0))])) = H16 at hm_16 w_16 fr_16 b_16
    have hmm_16 := w_16 _ _ (ne_of hmm_15 hm_15 (by intro z; cases z)) hmm_15
    have hl_16 := w_16 _ _ (ne_of hl_15 hm_15 (by intro z; cases z)) hl_15
    have hp1_16 := w_16 _ _ (ne_of hp1_15 hm_15 (by intro z; cases z)) hp1_15
    have hp2_16 := w_16 _ _ (ne_of hp2_15 hm_15 (by intro z; cases z)) hp2_15
    have hL_16 := w_16 _ _ (ne_of hL_15 hm_15 (by intro z; cases z)) hL_15
    have hR_16 := w_16 _ _ (ne_of c_15 hm_15 (by intro z; cases z)) c_15
    refine ⟨Nat.zero_le _, fun L5 nL5 => ?_⟩
    have s_17 := same_new (o := .lst []) nL5
    have c_17 : (upd H16 L5 (.lst [])) L5 = some (.lst []) := upd_same
    have fr_17 : Frs (upd H16 L5 (.lst [])) _ := Frs.new fr_16 nL5
    have b_17 : But [m] H (upd H16 L5 (.lst [])) := But.trans b_16 (Same.but s_17)
    generalize upd H16 L5 (.lst []) = H17 at s_17 c_17 fr_17 b_17
    have hm_17 := s_17 _ _ hm_16
    have hmm_17 := s_17 _ _ hmm_16
    have hl_17 := s_17 _ _ hl_16
    have hp1_17 := s_17 _ _ hp1_16
    have hp2_17 := s_17 _ _ hp2_16
    have hL_17 := s_17 _ _ hL_16
    have hR_17 := s_17 _ _ hR_16
    refine ⟨_, rfl, m, C, dx, [("memory", (.ref l)), ("orders", (.ref o)), ("program", (.ref p)), ("deeds_done", (.int 0)), ("held", (.ref p1)), ("touched", (.ref p2)), ("left", (.ref L3)), ("beats", (.int 0)), ("rows", (.ref L4))], rfl, hm_17, c.cl, c.n _ (by decide), by show 9 < 1000; decide, ?_⟩
    have hm_18 : (upd H17 m (.ins C dx (putF "said" (.ref L5) [("memory", (.ref l)), ("orders", (.ref o)), ("program", (.ref p)), ("deeds_done", (.int 0)), ("held", (.ref p1)), ("touched", (.ref p2)), ("left", (.ref L3)), ("beats", (.int 0)), ("rows", (.ref L4))]))) m = some (.ins C dx [("memory", (.ref l)), ("orders", (.ref o)), ("program", (.ref p)), ("deeds_done", (.int 0)), ("held", (.ref p1)), ("touched", (.ref p2)), ("left", (.ref L3)), ("beats", (.int 0)), ("rows", (.ref L4)), ("said", (.ref L5))]) := upd_same
    have w_18 : ∀ y u, y ≠ m → H17 y = some u → (upd H17 m (.ins C dx (putF "said" (.ref L5) [("memory", (.ref l)), ("orders", (.ref o)), ("program", (.ref p)), ("deeds_done", (.int 0)), ("held", (.ref p1)), ("touched", (.ref p2)), ("left", (.ref L3)), ("beats", (.int 0)), ("rows", (.ref L4))]))) y = some u := fun y u ne e => by rw [upd_ne ne]; exact e
    have fr_18 : Frs (upd H17 m (.ins C dx (putF "said" (.ref L5) [("memory", (.ref l)), ("orders", (.ref o)), ("program", (.ref p)), ("deeds_done", (.int 0)), ("held", (.ref p1)), ("touched", (.ref p2)), ("left", (.ref L3)), ("beats", (.int 0)), ("rows", (.ref L4))]))) _ := Frs.set fr_17
    have b_18 : But [m] H (upd H17 m (.ins C dx (putF "said" (.ref L5) [("memory", (.ref l)), ("orders", (.ref o)), ("program", (.ref p)), ("deeds_done", (.int 0)), ("held", (.ref p1)), ("touched", (.ref p2)), ("left", (.ref L3)), ("beats", (.int 0)), ("rows", (.ref L4))]))) := But.trans b_17 (But.set (by simp))
    generalize upd H17 m (.ins C dx (putF "said" (.ref L5) [("memory", (.ref l)), ("orders", (.ref o)), ("program", (.ref p)), ("deeds_done", (.int 0)), ("held", (.ref p1)), ("touched", (.ref p2)), ("left", (.ref L3)), ("beats", (.int 0)), ("rows", (.ref L4))])) = H18 at hm_18 w_18 fr_18 b_18
    have hmm_18 := w_18 _ _ (ne_of hmm_17 hm_17 (by intro z; cases z)) hmm_17
    have hl_18 := w_18 _ _ (ne_of hl_17 hm_17 (by intro z; cases z)) hl_17
    have hp1_18 := w_18 _ _ (ne_of hp1_17 hm_17 (by intro z; cases z)) hp1_17
    have hp2_18 := w_18 _ _ (ne_of hp2_17 hm_17 (by intro z; cases z)) hp2_17
    have hL_18 := w_18 _ _ (ne_of hL_17 hm_17 (by intro z; cases z)) hL_17
    have hR_18 := w_18 _ _ (ne_of hR_17 hm_17 (by intro z; cases z)) hR_17
    have hS_18 := w_18 _ _ (ne_of c_17 hm_17 (by intro z; cases z)) c_17
    have n4 : (((B.mem.map nV).length : Int) / 4).toNat = B.mem.length / 4 := by rw [List.length_map]; omega
    have hh1 : H18 p1 = some (.lst (List.replicate (B.mem.length / 4) V.non)) := by rw [hp1_18, n4, List.flatten_replicate_singleton]
    have hh2 : H18 p2 = some (.lst ((List.replicate (B.mem.length / 4) false).map V.bl)) := by rw [hp2_18, n4, List.flatten_replicate_singleton, List.map_replicate]
    have hdx2 : H18 dx = some (.own m) := b_18 dx _ (by simp [mdx.symm]) hdx
    have tt : ∀ y us, H y = some (.tup us) → H18 y = some (.tup us) := fun y us e => b_18 y _ (by simp [ne_of e hm0 (by intro z; cases z)]) e
    have nh : ∀ pace k, (Mst.begin B pace).holds k = true → False := fun pace k z => by rw [begin_holds] at z; cases z
    refine q H18 (fun y => y ∈ [m, dx, l, p1, p2, L3, L4, L5]) ⟨dx, l, p1, p2, L3, L4, L5, .ref o, ⟨.ref p, [], by decide, fun _ h => by cases h⟩, fun _ => 0, [], []⟩ (fun pace => ?_) rfl ⟨.tup (tt _ _ ho) (Pds.tups tt (noLs_map noL_ord _) hos), .tup (tt _ _ hp) (Pds.tups tt (noLs_map noL_deed _) hps)⟩ (fun y u ym yd e => ⟨b_18 y u (by simp [ym]) e, fun z => ?_⟩)
    · refine ⟨hm_18, hdx2, hl_18, ?_, hh2, hL_18, .nil, hR_18, .nil, hS_18, fun k z => (nh pace k z).elim, fun k _ z => (nh pace k z).elim, fr_18.1, fun k z => (nh pace k z).elim, fun y hy => hy, fun k z => (nh pace k z).elim, fun y hy => ?_⟩
      · show H18 p1 = _
        rw [hh1]
        congr 2
        unfold heldV
        refine (List.eq_replicate_iff.mpr ⟨by simp [Mst.begin], fun x hx => ?_⟩).symm
        obtain ⟨k, _, rfl⟩ := List.mem_map.mp hx
        unfold slotV
        rw [begin_holds]; rfl
      · simp only [List.mem_cons, List.not_mem_nil, or_false] at hy
        rcases hy with rfl | rfl | rfl | rfl | rfl | rfl | rfl | rfl
        · exact ⟨_, hm_18, fun xs z => by cases z⟩
        · exact ⟨_, hdx2, fun xs z => by cases z⟩
        · exact ⟨_, hl_18, fun xs z => by cases z⟩
        · exact ⟨_, hh1, fun xs z => by cases z⟩
        · exact ⟨_, hh2, fun xs z => by cases z⟩
        · exact ⟨_, hL_18, fun xs z => by cases z⟩
        · exact ⟨_, hR_18, fun xs z => by cases z⟩
        · exact ⟨_, hS_18, fun xs z => by cases z⟩
    · -- an address that stood before is none of them
      simp only [List.mem_cons, List.not_mem_nil, or_false] at z
      have nn : ∀ (Hx : Hp) (x : Addr), But [m] H Hx → Hx x = none → x ≠ y := fun Hx x bx nx e2 => by
        subst e2
        rw [bx x u (by simp [ym]) e] at nx; cases nx
      rcases z with z | z | z | z | z | z | z | z
      · exact ym z
      · exact yd z
      · exact nn H l But.refl nl z.symm
      · exact nn H6 p1 b_6 np1 z.symm
      · exact nn H9 p2 b_9 np2 z.symm
      · exact nn H11 L3 b_11 nL3 z.symm
      · exact nn H14 L4 b_14 nL4 z.symm
      · exact nn H16 L5 b_16 nL5 z.symm
end
end Vt
namespace Vt
open PySem PySem.Spec PyProof.Rows L2
/-! ### the defs as they stand behind the top -/
def Found (K : PySem.W.Frag) (x : Str) (st : Stmt) (f : Addr) : Prop := ∃ (oc : Value) (od : Option Addr) (kV doc pm : Value) (an : Option Addr) (cdv ct : Value) (osl : Array (Option Value)),
  PySem.W.nsIn K mainGlobals x = some (some (.ref f)) ∧ K.lookup f = some ⟨oc, od, .func (PySem.W.fnOf x x (defArgs st) (defBody st) (defScope st) .none kV doc pm an cdv ct), osl⟩ ∧ PySem.W.codeIn K cdv x = true ∧ PySem.W.keepIn K (.ref f) = true
theorem found_mk {K : PySem.W.Frag} {x : Str} {st : Stmt} {f : Addr} {oc : Value} {od an : Option Addr} {kV doc pm cdv ct : Value} {osl : Array (Option Value)} (a : PySem.W.nsIn K mainGlobals x = some (some (.ref f)))
    (l : K.lookup f = some ⟨oc, od, .func (PySem.W.fnOf x x (defArgs st) (defBody st) (defScope st) .none kV doc pm an cdv ct), osl⟩) (c : PySem.W.codeIn K cdv x = true) (k : PySem.W.keepIn K (.ref f) = true) : ∃ f, Found K x st f :=
  ⟨f, oc, od, kV, doc, pm, an, cdv, ct, osl, a, l, c, k⟩
theorem callee_mk {P : Program} {w : World} {K : PySem.W.Frag} {mg : Str → Option Value} {base h : Heap} {x : Str} {st : Stmt} {k n : Nat} {sp : Sp} {ps : List Str} (X : K.In h) (G : h.Ns mainGlobals mg) (hf : ∃ f, Found K x st f)
    (ok : ∀ (f : Addr) (fd : FuncData), Fun K x x st f fd → FnOk P w K mg base CX0 k f fd ps sp)
    (hb : ∀ (kV doc pm : Value) (an : Option Addr) (cdv ct : Value) (us : List Value), us.length = ps.length → bindArgs (PySem.W.fnOf x x (defArgs st) (defBody st) (defScope st) .none kV doc pm an cdv ct) ⟨us, []⟩ = pure (ps.zip us)) : Callee P w K mg base x k n sp := by
  obtain ⟨f, oc, od, kV, doc, pm, an, cdv, ct, osl, a, l, c, kp⟩ := hf
  have F := fun_mk (st := st) l c kp
  exact ⟨f, _, ps, ok f _ F, PySem.W.mg_of X G a, kp, F.binds hb⟩
/-- a tuple of the written part, as it stands -/
theorem ktup_mk {K : PySem.W.Frag} {a : Addr} {xs : List V} {od : Option Addr} {its : Array Value} {n : Nat} {sl : Array (Option Value)} (l : K.lookup a = some ⟨.type "tuple", od, .seq its n, sl⟩) (hz : its.size ≤ sizeLine) (hv : Vals xs its.toList) : KTup K a xs :=
  ⟨_, its, n, l, rfl, rfl, hz, hv⟩
theorem kinds_mk {K : PySem.W.Frag} {w : World} {mg : Str → Option Value} {dd k1 k2 k3 k4 k5 k6 k7 : Addr} {es : Array DictEntry} {n : Nat} (m : mg "DEEDS" = some (.ref dd)) (low : (dd == sysModules) = false) (l : K.lookup dd = some ⟨.type "dict", none, .dict es n, #[]⟩) (kl : PySem.W.KeysLit w.params es.toList)
    (a1 : PySem.W.nsIn K dd "set" = some (some (.ref k1))) (a2 : PySem.W.nsIn K dd "add" = some (some (.ref k2))) (a3 : PySem.W.nsIn K dd "say" = some (some (.ref k3))) (a4 : PySem.W.nsIn K dd "start" = some (some (.ref k4)))
    (a5 : PySem.W.nsIn K dd "wait" = some (some (.ref k5))) (a6 : PySem.W.nsIn K dd "clean" = some (some (.ref k6))) (a7 : PySem.W.nsIn K dd "drop" = some (some (.ref k7)))
    (t1 : KTup K k1 [.str "cell", .str "number"]) (t2 : KTup K k2 [.str "cell", .str "cell"]) (t3 : KTup K k3 [.str "cell"]) (t4 : KTup K k4 [.str "order"]) (t5 : KTup K k5 []) (t6 : KTup K k6 [.str "line"]) (t7 : KTup K k7 [.str "line"]) : Kinds K w mg dd := by
  refine ⟨m, low, ⟨es, n, l, kl⟩, fun z ks h => ?_⟩
  have kd : ∀ (x : Str) (k : Addr), PySem.W.nsIn K dd x = some (some (.ref k)) → KDct K w dd x (.ref k) := fun x k e => ⟨es, n, _, l, kl, e, rfl⟩
  unfold kindsOf at h
  split at h
  · rename_i e; subst e; cases h; exact ⟨k1, kd _ _ a1, t1⟩
  split at h
  · rename_i e; subst e; cases h; exact ⟨k2, kd _ _ a2, t2⟩
  split at h
  · rename_i e; subst e; cases h; exact ⟨k3, kd _ _ a3, t3⟩
  split at h
  · rename_i e; subst e; cases h; exact ⟨k4, kd _ _ a4, t4⟩
  split at h
  · rename_i e; subst e; cases h; exact ⟨k5, kd _ _ a5, t5⟩
  split at h
  · rename_i e; subst e; cases h; exact ⟨k6, kd _ _ a6, t6⟩
  split at h
  · rename_i e; subst e; cases h; exact ⟨k7, kd _ _ a7, t7⟩
  cases h
end Vt
namespace Vt
open PySem PySem.Spec PyProof.Rows L2
def FoundM (K : PySem.W.Frag) (C : Addr) (x q : Str) (st : Stmt) (f : Addr) : Prop := ∃ (oc : Value) (od : Option Addr) (kV doc pm : Value) (an : Option Addr) (cdv ct : Value) (osl : Array (Option Value)),
  PySem.W.findIn K (.ref C) x = some (some (.ref f)) ∧ K.lookup f = some ⟨oc, od, .func (PySem.W.fnOf x q (defArgs st) (defBody st) (defScope st) .none kV doc pm an cdv ct), osl⟩ ∧ PySem.W.codeIn K cdv q = true ∧ PySem.W.keepIn K (.ref f) = true ∧ PySem.W.isFn K (.ref f) = true
theorem foundm_mk {K : PySem.W.Frag} {C : Addr} {x q : Str} {st : Stmt} {f : Addr} {oc : Value} {od an : Option Addr} {kV doc pm cdv ct : Value} {osl : Array (Option Value)} (a : PySem.W.findIn K (.ref C) x = some (some (.ref f)))
    (l : K.lookup f = some ⟨oc, od, .func (PySem.W.fnOf x q (defArgs st) (defBody st) (defScope st) .none kV doc pm an cdv ct), osl⟩) (c : PySem.W.codeIn K cdv q = true) (k : PySem.W.keepIn K (.ref f) = true) (i : PySem.W.isFn K (.ref f) = true) : ∃ f, FoundM K C x q st f :=
  ⟨f, oc, od, kV, doc, pm, an, cdv, ct, osl, a, l, c, k, i⟩
theorem mcallee_mk {P : Program} {w : World} {K : PySem.W.Frag} {mg : Str → Option Value} {base : Heap} {C : Addr} {x q : Str} {st : Stmt} {k : Nat} {sp : Sp} {ps : List Str} (cl : Cls K C) (hf : ∃ f, FoundM K C x q st f)
    (ok : ∀ (f : Addr) (fd : FuncData), Fun K x q st f fd → FnOk P w K mg base CX0 k f fd ps sp)
    (hb : ∀ (kV doc pm : Value) (an : Option Addr) (cdv ct : Value) (us : List Value), us.length = ps.length → bindArgs (PySem.W.fnOf x q (defArgs st) (defBody st) (defScope st) .none kV doc pm an cdv ct) ⟨us, []⟩ = pure (ps.zip us)) : MCallee P w K mg base C x k sp := by
  obtain ⟨f, oc, od, kV, doc, pm, an, cdv, ct, osl, a, l, c, kp, i⟩ := hf
  have F := fun_mk (st := st) l c kp
  exact ⟨f, _, ps, cl, ⟨a, i, kp⟩, ok f _ F, F.binds hb⟩
theorem maker_mk {P : Program} {w : World} {K : PySem.W.Frag} {mg : Str → Option Value} {base : Heap} {C : Addr} {x q : Str} {st : Stmt} {k : Nat} {sp : Sp} {ps : List Str} (hm : mg x = some (.ref C)) (mk : PySem.W.makesIn K C = true) (kc : PySem.W.keepIn K (.ref C) = true) (hf : ∃ f, FoundM K C "__init__" q st f)
    (ok : ∀ (f : Addr) (fd : FuncData), Fun K "__init__" q st f fd → FnOk P w K mg base CX0 k f fd ps sp)
    (hb : ∀ (kV doc pm : Value) (an : Option Addr) (cdv ct : Value) (us : List Value), us.length = ps.length → bindArgs (PySem.W.fnOf "__init__" q (defArgs st) (defBody st) (defScope st) .none kV doc pm an cdv ct) ⟨us, []⟩ = pure (ps.zip us)) : Maker P w K mg base x C k sp := by
  obtain ⟨f, oc, od, kV, doc, pm, an, cdv, ct, osl, a, l, c, kp, i⟩ := hf
  have F := fun_mk (st := st) l c kp
  exact ⟨f, _, ps, ⟨mk, a, i, kc⟩, ok f _ F, hm, F.binds hb⟩
end Vt
namespace Vt
open PySem PySem.Spec PyProof.Rows L2
/-! ### readings and fetches of a run, in turn -/
def isW (w : Str) (r : Row) : Bool := decide (r.word = w)
def plc (w : Str) (rows : List Row) : List Nat := (rows.filter (isW w)).map Row.place
def cellsRd : Deed → List Nat
  | .add c o => [c, o]
  | .say c => [c]
  | _ => []
def cellsFe (ords : List Ord) : Deed → List Nat
  | .start k => (told ords k).map Mv.src
  | _ => []
theorem plc_app (w : Str) (a b : List Row) : plc w (a ++ b) = plc w a ++ plc w b := by simp [plc]
theorem plc_one (w v : Str) (b p n : Nat) : plc w [⟨b, v, p, n⟩] = if v = w then [p] else [] := by
  unfold plc isW
  by_cases h : v = w
  · rw [if_pos h, List.filter_cons_of_pos (by simpa using h)]; rfl
  · rw [if_neg h, List.filter_cons_of_neg (by simpa using h)]; rfl
theorem plc_tell {w v : Str} {p n : Nat} {M : Mst} : plc w (M.tell v p n).rows = plc w M.rows ++ (if v = w then [p] else []) := by
  show plc w (M.rows ++ [⟨M.beats, v, p, n⟩]) = _
  rw [plc_app, plc_one]
def RF (w : Str) : Prop := w = "read" ∨ w = "fetch"
section
variable {w : Str} {M : Mst}
theorem plc_take (hw : RF w) {l : Nat} : plc w (M.take l).rows = plc w M.rows := by
  unfold Mst.take
  split
  · rfl
  · rw [plc_tell, if_neg (by rcases hw with rfl | rfl <;> decide), List.append_nil]
theorem plc_read (hw : RF w) {c : Nat} : plc w (M.read c).rows = plc w M.rows ++ (if ("read" : Str) = w then [c] else []) := by
  unfold Mst.read
  rw [plc_tell, plc_take hw]
theorem plc_write (hw : RF w) {c n : Nat} : plc w (M.write c n).rows = plc w M.rows := by
  unfold Mst.write
  rw [plc_tell, if_neg (by rcases hw with rfl | rfl <;> decide), List.append_nil]
  show plc w (M.take (c / 4)).rows = _
  exact plc_take hw
theorem plc_clean (hw : RF w) {l : Nat} : plc w (M.clean l).rows = plc w M.rows := by
  unfold Mst.clean
  split
  · rw [plc_tell, if_neg (by rcases hw with rfl | rfl <;> decide), List.append_nil]
  · rfl
theorem plc_drop (hw : RF w) {l : Nat} : plc w (M.drop l).rows = plc w M.rows := by
  unfold Mst.drop
  split
  · rw [plc_tell, if_neg (by rcases hw with rfl | rfl <;> decide), List.append_nil]
  · rfl
theorem plc_finish (hw : RF w) : plc w M.finish.rows = plc w M.rows := by
  unfold Mst.finish
  rw [plc_clean hw, plc_clean hw, plc_clean hw, plc_clean hw]
theorem rd_deed {ords : List Ord} {d : Deed} : plc "read" (M.deed ords d).rows = plc "read" M.rows ++ cellsRd d := by
  have r : RF "read" := .inl rfl
  cases d with
  | set c n => simp only [Mst.deed, cellsRd, List.append_nil]; exact plc_write r
  | add c o => simp only [Mst.deed, cellsRd]; rw [plc_write r, plc_read r, plc_read r, if_pos rfl, List.append_assoc]; rfl
  | say c => simp only [Mst.deed, cellsRd]; rw [plc_tell, plc_read r, if_pos rfl, if_neg (by decide), List.append_nil]
  | start k => simp only [Mst.deed, cellsRd]; rw [plc_tell, if_neg (by decide)]
  | wait => simp [Mst.deed, cellsRd]
  | clean l => simp only [Mst.deed, cellsRd, List.append_nil]; exact plc_clean r
  | drop l => simp only [Mst.deed, cellsRd, List.append_nil]; exact plc_drop r
theorem fe_deed {ords : List Ord} {d : Deed} : plc "fetch" (M.deed ords d).rows = plc "fetch" M.rows := by
  have r : RF "fetch" := .inr rfl
  cases d with
  | set c n => simp only [Mst.deed]; exact plc_write r
  | add c o => simp only [Mst.deed]; rw [plc_write r, plc_read r, plc_read r, if_neg (by decide), if_neg (by decide), List.append_nil, List.append_nil]
  | say c => simp only [Mst.deed]; rw [plc_tell, plc_read r, if_neg (by decide), if_neg (by decide), List.append_nil, List.append_nil]
  | start k => simp only [Mst.deed]; rw [plc_tell, if_neg (by decide), List.append_nil]
  | wait => rfl
  | clean l => simp only [Mst.deed]; exact plc_clean r
  | drop l => simp only [Mst.deed]; exact plc_drop r
theorem left_deed {ords : List Ord} {d : Deed} : (M.deed ords d).left.map Mv.src = M.left.map Mv.src ++ cellsFe ords d := by
  cases d with
  | set c n => simp only [Mst.deed, cellsFe, List.append_nil]; rw [write_rows.2.1]
  | add c o => simp only [Mst.deed, cellsFe, List.append_nil]; rw [write_rows.2.1, read_rows.2.1, read_rows.2.1]
  | say c => simp only [Mst.deed, cellsFe, List.append_nil]; show (M.read c).left.map Mv.src = _; rw [read_rows.2.1]
  | start k => simp [Mst.deed, cellsFe, Mst.tell]
  | wait => simp [Mst.deed, cellsFe]
  | clean l => simp only [Mst.deed, cellsFe, List.append_nil]; rw [clean_rows.2.1]
  | drop l => simp only [Mst.deed, cellsFe, List.append_nil]; rw [drop_rows.2.1]
structure Turns (ords : List Ord) (prog : List Deed) (M : Mst) : Prop where
  rd : plc "read" M.rows = (prog.take M.at_).flatMap cellsRd
  fe : plc "fetch" M.rows ++ M.left.map Mv.src = (prog.take M.at_).flatMap (cellsFe ords)
theorem Turns.carry {ords : List Ord} {prog : List Deed} (h : Turns ords prog M) : Turns ords prog M.carry := by
  obtain ⟨h1, h2⟩ := h
  unfold Mst.carry
  split
  · exact ⟨h1, h2⟩
  · rename_i mv r e
    dsimp only
    have e2 : ∀ (w : Str), RF w → plc w (((Mst.tell { M with left := r, mem := M.mem.set mv.goal (M.mem.getD mv.src 0) } "fetch" mv.src (M.mem.getD mv.src 0)).tell "put" mv.goal (M.mem.getD mv.src 0))).rows = plc w M.rows ++ (if ("fetch" : Str) = w then [mv.src] else []) := fun w hw => by
      rw [plc_tell, plc_tell, if_neg (show ¬ ("put" : Str) = w by rcases hw with rfl | rfl <;> decide), List.append_nil]
    have fin : ∀ M' : Mst, M'.left = r → M'.at_ = M.at_ → (∀ (w : Str), RF w → plc w M'.rows = plc w M.rows ++ (if ("fetch" : Str) = w then [mv.src] else [])) → Turns ords prog M' := fun M' l1 l2 l3 => by
      refine ⟨?_, ?_⟩
      · rw [l3 _ (.inl rfl), if_neg (by decide), List.append_nil, l2]; exact h1
      · rw [l3 _ (.inr rfl), if_pos rfl, l1, l2, ← h2, e, List.map_cons, List.append_assoc]; rfl
    split
    · exact fin _ rfl rfl e2
    · refine fin _ rfl rfl fun w hw => ?_
      rw [plc_tell, if_neg (show ¬ ("bell" : Str) = w by rcases hw with rfl | rfl <;> decide), List.append_nil]
      exact e2 w hw
theorem Turns.proc {ords : List Ord} {prog : List Deed} (h : Turns ords prog M) : Turns ords prog (M.proc ords prog) := by
  unfold Mst.proc
  split
  · exact h
  · split
    · exact h
    · rename_i d e
      obtain ⟨h1, h2⟩ := h
      have tk : prog.take (M.at_ + 1) = prog.take M.at_ ++ [d] := by rw [List.take_add_one, e]; rfl
      refine ⟨?_, ?_⟩
      · show plc "read" (M.deed ords d).rows = (prog.take (M.at_ + 1)).flatMap cellsRd
        rw [rd_deed, h1, tk, List.flatMap_append]; simp
      · show plc "fetch" (M.deed ords d).rows ++ (M.deed ords d).left.map Mv.src = (prog.take (M.at_ + 1)).flatMap (cellsFe ords)
        rw [fe_deed, left_deed, ← List.append_assoc, h2, tk, List.flatMap_append]; simp
theorem Turns.rePace {ords : List Ord} {prog : List Deed} {p : List Bool} (h : Turns ords prog M) : Turns ords prog { M with pace := p } := ⟨h.1, h.2⟩
theorem Turns.beat {ords : List Ord} {prog : List Deed} (h : Turns ords prog M) : Turns ords prog (M.beat ords prog) := by
  have h1 := h.proc
  have fin : ∀ X : Mst, Turns ords prog X → Turns ords prog { X with beats := M.beats + 1 } := fun X x => ⟨x.1, x.2⟩
  unfold Mst.beat
  dsimp only
  refine fin _ ?_
  split
  · split
    · exact h1.rePace.carry
    · exact h1.rePace
  · exact h1.carry
end
theorem run_turns {ords : List Ord} {prog : List Deed} : ∀ (f : Nat) (M : Mst), Turns ords prog M → Turns ords prog (Mst.run ords prog f M)
  | 0, _, h => h
  | f + 1, M, h => by
    rw [Mst.run]
    split
    · exact h
    · exact run_turns f _ h.beat
/-- the run comes to its end -/
theorem run_ends {B : Brd} (ok : BrdOk B) : ∀ (f : Nat) (M : Mst), MOk B.mem.length B.prog M → M.mu B.prog ≤ f → (Mst.run B.ords B.prog f M).over B.prog = true
  | 0, M, h, hf => by
    have := h.at_
    simp only [Mst.mu] at hf
    rw [Mst.run]
    unfold Mst.over
    have hl : M.left = [] := List.length_eq_zero_iff.mp (by omega)
    rw [hl, decide_eq_true (show M.at_ = B.prog.length by omega)]; rfl
  | f + 1, M, h, hf => by
    cases ho : M.over B.prog with
    | true => rw [run_over ho]; exact ho
    | false =>
      rw [Mst.run, ho]
      obtain ⟨b1, b2⟩ := beat_ok h ho ok.ords ok.eight ok.prog
      exact run_ends ok f _ b1 (by omega)
theorem goneM_over {B : Brd} (ok : BrdOk B) (pace : List Bool) : (goneM B pace).over B.prog = true := run_ends ok _ _ (begin_ok ok pace) (begin_mu ok pace)
theorem gone_turns {B : Brd} (ok : BrdOk B) (pace : List Bool) : plc "read" (gone B pace).rows = B.prog.flatMap cellsRd ∧ plc "fetch" (gone B pace).rows = B.prog.flatMap (cellsFe B.ords) := by
  have t : Turns B.ords B.prog (goneM B pace) := run_turns _ _ ⟨rfl, rfl⟩
  have o := goneM_over ok pace
  have e : gone B pace = (goneM B pace).finish := rfl
  unfold Mst.over at o
  obtain ⟨o1, o2⟩ := Bool.and_eq_true_iff.mp o
  have o1' := of_decide_eq_true o1
  have o2' := List.isEmpty_iff.mp o2
  obtain ⟨t1, t2⟩ := t
  rw [o1', List.take_length] at t1 t2
  rw [o2', List.map_nil, List.append_nil] at t2
  rw [e, plc_finish (.inl rfl), plc_finish (.inr rfl)]
  exact ⟨t1, t2⟩
theorem mv_fst : ∀ (ms : List Mv) (p : List Nat × List (Nat × Nat)), ((ms.foldl mvStep p).2).map Prod.fst = p.2.map Prod.fst ++ ms.map Mv.src
  | [], p => by simp
  | m :: r, p => by
    rw [List.foldl_cons, mv_fst r (mvStep p m)]
    simp [mvStep]
theorem plain_turns {ords : List Ord} : ∀ (ds : List Deed) (s : Pst), (ds.foldl (pstep ords) s).reads.map Prod.fst = s.reads.map Prod.fst ++ ds.flatMap cellsRd ∧ (ds.foldl (pstep ords) s).fet.map Prod.fst = s.fet.map Prod.fst ++ ds.flatMap (cellsFe ords)
  | [], s => by simp
  | d :: r, s => by
    obtain ⟨h1, h2⟩ := plain_turns r (pstep ords s d)
    rw [List.foldl_cons, h1, h2, List.flatMap_cons, List.flatMap_cons]
    cases d with
    | start o =>
      simp only [pstep, cellsRd, cellsFe, List.map_append, mv_fst]
      simp
    | _ => simp [pstep, cellsRd, cellsFe]
/-- each reading of the story stands beside the one that is due -/
theorem rows_due {B : Brd} (ok : BrdOk B) (pace : List Bool) : plc "read" (gone B pace).rows = (plain B).reads.map Prod.fst ∧ plc "fetch" (gone B pace).rows = (plain B).fet.map Prod.fst := by
  obtain ⟨g1, g2⟩ := gone_turns ok pace
  obtain ⟨p1, p2⟩ := plain_turns (ords := B.ords) B.prog ⟨B.mem, [], [], []⟩
  rw [g1, g2]
  exact ⟨by rw [show (plain B).reads = _ from rfl, plain]; rw [p1]; rfl, by rw [plain, p2]; rfl⟩
/-! ### what is amiss -/
structure Wst where
  found : List Row
  nr : Nat
  nf : Nat
def wstep (rd ft : List (Nat × Nat)) (s : Wst) (r : Row) : Wst :=
  if r.word = ("read" : Str) then ⟨s.found ++ (if r.num = (rd.getD s.nr (0, 0)).2 then [] else [r]), s.nr + 1, s.nf⟩
  else if r.word = ("fetch" : Str) then ⟨s.found ++ (if r.num = (ft.getD s.nf (0, 0)).2 then [] else [r]), s.nr, s.nf + 1⟩
  else s
def wTo (rows : List Row) (rd ft : List (Nat × Nat)) (i : Nat) : Wst := (rows.take i).foldl (wstep rd ft) ⟨[], 0, 0⟩
theorem wTo_succ {rows : List Row} {rd ft : List (Nat × Nat)} {i : Nat} {r : Row} (h : rows[i]? = some r) : wTo rows rd ft (i + 1) = wstep rd ft (wTo rows rd ft i) r := by
  unfold wTo
  rw [List.take_add_one, h, List.foldl_append]; rfl
theorem wstep_counts (rd ft : List (Nat × Nat)) : ∀ (rs : List Row) (s : Wst), (rs.foldl (wstep rd ft) s).nr = s.nr + (plc "read" rs).length ∧ (rs.foldl (wstep rd ft) s).nf = s.nf + (plc "fetch" rs).length ∧ (rs.foldl (wstep rd ft) s).found.length ≤ s.found.length + rs.length
  | [], s => ⟨rfl, rfl, by simp⟩
  | r :: rs, s => by
    obtain ⟨h1, h2, h3⟩ := wstep_counts rd ft rs (wstep rd ft s r)
    have e : plc "read" (r :: rs) = plc "read" [r] ++ plc "read" rs := plc_app _ [r] rs
    have e' : plc "fetch" (r :: rs) = plc "fetch" [r] ++ plc "fetch" rs := plc_app _ [r] rs
    obtain ⟨b, wd, p, n⟩ := r
    rw [plc_one] at e e'
    rw [List.foldl_cons, h1, h2, e, e']
    have h4 := h3
    unfold wstep at h1 h2 h4 ⊢
    dsimp only at *
    by_cases c1 : wd = ("read" : Str)
    · have c2 : ¬ wd = ("fetch" : Str) := by rw [c1]; decide
      simp only [if_pos c1, if_neg c2] at h4 ⊢
      have : (if n = (rd.getD s.nr (0, 0)).snd then ([] : List Row) else [⟨b, wd, p, n⟩]).length ≤ 1 := by split <;> simp
      simp only [List.length_append, List.length_cons, List.length_nil] at h4 ⊢
      exact ⟨by omega, by omega, by omega⟩
    · by_cases c2 : wd = ("fetch" : Str)
      · simp only [if_neg c1, if_pos c2] at h4 ⊢
        have : (if n = (ft.getD s.nf (0, 0)).snd then ([] : List Row) else [⟨b, wd, p, n⟩]).length ≤ 1 := by split <;> simp
        simp only [List.length_append, List.length_cons, List.length_nil] at h4 ⊢
        exact ⟨by omega, by omega, by omega⟩
      · simp only [if_neg c1, if_neg c2] at h4 ⊢
        simp only [List.length_append, List.length_cons, List.length_nil] at h4 ⊢
        exact ⟨by omega, by omega, by omega⟩
theorem wTo_nr {rows : List Row} {rd ft : List (Nat × Nat)} {i : Nat} : (wTo rows rd ft i).nr = (plc "read" (rows.take i)).length := by
  have := (wstep_counts rd ft (rows.take i) ⟨[], 0, 0⟩).1
  rw [wTo, this]; simp
theorem wTo_nf {rows : List Row} {rd ft : List (Nat × Nat)} {i : Nat} : (wTo rows rd ft i).nf = (plc "fetch" (rows.take i)).length := by
  have := (wstep_counts rd ft (rows.take i) ⟨[], 0, 0⟩).2.1
  rw [wTo, this]; simp
theorem wTo_len {rows : List Row} {rd ft : List (Nat × Nat)} {i : Nat} : (wTo rows rd ft i).found.length ≤ rows.length := by
  have := (wstep_counts rd ft (rows.take i) ⟨[], 0, 0⟩).2.2
  have h2 := List.length_take_le' i rows
  rw [wTo]
  simp only [List.length_nil] at this
  omega
theorem plc_at {w : Str} {rows : List Row} {l : List (Nat × Nat)} {i : Nat} {r : Row} (e : plc w rows = l.map Prod.fst) (h : rows[i]? = some r) (hw : r.word = w) : ∃ due, l[(plc w (rows.take i)).length]? = some (r.place, due) := by
  have hi := (List.getElem?_eq_some_iff.mp h)
  obtain ⟨hlt, hr⟩ := hi
  have h1 : rows = rows.take i ++ r :: rows.drop (i + 1) := by
    rw [← hr, List.getElem_cons_drop hlt, List.take_append_drop]
  have h2 : plc w rows = plc w (rows.take i) ++ (r.place :: plc w (rows.drop (i + 1))) := by
    have e1 : plc w (r :: rows.drop (i + 1)) = plc w [r] ++ plc w (rows.drop (i + 1)) := plc_app _ [r] _
    obtain ⟨b, wd, p, n⟩ := r
    rw [plc_one, if_pos hw] at e1
    conv => lhs; rw [h1]
    rw [plc_app, e1]; rfl
  have h3 : (l.map Prod.fst)[(plc w (rows.take i)).length]? = some r.place := by
    rw [← e, h2, List.getElem?_append_right (Nat.le_refl _), Nat.sub_self]; rfl
  rw [List.getElem?_map] at h3
  obtain ⟨p, hp, he⟩ : ∃ p, l[(plc w (rows.take i)).length]? = some p ∧ p.1 = r.place := by simpa using h3
  exact ⟨p.2, by rw [hp, ← he]⟩
/-- the cells that end otherwise -/
def endsTo (beats : Nat) (found plainly : List Nat) (n : Nat) : List Row := ((List.range n).filter fun c => !decide (found.getD c 0 = plainly.getD c 0)).map fun c => ⟨beats, "end", c, found.getD c 0⟩
theorem endsTo_succ {b : Nat} {xs ys : List Nat} {n : Nat} : endsTo b xs ys (n + 1) = endsTo b xs ys n ++ (if xs.getD n 0 = ys.getD n 0 then [] else [⟨b, "end", n, xs.getD n 0⟩]) := by
  unfold endsTo
  rw [List.range_succ, List.filter_append, List.map_append]
  by_cases h : xs.getD n 0 = ys.getD n 0
  · rw [if_pos h, List.filter_cons_of_neg (by rw [decide_eq_true h]; decide)]; simp
  · rw [if_neg h, List.filter_cons_of_pos (by simp only [Bool.not_eq_true', decide_eq_false_iff_not]; exact h)]; simp
def wrongRows (B : Brd) (pace : List Bool) : List Row := (wTo (gone B pace).rows (plain B).reads (plain B).fet (gone B pace).rows.length).found
def amissRows (B : Brd) (pace : List Bool) : List Row := wrongRows B pace ++ endsTo (gone B pace).beats (gone B pace).mem (plain B).mem B.mem.length
end Vt
namespace Vt
open PySem PySem.Spec PyProof.Rows L2
/-- y = {k: v for ..} -/
theorem ps_setDc {X : Cx} {i : Nat} {y : Str} {py : Pos} {kx vx tg iter : Expr} {ifs : List Expr} {scope : Scope} {own : List (Str × Nat)} {pos spos : Pos} {wi : TI} {g : TG} {tt : TT} {tk tv : TE}
    (hc : X.calm = true) (hN : X.N.Nodup) (hy : X.N[i]? = some y) (hyl : X.env.scope.names.lookup y = some .local)
    (hsw : swapsWith (.DictComp kx vx [⟨tg, iter, ifs, 0⟩] scope pos) (some (.Name y py)) spos.line X.env = pure true) (hi : PI X tg iter wi) (ok : BlkOk X.N X.env.scope scope own)
    (hg : ∀ (s : Shared) (H : Hp) (C : Addr) (cl : List (Str × Addr)) (fp : List Addr), PG (X.blk s H scope (compEnvC scope cl C X.env) fp) tg g)
    (ht : ∀ (s : Shared) (H : Hp) (C : Addr) (cl : List (Str × Addr)) (fp : List Addr), PTs (X.blk s H scope (compEnvC scope cl C X.env) fp) ifs tt)
    (hk : ∀ (s : Shared) (H : Hp) (C : Addr) (cl : List (Str × Addr)) (fp : List Addr), PE (X.blk s H scope (compEnvC scope cl C X.env) fp) kx tk)
    (he : ∀ (s : Shared) (H : Hp) (C : Addr) (cl : List (Str × Addr)) (fp : List Addr), PE (X.blk s H scope (compEnvC scope cl C X.env) fp) vx tv)
    (hs : ∀ (x : Value), foldedSetIterable iter X.env x = pure x := by intro x; rfl) :
    PS X (.Assign [.Name y py] (.DictComp kx vx [⟨tg, iter, ifs, 0⟩] scope pos) spos) (tAsg (tDc wi g tt tk tv (own.map (·.2))) (gName i)) where
  run := fun pins s σ H D I h => by
    rw [exec_Assign_Name_used y py _ spos hsw]
    refine wpAny_bind (wpAny_standAt (wpAny_bind ?_))
    have h' := h
    unfold tAsg at h'
    refine wpAny_bind (thn (dc_core hc hN I hi ok hg ht hk he hs h' fun L C s' m H' I' q hn f => ?_) fun x s' hq => wpAny_pure (wpAny_pure hq))
    refine wpAny_assign_Name (store_ok2 (v := .ref L) I' hN hy (Or.inl hyl) rfl (fun s2 I2 x => ?_) (Or.inr hyl))
    obtain ⟨a, sb, ha⟩ := x
    obtain ⟨f0, f1, f2, f3, f4, f5⟩ := f
    have haC : C ≠ a := by
      rcases ha with z | z
      · rw [z]; exact f1
      · intro e; exact f4 _ _ z e.symm
    exact ⟨m, hn.sameBut sb haC, fun h3 sb3 => ⟨_, _, Inv.turned I2 (fun b o hb e => (sb3.right b hb).trans e) f0 f1 f3 f4 f5, q⟩⟩
theorem sw_trueD {kx vx : Expr} {gs : List Comprehension} {scope : Scope} {pos py : Pos} {y : Str} {l : Nat} {env : Env} (h1 : env.scope.kind = ScopeKind.function) (h2 : List.lookup y env.scope.names = some NameKind.local) (h3 : (py.line == pos.line) = true)
    (h4 : (scope.names.any fun x => match x with | (n, k) => n == y && (k == NameKind.local || k == NameKind.cell)) = false) : swapsWith (kx.DictComp vx gs scope pos) (some (Expr.Name y py)) l env = pure true :=
  sw_true (elt := kx) (gs := gs) (pos := pos) (l := l) h1 h2 h3 h4
/-- a dict comprehension over a walk -/
theorem dc_it {J : It} {n : Nat} {G : Hp → Prop} {Y : Nat → Hp → V → Hp → Prop} (wk : Walk J n G Y) {g : TG} {tt : TT} {tk tv : TE} {vs : List Nat} {σ : L2.St} {H1 : Hp} {D : Addr} {Qd : Hp → Prop} (Pv : Nat → Hp → Prop)
    (h0 : Pv 0 (upd H1 D (.dK []))) (hG : ∀ i H, i ≤ n → Pv i H → G H)
    (hs : ∀ (i : Nat) (x : V) (H H' : Hp), i < n → Pv i H → Y i H x H' → g x (wipe σ vs) H' fun σ2 H2 => wipe σ2 vs = wipe σ vs ∧ tt σ2 H2 fun b H3 => if b = true then tk σ2 H3 fun y H4 => tv σ2 H4 fun z H5 => ∃ kvs k, y = kV k ∧ H5 D = some (.dK kvs) ∧ kvs.length < sizeLine ∧ Pv (i + 1) (upd H5 D (.dK (putK kvs k z))) else Pv (i + 1) H3)
    (hd : ∀ H, Pv n H → Qd H) :
    ∃ W : Nat → Nat → Hp → Prop, (∃ m, W 0 m (upd H1 D (.dK []))) ∧ ∀ i m H, W i m H → (J.stop i H ∧ Qd H) ∨ (J.go i H ∧ ∃ Nx : Hp → Prop, (∀ H', Nx H' → ∃ m', m' < m ∧ W (i + 1) m' H') ∧ ∀ x H', J.yld i H x H' → g x (wipe σ vs) H' fun σ2 H2 => wipe σ2 vs = wipe σ vs ∧ tt σ2 H2 fun b H3 =>
      if b = true then tk σ2 H3 fun y H4 => tv σ2 H4 fun z H5 => ∃ kvs k, y = kV k ∧ H5 D = some (.dK kvs) ∧ kvs.length < sizeLine ∧ Nx (upd H5 D (.dK (putK kvs k z))) else Nx H3) := by
  refine ⟨fun i m H => i ≤ n ∧ m = n - i ∧ Pv i H, ⟨n, Nat.zero_le _, rfl, h0⟩, fun i m H hw => ?_⟩
  obtain ⟨hi, hm, hp⟩ := hw
  rcases Nat.lt_or_ge i n with hlt | hge
  · exact .inr ⟨wk.goes i H hlt (hG i H hi hp), Pv (i + 1), fun H' h' => ⟨n - (i + 1), by omega, by omega, rfl, h'⟩, fun x H' hy => hs i x H H' hlt hp (wk.yields i H x H' hlt (hG i H hi hp) hy)⟩
  · have e : i = n := by omega
    subst e
    exact .inl ⟨wk.stops H (hG _ H hi hp), hd H hp⟩
theorem dget_of {H : Hp} {a : Addr} {kvs : List (Key × V)} {k : Key} {v : V} (e : H a = some (.dK kvs)) (h : valV kvs k = some v) : DGet H a (kV k) (some v) := h ▸ DGet.k e
/-- a dict of two words -/
def rf (x y : V) : List (Key × V) := [(.inr "read", x), (.inr "fetch", y)]
theorem rf_get {x y : V} {z : Str} : valV (rf x y) (.inr z) = if z = ("read" : Str) then some x else if z = ("fetch" : Str) then some y else none := by
  unfold rf valV
  by_cases h1 : z = ("read" : Str)
  · subst h1; rfl
  · rw [if_neg h1]
    have d1 : decide ((Sum.inr ("read" : Str) : Key) = Sum.inr z) = false := decide_eq_false fun e => h1 (Sum.inr.inj e).symm
    by_cases h2 : z = ("fetch" : Str)
    · subst h2; rfl
    · rw [if_neg h2]
      have d2 : decide ((Sum.inr ("fetch" : Str) : Key) = Sum.inr z) = false := decide_eq_false fun e => h2 (Sum.inr.inj e).symm
      simp only [List.find?, d1, d2, Option.map]
theorem rf_read {x y v : V} : putK (rf x y) (.inr "read") v = rf v y := rfl
theorem rf_fetch {x y v : V} : putK (rf x y) (.inr "fetch") v = rf x v := rfl
end Vt
namespace Vt
open PySem PySem.Spec PyProof.Rows L2
section
variable {P : Program} {w : World} {K : PySem.W.Frag} {mg : Str → Option Value} {base : Heap}
theorem Rd.of {H : Hp} {p : Nat × Nat} {v : V} (h : Pd H v (rdD p)) : ∃ a, v = .ref a ∧ H a = some (.tup [nV p.1, nV p.2]) := by
  cases h with
  | tup h hs =>
    cases hs with
    | cons h1 hs => cases h1; cases hs with
      | cons h2 hs =>
        cases h2; cases hs
        exact ⟨_, rfl, h⟩
end
end Vt
namespace Vt
open PySem PySem.Spec PyProof.Rows L2
section
variable {P : Program} {w : World} {K : PySem.W.Frag} {mg : Str → Option Value} {base : Heap} {C : Addr}
theorem endsTo_len {b : Nat} {xs ys : List Nat} : ∀ n, (endsTo b xs ys n).length ≤ n := fun n => by
  unfold endsTo
  rw [List.length_map]
  exact Nat.le_trans (List.length_filter_le _ _) (by simp)
theorem plain_ok {B : Brd} (ok : BrdOk B) : (plain B).mem.length = B.mem.length := by
  have : ∀ (ds : List Deed) (s : Pst), (ds.foldl (pstep B.ords) s).mem.length = s.mem.length := by
    intro ds
    induction ds with
    | nil => intro s; rfl
    | cons d r ih =>
      intro s
      rw [List.foldl_cons, ih]
      cases d <;> simp [pstep]
      · exact (mv_len _ _).1
  exact this _ _
theorem amiss_len {B : Brd} (ok : BrdOk B) (pace : List Bool) : (amissRows B pace).length ≤ 90100 := by
  unfold amissRows wrongRows
  rw [List.length_append]
  have h1 := wTo_len (rows := (gone B pace).rows) (rd := (plain B).reads) (ft := (plain B).fet) (i := (gone B pace).rows.length)
  have h2 := endsTo_len (b := (gone B pace).beats) (xs := (gone B pace).mem) (ys := (plain B).mem) B.mem.length
  have h3 := (gone_ok ok pace).2
  have h4 := (gone_ok ok pace).1.lines
  omega
end
end Vt
namespace Vt
open PySem PySem.Spec PyProof.Rows L2
/-! ### the processor alone -/
structure Wk where
  M : Mst
  rd : Nat
abbrev Stp : Type := Str × Nat × Nat
def stp (r : Row) : Stp := (r.word, r.place, r.num)
namespace Wk
def num (due : List (Nat × Nat)) (W : Wk) : Nat := (due.getD W.rd (0, 0)).2
def read (due : List (Nat × Nat)) (W : Wk) (c : Nat) : Wk := ⟨(W.M.take (c / 4)).tell "read" c (W.num due), W.rd + 1⟩
def deed (ords : List Ord) (due : List (Nat × Nat)) (W : Wk) : Deed → Wk
  | .set c n => ⟨W.M.write c n, W.rd⟩
  | .add c o => ⟨((W.read due c).read due o).M.write c ((W.num due + (W.read due c).num due) % 10), W.rd + 2⟩
  | .say c => ⟨(W.read due c).M.tell "say" c (W.num due), W.rd + 1⟩
  | .start k => ⟨Mst.tell { W.M with left := W.M.left ++ told ords k } "start" k 0, W.rd⟩
  | .wait => W
  | .clean l => ⟨W.M.clean l, W.rd⟩
  | .drop l => ⟨W.M.drop l, W.rd⟩
end Wk
def walkTo (B : Brd) (i : Nat) : Wk := (B.prog.take i).foldl (Wk.deed B.ords (plain B).reads) ⟨Mst.begin B [], 0⟩
def stepsFrom (rows : List Row) (n : Nat) : List Stp := (rows.drop n).map stp
/-- the script of a board -/
structure Scr where
  first : List Nat
  last : List Nat
  waits : List Bool
  deeds : List (List Stp)
  told : List Nat
  fin : List Stp
  moves : List (Nat × Nat × Nat)
def mvSeen (m : Mv) (s : Nat × Nat) : Nat × Nat × Nat := (m.src, m.goal, s.2)
def isWait : Deed → Bool
  | .wait => true
  | _ => false
def scr (B : Brd) : Scr where
  first := B.mem
  last := (plain B).mem
  waits := B.prog.map isWait
  deeds := (List.range B.prog.length).map fun i => stepsFrom (walkTo B (i + 1)).M.rows (walkTo B i).M.rows.length
  told := (List.range B.prog.length).map fun i => (walkTo B (i + 1)).M.left.length
  fin := stepsFrom (walkTo B B.prog.length).M.finish.rows (walkTo B B.prog.length).M.rows.length
  moves := List.zipWith mvSeen (walkTo B B.prog.length).M.left (plain B).fet
/-! ### a cell followed alone -/
structure TSt where
  done : Nat
  num : Option Nat
  held : Option Nat
  deriving DecidableEq
def stepAt (cell : Nat) (s : Stp) : List (Str × Nat) :=
  (if (s.1 = ("read" : Str) ∨ s.1 = ("write" : Str)) ∧ s.2.1 = cell then [(s.1, s.2.2)] else []) ++
  (if (s.1 = ("take" : Str) ∨ s.1 = ("clean" : Str) ∨ s.1 = ("drop" : Str)) ∧ s.2.1 = cell / 4 then [(s.1, s.2.2)] else [])
def stepsAt (steps : List Stp) (cell : Nat) : List (Str × Nat) := steps.flatMap (stepAt cell)
def afterStep (st : TSt) (s : Str × Nat) : Option TSt :=
  if s.1 = ("read" : Str) ∧ ¬ st.held = some s.2 then none
  else some (if s.1 = ("take" : Str) then { st with held := st.num } else if s.1 = ("write" : Str) then { st with held := some s.2 } else if s.1 = ("clean" : Str) then { st with num := st.held } else if s.1 = ("drop" : Str) then { st with held := none } else st)
def afterSteps : TSt → List (Str × Nat) → Option TSt
  | st, [] => some st
  | st, s :: r => (afterStep st s).bind fun st => afterSteps st r
abbrev CMv : Type := Nat × Option Nat × Option Nat
def moveAt (cell : Nat) (at_ : Nat) (m : Nat × Nat × Nat) : List CMv :=
  if m.1 = cell ∨ m.2.1 = cell then [(at_, (if m.1 = cell then some m.2.2 else none), if m.2.1 = cell then some m.2.2 else none)] else []
def movesFrom (cell : Nat) : Nat → List (Nat × Nat × Nat) → List CMv
  | _, [] => []
  | i, m :: r => moveAt cell i m ++ movesFrom cell (i + 1) r
def movesAt (moves : List (Nat × Nat × Nat)) (cell : Nat) : List CMv := movesFrom cell 0 moves
structure Trk where
  start : TSt
  last : Nat
  waits : List Bool
  told : List Nat
  deeds : List (List (Str × Nat))
  fin : List (Str × Nat)
  moves : List CMv
  count : Nat
def trk (S : Scr) (cell : Nat) : Trk where
  start := ⟨0, some (S.first.getD cell 0), none⟩
  last := S.last.getD cell 0
  waits := S.waits
  told := S.told
  deeds := S.deeds.map fun s => stepsAt s cell
  fin := stepsAt S.fin cell
  moves := movesAt S.moves cell
  count := S.moves.length
/-- one move, of those from done on and below upto -/
def mvOne (done upto : Nat) (num : Option Nat) (m : CMv) : Option (Option Nat) :=
  if done ≤ m.1 ∧ m.1 < upto then
    if m.2.1 ≠ none ∧ ¬ m.2.1 = num then none else some (if m.2.2 = none then num else m.2.2)
  else some num
def mvGo (done upto : Nat) : Option Nat → List CMv → Option (Option Nat)
  | num, [] => some num
  | num, m :: r => (mvOne done upto num m).bind fun num => mvGo done upto num r
def afterMoves (T : Trk) (st : TSt) (upto : Nat) : Option TSt := (mvGo st.done upto st.num T.moves).map fun num => ⟨upto, num, st.held⟩
def waysOn (T : Trk) (st : TSt) (at_ : Nat) : List (Option TSt × List Bool) :=
  if T.waits.getD at_ false = true then [(afterMoves T st (T.told.getD at_ 0), [])]
  else match afterSteps st (T.deeds.getD at_ []) with
    | none => [(none, [])]
    | some b => if b.done = T.told.getD at_ 0 then [(some b, [])] else [(some b, [false]), (afterMoves T b (b.done + 1), [true])]
def endsWell (T : Trk) (st : TSt) : Bool := match afterMoves T st T.count with
  | none => false
  | some m => match afterSteps m T.fin with
    | none => false
    | some e => decide (e.num = some T.last)
abbrev Rch : Type := List (TSt × List Bool)
/-- the ways of one state -/
def addWays (pace : List Bool) : List (Option TSt × List Bool) → Rch → Except (List Bool) Rch
  | [], f => .ok f
  | (none, t) :: _, _ => .error (pace ++ t)
  | (some b, t) :: r, f => addWays pace r (if b ∈ f.map Prod.fst then f else f ++ [(b, pace ++ t)])
def addAll (T : Trk) (at_ : Nat) : Rch → Rch → Except (List Bool) Rch
  | [], f => .ok f
  | (st, pace) :: r, f => match addWays pace (waysOn T st at_) f with
    | .error p => .error p
    | .ok f => addAll T at_ r f
def reachTo (T : Trk) : Nat → Except (List Bool) Rch
  | 0 => .ok [(T.start, [])]
  | i + 1 => match reachTo T i with
    | .error p => .error p
    | .ok rs => addAll T i rs []
def firstBad (T : Trk) : Rch → Option (List Bool)
  | [] => none
  | (st, pace) :: r => if endsWell T st = true then firstBad T r else some pace
def paceFound (T : Trk) : Option (List Bool) := match reachTo T T.deeds.length with
  | .error p => some p
  | .ok rs => firstBad T rs
def paceFrom (S : Scr) : List Nat → Option (List Bool)
  | [] => none
  | c :: r => match paceFound (trk S c) with
    | some p => some p
    | none => paceFrom S r
def paceAmiss (B : Brd) : Option (List Bool) := paceFrom (scr B) (List.range B.mem.length)
/-! ### the way of one pace -/
def trackStep (T : Trk) (i : Nat) (x : TSt × List Bool) : Option (TSt × List Bool) :=
  if T.waits.getD i false = true then (afterMoves T x.1 (T.told.getD i 0)).map fun s => (s, x.2)
  else (afterSteps x.1 (T.deeds.getD i [])).bind fun b =>
    if b.done = T.told.getD i 0 then some (b, x.2)
    else match x.2 with
      | false :: q => some (b, q)
      | true :: q => (afterMoves T b (b.done + 1)).map fun s => (s, q)
      | [] => (afterMoves T b (b.done + 1)).map fun s => (s, [])
def trackTo (T : Trk) (p : List Bool) : Nat → Option (TSt × List Bool)
  | 0 => some (T.start, p)
  | i + 1 => (trackTo T p i).bind (trackStep T i)
def trackOk (T : Trk) (p : List Bool) : Prop := ∃ st q, trackTo T p T.deeds.length = some (st, q) ∧ endsWell T st = true
theorem trackTo_none {T : Trk} {p : List Bool} {i : Nat} (h : trackTo T p i = none) : ∀ j, i ≤ j → trackTo T p j = none
  | 0, hj => by
    have : i = 0 := by omega
    rw [this] at h; exact h
  | j + 1, hj => by
    by_cases e : i = j + 1
    · rw [← e]; exact h
    · rw [trackTo, trackTo_none h j (by omega)]; rfl
/-- what is reached -/
structure RInv (T : Trk) (i : Nat) (rs : Rch) : Prop where
  snd : ∀ st pi, (st, pi) ∈ rs → ∀ rest, trackTo T (pi ++ rest) i = some (st, rest)
  cmp : ∀ p, ∃ st pi q, (st, pi) ∈ rs ∧ trackTo T p i = some (st, q)
theorem addWays_mem {pace : List Bool} : ∀ {ws : List (Option TSt × List Bool)} {f g : Rch}, addWays pace ws f = .ok g → (∀ x ∈ f, x ∈ g) ∧ (∀ x ∈ g, x ∈ f ∨ ∃ t, x.2 = pace ++ t ∧ (some x.1, t) ∈ ws) ∧ (∀ b t, (b, t) ∈ ws → ∃ s pi, b = some s ∧ (s, pi) ∈ g)
  | [], f, g, h => by
    simp only [addWays, Except.ok.injEq] at h
    subst h
    exact ⟨fun x hx => hx, fun x hx => .inl hx, fun b t hb => by cases hb⟩
  | (none, t) :: r, f, g, h => by simp [addWays] at h
  | (some b, t) :: r, f, g, h => by
    rw [addWays] at h
    obtain ⟨h1, h2, h3⟩ := addWays_mem h
    refine ⟨fun x hx => h1 x (by split <;> simp [hx]), fun x hx => ?_, fun b' t' hb => ?_⟩
    · rcases h2 x hx with h | ⟨t', e, h⟩
      · split at h
        · exact .inl h
        · rcases List.mem_append.mp h with h | h
          · exact .inl h
          · rw [List.mem_singleton] at h
            subst h
            exact .inr ⟨t, rfl, by simp⟩
      · exact .inr ⟨t', e, List.mem_cons_of_mem _ h⟩
    · rcases List.mem_cons.mp hb with e | hb
      · injection e with e1 e2
        subst e1 e2
        by_cases hm : b ∈ f.map Prod.fst
        · rw [if_pos hm] at h1
          obtain ⟨x, hx, rfl⟩ := List.mem_map.mp hm
          exact ⟨x.1, x.2, rfl, h1 x hx⟩
        · rw [if_neg hm] at h1
          exact ⟨b, pace ++ t', rfl, h1 _ (by simp)⟩
      · exact h3 b' t' hb
theorem addWays_err {pace p : List Bool} : ∀ {ws : List (Option TSt × List Bool)} {f : Rch}, addWays pace ws f = .error p → ∃ t, p = pace ++ t ∧ (none, t) ∈ ws
  | [], f, h => by simp [addWays] at h
  | (none, t) :: r, f, h => by
    simp only [addWays, Except.error.injEq] at h
    exact ⟨t, h.symm, by simp⟩
  | (some b, t) :: r, f, h => by
    rw [addWays] at h
    obtain ⟨t', e, h⟩ := addWays_err h
    exact ⟨t', e, List.mem_cons_of_mem _ h⟩
theorem addAll_mem {T : Trk} {i : Nat} : ∀ {rs f g : Rch}, addAll T i rs f = .ok g → (∀ x ∈ f, x ∈ g) ∧ (∀ x ∈ g, x ∈ f ∨ ∃ st pace t, (st, pace) ∈ rs ∧ x.2 = pace ++ t ∧ (some x.1, t) ∈ waysOn T st i) ∧ (∀ st pace, (st, pace) ∈ rs → ∀ b t, (b, t) ∈ waysOn T st i → ∃ s pi, b = some s ∧ (s, pi) ∈ g)
  | [], f, g, h => by
    simp only [addAll, Except.ok.injEq] at h
    subst h
    exact ⟨fun x hx => hx, fun x hx => .inl hx, fun st pace hb => by cases hb⟩
  | (st, pace) :: r, f, g, h => by
    rw [addAll] at h
    split at h
    · cases h
    · rename_i f' e
      obtain ⟨a1, a2, a3⟩ := addWays_mem e
      obtain ⟨b1, b2, b3⟩ := addAll_mem h
      refine ⟨fun x hx => b1 x (a1 x hx), fun x hx => ?_, fun st' pace' hm b t hb => ?_⟩
      · rcases b2 x hx with h | ⟨st', pace', t, h1, h2, h3⟩
        · rcases a2 x h with h | ⟨t, h1, h2⟩
          · exact .inl h
          · exact .inr ⟨st, pace, t, by simp, h1, h2⟩
        · exact .inr ⟨st', pace', t, List.mem_cons_of_mem _ h1, h2, h3⟩
      · rcases List.mem_cons.mp hm with e | hm
        · injection e with e1 e2
          subst e1 e2
          obtain ⟨s, pi, h1, h2⟩ := a3 b t hb
          exact ⟨s, pi, h1, b1 _ h2⟩
        · exact b3 st' pace' hm b t hb
theorem addAll_err {T : Trk} {i : Nat} {p : List Bool} : ∀ {rs f : Rch}, addAll T i rs f = .error p → ∃ st pace t, (st, pace) ∈ rs ∧ p = pace ++ t ∧ (none, t) ∈ waysOn T st i
  | [], f, h => by simp [addAll] at h
  | (st, pace) :: r, f, h => by
    rw [addAll] at h
    split at h
    · rename_i p' e
      cases h
      obtain ⟨t, h1, h2⟩ := addWays_err e
      exact ⟨st, pace, t, by simp, h1, h2⟩
    · obtain ⟨st', pace', t, h1, h2, h3⟩ := addAll_err h
      exact ⟨st', pace', t, List.mem_cons_of_mem _ h1, h2, h3⟩
/-- a way is a step of those paces that begin so -/
theorem way_step {T : Trk} {st : TSt} {i : Nat} {b : Option TSt} {t : List Bool} (h : (b, t) ∈ waysOn T st i) (rest : List Bool) : trackStep T i (st, t ++ rest) = b.map fun s => (s, rest) := by
  unfold waysOn at h
  unfold trackStep
  split at h
  · rename_i hw
    simp only [List.mem_singleton, Prod.mk.injEq] at h
    obtain ⟨rfl, rfl⟩ := h
    rw [if_pos hw]; rfl
  · rename_i hw
    rw [if_neg hw]
    split at h
    · rename_i e
      simp only [List.mem_singleton, Prod.mk.injEq] at h
      obtain ⟨rfl, rfl⟩ := h
      dsimp only
      rw [e]; rfl
    · rename_i b' e
      dsimp only
      rw [e, Option.bind_some]
      split at h
      · rename_i hd
        simp only [List.mem_singleton, Prod.mk.injEq] at h
        obtain ⟨rfl, rfl⟩ := h
        rw [if_pos hd]; rfl
      · rename_i hd
        rw [if_neg hd]
        simp only [List.mem_cons, Prod.mk.injEq, List.not_mem_nil, or_false] at h
        rcases h with ⟨rfl, rfl⟩ | ⟨rfl, rfl⟩
        · rfl
        · rfl
/-- each step is one of the ways -/
theorem step_way {T : Trk} {st : TSt} {i : Nat} (p : List Bool) : ∃ b t q, (b, t) ∈ waysOn T st i ∧ trackStep T i (st, p) = b.map fun s => (s, q) := by
  unfold waysOn trackStep
  split
  · exact ⟨_, _, p, List.mem_singleton.mpr rfl, rfl⟩
  · split
    · rename_i e
      dsimp only
      rw [e]
      exact ⟨none, [], [], by simp, rfl⟩
    · rename_i b e
      dsimp only
      rw [e, Option.bind_some]
      split
      · exact ⟨_, _, p, List.mem_singleton.mpr rfl, rfl⟩
      · match p with
        | [] => exact ⟨_, [true], [], by simp, rfl⟩
        | false :: q => exact ⟨some b, [false], q, by simp, rfl⟩
        | true :: q => exact ⟨_, [true], q, by simp, rfl⟩
theorem reach_inv {T : Trk} : ∀ {i : Nat} {rs : Rch}, reachTo T i = .ok rs → RInv T i rs
  | 0, rs, h => by
    simp only [reachTo, Except.ok.injEq] at h
    subst h
    refine ⟨fun st pi hm rest => ?_, fun p => ⟨T.start, [], p, by simp, rfl⟩⟩
    simp only [List.mem_singleton, Prod.mk.injEq] at hm
    obtain ⟨rfl, rfl⟩ := hm
    rfl
  | i + 1, g, h => by
    rw [reachTo] at h
    split at h
    · cases h
    · rename_i rs e
      have I := reach_inv e
      obtain ⟨_, a2, a3⟩ := addAll_mem h
      refine ⟨fun st pi hm rest => ?_, fun p => ?_⟩
      · rcases a2 _ hm with h | ⟨st', pace, t, h1, h2, h3⟩
        · cases h
        · dsimp only at h2 h3
          rw [trackTo, h2, List.append_assoc, I.snd _ _ h1, Option.bind_some, way_step h3]; rfl
      · obtain ⟨st, pi, q, hm, hp⟩ := I.cmp p
        obtain ⟨b, t, q', hb, hs⟩ := step_way (T := T) (st := st) (i := i) q
        obtain ⟨s, pi', rfl, hg⟩ := a3 st pi hm b t hb
        exact ⟨s, pi', q', hg, by rw [trackTo, hp, Option.bind_some, hs]; rfl⟩
theorem reach_err {T : Trk} {p : List Bool} : ∀ {i : Nat}, reachTo T i = .error p → trackTo T p i = none
  | 0, h => by simp [reachTo] at h
  | i + 1, h => by
    rw [reachTo] at h
    split at h
    · rename_i p' e
      cases h
      rw [trackTo, reach_err e]; rfl
    · rename_i rs e
      have I := reach_inv e
      obtain ⟨st, pace, t, h1, h2, h3⟩ := addAll_err h
      have := way_step h3 []
      rw [List.append_nil] at this
      rw [trackTo, h2, I.snd _ _ h1, Option.bind_some, this]; rfl
theorem firstBad_some {T : Trk} {p : List Bool} : ∀ {rs : Rch}, firstBad T rs = some p → ∃ st, (st, p) ∈ rs ∧ endsWell T st = false
  | [], h => by simp [firstBad] at h
  | (st, pace) :: r, h => by
    rw [firstBad] at h
    split at h
    · obtain ⟨st', h1, h2⟩ := firstBad_some h
      exact ⟨st', List.mem_cons_of_mem _ h1, h2⟩
    · rename_i hw
      cases h
      exact ⟨st, by simp, by simpa using hw⟩
theorem firstBad_none {T : Trk} : ∀ {rs : Rch}, firstBad T rs = none → ∀ st p, (st, p) ∈ rs → endsWell T st = true
  | [], h, st, p, hm => by cases hm
  | (st, pace) :: r, h, st', p, hm => by
    rw [firstBad] at h
    split at h
    · rename_i hw
      rcases List.mem_cons.mp hm with e | hm
      · injection e with e1 e2
        rw [e1]; exact hw
      · exact firstBad_none h st' p hm
    · cases h
theorem found_not {T : Trk} {p : List Bool} (h : paceFound T = some p) : ¬ trackOk T p := by
  rintro ⟨st, q, h1, h2⟩
  unfold paceFound at h
  split at h
  · rename_i p' e
    cases h
    rw [reach_err e] at h1; cases h1
  · rename_i rs e
    obtain ⟨st', hm, hw⟩ := firstBad_some h
    have := (reach_inv e).snd _ _ hm []
    rw [List.append_nil, h1] at this
    injection this with this
    injection this with e1 e2
    rw [← e1, h2] at hw; cases hw
theorem none_ok {T : Trk} (h : paceFound T = none) (p : List Bool) : trackOk T p := by
  unfold paceFound at h
  split at h
  · cases h
  · rename_i rs e
    obtain ⟨st, pi, q, hm, hp⟩ := (reach_inv e).cmp p
    exact ⟨st, q, hp, firstBad_none h _ _ hm⟩
theorem paceFrom_some {S : Scr} {p : List Bool} : ∀ {cs : List Nat}, paceFrom S cs = some p → ∃ c ∈ cs, paceFound (trk S c) = some p
  | [], h => by simp [paceFrom] at h
  | c :: r, h => by
    rw [paceFrom] at h
    split at h
    · rename_i p' e
      cases h
      exact ⟨c, by simp, e⟩
    · obtain ⟨c', h1, h2⟩ := paceFrom_some h
      exact ⟨c', List.mem_cons_of_mem _ h1, h2⟩
theorem paceFrom_none {S : Scr} : ∀ {cs : List Nat}, paceFrom S cs = none → ∀ c ∈ cs, paceFound (trk S c) = none
  | [], h, c, hm => by cases hm
  | c :: r, h, c', hm => by
    rw [paceFrom] at h
    split at h
    · cases h
    · rename_i e
      rcases List.mem_cons.mp hm with rfl | hm
      · exact e
      · exact paceFrom_none h c' hm
end Vt
namespace Vt
open PySem PySem.Spec PyProof.Rows L2
/-! ### moves of a cell, by their numbers -/
def single (k : Nat) (num : Option Nat) (m : Nat × Nat × Nat) : Option (Option Nat) :=
  if m.1 = k ∧ ¬ some m.2.2 = num then none else some (if m.2.1 = k then some m.2.2 else num)
def singles (k : Nat) : Option Nat → List (Nat × Nat × Nat) → Option (Option Nat)
  | num, [] => some num
  | num, m :: r => (single k num m).bind fun num => singles k num r
theorem singles_app {k : Nat} : ∀ (a b : List (Nat × Nat × Nat)) (num : Option Nat), singles k num (a ++ b) = (singles k num a).bind fun num => singles k num b
  | [], b, num => rfl
  | m :: r, b, num => by
    rw [List.cons_append, singles, singles]
    cases single k num m with
    | none => rfl
    | some n => rw [Option.bind_some, Option.bind_some, singles_app r b n]
theorem mvGo_app (a b : Nat) : ∀ (xs ys : List CMv) (num : Option Nat), mvGo a b num (xs ++ ys) = (mvGo a b num xs).bind fun num => mvGo a b num ys
  | [], ys, num => rfl
  | m :: r, ys, num => by
    rw [List.cons_append, mvGo, mvGo]
    cases mvOne a b num m with
    | none => rfl
    | some n => rw [Option.bind_some, Option.bind_some, mvGo_app a b r ys n]
theorem mv_at {a b k i : Nat} {num : Option Nat} {m : Nat × Nat × Nat} : mvGo a b num (moveAt k i m) = if a ≤ i ∧ i < b then single k num m else some num := by
  obtain ⟨s, g, n⟩ := m
  unfold moveAt single
  by_cases h : a ≤ i ∧ i < b
  · rw [if_pos h]
    by_cases e1 : s = k
    · by_cases e2 : g = k
      · simp [mvGo, mvOne, h, e1, e2]
      · simp [mvGo, mvOne, h, e1, e2]
    · by_cases e2 : g = k
      · simp [mvGo, mvOne, h, e1, e2]
      · simp [mvGo, e1, e2]
  · rw [if_neg h]
    split <;> simp [mvGo, mvOne, h]
theorem mv_from {a b k : Nat} : ∀ (ms : List (Nat × Nat × Nat)) (i : Nat) (num : Option Nat), mvGo a b num (movesFrom k i ms) = singles k num ((ms.take (b - i)).drop (a - i))
  | [], i, num => by simp [movesFrom, mvGo, singles]
  | m :: r, i, num => by
    rw [movesFrom, mvGo_app, mv_at]
    by_cases h1 : i < b
    · rw [show b - i = (b - (i + 1)) + 1 by omega, List.take_succ_cons]
      by_cases h2 : a ≤ i
      · rw [if_pos ⟨h2, h1⟩, show a - i = 0 by omega, List.drop_zero, singles]
        congr 1
        funext n
        rw [mv_from r (i + 1) n, show a - (i + 1) = 0 by omega, List.drop_zero]
      · rw [if_neg (by omega), Option.bind_some, mv_from r (i + 1) num, show a - i = (a - (i + 1)) + 1 by omega, List.drop_succ_cons]
    · rw [if_neg (by omega), Option.bind_some, mv_from r (i + 1) num, show b - i = 0 by omega, show b - (i + 1) = 0 by omega]
      simp
theorem range_app {α : Type} (ms : List α) {a b c : Nat} (h1 : a ≤ b) (h2 : b ≤ c) : (ms.take c).drop a = (ms.take b).drop a ++ (ms.take c).drop b := by
  have e : ms.take c = ms.take b ++ (ms.take c).drop b := by
    conv => lhs; rw [← List.take_append_drop b (ms.take c)]
    rw [List.take_take, Nat.min_eq_left h2]
  rcases Nat.lt_or_ge a (ms.take b).length with h | h
  · conv => lhs; rw [e]
    rw [List.drop_append_of_le_length (by omega)]
  · have h3 : (ms.take b).drop a = [] := List.drop_eq_nil_iff.mpr h
    rw [h3, List.nil_append]
    rw [List.length_take] at h
    rcases Nat.lt_or_ge b ms.length with h4 | h4
    · rw [show a = b by omega]
    · rw [List.drop_eq_nil_iff.mpr (by rw [List.length_take]; omega), List.drop_eq_nil_iff.mpr (by rw [List.length_take]; omega)]
section
variable {S : Scr} {k : Nat}
theorem after_eq {st : TSt} {u : Nat} : afterMoves (trk S k) st u = (singles k st.num ((S.moves.take u).drop st.done)).map fun num => ⟨u, num, st.held⟩ := by
  unfold afterMoves
  have := mv_from (a := st.done) (b := u) (k := k) S.moves 0 st.num
  rw [show (trk S k).moves = movesFrom k 0 S.moves from rfl, this]; rfl
theorem after_self {st : TSt} : afterMoves (trk S k) st st.done = some st := by
  rw [after_eq, List.drop_eq_nil_iff.mpr (by rw [List.length_take]; omega)]; rfl
theorem after_go {st s1 : TSt} {u v : Nat} (h1 : st.done ≤ u) (h2 : u ≤ v) (h : afterMoves (trk S k) st u = some s1) : afterMoves (trk S k) st v = afterMoves (trk S k) s1 v := by
  rw [after_eq] at h
  obtain ⟨n, e1, e2⟩ := Option.map_eq_some_iff.mp h
  subst e2
  rw [after_eq, after_eq, range_app S.moves h1 h2, singles_app, e1]; rfl
theorem after_none {st : TSt} {u v : Nat} (h1 : st.done ≤ u) (h2 : u ≤ v) (h : afterMoves (trk S k) st u = none) : afterMoves (trk S k) st v = none := by
  rw [after_eq, Option.map_eq_none_iff] at h
  rw [after_eq, range_app S.moves h1 h2, singles_app, h]; rfl
theorem after_one {st : TSt} {m : Nat × Nat × Nat} (h : S.moves[st.done]? = some m) : afterMoves (trk S k) st (st.done + 1) = (single k st.num m).map fun num => ⟨st.done + 1, num, st.held⟩ := by
  rw [after_eq]
  have hl := (List.getElem?_eq_some_iff.mp h).1
  have : (S.moves.take (st.done + 1)).drop st.done = [m] := by
    rw [List.drop_take, show st.done + 1 - st.done = 1 by omega]
    rw [List.take_one, List.head?_drop, h]; rfl
  rw [this, singles]
  cases single k st.num m with
  | none => rfl
  | some n => rfl
theorem after_num {st s1 : TSt} {u : Nat} (h : afterMoves (trk S k) st u = some s1) : s1.done = u ∧ s1.held = st.held := by
  rw [after_eq] at h
  obtain ⟨n, e1, e2⟩ := Option.map_eq_some_iff.mp h
  subst e2
  exact ⟨rfl, rfl⟩
end
/-! ### steps of a cell -/
theorem afterSteps_app : ∀ (a b : List (Str × Nat)) (st : TSt), afterSteps st (a ++ b) = (afterSteps st a).bind fun st => afterSteps st b
  | [], b, st => rfl
  | s :: r, b, st => by
    rw [List.cons_append, afterSteps, afterSteps]
    cases afterStep st s with
    | none => rfl
    | some n => rw [Option.bind_some, Option.bind_some, afterSteps_app r b n]
def goS (k : Nat) (st : TSt) (N : List Stp) : Option TSt := afterSteps st (stepsAt N k)
theorem goS_nil {k : Nat} {st : TSt} : goS k st [] = some st := rfl
theorem goS_app {k : Nat} {st : TSt} {a b : List Stp} : goS k st (a ++ b) = (goS k st a).bind fun st => goS k st b := by
  unfold goS stepsAt
  rw [List.flatMap_append, afterSteps_app]
theorem goS_one {k : Nat} {st : TSt} {s : Stp} : goS k st [s] = afterSteps st (stepAt k s) := by
  unfold goS stepsAt; rw [List.flatMap_cons, List.flatMap_nil, List.append_nil]
theorem goS_done {k : Nat} : ∀ {N : List Stp} {st st' : TSt}, goS k st N = some st' → st'.done = st.done := by
  have one : ∀ {s : Str × Nat} {st st' : TSt}, afterStep st s = some st' → st'.done = st.done := fun {s st st'} h => by
    unfold afterStep at h
    split at h
    · cases h
    · simp only [Option.some.injEq] at h
      subst h
      split
      · rfl
      · split
        · rfl
        · split
          · rfl
          · split <;> rfl
  have all : ∀ (ss : List (Str × Nat)) (st st' : TSt), afterSteps st ss = some st' → st'.done = st.done := by
    intro ss
    induction ss with
    | nil => intro st st' h; simp only [afterSteps, Option.some.injEq] at h; rw [h]
    | cons s r ih =>
      intro st st' h
      rw [afterSteps] at h
      obtain ⟨s1, h1, h2⟩ := Option.bind_eq_some_iff.mp h
      rw [ih _ _ h2, one h1]
  intro N st st' h
  exact all _ _ _ h
section
variable {k l n c : Nat} {st : TSt}
theorem st_one {s : Str × Nat} : afterSteps st [s] = afterStep st s := by
  rw [afterSteps]
  cases afterStep st s <;> rfl
theorem st_take : afterStep st ("take", n) = some { st with held := st.num } := by
  unfold afterStep
  dsimp only
  rw [if_neg (fun z => absurd z.1 (by decide)), if_pos rfl]
theorem st_write : afterStep st ("write", n) = some { st with held := some n } := by
  unfold afterStep
  dsimp only
  rw [if_neg (fun z => absurd z.1 (by decide)), if_neg (by decide), if_pos rfl]
theorem st_clean : afterStep st ("clean", n) = some { st with num := st.held } := by
  unfold afterStep
  dsimp only
  rw [if_neg (fun z => absurd z.1 (by decide)), if_neg (by decide), if_neg (by decide), if_pos rfl]
theorem st_drop : afterStep st ("drop", n) = some { st with held := none } := by
  unfold afterStep
  dsimp only
  rw [if_neg (fun z => absurd z.1 (by decide)), if_neg (by decide), if_neg (by decide), if_neg (by decide), if_pos rfl]
theorem st_read : afterStep st ("read", n) = if ¬ st.held = some n then none else some st := by
  unfold afterStep
  dsimp only
  by_cases h : st.held = some n
  · rw [if_neg (fun z : ((("read" : Str) = ("read" : Str)) ∧ ¬ st.held = some n) => z.2 h), if_neg (c := ¬ st.held = some n) (fun z => z h), if_neg (c := ("read" : Str) = "take") (by decide), if_neg (c := ("read" : Str) = "write") (by decide), if_neg (c := ("read" : Str) = "clean") (by decide), if_neg (c := ("read" : Str) = "drop") (by decide)]
  · rw [if_pos ⟨rfl, h⟩, if_pos h]
theorem at_rw {w : Str} (h : w = "read" ∨ w = "write") : stepAt k (w, c, n) = if c = k then [(w, n)] else [] := by
  unfold stepAt
  dsimp only
  rw [if_neg (c := (w = ("take" : Str) ∨ w = ("clean" : Str) ∨ w = ("drop" : Str)) ∧ c = k / 4) (by rintro ⟨z, _⟩; rcases h with rfl | rfl <;> rcases z with z | z | z <;> exact absurd z (by decide)), List.append_nil]
  by_cases e : c = k
  · rw [if_pos ⟨h, e⟩, if_pos e]
  · rw [if_neg (fun z => e z.2), if_neg e]
theorem at_tcd {w : Str} (h : w = "take" ∨ w = "clean" ∨ w = "drop") : stepAt k (w, l, n) = if l = k / 4 then [(w, n)] else [] := by
  unfold stepAt
  dsimp only
  rw [if_neg (c := (w = ("read" : Str) ∨ w = ("write" : Str)) ∧ l = k) (by rintro ⟨z, _⟩; rcases h with rfl | rfl | rfl <;> rcases z with z | z <;> exact absurd z (by decide)), List.nil_append]
  by_cases e : l = k / 4
  · rw [if_pos ⟨h, e⟩, if_pos e]
  · rw [if_neg (fun z => e z.2), if_neg e]
theorem go_take : goS k st [("take", l, n)] = some (if l = k / 4 then { st with held := st.num } else st) := by
  rw [goS_one, at_tcd (.inl rfl)]
  by_cases h : l = k / 4
  · rw [if_pos h, if_pos h, st_one, st_take]
  · rw [if_neg h, if_neg h]; rfl
theorem go_read : goS k st [("read", c, n)] = if c = k ∧ ¬ st.held = some n then none else some st := by
  rw [goS_one, at_rw (.inl rfl)]
  by_cases h : c = k
  · rw [if_pos h, st_one, st_read]
    by_cases h2 : st.held = some n
    · rw [if_neg (fun z => z h2), if_neg (fun z => z.2 h2)]
    · rw [if_pos h2, if_pos ⟨h, h2⟩]
  · rw [if_neg h, if_neg (fun z => h z.1)]; rfl
theorem go_write : goS k st [("write", c, n)] = some (if c = k then { st with held := some n } else st) := by
  rw [goS_one, at_rw (.inr rfl)]
  by_cases h : c = k
  · rw [if_pos h, if_pos h, st_one, st_write]
  · rw [if_neg h, if_neg h]; rfl
theorem go_clean : goS k st [("clean", l, n)] = some (if l = k / 4 then { st with num := st.held } else st) := by
  rw [goS_one, at_tcd (.inr (.inl rfl))]
  by_cases h : l = k / 4
  · rw [if_pos h, if_pos h, st_one, st_clean]
  · rw [if_neg h, if_neg h]; rfl
theorem go_drop : goS k st [("drop", l, n)] = some (if l = k / 4 then { st with held := none } else st) := by
  rw [goS_one, at_tcd (.inr (.inr rfl))]
  by_cases h : l = k / 4
  · rw [if_pos h, if_pos h, st_one, st_drop]
  · rw [if_neg h, if_neg h]; rfl
theorem go_other {w : Str} (h1 : ¬ w = "read") (h2 : ¬ w = "write") (h3 : ¬ w = "take") (h4 : ¬ w = "clean") (h5 : ¬ w = "drop") : goS k st [(w, l, n)] = some st := by
  rw [goS_one]
  unfold stepAt
  dsimp only
  rw [if_neg (by rintro ⟨h | h, _⟩; exact h1 h; exact h2 h), if_neg (by rintro ⟨h | h | h, _⟩; exact h3 h; exact h4 h; exact h5 h)]; rfl
end
/-! ### a cell of a machine -/
def pj (done k : Nat) (M : Mst) : TSt := ⟨done, some (M.mem.getD k 0), if M.holds (k / 4) = true then some ((M.cellsOf (k / 4)).getD (k % 4) 0) else none⟩
theorem holds_of {M M' : Mst} {l : Nat} (h : M'.held[l]? = M.held[l]?) : M'.holds l = M.holds l := by unfold Mst.holds; rw [h]
theorem cells_of {M M' : Mst} {l : Nat} (h : M'.held[l]? = M.held[l]?) : M'.cellsOf l = M.cellsOf l := by unfold Mst.cellsOf; rw [h]
theorem pj_of {M M' : Mst} {d k : Nat} (h1 : M'.mem.getD k 0 = M.mem.getD k 0) (h2 : M'.held[k / 4]? = M.held[k / 4]?) : pj d k M' = pj d k M := by
  unfold pj; rw [h1, holds_of h2, cells_of h2]
theorem pj_same {M M' : Mst} {d k : Nat} (h1 : M'.mem = M.mem) (h2 : M'.held = M.held) : pj d k M' = pj d k M := pj_of (by rw [h1]) (by rw [h2])
theorem getD_at {xs : List Nat} {i j : Nat} (h : xs[i]? = xs[j]?) : xs.getD i 0 = xs.getD j 0 := by
  rw [List.getD_eq_getElem?_getD, List.getD_eq_getElem?_getD, h]
def takeN (M : Mst) (l : Nat) : List Stp := if M.holds l = true then [] else [("take", l, 0)]
theorem take_pj {cells : Nat} {M : Mst} {d k l : Nat} (ok : MOk0 cells M) (hk : k < cells) (hl : l < cells / 4) : goS k (pj d k M) (takeN M l) = some (pj d k (M.take l)) := by
  unfold takeN
  cases hh : M.holds l with
  | true => rw [if_pos rfl, Mst.take, if_pos hh]; rfl
  | false =>
    rw [if_neg (by simp), go_take, Mst.take, if_neg (c := M.holds l = true) (by rw [hh]; simp)]
    by_cases e : l = k / 4
    · subst e
      rw [if_pos rfl]
      congr 1
      unfold pj
      have hs : (M.held.set (k / 4) (some ((M.mem.drop (4 * (k / 4))).take 4)))[k / 4]? = some (some ((M.mem.drop (4 * (k / 4))).take 4)) := List.getElem?_set_self (by rw [ok.held]; exact hl)
      have h2 : Mst.holds (Mst.tell { M with held := M.held.set (k / 4) (some ((M.mem.drop (4 * (k / 4))).take 4)) } "take" (k / 4) 0) (k / 4) = true := Mst.holds_iff.mpr ⟨_, hs⟩
      have h3 : Mst.cellsOf (Mst.tell { M with held := M.held.set (k / 4) (some ((M.mem.drop (4 * (k / 4))).take 4)) } "take" (k / 4) 0) (k / 4) = (M.mem.drop (4 * (k / 4))).take 4 := Mst.cellsOf_of hs
      rw [h2, h3, if_pos rfl]
      show TSt.mk d (some (M.mem.getD k 0)) (some (M.mem.getD k 0)) = TSt.mk d (some (M.mem.getD k 0)) (some (((M.mem.drop (4 * (k / 4))).take 4).getD (k % 4) 0))
      congr 2
      rw [List.getD_eq_getElem?_getD, List.getD_eq_getElem?_getD, List.getElem?_take_of_lt (Nat.mod_lt _ (by decide)), List.getElem?_drop]
      congr 2
      omega
    · rw [if_neg e]
      congr 1
      symm; exact pj_of rfl (List.getElem?_set_ne e)
theorem write0_pj {cells : Nat} {M : Mst} {d k c n : Nat} (ok : MOk0 cells M) (hk : k < cells) (hc : c < cells) (hh : M.holds (c / 4) = true) : goS k (pj d k M) [("write", c, n)] = some (pj d k (M.write0 c n)) := by
  rw [go_write]
  congr 1
  obtain ⟨cs, ecs⟩ := Mst.holds_iff.mp hh
  have hlen := Mst.holds_lt hh
  have ce := Mst.cellsOf_of ecs
  have c4 := ok.four _ _ ecs
  by_cases el : c / 4 = k / 4
  · have hs : (M.write0 c n).held[k / 4]? = some (some (cs.set (c % 4) n)) := by
      rw [← el, Mst.write0, ce]
      exact List.getElem?_set_self hlen
    have g1 : (M.write0 c n).holds (k / 4) = true := Mst.holds_iff.mpr ⟨_, hs⟩
    have g2 : (M.write0 c n).cellsOf (k / 4) = cs.set (c % 4) n := Mst.cellsOf_of hs
    unfold pj
    rw [g1, g2, if_pos rfl, ← el, hh, if_pos rfl, ce]
    by_cases e : c = k
    · subst e
      rw [if_pos rfl]
      congr 2
      rw [List.getD_eq_getElem?_getD, List.getElem?_set_self (by rw [c4]; exact Nat.mod_lt _ (by decide))]; rfl
    · rw [if_neg e]
      congr 2
      rw [List.getD_eq_getElem?_getD, List.getD_eq_getElem?_getD, List.getElem?_set_ne (by omega)]
  · rw [if_neg (fun z => el (by rw [z]))]
    symm; exact pj_of rfl (List.getElem?_set_ne el)
def cleanN (M : Mst) (l : Nat) : List Stp := if M.touched l = true then [("clean", l, 0)] else []
theorem clean_pj {cells : Nat} {M : Mst} {d k l : Nat} (ok : MOk0 cells M) (hk : k < cells) : goS k (pj d k M) (cleanN M l) = some (pj d k (M.clean l)) := by
  unfold cleanN
  cases ht : M.touched l with
  | false => rw [if_neg (by simp), Mst.clean, if_neg (by rw [ht]; simp)]; rfl
  | true =>
    rw [if_pos rfl, go_clean, Mst.clean, if_pos (c := M.touched l = true) ht]
    congr 1
    have hh := ok.th l ht
    obtain ⟨cs, ecs⟩ := Mst.holds_iff.mp hh
    have ce := Mst.cellsOf_of ecs
    have c4 := ok.four _ _ ecs
    have hl := Mst.holds_lt hh
    have lm : 4 * l + 4 ≤ M.mem.length := by rw [ok.mem]; have := ok.lines; have := ok.held; omega
    have hmem : ∀ j, (M.mem.take (4 * l) ++ M.cellsOf l ++ M.mem.drop (4 * l + 4))[j]? = if l = j / 4 then cs[j % 4]? else M.mem[j]? := fun j => by
      have t1 : (M.mem.take (4 * l)).length = 4 * l := by rw [List.length_take]; omega
      rw [ce]
      by_cases e : l = j / 4
      · rw [if_pos e, List.getElem?_append_left (by rw [List.length_append, t1, c4]; omega), List.getElem?_append_right (by rw [t1]; omega), t1]
        congr 1; omega
      · rw [if_neg e]
        rcases Nat.lt_or_ge j (4 * l) with h | h
        · rw [List.getElem?_append_left (by rw [List.length_append, t1, c4]; omega), List.getElem?_append_left (by rw [t1]; exact h), List.getElem?_take_of_lt h]
        · rw [List.getElem?_append_right (by rw [List.length_append, t1, c4]; omega), List.length_append, t1, c4, List.getElem?_drop]
          congr 1; omega
    by_cases e : l = k / 4
    · subst e
      rw [if_pos rfl]
      unfold pj
      rw [hh, if_pos rfl]
      have g : Mst.holds (Mst.tell { M with mem := M.mem.take (4 * (k / 4)) ++ M.cellsOf (k / 4) ++ M.mem.drop (4 * (k / 4) + 4), tou := M.tou.set (k / 4) false } "clean" (k / 4) 0) (k / 4) = true := hh
      rw [g, if_pos rfl]
      show TSt.mk d (some ((M.cellsOf (k / 4)).getD (k % 4) 0)) (some ((M.cellsOf (k / 4)).getD (k % 4) 0)) = TSt.mk d (some ((M.mem.take (4 * (k / 4)) ++ M.cellsOf (k / 4) ++ M.mem.drop (4 * (k / 4) + 4)).getD k 0)) (some ((M.cellsOf (k / 4)).getD (k % 4) 0))
      congr 2
      rw [List.getD_eq_getElem?_getD, List.getD_eq_getElem?_getD, hmem, if_pos rfl, ce]
    · rw [if_neg e]
      symm
      refine pj_of ?_ rfl
      show (M.mem.take (4 * l) ++ M.cellsOf l ++ M.mem.drop (4 * l + 4)).getD k 0 = _
      rw [List.getD_eq_getElem?_getD, hmem, if_neg e, List.getD_eq_getElem?_getD]
def dropN (M : Mst) (l : Nat) : List Stp := if M.holds l = true then [("drop", l, 0)] else []
theorem drop_pj {cells : Nat} {M : Mst} {d k l : Nat} (ok : MOk0 cells M) (hk : k < cells) : goS k (pj d k M) (dropN M l) = some (pj d k (M.drop l)) := by
  unfold dropN
  cases hh : M.holds l with
  | false => rw [if_neg (by simp), Mst.drop, if_neg (by rw [hh]; simp)]; rfl
  | true =>
    rw [if_pos rfl, go_drop, Mst.drop, if_pos (c := M.holds l = true) hh]
    congr 1
    have hl := Mst.holds_lt hh
    by_cases e : l = k / 4
    · subst e
      rw [if_pos rfl]
      unfold pj
      have g : Mst.holds (Mst.tell { M with held := M.held.set (k / 4) none, tou := M.tou.set (k / 4) false } "drop" (k / 4) 0) (k / 4) = false := by
        cases z : Mst.holds (Mst.tell { M with held := M.held.set (k / 4) none, tou := M.tou.set (k / 4) false } "drop" (k / 4) 0) (k / 4) with
        | false => rfl
        | true =>
          obtain ⟨cs, e⟩ := Mst.holds_iff.mp z
          have e' : (M.held.set (k / 4) none)[k / 4]? = some (some cs) := e
          rw [List.getElem?_set_self hl] at e'; cases e'
      rw [g]; rfl
    · rw [if_neg e]
      symm; exact pj_of rfl (List.getElem?_set_ne e)
end Vt
namespace Vt
open PySem PySem.Spec PyProof.Rows L2
/-! ### what is amiss so far -/
section
variable {rd ft : List (Nat × Nat)} {M : Mst}
def ws (rd ft : List (Nat × Nat)) (M : Mst) : Wst := M.rows.foldl (wstep rd ft) ⟨[], 0, 0⟩
theorem ws_rows {M M' : Mst} (h : M'.rows = M.rows) : ws rd ft M' = ws rd ft M := by unfold ws; rw [h]
theorem ws_tell {w : Str} {p n : Nat} : ws rd ft (M.tell w p n) = wstep rd ft (ws rd ft M) ⟨M.beats, w, p, n⟩ := by
  show (M.rows ++ [_]).foldl _ _ = _
  rw [List.foldl_append]; rfl
theorem wstep_q {s : Wst} {b p n : Nat} {w : Str} (h1 : ¬ w = "read") (h2 : ¬ w = "fetch") : wstep rd ft s ⟨b, w, p, n⟩ = s := by
  unfold wstep
  rw [if_neg h1, if_neg h2]
theorem ws_q {w : Str} {p n : Nat} (h1 : ¬ w = "read") (h2 : ¬ w = "fetch") : ws rd ft (M.tell w p n) = ws rd ft M := by rw [ws_tell, wstep_q h1 h2]
theorem ws_take {l : Nat} : ws rd ft (M.take l) = ws rd ft M := by
  unfold Mst.take
  split
  · rfl
  · rw [ws_q (by decide) (by decide)]; rfl
theorem ws_read {c : Nat} : ws rd ft (M.read c) = ⟨(ws rd ft M).found ++ (if M.readN c = (rd.getD (ws rd ft M).nr (0, 0)).2 then [] else [⟨(M.take (c / 4)).beats, "read", c, M.readN c⟩]), (ws rd ft M).nr + 1, (ws rd ft M).nf⟩ := by
  unfold Mst.read
  rw [ws_tell, ws_take]
  unfold wstep
  rw [if_pos rfl]
theorem ws_write {c n : Nat} : ws rd ft (M.write c n) = ws rd ft M := by
  unfold Mst.write
  rw [ws_q (by decide) (by decide)]
  exact ws_take
theorem ws_clean {l : Nat} : ws rd ft (M.clean l) = ws rd ft M := by
  unfold Mst.clean
  split
  · rw [ws_q (by decide) (by decide)]; rfl
  · rfl
theorem ws_drop {l : Nat} : ws rd ft (M.drop l) = ws rd ft M := by
  unfold Mst.drop
  split
  · rw [ws_q (by decide) (by decide)]; rfl
  · rfl
theorem ws_finish : ws rd ft M.finish = ws rd ft M := by
  unfold Mst.finish
  rw [ws_clean, ws_clean, ws_clean, ws_clean]
/-- what was found stays found -/
theorem wfold_mono : ∀ (rs : List Row) (s : Wst), s.found ≠ [] → (rs.foldl (wstep rd ft) s).found ≠ []
  | [], s, h => h
  | r :: rs, s, h => by
    rw [List.foldl_cons]
    refine wfold_mono rs _ fun z => h ?_
    unfold wstep at z
    split at z
    · exact (List.append_eq_nil_iff.mp z).1
    · split at z
      · exact (List.append_eq_nil_iff.mp z).1
      · exact z
theorem ws_mono {M M' : Mst} (h : ∃ N, M'.rows = M.rows ++ N) (hf : (ws rd ft M).found ≠ []) : (ws rd ft M').found ≠ [] := by
  obtain ⟨N, e⟩ := h
  unfold ws
  rw [e, List.foldl_append]
  exact wfold_mono N _ hf
end
/-! ### a machine beside the processor alone -/
structure Alk (cells : Nat) (M W : Mst) : Prop where
  m : MOk0 cells M
  w : MOk0 cells W
  hol : ∀ l, W.holds l = M.holds l
  tou : W.tou = M.tou
theorem holds_set {M M' : Mst} {l : Nat} {cs : List Nat} (hl : l < M.held.length) (h : M'.held = M.held.set l (some cs)) (k : Nat) : M'.holds k = if k = l then true else M.holds k := by
  by_cases e : k = l
  · subst e
    rw [if_pos rfl]
    exact Mst.holds_iff.mpr ⟨cs, by rw [h]; exact List.getElem?_set_self hl⟩
  · rw [if_neg e]
    exact holds_of (by rw [h]; exact List.getElem?_set_ne (fun z => e z.symm))
theorem holds_unset {M M' : Mst} {l : Nat} (hl : l < M.held.length) (h : M'.held = M.held.set l none) (k : Nat) : M'.holds k = if k = l then false else M.holds k := by
  by_cases e : k = l
  · subst e
    rw [if_pos rfl]
    unfold Mst.holds
    rw [h, List.getElem?_set_self hl]
  · rw [if_neg e]
    exact holds_of (by rw [h]; exact List.getElem?_set_ne (fun z => e z.symm))
theorem holds_take {cells : Nat} {M : Mst} {l : Nat} (ok : MOk0 cells M) (hl : l < cells / 4) (k : Nat) : (M.take l).holds k = if k = l then true else M.holds k := by
  unfold Mst.take
  cases hh : M.holds l with
  | true =>
    rw [if_pos rfl]
    by_cases e : k = l
    · rw [if_pos e, e, hh]
    · rw [if_neg e]
  | false =>
    rw [if_neg (by simp)]
    exact holds_set (by rw [ok.held]; exact hl) rfl k
section
variable {cells : Nat} {M W : Mst}
theorem Alk.take {l : Nat} (a : Alk cells M W) (hl : l < cells / 4) : Alk cells (M.take l) (W.take l) := by
  refine ⟨a.m.take hl, a.w.take hl, fun k => ?_, ?_⟩
  · rw [holds_take a.m hl, holds_take a.w hl, a.hol]
  · have t : ∀ X : Mst, (X.take l).tou = X.tou := fun X => by unfold Mst.take; split <;> rfl
    rw [t, t]; exact a.tou
theorem Alk.tell {w v : Str} {p n q m : Nat} (a : Alk cells M W) : Alk cells (M.tell w p n) (W.tell v q m) := ⟨a.m.tell, a.w.tell, a.hol, a.tou⟩
theorem Alk.write {c n m : Nat} (a : Alk cells M W) (hc : c < cells) : Alk cells (M.write c n) (W.write c m) := by
  have hl := a.m.line hc
  have t := a.take hl
  refine ⟨a.m.write hc, a.w.write hc, fun k => ?_, ?_⟩
  · have g : ∀ (X : Mst) (x : Nat), MOk0 cells X → ∀ k, (X.write c x).holds k = if k = c / 4 then true else (X.take (c / 4)).holds k := fun X x ok k =>
      holds_set (M := X.take (c / 4)) (by rw [(ok.take hl).held]; exact hl) rfl k
    rw [g M n a.m, g W m a.w, t.hol]
  · show (W.take (c / 4)).tou.set (c / 4) true = (M.take (c / 4)).tou.set (c / 4) true
    rw [t.tou]
theorem touched_eq (a : Alk cells M W) (l : Nat) : W.touched l = M.touched l := by unfold Mst.touched; rw [a.tou]
theorem Alk.clean {l : Nat} (a : Alk cells M W) : Alk cells (M.clean l) (W.clean l) := by
  refine ⟨a.m.clean, a.w.clean, fun k => ?_, ?_⟩
  · have g : ∀ X : Mst, (X.clean l).holds k = X.holds k := fun X => by unfold Mst.clean; split <;> rfl
    rw [g, g, a.hol]
  · unfold Mst.clean
    rw [touched_eq a]
    split
    · show W.tou.set l false = M.tou.set l false
      rw [a.tou]
    · exact a.tou
theorem Alk.drop {l : Nat} (a : Alk cells M W) : Alk cells (M.drop l) (W.drop l) := by
  refine ⟨a.m.drop, a.w.drop, fun k => ?_, ?_⟩
  · have g : ∀ X : Mst, (X.drop l).holds k = if k = l then false else X.holds k := fun X => by
      unfold Mst.drop
      cases hh : X.holds l with
      | true =>
        rw [if_pos rfl]
        exact holds_unset (Mst.holds_lt hh) rfl k
      | false =>
        rw [if_neg (by simp)]
        by_cases e : k = l
        · rw [if_pos e, e, hh]
        · rw [if_neg e]
    rw [g, g, a.hol]
  · unfold Mst.drop
    rw [a.hol]
    split
    · show W.tou.set l false = M.tou.set l false
      rw [a.tou]
    · exact a.tou
end
/-! ### what a deed of the processor alone tells -/
def sps (M : Mst) : List Stp := M.rows.map stp
theorem sps_tell {M : Mst} {w : Str} {p n : Nat} : sps (M.tell w p n) = sps M ++ [(w, p, n)] := by
  show (M.rows ++ [_]).map stp = _
  rw [List.map_append]; rfl
theorem sps_take {M : Mst} {l : Nat} : sps (M.take l) = sps M ++ takeN M l := by
  unfold Mst.take takeN
  split
  · rw [List.append_nil]
  · rw [sps_tell]; rfl
theorem sps_write {M : Mst} {c n : Nat} : sps (M.write c n) = sps M ++ (takeN M (c / 4) ++ [(("write" : Str), c, n)]) := by
  unfold Mst.write
  rw [sps_tell, ← List.append_assoc, ← sps_take]; rfl
theorem sps_clean {M : Mst} {l : Nat} : sps (M.clean l) = sps M ++ cleanN M l := by
  unfold Mst.clean cleanN
  split
  · rw [sps_tell]; rfl
  · rw [List.append_nil]
theorem sps_drop {M : Mst} {l : Nat} : sps (M.drop l) = sps M ++ dropN M l := by
  unfold Mst.drop dropN
  split
  · rw [sps_tell]; rfl
  · rw [List.append_nil]
theorem takeN_eq {cells : Nat} {M W : Mst} {l : Nat} (a : Alk cells M W) : takeN W l = takeN M l := by unfold takeN; rw [a.hol]
theorem cleanN_eq {cells : Nat} {M W : Mst} {l : Nat} (a : Alk cells M W) : cleanN W l = cleanN M l := by unfold cleanN; rw [touched_eq a]
theorem dropN_eq {cells : Nat} {M W : Mst} {l : Nat} (a : Alk cells M W) : dropN W l = dropN M l := by unfold dropN; rw [a.hol]
section
variable {rd ft : List (Nat × Nat)} {cells : Nat} {M : Mst} {W : Wk} {ords : List Ord}
/-- side by side, and nothing amiss as yet -/
structure Side (rd ft : List (Nat × Nat)) (cells : Nat) (M : Mst) (W : Wk) : Prop where
  alk : Alk cells M W.M
  pl : (ws rd ft M).found = []
  nr : (ws rd ft M).nr = W.rd
/-- an operation: steps N, either plain and told so by each cell, or not, and some cell tells -/
def OpOk (rd ft : List (Nat × Nat)) (cells : Nat) (M : Mst) (W : Wk) (M' : Mst) (W' : Wk) : Prop := ∃ N : List Stp, sps W'.M = sps W.M ++ N ∧
  ((Side rd ft cells M' W' ∧ (ws rd ft M').nf = (ws rd ft M).nf ∧ ∀ k d, k < cells → goS k (pj d k M) N = some (pj d k M')) ∨
   ((ws rd ft M').found ≠ [] ∧ ∃ k, k < cells ∧ ∀ d, goS k (pj d k M) N = none))
theorem OpOk.trans {M1 M2 : Mst} {W1 W2 : Wk} (a : OpOk rd ft cells M W M1 W1) (b : Side rd ft cells M1 W1 → OpOk rd ft cells M1 W1 M2 W2) (mono : ∃ N, M2.rows = M1.rows ++ N) (hw : ∃ N, sps W2.M = sps W1.M ++ N) : OpOk rd ft cells M W M2 W2 := by
  obtain ⟨N, e, h | h⟩ := a
  · obtain ⟨s, nf, h⟩ := h
    obtain ⟨N2, e2, h2⟩ := b s
    refine ⟨N ++ N2, by rw [e2, e, List.append_assoc], ?_⟩
    rcases h2 with ⟨s2, nf2, h2⟩ | ⟨f2, k, hk, h2⟩
    · exact .inl ⟨s2, nf2.trans nf, fun k d hk => by rw [goS_app, h k d hk, Option.bind_some]; exact h2 k d hk⟩
    · exact .inr ⟨f2, k, hk, fun d => by rw [goS_app, h k d hk, Option.bind_some]; exact h2 d⟩
  · obtain ⟨f, k, hk, h⟩ := h
    obtain ⟨N2, e2⟩ := hw
    exact ⟨N ++ N2, by rw [e2, e, List.append_assoc], .inr ⟨ws_mono mono f, k, hk, fun d => by rw [goS_app, h d]; rfl⟩⟩
theorem op_read {c : Nat} (s : Side rd ft cells M W) (hc : c < cells) : OpOk rd ft cells M W (M.read c) (W.read rd c) := by
  have hl := s.alk.m.line hc
  have hh := take_holds s.alk.m hl
  have wr := ws_read (rd := rd) (ft := ft) (M := M) (c := c)
  refine ⟨takeN W.M (c / 4) ++ [(("read" : Str), c, W.num rd)], by rw [← List.append_assoc, ← sps_take]; exact sps_tell, ?_⟩
  have hpj : ∀ k d, k < cells → goS k (pj d k M) (takeN W.M (c / 4)) = some (pj d k (M.take (c / 4))) := fun k d hk => by rw [takeN_eq s.alk]; exact take_pj s.alk.m hk hl
  have e1 : ∀ k d, pj d k (M.read c) = pj d k (M.take (c / 4)) := fun k d => pj_same rfl rfl
  have held : ∀ d, (pj d c (M.take (c / 4))).held = some (M.readN c) := fun d => by
    unfold pj
    rw [hh]; rfl
  by_cases h : M.readN c = (rd.getD W.rd (0, 0)).2
  · refine .inl ⟨⟨(s.alk.take hl).tell, ?_, ?_⟩, by rw [wr], fun k d hk => ?_⟩
    · rw [wr, s.pl, s.nr, if_pos h]; rfl
    · rw [wr]
      show (ws rd ft M).nr + 1 = W.rd + 1
      rw [s.nr]
    · rw [goS_app, hpj k d hk, Option.bind_some, go_read, e1]
      by_cases e : c = k
      · subst e
        rw [if_neg (fun z => z.2 (by rw [held, h]; rfl))]
      · rw [if_neg (fun z => e z.1)]
  · refine .inr ⟨?_, c, hc, fun d => ?_⟩
    · rw [wr, s.nr, if_neg h]
      simp
    · rw [goS_app, hpj c d hc, Option.bind_some, go_read, if_pos ⟨rfl, fun z => h (Option.some.inj ((held d).symm.trans z))⟩]
theorem op_write {c n : Nat} {rd' : Nat} (s : Side rd ft cells M W) (hc : c < cells) (hr : W.rd = rd') : OpOk rd ft cells M W (M.write c n) ⟨W.M.write c n, rd'⟩ := by
  subst hr
  have hl := s.alk.m.line hc
  have hh := take_holds s.alk.m hl
  refine ⟨takeN W.M (c / 4) ++ [(("write" : Str), c, n)], sps_write, .inl ⟨⟨s.alk.write hc, by rw [ws_write]; exact s.pl, by rw [ws_write]; exact s.nr⟩, by rw [ws_write], fun k d hk => ?_⟩⟩
  rw [goS_app, takeN_eq s.alk, take_pj s.alk.m hk hl, Option.bind_some, write0_pj (s.alk.m.take hl) hk hc hh]
  congr 1
theorem op_tell {w : Str} {p n : Nat} (s : Side rd ft cells M W) (h1 : ¬ w = "read") (h2 : ¬ w = "write") (h3 : ¬ w = "take") (h4 : ¬ w = "clean") (h5 : ¬ w = "drop") (h6 : ¬ w = "fetch") : OpOk rd ft cells M W (M.tell w p n) ⟨W.M.tell w p n, W.rd⟩ :=
  ⟨[(w, p, n)], sps_tell, .inl ⟨⟨s.alk.tell, by rw [ws_q h1 h6]; exact s.pl, by rw [ws_q h1 h6]; exact s.nr⟩, by rw [ws_q h1 h6], fun k d hk => by
    rw [go_other h1 h2 h3 h4 h5]
    congr 1⟩⟩
theorem wk_read_sps {c : Nat} : ∃ N, sps (W.read rd c).M = sps W.M ++ N := ⟨takeN W.M (c / 4) ++ [(("read" : Str), c, W.num rd)], by rw [← List.append_assoc, ← sps_take]; exact sps_tell⟩
theorem read_ext {c : Nat} : ∃ N, (M.read c).rows = M.rows ++ N := by
  unfold Mst.read Mst.take
  split
  · exact ⟨_, rfl⟩
  · exact ⟨_, by simp only [Mst.tell]; rw [List.append_assoc]⟩
theorem write_ext {c n : Nat} : ∃ N, (M.write c n).rows = M.rows ++ N := by
  unfold Mst.write Mst.take
  split
  · exact ⟨_, rfl⟩
  · exact ⟨_, by simp only [Mst.tell, Mst.write0]; rw [List.append_assoc]⟩
theorem left_alk {lm lw : List Mv} (a : Alk cells M W.M) (h1 : ∀ m ∈ lm, m.src < cells ∧ m.goal < cells) (h2 : ∀ m ∈ lw, m.src < cells ∧ m.goal < cells) : Alk cells { M with left := lm } { W.M with left := lw } :=
  ⟨⟨a.m.lines, a.m.mem, a.m.held, a.m.tou, a.m.four, a.m.th, h1⟩, ⟨a.w.lines, a.w.mem, a.w.held, a.w.tou, a.w.four, a.w.th, h2⟩, a.hol, a.tou⟩
theorem plain_of {c : Nat} (s : Side rd ft cells M W) (s1 : Side rd ft cells (M.read c) (W.read rd c)) : M.readN c = W.num rd := by
  have h := s1.pl
  rw [ws_read, s.pl, s.nr] at h
  by_cases e : M.readN c = (rd.getD W.rd (0, 0)).2
  · exact e
  · rw [if_neg e] at h; simp at h
/-- a deed -/
theorem op_deed {d : Deed} (s : Side rd ft cells M W) (hd : DeedOk d ords.length cells) (ho : ∀ k, ∀ m ∈ told ords k, m.src < cells ∧ m.goal < cells) : OpOk rd ft cells M W (M.deed ords d) (W.deed ords rd d) := by
  cases d with
  | set c n => exact op_write s hd.1 rfl
  | add c o =>
    refine OpOk.trans (op_read s hd.1) (fun s1 => ?_) ?_ ?_
    · refine OpOk.trans (op_read s1 hd.2) (fun s2 => ?_) write_ext ⟨_, sps_write (M := ((W.read rd c).read rd o).M)⟩
      have e1 := plain_of s s1
      have e2 := plain_of s1 s2
      simp only [Mst.deed, Wk.deed]
      rw [e1, e2]
      exact op_write s2 hd.1 rfl
    · obtain ⟨N1, e1⟩ := read_ext (M := M.read c) (c := o)
      obtain ⟨N2, e2⟩ := write_ext (M := (M.read c).read o) (c := c) (n := (M.readN c + (M.read c).readN o) % 10)
      exact ⟨N1 ++ N2, by rw [← List.append_assoc, ← e1]; exact e2⟩
    · obtain ⟨N1, e1⟩ := wk_read_sps (rd := rd) (W := W.read rd c) (c := o)
      exact ⟨N1 ++ _, by rw [← List.append_assoc, ← e1]; exact sps_write⟩
  | say c =>
    refine OpOk.trans (op_read s hd) (fun s1 => ?_) ⟨_, rfl⟩ ⟨_, sps_tell (M := (W.read rd c).M)⟩
    have e1 := plain_of s s1
    simp only [Mst.deed, Wk.deed]
    rw [e1]
    exact op_tell s1 (by decide) (by decide) (by decide) (by decide) (by decide) (by decide)
  | start k =>
    refine ⟨[("start", k, 0)], sps_tell, .inl ⟨⟨(left_alk s.alk (fun m hm => ?_) (fun m hm => ?_)).tell, ?_, ?_⟩, ?_, fun j d hj => ?_⟩⟩
    · rcases List.mem_append.mp hm with h | h
      · exact s.alk.m.left m h
      · exact ho k m h
    · rcases List.mem_append.mp hm with h | h
      · exact s.alk.w.left m h
      · exact ho k m h
    · show (ws rd ft (Mst.tell { M with left := M.left ++ told ords k } "start" k 0)).found = []
      rw [ws_q (by decide) (by decide)]; exact s.pl
    · show (ws rd ft (Mst.tell { M with left := M.left ++ told ords k } "start" k 0)).nr = W.rd
      rw [ws_q (by decide) (by decide)]; exact s.nr
    · show (ws rd ft (Mst.tell { M with left := M.left ++ told ords k } "start" k 0)).nf = _
      rw [ws_q (by decide) (by decide)]; rfl
    · rw [go_other (by decide) (by decide) (by decide) (by decide) (by decide)]
      congr 1
  | wait => exact ⟨[], by rw [List.append_nil]; rfl, .inl ⟨s, rfl, fun k d hk => rfl⟩⟩
  | clean l => exact ⟨cleanN W.M l, sps_clean, .inl ⟨⟨s.alk.clean, by simp only [Mst.deed]; rw [ws_clean]; exact s.pl, by simp only [Mst.deed]; rw [ws_clean]; exact s.nr⟩, by simp only [Mst.deed]; rw [ws_clean], fun k d hk => by rw [cleanN_eq s.alk]; exact clean_pj s.alk.m hk⟩⟩
  | drop l => exact ⟨dropN W.M l, sps_drop, .inl ⟨⟨s.alk.drop, by simp only [Mst.deed]; rw [ws_drop]; exact s.pl, by simp only [Mst.deed]; rw [ws_drop]; exact s.nr⟩, by simp only [Mst.deed]; rw [ws_drop], fun k d hk => by rw [dropN_eq s.alk]; exact drop_pj s.alk.m hk⟩⟩
end
end Vt
namespace Vt
open PySem PySem.Spec PyProof.Rows L2
/-! ### the script's parts, by number -/
def mvOf (ords : List Ord) : Deed → List Mv
  | .start k => told ords k
  | _ => []
section
variable {B : Brd}
theorem walkTo_succ {i : Nat} {d : Deed} (h : B.prog[i]? = some d) : walkTo B (i + 1) = (walkTo B i).deed B.ords (plain B).reads d := by
  unfold walkTo
  rw [List.take_add_one, h, Option.toList_some, List.foldl_append]; rfl
theorem wk_left {ords : List Ord} {due : List (Nat × Nat)} {W : Wk} {d : Deed} : (W.deed ords due d).M.left = W.M.left ++ mvOf ords d := by
  have rl : ∀ (W : Wk) c, (W.read due c).M.left = W.M.left := fun W c => take_rows.2.1
  cases d with
  | set c n => simp only [Wk.deed, mvOf, List.append_nil]; exact write_rows.2.1
  | add c o => simp only [Wk.deed, mvOf, List.append_nil]; rw [write_rows.2.1, rl, rl]
  | say c => simp only [Wk.deed, mvOf, List.append_nil]; exact rl W c
  | start k => rfl
  | wait => simp [Wk.deed, mvOf]
  | clean l => simp only [Wk.deed, mvOf, List.append_nil]; exact clean_rows.2.1
  | drop l => simp only [Wk.deed, mvOf, List.append_nil]; exact drop_rows.2.1
theorem m_left {ords : List Ord} {M : Mst} {d : Deed} : (M.deed ords d).left = M.left ++ mvOf ords d := by
  cases d with
  | set c n => simp only [Mst.deed, mvOf, List.append_nil]; exact write_rows.2.1
  | add c o => simp only [Mst.deed, mvOf, List.append_nil]; rw [write_rows.2.1, read_rows.2.1, read_rows.2.1]
  | say c => simp only [Mst.deed, mvOf, List.append_nil]; exact read_rows.2.1
  | start k => rfl
  | wait => simp [Mst.deed, mvOf]
  | clean l => simp only [Mst.deed, mvOf, List.append_nil]; exact clean_rows.2.1
  | drop l => simp only [Mst.deed, mvOf, List.append_nil]; exact drop_rows.2.1
theorem wl_flat : ∀ i, (walkTo B i).M.left = (B.prog.take i).flatMap (mvOf B.ords)
  | 0 => rfl
  | i + 1 => by
    cases h : B.prog[i]? with
    | none =>
      have hl := List.getElem?_eq_none_iff.mp h
      have e : B.prog.take (i + 1) = B.prog.take i := by rw [List.take_of_length_le (by omega), List.take_of_length_le hl]
      have := wl_flat i
      unfold walkTo at this ⊢
      rw [e]; exact this
    | some d => rw [walkTo_succ h, wk_left, wl_flat i, List.take_add_one, h, Option.toList_some, List.flatMap_append]; simp
theorem wl_pre {i j : Nat} (h : i ≤ j) : ∃ r, (walkTo B j).M.left = (walkTo B i).M.left ++ r := by
  rw [wl_flat, wl_flat]
  obtain ⟨s, hs⟩ : ∃ s, B.prog.take j = B.prog.take i ++ s := ⟨(B.prog.take j).drop i, by
    conv => lhs; rw [← List.take_append_drop i (B.prog.take j)]
    rw [List.take_take, Nat.min_eq_left h]⟩
  exact ⟨s.flatMap (mvOf B.ords), by rw [hs, List.flatMap_append]⟩
theorem wl_at {i j : Nat} {m : Mv} (hi : i ≤ B.prog.length) (h : (walkTo B i).M.left[j]? = some m) : (walkTo B B.prog.length).M.left[j]? = some m := by
  obtain ⟨r, e⟩ := wl_pre (B := B) hi
  rw [e, List.getElem?_append_left (List.getElem?_eq_some_iff.mp h).1]
  exact h
theorem fet_fst : (plain B).fet.map Prod.fst = (walkTo B B.prog.length).M.left.map Mv.src := by
  have h := (plain_turns (ords := B.ords) B.prog ⟨B.mem, [], [], []⟩).2
  rw [wl_flat, List.take_length]
  show (B.prog.foldl (pstep B.ords) ⟨B.mem, [], [], []⟩).fet.map Prod.fst = _
  rw [h]
  show [] ++ B.prog.flatMap (cellsFe B.ords) = _
  rw [List.nil_append]
  induction B.prog with
  | nil => rfl
  | cons d r ih =>
    rw [List.flatMap_cons, List.flatMap_cons, List.map_append, ih]
    congr 1
    cases d <;> rfl
theorem fet_len : (plain B).fet.length = (walkTo B B.prog.length).M.left.length := by
  have := congrArg List.length (fet_fst (B := B))
  simpa using this
theorem moves_len : (scr B).moves.length = (walkTo B B.prog.length).M.left.length := by
  show (List.zipWith mvSeen (walkTo B B.prog.length).M.left (plain B).fet).length = _
  rw [List.length_zipWith, fet_len, Nat.min_self]
theorem moves_at {j : Nat} {m : Mv} (h : (walkTo B B.prog.length).M.left[j]? = some m) : (scr B).moves[j]? = some (m.src, m.goal, ((plain B).fet.getD j (0, 0)).2) := by
  have hl := (List.getElem?_eq_some_iff.mp h).1
  have hlf : j < (plain B).fet.length := by rw [fet_len]; exact hl
  have hf : (plain B).fet[j]? = some (plain B).fet[j] := List.getElem?_eq_getElem hlf
  show (List.zipWith mvSeen (walkTo B B.prog.length).M.left (plain B).fet)[j]? = _
  rw [List.getElem?_zipWith, h, hf, List.getD_eq_getElem?_getD, hf]; rfl
theorem told_at {i : Nat} (hi : i < B.prog.length) : (scr B).told.getD i 0 = (walkTo B (i + 1)).M.left.length := by
  show ((List.range B.prog.length).map _).getD i 0 = _
  rw [List.getD_eq_getElem?_getD, List.getElem?_map, List.getElem?_range hi]; rfl
theorem waits_at {i : Nat} {d : Deed} (h : B.prog[i]? = some d) : (scr B).waits.getD i false = isWait d := by
  show (B.prog.map isWait).getD i false = _
  rw [List.getD_eq_getElem?_getD, List.getElem?_map, h]; rfl
theorem deeds_at {k i : Nat} {N : List Stp} (hi : i < B.prog.length) (h : sps (walkTo B (i + 1)).M = sps (walkTo B i).M ++ N) : (trk (scr B) k).deeds.getD i [] = stepsAt N k := by
  have e : stepsFrom (walkTo B (i + 1)).M.rows (walkTo B i).M.rows.length = N := by
    unfold stepsFrom
    rw [List.map_drop]
    have h' : (walkTo B (i + 1)).M.rows.map stp = (walkTo B i).M.rows.map stp ++ N := h
    rw [h', List.drop_left' (by simp)]
  show (((List.range B.prog.length).map fun i => stepsFrom (walkTo B (i + 1)).M.rows (walkTo B i).M.rows.length).map fun s => stepsAt s k).getD i [] = _
  rw [List.getD_eq_getElem?_getD, List.getElem?_map, List.getElem?_map, List.getElem?_range hi, Option.map_some, Option.map_some, e]; rfl
theorem deeds_len {k : Nat} : (trk (scr B) k).deeds.length = B.prog.length := by simp [trk, scr]
theorem wait_is {d : Deed} : isWait d = true ↔ d = .wait := by cases d <;> simp [isWait]
end
/-! ### the carrier -/
section
variable {rd ft : List (Nat × Nat)} {cells : Nat} {M : Mst} {W : Wk} {S : Scr}
theorem ws_carry {mv : Mv} {r : List Mv} (e : M.left = mv :: r) : ws rd ft M.carry = ⟨(ws rd ft M).found ++ (if M.mem.getD mv.src 0 = (ft.getD (ws rd ft M).nf (0, 0)).2 then [] else [⟨M.beats, "fetch", mv.src, M.mem.getD mv.src 0⟩]), (ws rd ft M).nr, (ws rd ft M).nf + 1⟩ := by
  unfold Mst.carry
  rw [e]
  dsimp only
  have h1 : ws rd ft ((Mst.tell { M with left := r, mem := M.mem.set mv.goal (M.mem.getD mv.src 0) } "fetch" mv.src (M.mem.getD mv.src 0)).tell "put" mv.goal (M.mem.getD mv.src 0)) = ⟨(ws rd ft M).found ++ (if M.mem.getD mv.src 0 = (ft.getD (ws rd ft M).nf (0, 0)).2 then [] else [⟨M.beats, "fetch", mv.src, M.mem.getD mv.src 0⟩]), (ws rd ft M).nr, (ws rd ft M).nf + 1⟩ := by
    rw [ws_q (by decide) (by decide), ws_tell]
    show wstep rd ft (ws rd ft M) _ = _
    unfold wstep
    dsimp only
    rw [if_neg (by decide), if_pos rfl]
  split
  · exact h1
  · rw [ws_q (by decide) (by decide)]; exact h1
theorem carry_held : M.carry.held = M.held ∧ M.carry.tou = M.tou := by
  unfold Mst.carry
  split
  · exact ⟨rfl, rfl⟩
  · dsimp only
    split <;> exact ⟨rfl, rfl⟩
theorem carry_mem {mv : Mv} {r : List Mv} (e : M.left = mv :: r) : M.carry.mem = M.mem.set mv.goal (M.mem.getD mv.src 0) := by
  unfold Mst.carry
  rw [e]
  dsimp only
  split <;> rfl
theorem Alk.carry (a : Alk cells M W.M) : Alk cells M.carry W.M :=
  ⟨a.m.carry, a.w, fun l => by rw [a.hol]; exact (holds_of (by rw [carry_held.1])).symm, by rw [a.tou, carry_held.2]⟩
theorem carry_sim {mv : Mv} {r : List Mv} (s : Side rd ft cells M W) (e : M.left = mv :: r) (hm : S.moves[(ws rd ft M).nf]? = some (mv.src, mv.goal, (ft.getD (ws rd ft M).nf (0, 0)).2)) :
    (Side rd ft cells M.carry W ∧ (ws rd ft M.carry).nf = (ws rd ft M).nf + 1 ∧ ∀ k, k < cells → afterMoves (trk S k) (pj (ws rd ft M).nf k M) ((ws rd ft M).nf + 1) = some (pj ((ws rd ft M).nf + 1) k M.carry)) ∨
    ((ws rd ft M.carry).found ≠ [] ∧ ∃ k, k < cells ∧ afterMoves (trk S k) (pj (ws rd ft M).nf k M) ((ws rd ft M).nf + 1) = none) := by
  obtain ⟨hs, hg⟩ := s.alk.m.left mv (by rw [e]; simp)
  have wc := ws_carry (rd := rd) (ft := ft) e
  have one : ∀ k, afterMoves (trk S k) (pj (ws rd ft M).nf k M) ((ws rd ft M).nf + 1) = (single k (some (M.mem.getD k 0)) (mv.src, mv.goal, (ft.getD (ws rd ft M).nf (0, 0)).2)).map fun num => ⟨(ws rd ft M).nf + 1, num, (pj (ws rd ft M).nf k M).held⟩ := fun k => after_one (st := pj (ws rd ft M).nf k M) hm
  by_cases h : M.mem.getD mv.src 0 = (ft.getD (ws rd ft M).nf (0, 0)).2
  · refine .inl ⟨⟨s.alk.carry, by rw [wc, s.pl, if_pos h]; rfl, by rw [wc]; exact s.nr⟩, by rw [wc], fun k hk => ?_⟩
    rw [one]
    unfold single
    dsimp only
    rw [if_neg (by rintro ⟨z1, z2⟩; exact z2 (by rw [← z1, h]))]
    rw [Option.map_some]
    congr 1
    have hp : (pj ((ws rd ft M).nf + 1) k M.carry).held = (pj (ws rd ft M).nf k M).held := by
      unfold pj
      dsimp only
      rw [holds_of (M := M) (by rw [carry_held.1]), cells_of (M := M) (by rw [carry_held.1])]
    have hn : (pj ((ws rd ft M).nf + 1) k M.carry).num = some (M.carry.mem.getD k 0) := rfl
    have hd : (pj ((ws rd ft M).nf + 1) k M.carry).done = (ws rd ft M).nf + 1 := rfl
    generalize pj ((ws rd ft M).nf + 1) k M.carry = P at hp hn hd
    obtain ⟨a, b, c⟩ := P
    dsimp only at hp hn hd
    rw [hp, hn, hd, carry_mem e]
    congr 1
    by_cases g : mv.goal = k
    · rw [if_pos g, ← h, ← g]
      congr 1
      symm
      rw [List.getD_eq_getElem?_getD (l := M.mem.set mv.goal (M.mem.getD mv.src 0)), List.getElem?_set_self (by rw [s.alk.m.mem]; exact hg)]; rfl
    · rw [if_neg g, List.getD_eq_getElem?_getD, List.getD_eq_getElem?_getD, List.getElem?_set_ne g]
  · refine .inr ⟨by rw [wc, if_neg h]; simp, mv.src, hs, ?_⟩
    rw [one]
    unfold single
    dsimp only
    rw [if_pos ⟨rfl, fun z => h (Option.some.inj z).symm⟩]; rfl
end
/-! ### a run beside the ways of its cells -/
structure BInv (B : Brd) (p : List Bool) (M : Mst) : Prop where
  ok : MOk B.mem.length B.prog M
  side : Side (plain B).reads (plain B).fet B.mem.length M (walkTo B M.at_)
  left : M.left = (walkTo B M.at_).M.left.drop (ws (plain B).reads (plain B).fet M).nf
  nf : (ws (plain B).reads (plain B).fet M).nf ≤ (walkTo B M.at_).M.left.length
  trk : ∀ k, k < B.mem.length → ∃ st, trackTo (trk (scr B) k) p M.at_ = some (st, M.pace) ∧ st.done ≤ (ws (plain B).reads (plain B).fet M).nf ∧
    afterMoves (trk (scr B) k) st (ws (plain B).reads (plain B).fet M).nf = some (pj (ws (plain B).reads (plain B).fet M).nf k M) ∧ ((ws (plain B).reads (plain B).fet M).nf = st.done ∨ B.prog[M.at_]? = some .wait ∨ M.at_ = B.prog.length)
theorem begin_side {B : Brd} (ok : BrdOk B) (p : List Bool) : BInv B p (Mst.begin B p) := by
  have o1 := begin_ok ok p
  have o2 := begin_ok ok []
  refine ⟨o1, ⟨⟨o1.toMOk0, o2.toMOk0, fun l => rfl, rfl⟩, rfl, rfl⟩, rfl, Nat.zero_le _, fun k hk => ⟨_, rfl, Nat.le_refl _, ?_, .inl rfl⟩⟩
  show afterMoves (trk (scr B) k) (trk (scr B) k).start (trk (scr B) k).start.done = _
  rw [after_self]
  show some (TSt.mk 0 (some (B.mem.getD k 0)) none) = some (pj 0 k (Mst.begin B p))
  congr 1
  have h0 : (Mst.begin B p).holds (k / 4) = false := by
    cases h : (Mst.begin B p).holds (k / 4) with
    | false => rfl
    | true =>
      obtain ⟨cs, e⟩ := Mst.holds_iff.mp h
      simp only [Mst.begin, List.getElem?_replicate] at e
      split at e <;> simp at e
  unfold pj
  rw [h0]; rfl
theorem carry_ext {M : Mst} : ∃ N, M.carry.rows = M.rows ++ N := by
  unfold Mst.carry
  split
  · exact ⟨[], by simp⟩
  · dsimp only
    split
    · exact ⟨_, by simp only [Mst.tell]; rw [List.append_assoc]⟩
    · exact ⟨_, by simp only [Mst.tell]; rw [List.append_assoc, List.append_assoc]⟩
theorem clean_ext {M : Mst} {l : Nat} : ∃ N, (M.clean l).rows = M.rows ++ N := by
  unfold Mst.clean
  split
  · exact ⟨_, rfl⟩
  · exact ⟨[], by simp⟩
theorem drop_ext {M : Mst} {l : Nat} : ∃ N, (M.drop l).rows = M.rows ++ N := by
  unfold Mst.drop
  split
  · exact ⟨_, rfl⟩
  · exact ⟨[], by simp⟩
theorem rows_tr {a b c : List Row} (h1 : ∃ N, b = a ++ N) (h2 : ∃ N, c = b ++ N) : ∃ N, c = a ++ N := by
  obtain ⟨n1, rfl⟩ := h1
  obtain ⟨n2, rfl⟩ := h2
  exact ⟨n1 ++ n2, by rw [List.append_assoc]⟩
theorem deed_ext {ords : List Ord} {M : Mst} {d : Deed} : ∃ N, (M.deed ords d).rows = M.rows ++ N := by
  cases d with
  | set c n => exact write_ext
  | add c o => exact rows_tr (rows_tr read_ext read_ext) write_ext
  | say c => exact rows_tr read_ext ⟨_, rfl⟩
  | start k => exact ⟨_, rfl⟩
  | wait => exact ⟨[], by simp [Mst.deed]⟩
  | clean l => exact clean_ext
  | drop l => exact drop_ext
theorem proc_ext {ords : List Ord} {prog : List Deed} {M : Mst} : ∃ N, (M.proc ords prog).rows = M.rows ++ N := by
  unfold Mst.proc
  split
  · exact ⟨[], by simp⟩
  · split
    · exact ⟨[], by simp⟩
    · exact deed_ext (ords := ords)
theorem beat_ext1 {ords : List Ord} {prog : List Deed} {M : Mst} : ∃ N, (M.beat ords prog).rows = (M.proc ords prog).rows ++ N := by
  unfold Mst.beat
  dsimp only
  split
  · split
    · exact carry_ext (M := { M.proc ords prog with pace := M.pace.tail })
    · exact ⟨[], by simp⟩
  · exact carry_ext
theorem run_ext {ords : List Ord} {prog : List Deed} : ∀ (f : Nat) (M : Mst), ∃ N, (Mst.run ords prog f M).rows = M.rows ++ N
  | 0, M => ⟨[], by simp [Mst.run]⟩
  | f + 1, M => by
    rw [Mst.run]
    split
    · exact ⟨[], by simp⟩
    · exact rows_tr (rows_tr proc_ext beat_ext1) (run_ext f _)
end Vt
namespace Vt
open PySem PySem.Spec PyProof.Rows L2
theorem trackOk_not {T : Trk} {p : List Bool} {i : Nat} (hi : i ≤ T.deeds.length) (h : trackTo T p i = none) : ¬ trackOk T p := by
  rintro ⟨st, q, h1, _⟩
  rw [trackTo_none h _ hi] at h1; cases h1
theorem endsWell_not {T : Trk} {p : List Bool} {st : TSt} {q : List Bool} (h : trackTo T p T.deeds.length = some (st, q)) (h2 : afterMoves T st T.count = none) : ¬ trackOk T p := by
  rintro ⟨st', q', h1, h3⟩
  rw [h] at h1
  injection h1 with h1
  injection h1 with e1 e2
  subst e1
  unfold endsWell at h3
  rw [h2] at h3; cases h3
section
variable {B : Brd} {p : List Bool} {M : Mst}
abbrev nfM (B : Brd) (M : Mst) : Nat := (ws (plain B).reads (plain B).fet M).nf
abbrev BadK (B : Brd) (p : List Bool) : Prop := ∃ k, k < B.mem.length ∧ ¬ trackOk (trk (scr B) k) p
theorem brd_told (ok : BrdOk B) (k : Nat) : ∀ m ∈ told B.ords k, m.src < B.mem.length ∧ m.goal < B.mem.length := fun m hm => chain_bd ok.ords 4 (some k) m hm
theorem brd_eight (ok : BrdOk B) : ∀ o ∈ B.ords, o.many ≤ 8 := fun o ho => by
  obtain ⟨i, hi, rfl⟩ := List.mem_iff_getElem.mp ho
  exact (ok.ords i _ (List.getElem?_eq_getElem hi)).eight
theorem ws_beats {rd ft : List (Nat × Nat)} {X : Mst} {b : Nat} : ws rd ft { X with beats := b } = ws rd ft X := rfl
theorem drop_cons {α : Type} {xs : List α} {n : Nat} {x : α} {r : List α} (h : x :: r = xs.drop n) : xs[n]? = some x ∧ r = xs.drop (n + 1) := by
  have h0 : (xs.drop n)[0]? = some x := by rw [← h]; rfl
  rw [List.getElem?_drop, Nat.add_zero] at h0
  refine ⟨h0, ?_⟩
  have : (xs.drop n).drop 1 = r := by rw [← h]; rfl
  rw [← this, List.drop_drop]
/-- a machine whose beat's deed is done, and its carrier's part to come -/
theorem step_carry {W : Wk} {M1 : Mst} {mv : Mv} {r : List Mv} {i : Nat} (hi : i ≤ B.prog.length) (hW : W = walkTo B i) (s : Side (plain B).reads (plain B).fet B.mem.length M1 W) (hl : M1.left = W.M.left.drop (nfM B M1)) (e : M1.left = mv :: r) :
    (scr B).moves[nfM B M1]? = some (mv.src, mv.goal, ((plain B).fet.getD (nfM B M1) (0, 0)).2) ∧ M1.carry.left = W.M.left.drop (nfM B M1 + 1) ∧ nfM B M1 + 1 ≤ W.M.left.length := by
  rw [e] at hl
  obtain ⟨h1, h2⟩ := drop_cons hl
  subst hW
  refine ⟨moves_at (wl_at hi h1), ?_, (List.getElem?_eq_some_iff.mp h1).1⟩
  rw [carry_rows.2.1, e]; exact h2
theorem beat_step (ok : BrdOk B) (h : BInv B p M) (ho : M.over B.prog = false) : BInv B p (M.beat B.ords B.prog) ∨ ((ws (plain B).reads (plain B).fet (M.beat B.ords B.prog)).found ≠ [] ∧ BadK B p) := by
  have bok := (beat_ok h.ok ho ok.ords (brd_eight ok) ok.prog).1
  have hat := h.ok.at_
  have dl : ∀ k, (trk (scr B) k).deeds.length = B.prog.length := fun k => deeds_len
  cases hid : M.idle B.prog with
  | true =>
    have hp : M.proc B.ords B.prog = M := by unfold Mst.proc; rw [if_pos hid]
    have hu : Mst.uses B.prog M (M.proc B.ords B.prog) = false := by unfold Mst.uses; rw [hid]; rfl
    have hb : M.beat B.ords B.prog = { M.carry with beats := M.beats + 1 } := by rw [beat_no hu, hp]
    have hw : B.prog[M.at_]? = some .wait ∨ M.at_ = B.prog.length := by
      unfold Mst.idle at hid
      split at hid
      · rename_i e
        exact .inr (by have := List.getElem?_eq_none_iff.mp e; omega)
      · rename_i d e
        obtain ⟨e1, _⟩ := Bool.and_eq_true_iff.mp hid
        exact .inl (by rw [e, of_decide_eq_true e1])
    obtain ⟨mv, r, e⟩ : ∃ mv r, M.left = mv :: r := by
      cases hl : M.left with
      | cons mv r => exact ⟨mv, r, rfl⟩
      | nil =>
        exfalso
        rcases hw with hw | hw
        · unfold Mst.idle at hid
          rw [hw, hl] at hid
          simp at hid
        · unfold Mst.over at ho
          rw [hl, decide_eq_true hw] at ho
          simp at ho
    obtain ⟨c1, c2, c3⟩ := step_carry hat rfl h.side h.left e
    have ca : M.carry.at_ = M.at_ := carry_rows.2.2.1
    rw [hb] at bok ⊢
    rcases carry_sim (S := scr B) h.side e c1 with ⟨s1, n1, t1⟩ | ⟨f1, k, hk, t1⟩
    · left
      have n1 : nfM B M.carry = nfM B M + 1 := n1
      have t1 : ∀ k, k < B.mem.length → afterMoves (trk (scr B) k) (pj (nfM B M) k M) (nfM B M + 1) = some (pj (nfM B M + 1) k M.carry) := t1
      refine ⟨bok, ?_, ?_, ?_, fun k hk => ?_⟩
      · show Side _ _ _ { M.carry with beats := M.beats + 1 } (walkTo B M.carry.at_)
        rw [ca]
        exact ⟨⟨⟨s1.alk.m.lines, s1.alk.m.mem, s1.alk.m.held, s1.alk.m.tou, s1.alk.m.four, s1.alk.m.th, s1.alk.m.left⟩, s1.alk.w, s1.alk.hol, s1.alk.tou⟩, s1.pl, s1.nr⟩
      · show M.carry.left = (walkTo B M.carry.at_).M.left.drop (nfM B M.carry)
        rw [ca, n1]; exact c2
      · show nfM B M.carry ≤ (walkTo B M.carry.at_).M.left.length
        rw [ca, n1]; exact c3
      · obtain ⟨st, g1, g2, g3, g4⟩ := h.trk k hk
        refine ⟨st, ?_, ?_, ?_, .inr ?_⟩
        · show trackTo _ p M.carry.at_ = some (st, M.carry.pace)
          rw [ca, carry_rows.2.2.2.2]; exact g1
        · show st.done ≤ nfM B M.carry
          rw [n1]; exact Nat.le_succ_of_le g2
        · show afterMoves _ st (nfM B M.carry) = some (pj (nfM B M.carry) k { M.carry with beats := M.beats + 1 })
          rw [n1, after_go g2 (Nat.le_succ _) g3, t1 k hk]; rfl
        · show B.prog[M.carry.at_]? = some .wait ∨ M.carry.at_ = B.prog.length
          rw [ca]; exact hw
    · right
      refine ⟨f1, k, hk, ?_⟩
      obtain ⟨st, g1, g2, g3, g4⟩ := h.trk k hk
      have hn : afterMoves (trk (scr B) k) st (nfM B M + 1) = none := by rw [after_go g2 (Nat.le_succ _) g3]; exact t1
      rcases hw with hw | hw
      · have hlt := (List.getElem?_eq_some_iff.mp hw).1
        refine trackOk_not (i := M.at_ + 1) (by rw [dl]; exact hlt) ?_
        rw [trackTo, g1, Option.bind_some]
        unfold trackStep
        have hwt : (trk (scr B) k).waits.getD M.at_ false = true := by rw [show (trk (scr B) k).waits = (scr B).waits from rfl, waits_at hw]; rfl
        rw [if_pos hwt]
        have ht : (trk (scr B) k).told.getD M.at_ 0 = (walkTo B M.at_).M.left.length := by
          rw [show (trk (scr B) k).told = (scr B).told from rfl, told_at hlt, walkTo_succ hw]; rfl
        dsimp only
        rw [ht, after_none (Nat.le_succ_of_le g2) c3 hn]; rfl
      · rw [hw] at g1
        refine endsWell_not (by rw [dl]; exact g1) ?_
        have hc : (trk (scr B) k).count = (walkTo B B.prog.length).M.left.length := moves_len
        rw [hc]
        rw [hw] at c3
        exact after_none (Nat.le_succ_of_le g2) c3 hn
  | false =>
    obtain ⟨d, hd⟩ : ∃ d, B.prog[M.at_]? = some d := by
      unfold Mst.idle at hid
      split at hid
      · cases hid
      · rename_i d e; exact ⟨d, e⟩
    have hlt := (List.getElem?_eq_some_iff.mp hd).1
    have hp : M.proc B.ords B.prog = { M.deed B.ords d with at_ := M.at_ + 1 } := by
      unfold Mst.proc
      rw [if_neg (by rw [hid]; simp), hd]
    have hws := walkTo_succ hd
    have dok := ok.prog d (List.mem_of_getElem? hd)
    obtain ⟨N, eN, op⟩ := op_deed h.side dok (brd_told ok)
    rw [← hws] at eN
    have dpace : (M.deed B.ords d).pace = M.pace := (deed_rows (brd_eight ok)).2.2.2.2.1
    -- what a bad deed comes to
    rcases op.symm with ⟨f1, k, hk, t1⟩ | ⟨s1, n1, t1⟩
    · right
      have nw : isWait d = false := by
        cases hw : isWait d with
        | false => rfl
        | true =>
          rw [wait_is.mp hw] at f1
          exact absurd h.side.pl f1
      refine ⟨ws_mono (M := M.deed B.ords d) ?_ f1, k, hk, ?_⟩
      · obtain ⟨n, e⟩ := beat_ext1 (ords := B.ords) (prog := B.prog) (M := M)
        rw [hp] at e
        exact ⟨n, e⟩
      · obtain ⟨st, g1, g2, g3, g4⟩ := h.trk k hk
        have gd : nfM B M = st.done := by
          rcases g4 with g | g | g
          · exact g
          · rw [hd] at g
            injection g with g
            rw [g] at nw; cases nw
          · omega
        have g3 : afterMoves (trk (scr B) k) st (nfM B M) = some (pj (nfM B M) k M) := g3
        rw [gd, after_self] at g3
        injection g3 with g3
        refine trackOk_not (i := M.at_ + 1) (by rw [dl]; exact hlt) ?_
        rw [trackTo, g1, Option.bind_some]
        unfold trackStep
        have hwt : ¬ (trk (scr B) k).waits.getD M.at_ false = true := by rw [show (trk (scr B) k).waits = (scr B).waits from rfl, waits_at hd, nw]; simp
        rw [if_neg hwt]
        dsimp only
        rw [deeds_at hlt eN]
        have t2 := t1 st.done
        rw [← g3] at t2
        unfold goS at t2
        rw [t2]; rfl
    · have s1' : Side (plain B).reads (plain B).fet B.mem.length (M.proc B.ords B.prog) (walkTo B (M.at_ + 1)) := by
        rw [hp, hws]
        exact ⟨⟨⟨s1.alk.m.lines, s1.alk.m.mem, s1.alk.m.held, s1.alk.m.tou, s1.alk.m.four, s1.alk.m.th, s1.alk.m.left⟩, s1.alk.w, s1.alk.hol, s1.alk.tou⟩, s1.pl, s1.nr⟩
      have n1' : nfM B (M.proc B.ords B.prog) = nfM B M := by rw [hp]; exact n1
      have l1 : (M.proc B.ords B.prog).left = (walkTo B (M.at_ + 1)).M.left.drop (nfM B (M.proc B.ords B.prog)) := by
        rw [n1', hp, hws, wk_left]
        show (M.deed B.ords d).left = _
        rw [m_left, List.drop_append_of_le_length h.nf, ← h.left]
      have nf1 : nfM B (M.proc B.ords B.prog) ≤ (walkTo B (M.at_ + 1)).M.left.length := by
        rw [n1', hws, wk_left, List.length_append]
        exact Nat.le_trans h.nf (Nat.le_add_right _ _)
      have at1 : (M.proc B.ords B.prog).at_ = M.at_ + 1 := by rw [hp]
      have pc1 : (M.proc B.ords B.prog).pace = M.pace := by rw [hp]; exact dpace
      -- the ways of its cells up to the carrier's part
      have t1' : ∀ k, k < B.mem.length → (isWait d = true ∧ M.left = [] ∧ trackTo (trk (scr B) k) p (M.at_ + 1) = some (pj (nfM B M) k (M.proc B.ords B.prog), M.pace)) ∨
          (isWait d = false ∧ trackTo (trk (scr B) k) p (M.at_ + 1) = (if nfM B M = (walkTo B (M.at_ + 1)).M.left.length then some (pj (nfM B M) k (M.proc B.ords B.prog), M.pace) else match M.pace with
            | false :: q => some (pj (nfM B M) k (M.proc B.ords B.prog), q)
            | true :: q => (afterMoves (trk (scr B) k) (pj (nfM B M) k (M.proc B.ords B.prog)) (nfM B M + 1)).map fun s => (s, q)
            | [] => (afterMoves (trk (scr B) k) (pj (nfM B M) k (M.proc B.ords B.prog)) (nfM B M + 1)).map fun s => (s, []))) := fun k hk => by
        obtain ⟨st, g1, g2, g3, g4⟩ := h.trk k hk
        cases nw : isWait d with
        | true =>
          left
          have ed := wait_is.mp nw
          subst ed
          have hl0 : M.left = [] := by
            unfold Mst.idle at hid
            rw [hd] at hid
            simpa using hid
          refine ⟨rfl, hl0, ?_⟩
          rw [trackTo, g1, Option.bind_some]
          unfold trackStep
          have hwt : (trk (scr B) k).waits.getD M.at_ false = true := by rw [show (trk (scr B) k).waits = (scr B).waits from rfl, waits_at hd]; rfl
          have ht : (trk (scr B) k).told.getD M.at_ 0 = nfM B M := by
            rw [show (trk (scr B) k).told = (scr B).told from rfl, told_at hlt, hws]
            show (walkTo B M.at_).M.left.length = _
            have hle := h.left
            rw [hl0] at hle
            have := List.drop_eq_nil_iff.mp hle.symm
            have := h.nf
            show _ = (ws (plain B).reads (plain B).fet M).nf
            omega
          rw [if_pos hwt]
          dsimp only
          rw [ht, g3, Option.map_some, hp]; rfl
        | false =>
          right
          refine ⟨rfl, ?_⟩
          have gd : nfM B M = st.done := by
            rcases g4 with g | g | g
            · exact g
            · rw [hd] at g
              injection g with g
              rw [g] at nw; cases nw
            · omega
          have g3 : afterMoves (trk (scr B) k) st (nfM B M) = some (pj (nfM B M) k M) := g3
          rw [gd, after_self] at g3
          injection g3 with g3
          have t2 := t1 k (nfM B M) hk
          rw [gd] at t2
          rw [← g3] at t2
          rw [trackTo, g1, Option.bind_some]
          unfold trackStep
          have hwt : ¬ (trk (scr B) k).waits.getD M.at_ false = true := by rw [show (trk (scr B) k).waits = (scr B).waits from rfl, waits_at hd, nw]; simp
          rw [if_neg hwt]
          dsimp only
          rw [deeds_at hlt eN]
          unfold goS at t2
          rw [t2, Option.bind_some, show (trk (scr B) k).told = (scr B).told from rfl, told_at hlt]
          have e2 : pj st.done k (M.deed B.ords d) = pj (nfM B M) k (M.proc B.ords B.prog) := by rw [hp, gd]; rfl
          rw [e2]
          show (if (pj (nfM B M) k (M.proc B.ords B.prog)).done = _ then _ else _) = _
          rw [show (pj (nfM B M) k (M.proc B.ords B.prog)).done = nfM B M from rfl]
          all_goals
            by_cases e3 : nfM B M = (walkTo B (M.at_ + 1)).M.left.length
            · rw [if_pos e3, if_pos e3]
            · rw [if_neg e3, if_neg e3]
              rcases hpc : M.pace with _ | ⟨b, q⟩
              · rfl
              · cases b <;> rfl
      generalize hM1 : M.proc B.ords B.prog = M1 at *
      have fin : ∀ (M2 : Mst), MOk B.mem.length B.prog { M2 with beats := M.beats + 1 } → Side (plain B).reads (plain B).fet B.mem.length M2 (walkTo B (M.at_ + 1)) → M2.at_ = M.at_ + 1 → M2.left = (walkTo B (M.at_ + 1)).M.left.drop (nfM B M2) → nfM B M2 ≤ (walkTo B (M.at_ + 1)).M.left.length →
          (∀ k, k < B.mem.length → trackTo (trk (scr B) k) p (M.at_ + 1) = some (pj (nfM B M2) k M2, M2.pace)) → BInv B p { M2 with beats := M.beats + 1 } := fun M2 o s a l n t => by
        refine ⟨o, ?_, ?_, ?_, fun k hk => ⟨pj (nfM B M2) k M2, ?_, Nat.le_refl _, ?_, .inl rfl⟩⟩
        · show Side _ _ _ { M2 with beats := M.beats + 1 } (walkTo B M2.at_)
          rw [a]
          exact ⟨⟨⟨s.alk.m.lines, s.alk.m.mem, s.alk.m.held, s.alk.m.tou, s.alk.m.four, s.alk.m.th, s.alk.m.left⟩, s.alk.w, s.alk.hol, s.alk.tou⟩, s.pl, s.nr⟩
        · show M2.left = (walkTo B M2.at_).M.left.drop (nfM B M2)
          rw [a]; exact l
        · show nfM B M2 ≤ (walkTo B M2.at_).M.left.length
          rw [a]; exact n
        · show trackTo _ p M2.at_ = _
          rw [a]; exact t k hk
        · show afterMoves (trk (scr B) k) (pj (nfM B M2) k M2) (pj (nfM B M2) k M2).done = _
          rw [after_self]; rfl
      cases hl1 : M1.left with
      | nil =>
        have hu : Mst.uses B.prog M (M.proc B.ords B.prog) = false := by unfold Mst.uses; rw [hM1, hl1]; simp
        have hb : M.beat B.ords B.prog = { M1 with beats := M.beats + 1 } := by
          rw [beat_no hu, hM1]
          have : M1.carry = M1 := by unfold Mst.carry; rw [hl1]
          rw [this]
        rw [hb] at bok ⊢
        left
        refine fin M1 bok s1' at1 l1 nf1 fun k hk => ?_
        rw [n1', pc1]
        rcases t1' k hk with ⟨_, _, t⟩ | ⟨_, t⟩
        · exact t
        · rw [t, if_pos ?_]
          rw [hl1] at l1
          have := List.drop_eq_nil_iff.mp l1.symm
          rw [n1'] at this nf1
          omega
      | cons mv r =>
        have hne : ¬ nfM B M = (walkTo B (M.at_ + 1)).M.left.length := fun z => by
          rw [n1', z, List.drop_length, hl1] at l1; cases l1
        have tw : ∀ k, k < B.mem.length → trackTo (trk (scr B) k) p (M.at_ + 1) = match M.pace with
            | false :: q => some (pj (nfM B M) k M1, q)
            | true :: q => (afterMoves (trk (scr B) k) (pj (nfM B M) k M1) (nfM B M + 1)).map fun s => (s, q)
            | [] => (afterMoves (trk (scr B) k) (pj (nfM B M) k M1) (nfM B M + 1)).map fun s => (s, []) := fun k hk => by
          rcases t1' k hk with ⟨w, l0, t⟩ | ⟨_, t⟩
          · exfalso
            have ed := wait_is.mp w
            subst ed
            have : M1.left = M.left := by rw [hp]; rfl
            rw [this, l0] at hl1; cases hl1
          · rw [t, if_neg hne]
        have move : ∀ (M1' : Mst) (q : List Bool), M1' = { M1 with pace := q } → (∀ k, k < B.mem.length → trackTo (trk (scr B) k) p (M.at_ + 1) = (afterMoves (trk (scr B) k) (pj (nfM B M) k M1) (nfM B M + 1)).map fun s => (s, q)) → MOk B.mem.length B.prog { M1'.carry with beats := M.beats + 1 } →
            BInv B p { M1'.carry with beats := M.beats + 1 } ∨ ((ws (plain B).reads (plain B).fet { M1'.carry with beats := M.beats + 1 }).found ≠ [] ∧ BadK B p) := fun M1' q e t o => by
          have sp : Side (plain B).reads (plain B).fet B.mem.length M1' (walkTo B (M.at_ + 1)) := by
            rw [e]
            exact ⟨⟨⟨s1'.alk.m.lines, s1'.alk.m.mem, s1'.alk.m.held, s1'.alk.m.tou, s1'.alk.m.four, s1'.alk.m.th, s1'.alk.m.left⟩, s1'.alk.w, s1'.alk.hol, s1'.alk.tou⟩, s1'.pl, s1'.nr⟩
          have nM : nfM B M1' = nfM B M := by rw [e]; exact n1'
          have lM : M1'.left = (walkTo B (M.at_ + 1)).M.left.drop (nfM B M1') := by rw [nM, e, ← n1']; exact l1
          have eM : M1'.left = mv :: r := by rw [e]; exact hl1
          have pM : ∀ k, pj (nfM B M1') k M1' = pj (nfM B M) k M1 := fun k => by rw [nM, e]; rfl
          obtain ⟨c1, c2, c3⟩ := step_carry hlt rfl sp lM eM
          rcases carry_sim (S := scr B) sp eM c1 with ⟨s2, n2, t2⟩ | ⟨f2, k, hk, t2⟩
          · left
            have n2' : nfM B M1'.carry = nfM B M1' + 1 := n2
            refine fin M1'.carry o s2 (by rw [carry_rows.2.2.1, e]; exact at1) (by rw [n2']; exact c2) (by rw [n2']; exact c3) fun k hk => ?_
            rw [t k hk, ← pM, n2', ← nM]
            have t2' := t2 k hk
            rw [show afterMoves (trk (scr B) k) (pj (nfM B M1') k M1') (nfM B M1' + 1) = _ from t2', Option.map_some, carry_rows.2.2.2.2, e]
          · right
            refine ⟨f2, k, hk, trackOk_not (i := M.at_ + 1) (by rw [dl]; exact hlt) ?_⟩
            rw [t k hk, ← pM, ← nM]
            rw [show afterMoves (trk (scr B) k) (pj (nfM B M1') k M1') (nfM B M1' + 1) = _ from t2]; rfl
        rcases hpc : M.pace with _ | ⟨b, q⟩
        · have hu : Mst.uses B.prog M (M.proc B.ords B.prog) = false := by unfold Mst.uses; rw [hpc]; simp
          have hb : M.beat B.ords B.prog = { M1.carry with beats := M.beats + 1 } := by rw [beat_no hu, hM1]
          rw [hb] at bok ⊢
          refine move M1 [] (by rw [← hpc, ← pc1]) (fun k hk => ?_) bok
          rw [tw k hk, hpc]
        · have hu : Mst.uses B.prog M (M.proc B.ords B.prog) = true := by unfold Mst.uses; rw [hid, hM1, hl1, hpc]; rfl
          have hb := beat_yes hu hpc
          rw [hM1] at hb
          cases b with
          | true =>
            rw [if_pos rfl] at hb
            rw [hb] at bok ⊢
            refine move { M1 with pace := q } q rfl (fun k hk => ?_) bok
            rw [tw k hk, hpc]
          | false =>
            rw [if_neg (by simp)] at hb
            rw [hb] at bok ⊢
            left
            refine fin { M1 with pace := q } bok ⟨⟨⟨s1'.alk.m.lines, s1'.alk.m.mem, s1'.alk.m.held, s1'.alk.m.tou, s1'.alk.m.four, s1'.alk.m.th, s1'.alk.m.left⟩, s1'.alk.w, s1'.alk.hol, s1'.alk.tou⟩, s1'.pl, s1'.nr⟩ at1 l1 nf1 fun k hk => ?_
            rw [tw k hk, hpc]
            show some (pj (nfM B M) k M1, q) = some (pj (nfM B M1) k { M1 with pace := q }, q)
            rw [n1']; rfl
/-- the cleans at the end -/
theorem finish_sim {cells : Nat} {X : Mst} (ok0 : MOk0 cells X) {W : Mst} (a : Alk cells X W) : ∃ N : List Stp, sps W.finish = sps W ++ N ∧ ∀ k d, k < cells → goS k (pj d k X) N = some (pj d k X.finish) := by
  have s : ∀ {M W : Mst} (l : Nat), Alk cells M W → sps (W.clean l) = sps W ++ cleanN M l := fun l a => by rw [sps_clean, cleanN_eq a]
  have a1 := a.clean (l := 0)
  have a2 := a1.clean (l := 1)
  have a3 := a2.clean (l := 2)
  refine ⟨cleanN X 0 ++ (cleanN (X.clean 0) 1 ++ (cleanN ((X.clean 0).clean 1) 2 ++ cleanN (((X.clean 0).clean 1).clean 2) 3)), ?_, fun k d hk => ?_⟩
  · unfold Mst.finish
    rw [s 3 a3, s 2 a2, s 1 a1, s 0 a]
    simp only [List.append_assoc]
  · rw [goS_app, clean_pj a.m hk, Option.bind_some, goS_app, clean_pj a1.m hk, Option.bind_some, goS_app, clean_pj a2.m hk, Option.bind_some, clean_pj a3.m hk]; rfl
theorem endsTo_nil {b : Nat} {xs ys : List Nat} : ∀ n, endsTo b xs ys n = [] ↔ ∀ c, c < n → xs.getD c 0 = ys.getD c 0
  | 0 => by simp [endsTo]
  | n + 1 => by
    rw [endsTo_succ, List.append_eq_nil_iff, endsTo_nil n]
    constructor
    · rintro ⟨h1, h2⟩ c hc
      by_cases e : c = n
      · subst e
        by_cases h : xs.getD c 0 = ys.getD c 0
        · exact h
        · rw [if_neg h] at h2; cases h2
      · exact h1 c (by omega)
    · intro h
      exact ⟨fun c hc => h c (by omega), by rw [if_pos (h n (by omega))]⟩
/-- what is amiss in the end -/
def amissOf (B : Brd) (G : Mst) : List Row := (ws (plain B).reads (plain B).fet G).found ++ endsTo G.beats G.mem (plain B).mem B.mem.length
theorem amissOf_gone {p : List Bool} : amissOf B (gone B p) = amissRows B p := by
  unfold amissOf amissRows wrongRows wTo ws
  rw [List.take_length]
theorem over_iff (ok : BrdOk B) (h : BInv B p M) (ho : M.over B.prog = true) : amissOf B M.finish = [] ↔ ∀ k, k < B.mem.length → trackOk (trk (scr B) k) p := by
  unfold Mst.over at ho
  obtain ⟨o1, o2⟩ := Bool.and_eq_true_iff.mp ho
  have o1 := of_decide_eq_true o1
  have o2 := List.isEmpty_iff.mp o2
  have hs := h.side
  rw [o1] at hs
  obtain ⟨N, eN, t⟩ := finish_sim hs.alk.m hs.alk
  unfold amissOf
  rw [ws_finish, h.side.pl, List.nil_append, endsTo_nil]
  have hl := h.left
  rw [o1, o2] at hl
  have h1 := List.drop_eq_nil_iff.mp hl.symm
  have h2 := h.nf
  rw [o1] at h2
  have hn : nfM B M = (walkTo B B.prog.length).M.left.length := Nat.le_antisymm h2 h1
  have key : ∀ k, k < B.mem.length → (trackOk (trk (scr B) k) p ↔ M.finish.mem.getD k 0 = (plain B).mem.getD k 0) := fun k hk => by
    obtain ⟨st, g1, g2, g3, g4⟩ := h.trk k hk
    have g3 : afterMoves (trk (scr B) k) st (nfM B M) = some (pj (nfM B M) k M) := g3
    rw [o1] at g1
    have hc : (trk (scr B) k).count = nfM B M := by rw [hn]; exact moves_len
    have hf : (trk (scr B) k).fin = stepsAt N k := by
      show stepsAt (stepsFrom (walkTo B B.prog.length).M.finish.rows (walkTo B B.prog.length).M.rows.length) k = _
      have : stepsFrom (walkTo B B.prog.length).M.finish.rows (walkTo B B.prog.length).M.rows.length = N := by
        unfold stepsFrom
        rw [List.map_drop]
        have h' : (walkTo B B.prog.length).M.finish.rows.map stp = (walkTo B B.prog.length).M.rows.map stp ++ N := eN
        rw [h', List.drop_left' (by simp)]
      rw [this]
    have ew : endsWell (trk (scr B) k) st = decide (M.finish.mem.getD k 0 = (plain B).mem.getD k 0) := by
      unfold endsWell
      rw [hc, g3]
      dsimp only
      have t2 := t k (nfM B M) hk
      unfold goS at t2
      rw [hf, t2]
      dsimp only
      show decide (some (M.finish.mem.getD k 0) = some ((plain B).mem.getD k 0)) = _
      exact decide_eq_decide.mpr ⟨fun z => Option.some.inj z, fun z => by rw [z]⟩
    constructor
    · rintro ⟨st', q, e1, e2⟩
      rw [deeds_len, g1] at e1
      injection e1 with e1
      injection e1 with e1 _
      subst e1
      rw [ew] at e2
      exact of_decide_eq_true e2
    · intro e
      exact ⟨st, M.pace, by rw [deeds_len]; exact g1, by rw [ew]; exact decide_eq_true e⟩
  exact ⟨fun z k hk => (key k hk).mpr (z k hk), fun z c hc => (key c hc).mp (z c hc)⟩
theorem finish_ext {M : Mst} : ∃ N, M.finish.rows = M.rows ++ N := by
  unfold Mst.finish
  exact rows_tr (rows_tr (rows_tr clean_ext clean_ext) clean_ext) clean_ext
theorem run_iff (ok : BrdOk B) : ∀ (f : Nat) (M : Mst), BInv B p M → M.mu B.prog ≤ f → (amissOf B (Mst.run B.ords B.prog f M).finish = [] ↔ ∀ k, k < B.mem.length → trackOk (trk (scr B) k) p)
  | f, M, h, hf => by
    cases ho : M.over B.prog with
    | true => rw [run_over ho]; exact over_iff ok h ho
    | false =>
      obtain ⟨f', rfl, e⟩ := run_on (ords := B.ords) h.ok.at_ ho hf
      rw [e]
      have hmu := (beat_ok h.ok ho ok.ords (brd_eight ok) ok.prog).2
      rcases beat_step ok h ho with hb | ⟨hb, k, hk, nk⟩
      · exact run_iff ok f' _ hb (by omega)
      · constructor
        · intro z
          exfalso
          unfold amissOf at z
          have := (List.append_eq_nil_iff.mp z).1
          exact ws_mono (rows_tr (run_ext f' _) finish_ext) hb this
        · intro z
          exact absurd (z k hk) nk
  termination_by f => f
/-- nothing is amiss at a pace just where no cell's way finds anything -/
theorem amiss_iff (ok : BrdOk B) (p : List Bool) : amissRows B p = [] ↔ ∀ k, k < B.mem.length → trackOk (trk (scr B) k) p := by
  rw [← amissOf_gone]
  exact run_iff ok 7000 _ (begin_side ok p) (begin_mu ok p)
/-- the search is right -/
theorem pace_some (ok : BrdOk B) {p : List Bool} (h : paceAmiss B = some p) : amissRows B p ≠ [] := fun z => by
  obtain ⟨c, hc, e⟩ := paceFrom_some h
  exact found_not e ((amiss_iff ok p).mp z c (List.mem_range.mp hc))
theorem pace_none (ok : BrdOk B) (h : paceAmiss B = none) (p : List Bool) : amissRows B p = [] :=
  (amiss_iff ok p).mpr fun k hk => none_ok (paceFrom_none h k (List.mem_range.mpr hk)) p
end
end Vt
namespace Vt
open PySem PySem.Spec PyProof.Rows L2
/-! ### dicts whose keys are nested tuples -/
mutual
def nk : D → NestedKey
  | .non => .none
  | .bl b => .num (if b = true then 1 else 0)
  | .int i => .num i
  | .str x => .text x
  | .tup ds => .tup (nks ds)
  | .lst _ => .none
def nks : List D → List NestedKey
  | [] => []
  | d :: ds => nk d :: nks ds
end
section
variable {P : Program} {w : World} {H : Hp} {h : Heap}
mutual
theorem nk_is (ok : HOk P w H h) : ∀ {d : D} {v : V} {u : Value}, d.noL = true → Pd H v d → RelV v u → NestedIs h (nk d) u
  | .non, _, _, _, .non, r => by cases (show _ = Value.none from r); exact .none
  | .bl b, _, _, _, .bl _, r => by cases (show _ = Value.bool b from r); exact .bool rfl
  | .int i, _, _, _, .int _, r => by obtain ⟨t, rfl⟩ := r; exact .int i t
  | .str x, _, _, _, .str _, r => by obtain ⟨t, rfl⟩ := r; exact .text x t
  | .tup ds, _, _, n, .tup e hs, r => by
    cases r
    obtain ⟨_, its, rv, o, h1, h2, m, h3⟩ := (show ObjOk P w H h _ (.tup _) from ok _ _ e)
    exact .tup h1 h2 h3 (by simpa using nks_are ok (by rw [D.noL] at n; exact n) hs rv)
  | .lst ds, _, _, n, .lst _ _, _ => by rw [D.noL] at n; cases n
theorem nks_are (ok : HOk P w H h) : ∀ {ds : List D} {vs : List V} {us : List Value}, noLs ds = true → Pds H vs ds → Vals vs us → NestedAll h (nks ds) us
  | [], _, _, _, .nil, .nil => .nil
  | d :: ds, _, _, n, .cons p ps, .cons r rs => by
    rw [noLs, Bool.and_eq_true] at n
    exact .cons (nk_is ok n.1 p r) (nks_are ok n.2 ps rs)
end
mutual
theorem nk_dep : ∀ d : D, (nk d).depth ≤ d.dep
  | .non => Nat.le_refl _
  | .bl _ => Nat.le_refl _
  | .int _ => Nat.le_refl _
  | .str _ => Nat.le_refl _
  | .tup ds => by rw [nk, NestedKey.depth, D.dep]; exact Nat.succ_le_succ (nks_dep ds)
  | .lst ds => Nat.zero_le _
theorem nks_dep : ∀ ds : List D, NestedKey.depthAll (nks ds) ≤ deps ds
  | [] => Nat.le_refl _
  | d :: ds => by
    rw [nks, NestedKey.depthAll, deps]
    have := nk_dep d
    have := nks_dep ds
    omega
end
end
/-- an entry: the key, its tuple's address, the value -/
abbrev NEnt : Type := D × Addr × V
abbrev NRel : List NEnt → List (NestedKey × Addr × Value) → Prop := Paired fun p q => q.1 = nk p.1 ∧ q.2.1 = p.2.1 ∧ RelV p.2.2 q.2.2
def DN (P : Program) (w : World) (d : Addr) (es : List NEnt) : HO := .ext fun h => (d == sysModules) = false ∧ es.length ≤ sizeLine ∧ ∃ xs, NRel es xs ∧
  ∃ o ea ep, h.get? d = some o ∧ o.ExactDict ∧ o.data = .dict ea ep ∧ ea.toList = xs.map (entryOfKey (nestedKind P w)) ∧ (xs.map (·.1)).Nodup
/-- the keys' tuples stand -/
def KeysAt (H : Hp) (es : List NEnt) : Prop := ∀ e ∈ es, Pd H (.ref e.2.1) e.1 ∧ e.1.noL = true ∧ e.1.dep ≤ 8
def hasN (es : List NEnt) (k : D) : Bool := es.any fun e => decide (nk e.1 = nk k)
theorem dn_ok {P : Program} {w : World} {H : Hp} {h : Heap} {d : Addr} {es : List NEnt} (x : (d == sysModules) = false ∧ es.length ≤ sizeLine ∧ ∃ xs, NRel es xs ∧
    ∃ o ea ep, h.get? d = some o ∧ o.ExactDict ∧ o.data = .dict ea ep ∧ ea.toList = xs.map (entryOfKey (nestedKind P w)) ∧ (xs.map (·.1)).Nodup) : ObjOk P w H h d (DN P w d es) := by
  refine ⟨x, ?_, fun h1 h2 z k => ?_⟩
  · obtain ⟨_, _, _, _, o, _, _, e, _⟩ := x
    exact ⟨o, e⟩
  · obtain ⟨a, b, xs, r, o, ea, ep, e, c⟩ := z
    exact ⟨a, b, xs, r, o, ea, ep, k _ e, c⟩
theorem dn_raw {P : Program} {w : World} {H : Hp} {h : Heap} {d : Addr} {es : List NEnt} (ok : HOk P w H h) (e : Rd H d (DN P w d es)) : (d == sysModules) = false ∧ es.length ≤ sizeLine ∧ ∃ xs, NRel es xs ∧
    ∃ o ea ep, h.get? d = some o ∧ o.ExactDict ∧ o.data = .dict ea ep ∧ ea.toList = xs.map (entryOfKey (nestedKind P w)) ∧ (xs.map (·.1)).Nodup := by
  have x := e.ok ok
  exact x.1
theorem dn_at {P : Program} {w : World} {H : Hp} {h : Heap} {d : Addr} {es : List NEnt} (ok : HOk P w H h) (e : Rd H d (DN P w d es)) (ka : KeysAt H es) : (d == sysModules) = false ∧ es.length ≤ sizeLine ∧ ∃ xs, NRel es xs ∧ h.DictOfH (nestedKind P w) d xs := by
  obtain ⟨a, b, xs, r, o, ea, ep, e1, e2, e3, e4, e5⟩ := dn_raw ok e
  refine ⟨a, b, xs, r, o, ea, ep, e1, e2, e3, e4, fun x hx => ?_, e5⟩
  have all : ∀ {l : List NEnt} {m : List (NestedKey × Addr × Value)}, NRel l m → KeysAt H l → ∀ x ∈ m, (nestedKind P w).is h x.1 x.2.1 := by
    intro l m q
    induction q with
    | nil => intro _ x hx; exact nomatch hx
    | @cons p q ps qs hq t ih =>
      intro ka x hx
      rcases List.mem_cons.mp hx with e | hx
      · subst e
        obtain ⟨k1, k2, k3⟩ := ka p (by simp)
        rw [hq.1, hq.2.1]
        exact ⟨nk_is ok k2 k1 rfl, Nat.le_trans (nk_dep _) k3⟩
      · exact ih (fun e he => ka e (List.mem_cons_of_mem _ he)) x hx
  exact all r ka x hx
theorem nrel_has : ∀ {es : List NEnt} {xs : List (NestedKey × Addr × Value)} {k : D}, NRel es xs → (atKey xs (nk k)).isSome = hasN es k
  | _, _, k, .nil => rfl
  | _, _, k, .cons (a := p) (b := q) hq t => by
    obtain ⟨p1, p2, p3⟩ := p
    obtain ⟨q1, q2, q3⟩ := q
    obtain ⟨e1, e2, e3⟩ := hq
    dsimp only at e1 e2 e3
    subst e1
    have ih := nrel_has (k := k) t
    unfold hasN at ih ⊢
    unfold atKey at ih ⊢
    rw [List.any_cons, List.find?_cons]
    by_cases h : nk p1 = nk k
    · simp [h]
    · simp only [h, decide_false, Bool.false_or]
      exact ih
theorem KeysAt.same {H H' : Hp} {es : List NEnt} (s : Same H H') (k : KeysAt H es) : KeysAt H' es := fun e he => ⟨(k e he).1.same s, (k e he).2⟩
theorem dn_ne {P : Program} {w : World} {d : Addr} {es : List NEnt} {o : HO} (h : ∀ φ, o ≠ .ext φ) : DN P w d es ≠ o := fun z => h _ z.symm
section
variable {X : Cx} {pins : List (Addr × Obj)} {σ : L2.St} {H : Hp} {s : Shared} {d b : Addr} {es : List NEnt} {k : D} {v : V} {u r : Value} {A : Around} {E : Value → Shared → Prop}
theorem nd_room (hu : A.units + 64 < cLine) : (nestedKind X.prog X.w).room A.in1 := by
  show A.units + 1 + 8 < cLine
  omega
theorem nd_key (I : Inv X pins σ H s) (hk : Pd H (.ref b) k) (n : k.noL = true) (d8 : k.dep ≤ 8) : (nestedKind X.prog X.w).is s.heap (nk k) b := ⟨nk_is I.hok n hk rfl, Nat.le_trans (nk_dep _) d8⟩
theorem nd_notIn {Q : Value → Shared → Prop} (hu : A.units + 64 < cLine) (I : Inv X pins σ H s) (e : Rd H d (DN X.prog X.w d es)) (ka : KeysAt H es) (hk : Pd H (.ref b) k) (n : k.noL = true) (d8 : k.dep ≤ 8)
    (h : ∀ s', Inv X pins σ H s' → Q (.bool (!hasN es k)) s') : wpAny (model X.prog X.w) A (compareOp .NotIn (.ref b) (.ref d)) Q E s := by
  obtain ⟨hd, _, xs, r, dd⟩ := dn_at I.hok e ka
  refine wpAny_notIn_heap (nd_room hu) (nd_key I hk n d8) hd dd ?_
  rw [nrel_has r]
  exact h _ (I.tok _)
theorem nd_set {Q : Unit → Shared → Prop} (hu : A.units + 64 < cLine) (I : Inv X pins σ H s) (e : H d = some (DN X.prog X.w d es)) (ka : KeysAt H es) (hk : Pd H (.ref b) k) (n : k.noL = true) (d8 : k.dep ≤ 8) (hn : hasN es k = false) (hl : es.length < sizeLine)
    (rv : RelV v r) (h : ∀ s', Inv X pins σ (upd H d (DN X.prog X.w d (es ++ [(k, b, v)]))) s' → Q () s') : wpAny (model X.prog X.w) A (setItem (.ref d) (.ref b) r) Q E s := by
  obtain ⟨hd, z, xs, rel, dd⟩ := dn_at I.hok (.inl e) ka
  have hz : xs.length ≤ sizeLine := by rw [← Paired.length rel]; exact z
  have hno : atKey xs (nk k) = none := by
    have := nrel_has (k := k) rel
    rw [hn] at this
    cases h : atKey xs (nk k) with
    | none => rfl
    | some p => rw [h] at this; cases this
  refine wpAny_setItem_heap (hsz := hz) (nd_room hu) (nd_key I hk n d8) dd fun h' dd' hs => h _ ?_
  obtain ⟨q, ea, ep, hq, h2, h3, h4, _, h5⟩ := dd'
  rw [storedH_new hno] at h4 h5
  exact d_write I (by rw [e]; exact True.intro) hs ⟨q, hq⟩ (dn_ok ⟨hd, by rw [List.length_append]; exact hl, _, Paired.snoc rel ⟨rfl, rfl, rv⟩, q, ea, ep, hq, h2, h3, h4, h5⟩)
end
/-- y not in d -/
def tNNot (P : Program) (w : World) (ty td : TE) : TE := fun σ H Q => ty σ H fun y H1 => td σ H1 fun x H2 => ∃ (d b : Addr) (es : List NEnt) (k : D), x = .ref d ∧ y = .ref b ∧ Rd H2 d (DN P w d es) ∧ KeysAt H2 es ∧ Pd H2 (.ref b) k ∧ k.noL = true ∧ k.dep ≤ 8 ∧ Q (.bl (!hasN es k)) H2
/-- d[y] = v, y a new key -/
def sNPut (P : Program) (w : World) (td ty tv : TE) : TS := fun D σ H => tv σ H fun v H1 => td σ H1 fun x H2 => ty σ H2 fun y H3 => ∃ (d b : Addr) (es : List NEnt) (k : Vt.D), x = .ref d ∧ y = .ref b ∧ H3 d = some (DN P w d es) ∧ KeysAt H3 es ∧ Pd H3 (.ref b) k ∧ k.noL = true ∧ k.dep ≤ 8 ∧ hasN es k = false ∧ es.length < sizeLine ∧
  D.nx σ (upd H3 d (DN P w d (es ++ [(k, b, v)])))
def tNNew (P : Program) (w : World) : TE := fun _ H Q => ∀ p, H p = none → Q (.ref p) (upd H p (DN P w p []))
def tNDisp (P : Program) (w : World) (tk tv : TE) : TE := fun σ H Q => ∀ p, H p = none → tk σ (upd H p (DN P w p [])) fun y H1 => tv σ H1 fun v H2 => H2 p = some (DN P w p []) ∧ ∃ (b : Addr) (k : D), y = .ref b ∧ Pd H2 (.ref b) k ∧ k.noL = true ∧ k.dep ≤ 8 ∧ Q (.ref p) (upd H2 p (DN P w p [(k, b, v)]))
/-- d.items(), each a new pair -/
def Itn (P : Program) (w : World) (d : Addr) (o : Obj) (es : List NEnt) : It :=
  ⟨fun i H => H d = some (.frz o (DN P w d es)) ∧ i < es.length, fun i H x H' => ∃ T k b v, es[i]? = some (k, b, v) ∧ x = .ref T ∧ H T = none ∧ H' = upd H T (.tup [.ref b, v]), fun i H => H d = some (.frz o (DN P w d es)) ∧ es.length ≤ i⟩
def iNItems (P : Program) (w : World) (td : TE) : TI := fun σ H R => td σ H fun x H1 => ∃ d o es, x = .ref d ∧ H1 d = some (.frz o (DN P w d es)) ∧ R (Itn P w d o es) H1
theorem nrel_get : ∀ {es : List NEnt} {xs : List (NestedKey × Addr × Value)} {i : Nat} {k : D} {b : Addr} {v : V}, NRel es xs → es[i]? = some (k, b, v) → ∃ u, xs[i]? = some (nk k, b, u) ∧ RelV v u
  | _, _, _, _, _, _, .nil, e => by simp at e
  | _, _, 0, k, b, v, .cons (b := q) hq t, e => by
    simp only [List.getElem?_cons_zero, Option.some.injEq] at e
    subst e
    obtain ⟨q1, q2, q3⟩ := q
    obtain ⟨e1, e2, e3⟩ := hq
    dsimp only at e1 e2 e3
    subst e1 e2
    exact ⟨q3, rfl, e3⟩
  | _, _, i + 1, k, b, v, .cons hq t, e => by
    obtain ⟨u, h1, h2⟩ := nrel_get t (show _ = some (k, b, v) by simpa using e)
    exact ⟨u, by simpa using h1, h2⟩
theorem dn_frz {X : Cx} {pins : List (Addr × Obj)} {σ : L2.St} {H : Hp} {s : Shared} {d : Addr} {o : Obj} {es : List NEnt} (I : Inv X pins σ H s) (h : H d = some (.frz o (DN X.prog X.w d es))) :
    (d == sysModules) = false ∧ s.heap.get? d = some o ∧ o.ExactDict ∧ ∃ (ea : Array DictEntry) (ep : Nat), o.data = .dict ea ep ∧ ea.size = es.length ∧ ∀ (i : Nat) (k : D) (b : Addr) (v : V), es[i]? = some (k, b, v) → ∃ (hi : i < ea.size) (u : Value), ea[i].key = .ref b ∧ ea[i].val = u ∧ RelV v u := by
  obtain ⟨hd, x⟩ := I.hok d _ h
  obtain ⟨⟨hs, z, xs, r, o', ea, ep, ho, hx, hdt, he, hn⟩, _, _⟩ := x
  rw [hd] at ho
  cases ho
  have hz : ea.size = xs.length := size_of_entries he
  have hl : es.length = xs.length := Paired.length r
  refine ⟨hs, hd, hx, ea, ep, hdt, by rw [hz, hl], fun i k b v hk => ?_⟩
  obtain ⟨u, hu, ru⟩ := nrel_get r hk
  have hi : i < ea.size := by rw [hz]; exact (List.getElem?_eq_some_iff.mp hu).1
  have e := entry_at he i
  rw [Array.getElem?_eq_getElem hi, hu, Option.map_some] at e
  have e' := Option.some.inj e
  exact ⟨hi, u, by rw [e']; rfl, by rw [e']; rfl, ru⟩
theorem turn_itn {P : Program} {w : World} {K : PySem.W.Frag} {d : Addr} {o : Obj} {ea : Array DictEntry} {ep : Nat} {es : List NEnt} {elts : List Expr} {kk : Nat} {tpos : Pos} (it : Addr) (hod : o.data = .dict ea ep) :
    Turn P w K (.Tuple elts kk tpos) (Itn P w d o es) [it] it (fun i h => ∃ ok ov, IsItemIter h it d i es.length ep ok ov) where
  mem := by simp
  obj := fun i h st b hb => by
    have e : b = it := by simpa using hb
    subst e
    obtain ⟨ok, ov, e⟩ := st
    exact ⟨_, e, fun v z => nomatch z⟩
  keep := fun i h h' st k => let ⟨ok, ov, e⟩ := st; ⟨ok, ov, k it (by simp) _ e⟩
  item := by
    intro X hP hw hK hc i pins s σ H E I hf st hg
    subst hP hw hK
    obtain ⟨hd, hi⟩ := hg
    obtain ⟨hs, hgd, hx, ea', ep', hdt, hsz, hent⟩ := dn_frz I hd
    obtain ⟨rfl, rfl⟩ := dict_ep hod hdt
    obtain ⟨⟨k, b, v⟩, hkv⟩ : ∃ p, es[i]? = some p := ⟨es[i], List.getElem?_eq_getElem hi⟩
    obtain ⟨hia, u, hu1, hu2, ru⟩ := hent i k b v hkv
    obtain ⟨ok, ov, he⟩ := st
    rw [← hsz] at he
    have hlt : it < s.heap.objs.size := Heap.lt_size he
    refine wpAny_pyNext_items_item_raw he ⟨o, hgd, hx, hdt⟩ hia fun h' ho hT hz hk => ?_
    rw [hu1, hu2] at ho hT
    refine ⟨_, rfl, wpAny_letOwnedTupleGo_items (s := { s with heap := h' }) ho fun h'' he' sb => ?_⟩
    have hT2 := (sb.2 _ (Nat.ne_of_gt hlt)).trans hT
    have new : ObjOk X.prog X.w (upd H s.heap.objs.size (.tup [.ref b, v])) h'' s.heap.objs.size (.tup [.ref b, v]) :=
      ⟨by show 2 ≤ sizeLine; decide, [.ref b, u], .cons rfl (.cons ru .nil), ⟨_, hT2, rfl, _, rfl⟩⟩
    have I1 : Inv X pins σ (upd H s.heap.objs.size (.tup [.ref b, v])) { s with heap := h'' } :=
      I.turnedNew (t' := s.toks) (ch := [it]) (fun b ob hb e => (sb.2 b (by simpa using hb)).trans (hk b ob (by simpa using hb) e)) hf (Nat.le_refl _) new
    refine ⟨.ref s.heap.objs.size, _, I1, rfl, ⟨_, k, b, v, hkv, rfl, I.hok.fresh (Nat.le_refl _), rfl⟩, ⟨.ref b, u, ?_⟩, fun b hb => ?_⟩
    · rw [← hsz]; exact he'
    · have e : b = it := by simpa using hb
      rw [e, upd_ne (Nat.ne_of_lt hlt)]
      exact (hf it (by simp)).1
  done := by
    intro X hP hw hK hc i pins s σ H E I hf st hg
    subst hP hw hK
    obtain ⟨hd, hi⟩ := hg
    obtain ⟨f0, f1, f2, f3, f4, f5⟩ := hf it (by simp)
    obtain ⟨hs, hgd, hx, ea', ep', hdt, hsz, hent⟩ := dn_frz I hd
    obtain ⟨rfl, rfl⟩ := dict_ep hod hdt
    obtain ⟨ok, ov, he⟩ := st
    rw [← hsz] at he
    exact wpAny_pyNext_items_end_raw (I.ok.hd hc) he ⟨o, hgd, hx, hdt⟩ (by omega) fun h' eb => ⟨rfl, I.turned (t' := s.toks) (fun b ob hb e => eb b ob hb e) f0 f1 f3 f4 f5⟩
  self := fun A i s Q E st h => let ⟨_, _, e⟩ := st; PySem.W.kcp_self e h
theorem dn_empty {P : Program} {w : World} {H : Hp} (h : Heap) (hb : sysModules < h.objs.size) : ObjOk P w H (h.push { cls := .type "dict", data := .dict #[] }) h.objs.size (DN P w h.objs.size []) :=
  dn_ok ⟨beq_eq_false_iff_ne.mpr (Ne.symm (Nat.ne_of_lt hb)), Nat.zero_le _, [], .nil, _, #[], 0, Heap.get?_push_size _ rfl, ⟨rfl, rfl, rfl⟩, rfl, rfl, List.nodup_nil⟩
theorem ndisp_pairs {prog : Program} {w : World} {K : Type} [DecidableEq K] {knd : HeapKind prog w K} {A : Around} {E : Value → Shared → Prop} {s : Shared} {env : Env} {keys : List (Option Expr)} {values : List Expr} {pos : Pos} {pairs : List (Sem Value × Sem Value)} {Q : Value → Shared → Prop} (hu : knd.room A)
    (hshape : (evalEachOpt keys env).zip ((evalEach values env).map fun v => do let x ← v; standAt pos; pure x) = pairs.map fun p => (some p.1, p.2)) (h0 : pairs ≠ []) (hlen : pairs.length ≤ 15)
    (h : wpAny (model prog w) A (evalPairs pairs) (fun vs s₁ => ∃ ps, CarriesH knd s₁.heap vs ps ∧ s₁.heap.DictOfH knd s.heap.objs.size [] ∧
      ∀ h' tk, h'.DictOfH knd s.heap.objs.size (storedAllH [] ps) → Heap.SameBut s.heap.objs.size s₁.heap h' → Q (.ref s.heap.objs.size) { s₁ with heap := h', toks := tk }) E
      { s with heap := s.heap.push { cls := .type "dict", data := .dict #[] } }) :
    wpAny (model prog w) A (eval (.Dict keys values pos) env) Q E s := by
  rw [arm_eval_Dict, hshape, dictDisplay_pairs pairs h0 (by omega)]
  exact wpAny_bind (wpAny_standAt (wpAny_bind (wpAny_subDictH (knd := knd) (Q := fun d s' => wpAny (model prog w) A (pure (Value.ref d)) Q E s') hu hlen
    (wpAny_mono h (fun vs s₁ h₁ => by obtain ⟨ps, hc, hm, hq⟩ := h₁; exact ⟨ps, hc, hm, fun h' tk a b => wpAny_pure (hq h' tk a b)⟩) fun _ _ e => e))))
section
variable {X : Cx} {o i e value k1 v1 : Expr} {pos pos' apos cpos : Pos} {td ty tv tk : TE}
theorem pc_nnot (hu : X.A.units + 64 < cLine) (hi : PE X i ty) (ho : PE X o td) : PC X .NotIn i o (tNNot X.prog X.w ty td) := by
  refine ⟨fun pins s σ H Q I h => ?_⟩
  refine thn (hi.run pins s σ H _ I h) fun iv s1 ⟨y, H1, I1, ry, q1⟩ => thn (ho.run pins s1 σ H1 _ I1 q1) fun u s2 ⟨x, H2, I2, rx, d, b, es, k, ex, ey, g, ka, hk, n, d8, q2⟩ => ?_
  subst ex ey
  obtain rfl : u = Value.ref d := rx
  obtain rfl : iv = Value.ref b := ry
  exact nd_notIn hu I2 g ka hk n d8 fun s3 I3 => ⟨.bl (!hasN es k), H2, I3, rfl, q2⟩
theorem ps_nput (hu : X.A.units + 64 < cLine) (ho : PE X o td) (hi : PE X i ty) (hv : PE X value tv) (hs : swapsWith value (some (.Subscript o i pos')) pos.line X.env = pure false) :
    PS X (.Assign [.Subscript o i pos'] value pos) (sNPut X.prog X.w td ty tv) := by
  refine ⟨fun pins s σ H D I h => ?_⟩
  refine wpAny_Assign_Subscript (thn (hv.run pins s σ H _ I h) fun r s1 ⟨v, H1, I1, rv, q1⟩ => thn (ho.run pins s1 σ H1 _ I1 q1) fun u s2 ⟨x, H2, I2, rx, q2⟩ => thn (hi.run pins s2 σ H2 _ I2 q2) fun iv s3 ⟨y, H3, I3, ry, d, b, es, k, ex, ey, g, ka, hk, n, d8, hn, hl, q3⟩ => ?_) hs
  subst ex ey
  obtain rfl : u = Value.ref d := rx
  obtain rfl : iv = Value.ref b := ry
  exact nd_set hu I3 g ka hk n d8 hn hl rv fun s4 I4 => ⟨σ, _, I4, q3⟩
theorem pe_nnew : PE X (.Dict [] [] pos) (tNNew X.prog X.w) := ⟨fun pins s σ H Q I h =>
  wpAny_Dict_empty ⟨.ref s.heap.objs.size, _, I.laid (a := s.heap.objs.size) (o := DN X.prog X.w s.heap.objs.size []) (t' := s.toks) (fun _ _ q => Heap.get?_push_of_some _ q) (Nat.le_refl _) (dn_empty s.heap I.big), rfl, h _ (I.hok.fresh (Nat.le_refl _))⟩⟩
theorem pe_ndisp (hu : X.A.units + 64 < cLine) (hk : PE X k1 tk) (hv : PE X v1 tv) : PE X (.Dict [some k1] [v1] pos) (tNDisp X.prog X.w tk tv) := by
  refine ⟨fun pins s σ H Q I q => ?_⟩
  have hn := I.hok.fresh (Nat.le_refl s.heap.objs.size)
  have I1 := I.laid (a := s.heap.objs.size) (o := DN X.prog X.w s.heap.objs.size []) (h' := s.heap.push { cls := .type "dict", data := .dict #[] }) (t' := s.toks) (fun _ _ q => Heap.get?_push_of_some _ q) (Nat.le_refl _) (dn_empty s.heap I.big)
  have pp : PPs X pos [some k1] [v1] [(tk, tv)] := pps_cons hk hv pps_nil
  refine ndisp_pairs (knd := nestedKind X.prog X.w) (pairs := pairTrees [some k1] [v1] X.env pos) (show X.A.units + 8 < cLine by omega) (zip_pairTrees [some k1] [v1] X.env pos rfl rfl) (by simp [pairTrees]) (by simp [pairTrees])
    (thn (pp.run pins _ σ _ (fun ps H2 => match ps with
      | [(y, v)] => H2 s.heap.objs.size = some (DN X.prog X.w s.heap.objs.size []) ∧ ∃ (b : Addr) (k : D), y = .ref b ∧ Pd H2 (.ref b) k ∧ k.noL = true ∧ k.dep ≤ 8 ∧ Q (.ref s.heap.objs.size) (upd H2 s.heap.objs.size (DN X.prog X.w s.heap.objs.size [(k, b, v)]))
      | _ => False) I1 (q _ hn)) fun ws s2 ⟨ps, H2, I2, rel, q2⟩ => ?_)
  match ps, q2 with
  | [(y, v)], ⟨e, b, k, ey, hk2, n, d8, q2⟩ =>
    subst ey
    cases rel with
    | @cons _ p _ ws' hp t =>
      cases t
      obtain ⟨p1, p2⟩ := p
      obtain ⟨r1, r2⟩ := hp
      cases (show p1 = Value.ref b from r1)
      obtain ⟨hd, z, xs, rl, dd⟩ := dn_at I2.hok (.inl e) (fun e he => by cases he)
      cases rl
      refine ⟨[(nk k, b, p2)], ⟨rfl, rfl, nd_key I2 hk2 n d8, True.intro⟩, dd, fun h' tk' dd' hs => ⟨.ref s.heap.objs.size, _, ?_, rfl, q2⟩⟩
      obtain ⟨q, ea, ep, hq, h2, h3, h4, h6, h5⟩ := dd'
      exact d_write I2 (by rw [e]; exact True.intro) hs ⟨q, hq⟩ (dn_ok ⟨hd, by show 1 ≤ sizeLine; decide, [(nk k, b, p2)], .cons ⟨rfl, rfl, r2⟩ .nil, q, ea, ep, hq, h2, h3, h4, h5⟩)
theorem pi_nitems {elts : List Expr} {kk : Nat} {tpos : Pos} (he : PE X e td) (hbase : attributeBase e "items" X.env (eval e X.env) = eval e X.env := by rfl) (hline : (apos.endLine == cpos.line) = true := by rfl) :
    PI X (.Tuple elts kk tpos) (.Call (.Attribute e "items" apos) [] [] cpos) (iNItems X.prog X.w td) := by
  refine ⟨fun pins s σ H R I h => ?_⟩
  refine wpAny_Call_method (T := "dict") (id := "dict.items") hbase rfl hline F.plainAttrs_dict F.slot_dict_items F.type_dict_items (thn (he.run pins s σ H _ I h) fun u s1 ⟨x, H1, I1, rx, d, o, es, ex, hd, q⟩ => ?_)
  subst ex
  obtain rfl : u = Value.ref d := rx
  obtain ⟨hs, hgd, hx, ea, ep, hdt, hsz, hent⟩ := dn_frz I1 hd
  have raw : s1.heap.DictRaw d ea ep := ⟨o, hgd, hx, hdt⟩
  refine ⟨raw.typeIs, fun b z => by cases z; exact ⟨o, hgd, hx.2.1⟩, ?_⟩
  have I2 : Inv X pins σ H1 { s1 with heap := s1.heap.push { cls := .type "dict_items", data := .fields #[.ref d] } } := I1.kept (t' := s1.toks) fun b ob q => Heap.get?_push_of_some _ q
  have fin : wpAny (model X.prog X.w) X.A (pyIter (.ref s1.heap.objs.size)) (PIE X pins σ (.Tuple elts kk tpos) R) X.xe { s1 with heap := s1.heap.push { cls := .type "dict_items", data := .fields #[.ref d] } } := by
    refine wpAny_pyIter_items_raw (d := d) ⟨_, Heap.get?_push_size _ rfl, rfl, rfl⟩ (raw.at fun ob q => Heap.get?_push_of_some _ q) (pi_one (tk := s1.toks) I2 _ (turn_itn _ hdt) ⟨.none, .none, ?_⟩ q)
    rw [hsz]
    exact Heap.get?_push_size _ rfl
  show wpAny _ _ (callWith cpos (.builtin "dict.items") [.ref d] [] []) _ X.xe s1
  exact method_meetsIn F.slot_dict_items F.entry_dict_items rfl (PySem.evalArgs_none ⟨rfl, raw.typeIs, F.args_dict_items_1 _, _, meets_dict_items_raw d hs, ⟨⟨ea, ep, raw⟩, fin⟩⟩)
theorem walk_nitems {P : Program} {w : World} {d : Addr} {ob : Obj} {es : List NEnt} : Walk (Itn P w d ob es) es.length (fun H => H d = some (.frz ob (DN P w d es))) (fun i H x H' => ∃ T k b v, es[i]? = some (k, b, v) ∧ x = .ref T ∧ H T = none ∧ H' = upd H T (.tup [.ref b, v])) :=
  ⟨fun i H hi h => ⟨h, hi⟩, fun H h => ⟨h, Nat.le_refl _⟩, fun i H x H' hi h y => y⟩
end
end Vt
namespace Vt
open PySem PySem.Spec PyProof.Rows L2
/-! ### a def of a class that says super().m(..) first: its frame -/
abbrev nfS (name qual : Str) (st : Stmt) (cda cc : Addr) : NdefX.NF := ⟨name, qual, defArgs st, defBody st, defScope st, [("__class__", cc)], cda⟩
theorem cells_S {K : PySem.W.Frag} {h base : Heap} {H : Hp} {cc D : Addr} {cl : Value} {cld : Option Addr} {csl : Array (Option Value)} (X : K.In base) (bs : ∀ b o, base.get? b = some o → h.get? b = some o ∧ H b = none) (hcell : K.lookup cc = some ⟨cl, cld, .cell (some (.ref D)), csl⟩) :
    NdefX.CellsAt [("__class__", cc)] ["__class__"] [none] h H := by
  obtain ⟨e1, e2⟩ := bs cc _ (X _ _ hcell)
  have one : ∀ y c, [(("__class__" : Str), cc)].lookup y = some c → y = "__class__" ∧ c = cc := fun y c z => by
    have z' := PySem.mem_of_lookup z
    rw [List.mem_singleton] at z'
    injection z' with a b
    exact ⟨a, b⟩
  refine ⟨rfl, fun y c z => ?_, fun x y c z1 z2 => ?_, fun i y z => ?_⟩
  · obtain ⟨_, rfl⟩ := one y c z
    exact ⟨e2, some (.ref D), ⟨_, e1, rfl⟩⟩
  · rw [(one x c z1).1, (one y c z2).1]
  · cases i with
    | zero =>
      simp only [List.getElem?_cons_zero, Option.some.injEq] at z
      subst z
      exact ⟨cc, rfl, fun v q => by cases q⟩
    | succ i => simp at z
/-- what the text must be, so that super() is the built-in one, asked in this module -/
structure SupOk (P : Program) (K : PySem.W.Frag) (mg : Str → Option Value) (sc : Scope) (cda : Addr) : Prop where
  code : ∃ ccl cdd vs ccs file tf, K.lookup cda = some ⟨ccl, cdd, .fields vs, ccs⟩ ∧ vs[2]? = some (.str file tf) ∧ ((P.main.file : Str) == file) = true
  top : (P.main.scope.names.lookup ("super" : Str)).isSome = false
  none_ : mg "super" = none
  ks : sc.names.lookup ("super" : Str) = some .globalImplicit
  kc : sc.names.lookup ("__class__" : Str) = some .free
  any : PySem.W.nsIn K cStatics "thirdparty.any" = some none
section
variable {CX : CXT} {P : Program} {w : World} {K : PySem.W.Frag} {mg : Str → Option Value} {base : Heap} {N ps : List Str} {f cda cc D C x : Addr} {name qual : Str} {st : Stmt} {A : Around} {outer : List Env} {s0 s : Shared} {H0 H : Hp} {E : XK} {pins : List (Addr × Obj)} {σ : L2.St}
  {cl oc : Value} {cld od : Option Addr} {csl osl : Array (Option Value)} {fd : FuncData} {ar : Arg} {cdD : ClassData} {ox : Obj} {odx : Option Obj}
/-- super(): the object that asks the classes behind D -/
theorem super_at {body : List Stmt} {p0 p1 : Pos} {attr : Str} {whole : Sem Value} {Q : Value → Shared → Prop} (S : SupOk P K mg (defScope st) cda) (lf : K.lookup f = some ⟨oc, od, .func fd, osl⟩) (hp : (fd.params.posonlyargs ++ fd.params.args).head? = some ar) (hka : (defScope st).names.lookup ar.arg = some .local) (hk : (defScope st).kind = .function)
    (hcell : K.lookup cc = some ⟨cl, cld, .cell (some (.ref D)), csl⟩) (hD : PySem.W.clsIn K D = some cdD) (hsub : PySem.W.mroIn K C (.ref D) = some true) (hat : (attr == ("__class__" : Str)) = false)
    (I : Inv (NdefX.ncx CX P w K mg base N (nfS name qual st cda cc) f A outer s0 H0 E) pins σ H s) (hN : N[0]? = some ar.arg) (hσ : σ[0]? = some (some (.ref x))) (J : PySem.W.InstAt s.heap x ox C odx)
    (h : ∀ so s', Inv (NdefX.ncx CX P w K mg base N (nfS name qual st cda cc) f A outer s0 H0 E) ((so, PySem.W.ks_superObj D x C) :: pins) σ H s' → (∀ b o, s.heap.get? b = some o → s'.heap.get? b = some o) → Q (.ref so) s') :
    PySem.wpAt (model P w) (NdefX.ncx CX P w K mg base N (nfS name qual st cda cc) f A outer s0 H0 E).A (.func body (NdefX.ncx CX P w K mg base N (nfS name qual st cda cc) f A outer s0 H0 E).env)
      (attributeBase (.Call (.Name "super" p0) [] [] p1) attr (NdefX.ncx CX P w K mg base N (nfS name qual st cda cc) f A outer s0 H0 E).env whole) Q (NdefX.ncx CX P w K mg base N (nfS name qual st cda cc) f A outer s0 H0 E).xe s := by
  have X := I.kIn
  obtain ⟨ccl, cdd, vs, ccs, file, tf, hcode, hvs, hfile⟩ := S.code
  obtain ⟨m, hn, hl⟩ := I.loc
  obtain ⟨u, ru, lk⟩ := hl 0 ar.arg (.ref x) hN hσ (.inl hka)
  obtain rfl : u = Value.ref x := ru
  have hv : m ar.arg = some (.ref x) := by
    rcases lk with ⟨_, z⟩ | ⟨z, _⟩
    · exact z
    · have z' : (defScope st).names.lookup ar.arg = some .cell ∨ (defScope st).names.lookup ar.arg = some .free := z
      rw [hka] at z'
      rcases z' with z' | z' <;> cases z'
  obtain ⟨oD, hD1, hD2⟩ : ∃ oD, s.heap.get? D = some oD ∧ oD.data = .cls cdD := by
    unfold PySem.W.clsIn at hD
    split at hD
    · rename_i c d cd' sl ho
      cases hD
      exact ⟨_, X _ _ ho, rfl⟩
    · cases hD
  obtain ⟨mb, hb1, hb2⟩ := I.mod.blt
  refine ks_wpAt_super_base (env := (NdefX.ncx CX P w K mg base N (nfS name qual st cda cc) f A outer s0 H0 E).env) S.ks S.kc hat rfl (X _ _ lf) rfl hp rfl (X _ _ hcode) rfl hvs hfile S.top ?_
  refine PySem.W.ks_loadName_global hk S.ks (Calls.loadGlobal_builtin (by exact I.mod.glob.keeps I.bk) S.none_ (by exact hb1.keeps I.bk) ((hb2 _ (by decide +kernel)).trans (by first | exact PySem.W.boot_super | kernel_rfl)) ⟨rfl, ?_⟩)
  refine wpAny_loadName_free hk S.kc rfl ⟨_, X _ _ hcell, rfl⟩ ?_
  refine wpAny_loadName_local hk hka hn hv ?_
  refine ks_wpAny_isType_cls hD1 hD2 ⟨rfl, ?_⟩
  obtain ⟨hp', g, d, t, os⟩ := s
  refine ks_wpAny_call_super hD1 hD2 J.at_ J.cls (fun c e => ?_) (PySem.W.looks_mroIn X hsub) (fun h' e k => ?_)
  · have := J.no
    unfold PySem.W.notCls at this
    rw [e] at this
    exact Bool.noConfusion this
  · exact h _ _ (ClX.pin_new (t' := t) I k (Nat.le_refl _) e (fun v z => nomatch z)) k
/-- what a class must be, so that super().m finds the def at f2 behind D -/
structure SupM (K : PySem.W.Frag) (C D : Addr) (m : Str) (f2 : Addr) : Prop where
  sub : PySem.W.mroIn K C (.ref D) = some true
  at_ : PySem.W.ks_superIn K C D m = some (some (.ref f2))
  ty : PySem.W.typeIn K (.ref f2) = some (.type "function")
  fn : PySem.W.fnIn K f2 = true
abbrev startS (N : List Str) (vs : List V) : L2.St := NdefX.startF N vs [none]
/-- a def of a class whose first statement is super().m(..), m a def of a class behind -/
theorem fnS_own {k k2 f2 : Nat} {sp sp2 : Sp} {fd2 : FuncData} {ps2 : List Str} {dV kV doc pm ct : Value} {an : Option Addr} {m : Str} {p0 p1 apos pos epos : Pos} {e : Expr} {es : List Expr} {rest : List Stmt}
    (lk : K.lookup f = some ⟨oc, od, .func (PySem.W.fnX name qual (defArgs st) (defBody st) (defScope st) [("__class__", cc)] dV kV doc pm an (.ref cda) ct), osl⟩) (hcd : PySem.W.codeIn K (.ref cda) qual = true) (hbd : defBody st = .Expr (.Call (.Attribute (.Call (.Name "super" p0) [] [] p1) m apos) (e :: es) [] pos) epos :: rest)
    (S : NdefX.NScope N ps ["__class__"] (defScope st)) (SO : SupOk P K mg (defScope st) cda) (hp : ((defArgs st).posonlyargs ++ (defArgs st).args).head? = some ar) (hN : N[0]? = some ar.arg) (h0 : ps[0]? = some ar.arg)
    (hcell : K.lookup cc = some ⟨cl, cld, .cell (some (.ref D)), csl⟩) (hD : PySem.W.clsIn K D = some cdD) (hm1 : (m == ("__class__" : Str)) = false)
    (F2 : FnOk P w K mg base CX0 k2 f2 fd2 ps2 sp2) (b2 : Binds K fd2 ps2 []) (hk2 : k2 ≤ k)
    (len : ∀ vs H Q E, sp vs H Q E → vs.length = ps.length)
    (hst : ∀ env, starEach (e :: es) env = (false, eval e env) :: starEach es env) (hpl : ∀ env, (backTo pos (starEach es env)).any (·.1) = false)
    (hev : ∀ env, ∃ pl : Sem Bool, eval (.Call (.Attribute (.Call (.Name "super" p0) [] [] p1) m apos) (e :: es) [] pos) env = (do
      let ov ← attributeBase (.Call (.Name "super" p0) [] [] p1) m env (eval (.Call (.Name "super" p0) [] [] p1) env)
      standAt apos.atName
      let (f, first) ← holding [ov] (getMethod ov m pl)
      callWith pos f first (backTo pos (starEach (e :: es) env)) []))
    (hsw : ∀ env, swapsWith (.Call (.Attribute (.Call (.Name "super" p0) [] [] p1) m apos) (e :: es) [] pos) none epos.line env = pure false)
    (hbody : ∀ (A : Around) (outer : List Env) (s : Shared) (H : Hp) (vs : List V) (Q : VK) (E : XK), Room k (A.deeper (NdefX.envF (nfS name qual st cda cc) f s.heap.objs.size)) → sp vs H Q E →
      ∃ (ta : TA) (t : TS), L2.PA (NdefX.ncx CX0 P w K mg base N (nfS name qual st cda cc) f A outer s H E) (e :: es) ta ∧ PSs (NdefX.ncx CX0 P w K mg base N (nfS name qual st cda cc) f A outer s H E) rest t ∧
        ∃ (x C dx : Addr) (fs : List (Str × V)), (startS N vs)[0]? = some (some (.ref x)) ∧ H x = some (.ins C dx fs) ∧ SupM K C D m f2 ∧
          ta (startS N vs) H fun ws H1 => sp2 (.ref x :: ws) H1 (fun _ H2 => t { nx := fun _ H' => Q .non H', rt := Q } (startS N vs) H2) E0) :
    FnOk P w K mg base CX0 (k + 1) f (PySem.W.fnX name qual (defArgs st) (defBody st) (defScope st) [("__class__", cc)] dV kV doc pm an (.ref cda) ct) ps sp := by
  refine ⟨len, fun A outer s H args us vs Q E hr e0 hb r hsp => ?_⟩
  have hl := len _ _ _ _ hsp
  have KX : K.In s.heap := e0.mod.kin.keeps fun b o e => (e0.bs b o e).1
  have lim : s.heap.NoLimit := e0.mod.nolimit.keeps fun b o e => (e0.bs b o e).1
  obtain ⟨ta, t, hpa, hps, x, C, dx, fs, hx0, hxi, sm, rd⟩ := hbody A outer s H vs Q E (hr.deeper _) hsp
  refine ks_codeAny_call_defAt (fd := PySem.W.fnX name qual (defArgs st) (defBody st) (defScope st) [("__class__", cc)] dV kV doc pm an (.ref cda) ct) (body := defBody st) (binds := ps.zip us) hr.depth (KX _ _ lk) rfl lim (PySem.W.codeRec_of KX hcd) rfl hb S.nocell
    (fun y hy => S.par y.1 (List.of_mem_zip hy).1) (fun h₁ hns hk => ?_) S.co S.gen S.kind
  have I := NdefX.inv_startN (CX := CX0) (E := E) (F := nfS name qual st cda cc) (f := f) (tk := s.toks + (ps.zip us).length) S hr.hd e0 hl r (cells_S e0.mod.kin e0.bs hcell) hns hk
  have hr' : Room k (A.deeper (NdefX.envF (nfS name qual st cda cc) f s.heap.objs.size)) := hr.deeper _
  have fin : ∀ (fl : Flow) (s' : Shared), SP (NdefX.ncx CX0 P w K mg base N (nfS name qual st cda cc) f A outer s H E) [] { nx := fun _ H' => Q .non H', rt := Q } fl s' → CR CX0 outer P w H s Q E (.ok (.ret (match fl with | .ret v => v | _ => .none))) s' := fun fl s' hs => by
    have fin0 : ∀ {σ' : L2.St} {H' : Hp} {v : V} {u : Value}, Inv (NdefX.ncx CX0 P w K mg base N (nfS name qual st cda cc) f A outer s H E) [] σ' H' s' → RelV v u → Q v H' → CE outer P w H s Q u s' :=
      fun {σ' H' v u} J rv q => ⟨v, H', J.os, J.bare, J.base, J.hok, rv, q⟩
    cases fl with
    | ret u =>
      obtain ⟨v, σ', H', J, rv, q⟩ := hs
      exact fin0 J rv q
    | next =>
      obtain ⟨σ', H', J, q⟩ := hs
      exact fin0 (v := V.non) (u := Value.none) J rfl q
    | brk =>
      obtain ⟨_, _, _, q⟩ := hs
      exact False.elim q
    | cont =>
      obtain ⟨_, _, _, q⟩ := hs
      exact False.elim q
  obtain ⟨pl, hev'⟩ := hev (NdefX.ncx CX0 P w K mg base N (nfS name qual st cda cc) f A outer s H E).env
  have go : PySem.wpAt (model P w) (NdefX.ncx CX0 P w K mg base N (nfS name qual st cda cc) f A outer s H E).A (.func (defBody st) (NdefX.ncx CX0 P w K mg base N (nfS name qual st cda cc) f A outer s H E).env)
      (execs (defBody st) (NdefX.ncx CX0 P w K mg base N (nfS name qual st cda cc) f A outer s H E).env) (SP (NdefX.ncx CX0 P w K mg base N (nfS name qual st cda cc) f A outer s H E) [] { nx := fun _ H' => Q .non H', rt := Q }) (NdefX.ncx CX0 P w K mg base N (nfS name qual st cda cc) f A outer s H E).xe { s with heap := h₁, toks := s.toks + (ps.zip us).length } := by
    rw [hbd]
    refine ks_wpAt_execs_cons (ks_wpAt_Expr_any (ks_wpAt_MethodCall ?_ hev') (by show ((defScope st).kind == .module && _) = false; rw [S.kind]; rfl) (hsw _))
    obtain ⟨hdx, hz, ndx, hgx, mA, hnsx, rlx, _⟩ := (show ObjOk P w H h₁ x (.ins C dx fs) from I.hok x _ hxi)
    obtain ⟨odx, hodx, _⟩ := lookIn_ns hnsx
    have J : PySem.W.InstAt h₁ x (PySem.W.instObj C dx) C (some odx) := ⟨hgx, rfl, rfl, hodx⟩
    refine super_at SO lk hp (S.par _ (List.mem_of_getElem? h0)) S.kind hcell hD sm.sub hm1 I hN hx0 J fun so s1 I1 k1 => ?_
    have X1 := I1.kIn
    have hso := ClX.pin_at I1
    have J1 := J.at_
    cases hc : PySem.W.clsIn K C with
    | none =>
      have z := sm.at_
      unfold PySem.W.ks_superIn at z
      rw [hc] at z; cases z
    | some cd =>
      have z := sm.at_
      unfold PySem.W.ks_superIn at z
      rw [hc] at z
      obtain ⟨of, hof, hofc⟩ : ∃ of, s1.heap.get? f2 = some of ∧ of.cls = .type "function" := by
        have ht' : (K.lookup f2).map (·.cls) = some (.type "function") := sm.ty
        cases q : K.lookup f2 with
        | none => rw [q] at ht'; cases ht'
        | some of => rw [q] at ht'; exact ⟨of, X1 _ _ q, Option.some.inj ht'⟩
      obtain ⟨hp1, g1, d1, t1, os1⟩ := s1
      refine ks_wpAny_getMethod_super hso (PySem.W.looks_opaque X1 SO.any) (l₀ := cd.mro) ?_ rfl X1 z hof hofc (PySem.W.ks_ne I.kIn J hc) hm1 ?_
      · exact fun A Q E s k q => wpAny_bind ((PySem.W.looks_clsIn X1 hc) A _ E s k (wpAny_pure q))
      · have I2 := ClX.met_new (g := f2) (C := x) I1
        refine ClX.callwith_cm I2 (ClX.base_none I1 (Nat.le_refl _)) sm.fn ?_ (hst _) (hpl _)
        refine thn (hpa.run pos _ _ _ _ _ I2 rd) fun ws s3 ⟨vs2, H1, I3, r3, q3⟩ => ⟨⟨ClX.pin_at I3, I3.kIn⟩, ?_⟩
        have r4 : Vals (.ref x :: vs2) (.ref x :: ws) := .cons rfl r3
        have hl2 : (Value.ref x :: ws).length = ps2.length := by rw [← r4.length]; exact F2.len _ _ _ _ q3
        refine wpAny_call (PySem.W.method_call (ClX.pin_at I3) (codeAny_mono (F2.run _ _ s3 H1 ⟨.ref x :: ws, []⟩ (.ref x :: ws) (.ref x :: vs2) _ _ (hr'.mono hk2) I3.env0 (by
          have := b2 s3 (.ref x :: ws) I3.kIn (by rw [List.append_nil]; exact hl2)
          rw [List.append_nil] at this; exact this) r4 q3) fun r s' hq => ?_))
        cases r with
        | error e => exact (show False from hq).elim
        | ok fl =>
          cases fl with
          | ret u =>
            obtain ⟨v, H', J', _, q⟩ := ClX.unpinE (ClX.unpinE (I3.after hq))
            exact wpAt_of_wpAny (hps.run [] s' _ H' _ J' q)
          | next => exact False.elim hq
          | brk => exact False.elim hq
          | cont => exact False.elim hq
  exact ks_wpAt_mono go (fun fl s' hl => fin fl s' hl) fun _ _ y => y
end
end Vt
namespace Vt
open PySem PySem.Spec PyProof.Rows L2
/-! ### the processor alone in the heap -/
def exW (r : Addr) (rd : Nat) : List (Str × V) := [("due", .ref r), ("readings", nV rd)]
structure MCW (K : PySem.W.Frag) (C : Addr) : Prop extends MC K C where
  nd : NoAttr K C "due"
  nr : NoAttr K C "readings"
theorem fsM_due {A : PA} {a b : Nat} {r : Addr} {rd : Nat} (h : A.prog.ex = exW r rd) : (fsM A a b).lookup ("due" : Str) = some (.ref r) := by
  unfold fsM; rw [h]; rfl
theorem fsM_readings {A : PA} {a b : Nat} {r : Addr} {rd : Nat} (h : A.prog.ex = exW r rd) : (fsM A a b).lookup ("readings" : Str) = some (nV rd) := by
  unfold fsM; rw [h]; rfl
def PA.withEx (A : PA) (r : Addr) (rd : Nat) : PA := { A with prog := ⟨A.prog.v, exW r rd, by show 2 ≤ 100; decide, fun p hp => by
    rcases List.mem_cons.mp hp with rfl | hp
    · exact .inl rfl
    · rw [List.mem_singleton.mp hp]; exact .inr rfl⟩ }
/-- the due readings, a list that is not the machine's -/
structure Due (ow : Addr → Prop) (H : Hp) (r : Addr) (due : List (Nat × Nat)) : Prop where
  ex : ∃ xs, H r = some (.lst xs) ∧ Pds H xs (due.map rdD)
  no : ¬ ow r
theorem Due.keep {ow ow' : Addr → Prop} {H H' : Hp} {C m : Addr} {M : Mst} {sd : List Nat} {A : PA} {r : Addr} {due : List (Nat × Nat)} (d : Due ow H r due) (hM : PM ow H C m M sd A) (k : Keep ow ow' H H') : Due ow' H' r due := by
  obtain ⟨⟨xs, h1, h2⟩, no⟩ := d
  obtain ⟨e1, e2⟩ := k r _ no h1
  exact ⟨⟨xs, e1, Pds.tups (fun a ys e => (k a _ (hM.notTup e) e).1) (noLs_map noL_rd _) h2⟩, e2⟩
theorem Due.same {ow : Addr → Prop} {H H' : Hp} {r : Addr} {due : List (Nat × Nat)} (d : Due ow H r due) (s : Same H H') : Due ow H' r due := by
  obtain ⟨⟨xs, h1, h2⟩, no⟩ := d
  exact ⟨⟨xs, s _ _ h1, h2.same s⟩, no⟩
section
variable {ow : Addr → Prop} {H H' : Hp} {C m : Addr} {M : Mst} {sd : List Nat} {A : PA} {K : PySem.W.Frag}
theorem PM.setEx (h : PM ow H C m M sd A) {r : Addr} {rd : Nat} : PM ow (upd H m (.ins C A.dx (fsM (A.withEx r rd) M.at_ M.beats))) C m M sd (A.withEx r rd) := by
  obtain ⟨f1, f2, f3⟩ := h.fr (i := 0) (q := m) (o := .ins C A.dx (fsM (A.withEx r rd) M.at_ M.beats)) rfl
  exact ⟨upd_same, (f1 1 _ (by decide) rfl).trans h.dxo, (f1 2 _ (by decide) rfl).trans h.mem, (f1 3 _ (by decide) rfl).trans h.held, (f1 4 _ (by decide) rfl).trans h.tou, (f1 5 _ (by decide) rfl).trans h.left, Pds.tups f3 (noLs_map noL_mv _) h.leftD, (f1 6 _ (by decide) rfl).trans h.rows, Pds.tups f3 (noLs_map noL_row _) h.rowsD,
    (f1 7 _ (by decide) rfl).trans h.said, fun l e => (f2 l e).trans (h.line l e), h.inj, h.nd, h.hl, h.oa, h.ol, h.kindU (fun xs z => by cases z)⟩
theorem due_at {due : List (Nat × Nat)} {r : Addr} (d : Due ow H r due) {i : Nat} (hi : i < due.length) : ∃ xs T, H r = some (.lst xs) ∧ xs[i]? = some (.ref T) ∧ H T = some (.tup [nV (due.getD i (0, 0)).1, nV (due.getD i (0, 0)).2]) := by
  obtain ⟨⟨xs, h1, h2⟩, _⟩ := d
  have e : (due.map rdD)[i]? = some (rdD due[i]) := by rw [List.getElem?_map, List.getElem?_eq_getElem hi]; rfl
  obtain ⟨v, hv, hp⟩ := h2.get e
  have ed : due.getD i (0, 0) = due[i] := by rw [List.getD_eq_getElem?_getD, List.getElem?_eq_getElem hi]; rfl
  cases hp with
  | tup h hs =>
    cases hs with
    | cons a hs =>
      cases a
      cases hs with
      | cons b hs =>
        cases b; cases hs
        exact ⟨xs, _, h1, hv, by rw [ed]; exact h⟩
end
section
variable {P : Program} {w : World} {K : PySem.W.Frag} {mg : Str → Option Value} {base : Heap} {C : Addr}
abbrev st_Walk_read_cell : Stmt := (inClass (topS 31) 1)
abbrev nm_Walk_read_cell : List Str := ["self", "cell", "number"]
theorem sc_Walk_read_cell : FnScope ["self", "cell", "number"] ["self", "cell"] (defScope st_Walk_read_cell) := ⟨rfl, rfl, rfl, by decide +kernel, rfl, by decide +kernel, by decide +kernel⟩
def spWRead (C : Addr) : Sp := fun vs H Q _ => ∃ (ow : Addr → Prop) (m : Addr) (W : Wk) (sd : List Nat) (A : PA) (cells k : Nat) (r : Addr) (due : List (Nat × Nat)), vs = [.ref m, nV k] ∧ PM ow H C m W.M sd A ∧ A.prog.ex = exW r W.rd ∧ Due ow H r due ∧ W.rd < due.length ∧ MOk0 cells W.M ∧ k < cells ∧ W.M.rows.length ≤ 700000 ∧
  ∀ (H' : Hp) (ow' : Addr → Prop) (A' : PA), PM ow' H' C m (W.read due k).M sd A' → Keep ow ow' H H' → A'.ords = A.ords → A'.prog.v = A.prog.v → A'.prog.ex = exW r (W.rd + 1) → Q (nV (W.num due)) H'
theorem ok_wread {f : Addr} {fd : FuncData} (F : Fun K "read_cell" "Walk.read_cell" st_Walk_read_cell f fd) (c : MCW K C) (m_tell : MCallee P w K mg base C "tell" 1 (spTell C)) (m_line_of : MCallee P w K mg base C "line_of" 2 (spLineOf C)) : FnOk P w K mg base CX0 3 f fd ["self", "cell"] (spWRead C) := by
  refine F.ok sc_Walk_read_cell (fun vs H Q E h => ?_) (fun cdv A outer s H vs Q E hr h => ?_)
  · obtain ⟨ow, m, W, sd, A, cells, k, r, due, rfl, _⟩ := h
    rfl
  · obtain ⟨ow, m, W, sd, A, cells, k, r, due, rfl, hM, hex, hdue, hrd, ok, hk, hrow, q⟩ := h
    have hl := ok.line hk
    refine ⟨_, (pss_cons (ps_expr (pe_mcal m_line_of hr (by first | decide | exact Nat.le_refl _) (pv 0) (pa_cons (pv 1) pa_nil)))
  (pss_cons (ps_set (i := 2) sc_Walk_read_cell.nd rfl (Or.inl rfl) (pe_ix ix_lt (pe_ix ix_lt (pe_fld (pv 0) rfl) (pe_fld (pv 0) rfl) (fun _ _ => rfl)) pe_int (fun _ _ => rfl)))
  (pss_cons (ps_fldaug (pv 0) pe_int in_add)
  (pss_cons (ps_expr (pe_mcal m_tell hr (by first | decide | exact Nat.le_refl _) (pv 0) (pa_cons pe_str (pa_cons (pv 1) (pa_cons (pv 2) pa_nil)))))
  (pss_one (ps_ret (pv 2))))))), ?_⟩
    refine ⟨_, rfl, m, _, _, rfl, hM.obj, fsM_no (by decide), _, rfl, ow, m, W.M, sd, A, cells, k, rfl, hM, ok, hk, by omega, fun H1 ow1 A1 hM1 k1 eo1 ep1 => ?_⟩
    have hd1 := hdue.keep hM k1
    have hex1 : A1.prog.ex = exW r W.rd := by rw [ep1]; exact hex
    obtain ⟨xs, T, hr1, hx, hT⟩ := due_at hd1 hrd
    -- number = self.due[self.readings][1]
    refine ⟨_, rfl, m, C, _, _, _, rfl, hM1.obj, c.cl, c.nd, fsM_due hex1, _, rfl, m, C, _, _, _, rfl, hM1.obj, c.cl, c.nr, fsM_readings hex1, r, xs, (W.rd : Int), .ref T, rfl, rfl, sqA_l hr1, atI_nat hx, T, _, 1, nV (due.getD W.rd (0, 0)).2, rfl, rfl, sqA_t hT, rfl, ?_⟩
    -- self.readings += 1
    refine ⟨_, rfl, m, C, _, _, _, rfl, hM1.obj, c.cl, c.nr, fsM_readings hex1, _, _, rfl, rfl, A1.dx, _, hM1.obj, fsM_len, ?_⟩
    have e2 : putF "readings" (.int ((W.rd : Int) + 1)) (fsM A1 (W.M.take (k / 4)).at_ (W.M.take (k / 4)).beats) = fsM (A1.withEx r (W.rd + 1)) (W.M.take (k / 4)).at_ (W.M.take (k / 4)).beats := by
      unfold fsM PA.withEx
      rw [hex1]; rfl
    rw [e2]
    have hM2 := hM1.setEx (r := r) (rd := W.rd + 1)
    have k2 := k1.trans (Keep.ofOw (o := .ins C A1.dx (fsM (A1.withEx r (W.rd + 1)) (W.M.take (k / 4)).at_ (W.M.take (k / 4)).beats)) (hM1.oa m (List.mem_of_getElem? (i := 0) rfl)))
    generalize upd H1 m (.ins C A1.dx (fsM (A1.withEx r (W.rd + 1)) (W.M.take (k / 4)).at_ (W.M.take (k / 4)).beats)) = H2 at hM2 k2
    have tr := (take_rows (M := W.M) (l := k / 4)).1
    refine ⟨_, rfl, m, _, _, rfl, hM2.obj, fsM_no (by decide), _, rfl, _, rfl, ow1, m, _, sd, _, "read", k, (due.getD W.rd (0, 0)).2, rfl, hM2, by omega, fun H3 A3 hM3 k3 eo3 ep3 => ?_⟩
    exact ⟨_, rfl, q H3 ow1 A3 hM3 (k2.trans k3) (eo3.trans eo1) (by rw [ep3]; show A1.prog.v = _; rw [ep1]) (by rw [ep3]; rfl)⟩
end
end Vt
namespace Vt
open PySem PySem.Spec PyProof.Rows L2
def rdsOf : Deed → Nat
  | .add _ _ => 2
  | .say _ => 1
  | _ => 0
def stpD (s : Stp) : D := .tup [.str s.1, nD s.2.1, nD s.2.2]
def stpV (s : Stp) : List V := [.str s.1, nV s.2.1, nV s.2.2]
theorem stp_pd {H : Hp} {s : Stp} {a : Addr} (h : H a = some (.tup (stpV s))) : Pd H (.ref a) (stpD s) := .tup h (.cons (.str _) (.cons (.int _) (.cons (.int _) .nil)))
theorem noL_stp (s : Stp) : (stpD s).noL = true := by simp [stpD, D.noL, noLs, nD]
theorem said_wread {due : List (Nat × Nat)} {W : Wk} {k : Nat} : saidOf (W.read due k).M.rows = saidOf W.M.rows := (said_tell (by decide)).trans said_takeL
theorem wread_rows {due : List (Nat × Nat)} {W : Wk} {c : Nat} : (W.read due c).M.rows.length ≤ W.M.rows.length + 2 := by
  have h1 := (take_rows (M := W.M) (l := c / 4)).1
  simp only [Wk.read, Mst.tell, List.length_append, List.length_cons, List.length_nil]; omega
section
variable {P : Program} {w : World} {K : PySem.W.Frag} {mg : Str → Option Value} {base : Heap} {C : Addr}
def spWDeed (C : Addr) : Sp := fun vs H Q _ => ∃ (ow : Addr → Prop) (m da : Addr) (W : Wk) (A : PA) (B : Brd) (d : Deed) (r : Addr) (due : List (Nat × Nat)), vs = [.ref m, .ref da] ∧ PM ow H C m W.M (saidOf W.M.rows) A ∧ A.prog.ex = exW r W.rd ∧ Due ow H r due ∧ PB H A B ∧ BrdOk B ∧ MOk0 B.mem.length W.M ∧ H da = some (.tup d.vs) ∧ DeedOk d B.ords.length B.mem.length ∧
  W.rd + rdsOf d ≤ due.length ∧ W.M.rows.length ≤ 600000 ∧ W.M.left.length ≤ 2000 ∧
  ∀ (H' : Hp) (ow' : Addr → Prop) (A' : PA), PM ow' H' C m (W.deed B.ords due d).M (saidOf (W.deed B.ords due d).M.rows) A' → Keep ow ow' H H' → A'.ords = A.ords → A'.prog.v = A.prog.v → A'.prog.ex = exW r (W.deed B.ords due d).rd → Q .non H'
theorem ok_wdodeed {f : Addr} {fd : FuncData} (F : Fun K "do_deed" "Machine.do_deed" st_Machine_do_deed f fd) (c : MCW K C) (CC : Consts K mg) (m_tell : MCallee P w K mg base C "tell" 1 (spTell C)) (m_read_cell : MCallee P w K mg base C "read_cell" 3 (spWRead C)) (m_write_cell : MCallee P w K mg base C "write_cell" 3 (spWriteCell C))
    (m_clean_line : MCallee P w K mg base C "clean_line" 2 (spCleanLine C)) (m_drop_line : MCallee P w K mg base C "drop_line" 2 (spDropLine C)) (c_moves_told : Callee P w K mg base "moves_told" 1 2 spMoves) : FnOk P w K mg base CX0 4 f fd ["self", "deed"] (spWDeed C) := by
  obtain ⟨tN, mc_NUMBERS⟩ := CC.numbers
  refine F.ok sc_Machine_do_deed (fun vs H Q E h => ?_) (fun cdv A outer s H vs Q E hr h => ?_)
  · obtain ⟨ow, m, da, W, A, B, d, r, due, rfl, _⟩ := h
    rfl
  · obtain ⟨ow, m, da, W, A, B, d, r, due, rfl, hM, hex, hdue, hPB, ok, mok, hda, dok, hrd, hrow, hleft, q⟩ := h
    refine ⟨_, (pss_one (ps_match (pv 1)
  (pc_seq2 (i0 := 2) (i1 := 3) sc_Machine_do_deed.nd (pss_one (ps_expr (pe_mcal m_write_cell hr (by first | decide | exact Nat.le_refl _) (pv 0) (pa_cons (pv 2) (pa_cons (pv 3) pa_nil)))))
  (pc_seq2 (i0 := 2) (i1 := 4) sc_Machine_do_deed.nd (pss_cons (ps_set (i := 5) sc_Machine_do_deed.nd rfl (Or.inl rfl) (pe_mcal m_read_cell hr (by first | decide | exact Nat.le_refl _) (pv 0) (pa_cons (pv 2) pa_nil)))
  (pss_one (ps_expr (pe_mcal m_write_cell hr (by first | decide | exact Nat.le_refl _) (pv 0) (pa_cons (pv 2) (pa_cons (pe_op op_mod (pe_op op_add (pv 5) (pe_mcal m_read_cell hr (by first | decide | exact Nat.le_refl _) (pv 0) (pa_cons (pv 4) pa_nil))) (pe_glob (v := .int 10) rfl mc_NUMBERS ⟨_, rfl⟩)) pa_nil))))))
  (pc_seq1 (i0 := 2) sc_Machine_do_deed.nd (pss_cons (ps_set (i := 5) sc_Machine_do_deed.nd rfl (Or.inl rfl) (pe_mcal m_read_cell hr (by first | decide | exact Nat.le_refl _) (pv 0) (pa_cons (pv 2) pa_nil)))
  (pss_cons (ps_expr (pe_bm PySem.F.plainAttrs_list PySem.F.slot_list_append PySem.F.type_list_append mt_append (pe_fld (pv 0) rfl) (pa_cons (pv 5) pa_nil)))
  (pss_one (ps_expr (pe_mcal m_tell hr (by first | decide | exact Nat.le_refl _) (pv 0) (pa_cons pe_str (pa_cons (pv 2) (pa_cons (pv 5) pa_nil))))))))
  (pc_seq1 (i0 := 6) sc_Machine_do_deed.nd (pss_cons (ps_expr (pe_mcal m_tell hr (by first | decide | exact Nat.le_refl _) (pv 0) (pa_cons pe_str (pa_cons (pv 6) (pa_cons pe_int pa_nil)))))
  (pss_one (ps_expr (pe_bm PySem.F.plainAttrs_list PySem.F.slot_list_extend PySem.F.type_list_extend mt_extend (pe_fld (pv 0) rfl) (pa_cons (pe_cal c_moves_told hr (by first | decide | exact Nat.le_refl _) (pa_cons (pe_fld (pv 0) rfl) (pa_cons (pv 6) pa_nil))) pa_nil)))))
  (pc_seq1 (i0 := 7) sc_Machine_do_deed.nd (pss_one (ps_expr (pe_mcal m_clean_line hr (by first | decide | exact Nat.le_refl _) (pv 0) (pa_cons (pv 7) pa_nil))))
  (pc_seq1 (i0 := 7) sc_Machine_do_deed.nd (pss_one (ps_expr (pe_mcal m_drop_line hr (by first | decide | exact Nat.le_refl _) (pv 0) (pa_cons (pv 7) pa_nil))))
  pc_nil)))))))), ?_⟩
    have hsq := hd_w (K := K) hda
    cases d with
    | set k n =>
      refine ⟨_, rfl, da, "set", [nV k, nV n], rfl, hsq, .inl ⟨rfl, rfl, ?_⟩⟩
      refine ⟨_, rfl, m, _, _, rfl, hM.obj, fsM_no (by decide), _, rfl, _, rfl, ow, m, W.M, _, A, B.mem.length, k, n, rfl, hM, mok, dok.1, by omega, fun H1 ow1 A1 hM1 k1 eo1 ep1 => ?_⟩
      exact q H1 ow1 A1 (by rw [show saidOf (W.deed B.ords due (.set k n)).M.rows = saidOf W.M.rows from said_write]; exact hM1) k1 eo1 (by rw [ep1]) (by rw [ep1]; exact hex)
    | add k o =>
      have hrd : W.rd + 2 ≤ due.length := hrd
      refine ⟨_, rfl, da, "add", [nV k, nV o], rfl, hsq, .inr ⟨nwd rfl, da, "add", [nV k, nV o], rfl, hsq, .inl ⟨rfl, rfl, ?_⟩⟩⟩
      refine ⟨_, rfl, m, _, _, rfl, hM.obj, fsM_no (by decide), _, rfl, ow, m, W, _, A, B.mem.length, k, r, due, rfl, hM, hex, hdue, by omega, mok, dok.1, by omega, fun H1 ow1 A1 hM1 k1 eo1 ep1 ex1 => ?_⟩
      have rr := wread_rows (due := due) (W := W) (c := k)
      have ok1 : MOk0 B.mem.length (W.read due k).M := (mok.take (mok.line dok.1)).tell
      have hdue1 := hdue.keep hM k1
      refine ⟨_, rfl, m, _, _, rfl, hM1.obj, fsM_no (by decide), _, rfl, _, rfl, _, rfl, m, _, _, rfl, hM1.obj, fsM_no (by decide), _, rfl, ow1, m, W.read due k, _, A1, B.mem.length, o, r, due, rfl, hM1, ex1, hdue1, by show W.rd + 1 < due.length; omega, ok1, dok.2, by omega, fun H2 ow2 A2 hM2 k2 eo2 ep2 ex2 => ?_⟩
      have rr2 := wread_rows (due := due) (W := W.read due k) (c := o)
      have ok2 : MOk0 B.mem.length ((W.read due k).read due o).M := (ok1.take (ok1.line dok.2)).tell
      refine ⟨_, _, rfl, rfl, _, _, rfl, rfl, (by show (0 : Int) < 10; decide), ow2, m, _, _, A2, B.mem.length, k, (W.num due + (W.read due k).num due) % 10, ?_, hM2, ok2, dok.1, by omega, fun H3 ow3 A3 hM3 k3 eo3 ep3 => ?_⟩
      · show [V.ref m, nV k, V.int _] = [V.ref m, nV k, V.int _]
        congr 3
      · exact q H3 ow3 A3 (by rw [show saidOf (W.deed B.ords due (.add k o)).M.rows = saidOf W.M.rows from said_write.trans (said_wread.trans said_wread)]; exact hM3) ((k1.trans k2).trans k3) (eo3.trans (eo2.trans eo1)) (by rw [ep3]; exact ep2.trans ep1) (by rw [ep3]; exact ex2)
    | say k =>
      have hrd : W.rd + 1 ≤ due.length := hrd
      refine ⟨_, rfl, da, "say", [nV k], rfl, hsq, .inr ⟨nwd rfl, da, "say", [nV k], rfl, hsq, .inr ⟨nwd rfl, da, "say", [nV k], rfl, hsq, .inl ⟨rfl, rfl, ?_⟩⟩⟩⟩
      refine ⟨_, rfl, m, _, _, rfl, hM.obj, fsM_no (by decide), _, rfl, ow, m, W, _, A, B.mem.length, k, r, due, rfl, hM, hex, hdue, by omega, mok, dok, by omega, fun H1 ow1 A1 hM1 k1 eo1 ep1 ex1 => ?_⟩
      have rr := wread_rows (due := due) (W := W) (c := k)
      have sl : (saidOf W.M.rows).length ≤ W.M.rows.length := by
        unfold saidOf
        rw [List.length_map]
        exact List.length_filter_le _ _
      refine ⟨_, rfl, m, C, _, _, _, rfl, hM1.obj, c.cl, c.n _ (by decide), rfl, .inl ⟨rfl, _, sqL_l hM1.said⟩, _, rfl, A1.said, _, _, rfl, rfl, hM1.said, by rw [List.length_map]; exact big (by omega), ?_⟩
      rw [show (saidOf W.M.rows).map nV ++ [nV (W.num due)] = (saidOf W.M.rows ++ [W.num due]).map nV from by rw [List.map_append]; rfl]
      have hM2 := hM1.setSaid (sd' := saidOf W.M.rows ++ [W.num due])
      have k2 := k1.trans (Keep.ofOw (o := .lst ((saidOf W.M.rows ++ [W.num due]).map nV)) (hM1.oa A1.said (List.mem_of_getElem? (i := 7) rfl)))
      generalize upd H1 A1.said (.lst ((saidOf W.M.rows ++ [W.num due]).map nV)) = H2 at hM2 k2
      refine ⟨_, rfl, m, _, _, rfl, hM2.obj, fsM_no (by decide), _, rfl, _, rfl, ow1, m, _, _, A1, "say", k, W.num due, rfl, hM2, by omega, fun H3 A3 hM3 k3 eo3 ep3 => ?_⟩
      refine q H3 ow1 A3 ?_ (k2.trans k3) (eo3.trans eo1) (by rw [ep3]; exact ep1) (by rw [ep3]; exact ex1)
      have e : saidOf (W.deed B.ords due (.say k)).M.rows = saidOf W.M.rows ++ [W.num due] := by
        show saidOf ((W.read due k).M.rows ++ [⟨(W.read due k).M.beats, "say", k, W.num due⟩]) = _
        rw [said_app, if_pos rfl, said_wread]
      rw [e]
      exact hM3
    | start k =>
      refine ⟨_, rfl, da, "start", [nV k], rfl, hsq, .inr ⟨nwd rfl, da, "start", [nV k], rfl, hsq, .inr ⟨nwd rfl, da, "start", [nV k], rfl, hsq, .inr ⟨nwd rfl, da, "start", [nV k], rfl, hsq, .inl ⟨rfl, rfl, ?_⟩⟩⟩⟩⟩
      refine ⟨_, rfl, m, _, _, rfl, hM.obj, fsM_no (by decide), _, rfl, ow, m, W.M, _, A, "start", k, 0, rfl, hM, by omega, fun H1 A1 hM1 k1 eo1 ep1 => ?_⟩
      have hPB1 := hPB.keep hM k1 eo1 ep1
      obtain ⟨o, os, eo, ho, hos⟩ := Pd.tupOf hPB1.1
      refine ⟨_, rfl, m, C, _, _, _, rfl, hM1.obj, c.cl, c.n _ (by decide), rfl, .inl ⟨rfl, _, sqL_l hM1.left⟩, _, rfl, m, C, _, _, _, rfl, hM1.obj, c.cl, c.n _ (by decide), rfl, _, rfl, o, os, B.ords, B.mem.length, k, by rw [eo]; rfl, ho, hos, ok.four, ok.ords, dok, fun H2 l ms s2 nl hl hms => ?_⟩
      have hM2 := hM1.same s2
      have ll : A1.ls.length = W.M.left.length := by have := hM1.leftD.len; rw [List.length_map] at this; exact this
      have ml : ms.length ≤ 32 := by rw [hms.len, List.length_map]; exact told_len ok.eight k
      refine ⟨A1.left, l, _, _, rfl, rfl, hM2.left, hl, big' (by omega), ?_⟩
      refine q _ ow { A1 with ls := A1.ls ++ ms } ?_ ((k1.trans (Same.keep s2)).trans (Keep.ofOw (o := .lst (A1.ls ++ ms)) (hM2.oa A1.left (List.mem_of_getElem? (i := 5) rfl)))) eo1 (by show A1.prog.v = _; rw [ep1]) (by show A1.prog.ex = _; rw [ep1]; exact hex)
      rw [show saidOf (W.deed B.ords due (.start k)).M.rows = saidOf W.M.rows from said_tell (M := { W.M with left := W.M.left ++ told B.ords k }) (by decide)]
      exact hM2.setLeft (lf := W.M.left ++ told B.ords k) (ls := A1.ls ++ ms) (by rw [List.map_append]; exact hM2.leftD.app hms)
    | wait =>
      refine ⟨_, rfl, da, "wait", [], rfl, hsq, .inr ⟨nwd rfl, da, "wait", [], rfl, hsq, .inr ⟨nwd rfl, da, "wait", [], rfl, hsq, .inr ⟨nwd rfl, da, "wait", [], rfl, hsq, .inr ⟨nwd rfl, da, "wait", [], rfl, hsq, .inr ⟨nwd rfl, da, "wait", [], rfl, hsq, .inr ⟨nwd rfl, ?_⟩⟩⟩⟩⟩⟩⟩
      exact q H ow A hM Keep.refl rfl rfl hex
    | clean l =>
      refine ⟨_, rfl, da, "clean", [nV l], rfl, hsq, .inr ⟨nwd rfl, da, "clean", [nV l], rfl, hsq, .inr ⟨nwd rfl, da, "clean", [nV l], rfl, hsq, .inr ⟨nwd rfl, da, "clean", [nV l], rfl, hsq, .inr ⟨nwd rfl, da, "clean", [nV l], rfl, hsq, .inl ⟨rfl, rfl, ?_⟩⟩⟩⟩⟩⟩
      refine ⟨_, rfl, m, _, _, rfl, hM.obj, fsM_no (by decide), _, rfl, ow, m, W.M, _, A, B.mem.length, l, rfl, hM, mok, dok, by omega, fun H1 A1 hM1 k1 eo1 ep1 => ?_⟩
      exact q H1 ow A1 (by rw [show saidOf (W.deed B.ords due (.clean l)).M.rows = saidOf W.M.rows from said_clean]; exact hM1) k1 eo1 (by rw [ep1]) (by rw [ep1]; exact hex)
    | drop l =>
      refine ⟨_, rfl, da, "drop", [nV l], rfl, hsq, .inr ⟨nwd rfl, da, "drop", [nV l], rfl, hsq, .inr ⟨nwd rfl, da, "drop", [nV l], rfl, hsq, .inr ⟨nwd rfl, da, "drop", [nV l], rfl, hsq, .inr ⟨nwd rfl, da, "drop", [nV l], rfl, hsq, .inr ⟨nwd rfl, da, "drop", [nV l], rfl, hsq, .inl ⟨rfl, rfl, ?_⟩⟩⟩⟩⟩⟩⟩
      refine ⟨_, rfl, m, _, _, rfl, hM.obj, fsM_no (by decide), _, rfl, ow, m, W.M, _, A, B.mem.length, l, rfl, hM, mok, dok, by omega, fun H1 A1 hM1 k1 eo1 ep1 => ?_⟩
      exact q H1 ow A1 (by rw [show saidOf (W.deed B.ords due (.drop l)).M.rows = saidOf W.M.rows from said_drop]; exact hM1) k1 eo1 (by rw [ep1]) (by rw [ep1]; exact hex)
end
end Vt
namespace Vt
open PySem PySem.Spec PyProof.Rows L2
theorem cutV_from (xs : List V) (a : Nat) (ha : a ≤ xs.length) : cutV xs (some (a : Int)) none = xs.drop a := by
  unfold cutV
  rw [HT.sIx_nat, HT.sIx_none, Nat.min_eq_left ha, List.take_of_length_le (by rw [List.length_drop]; omega)]
theorem Pds.split {H : Hp} : ∀ {a b : List D} {xs ys : List V}, xs.length = a.length → Pds H (xs ++ ys) (a ++ b) → Pds H xs a ∧ Pds H ys b
  | [], b, [], ys, _, h => ⟨.nil, h⟩
  | [], b, _ :: _, ys, e, _ => by simp at e
  | _ :: _, b, [], ys, e, _ => by simp at e
  | d :: a, b, x :: xs, ys, e, h => by
    rw [List.cons_append, List.cons_append] at h
    cases h with
    | cons h1 h2 =>
      obtain ⟨g1, g2⟩ := Pds.split (by simpa using e) h2
      exact ⟨.cons h1 g1, g2⟩
theorem len_take {M : Mst} {l : Nat} : M.rows.length ≤ (M.take l).rows.length := by
  have := congrArg List.length (sps_take (M := M) (l := l))
  simp only [sps, List.length_append, List.length_map] at this; omega
theorem len_write {M : Mst} {c n : Nat} : M.rows.length ≤ (M.write c n).rows.length := by
  obtain ⟨N, e⟩ := write_ext (M := M) (c := c) (n := n)
  rw [e, List.length_append]; omega
theorem len_wread {due : List (Nat × Nat)} {W : Wk} {c : Nat} : W.M.rows.length ≤ (W.read due c).M.rows.length := by
  have h1 := len_take (M := W.M) (l := c / 4)
  simp only [Wk.read, Mst.tell, List.length_append, List.length_cons, List.length_nil]; omega
theorem wdeed_rows {ords : List Ord} {due : List (Nat × Nat)} {W : Wk} {d : Deed} : W.M.rows.length ≤ (W.deed ords due d).M.rows.length ∧ (W.deed ords due d).M.rows.length ≤ W.M.rows.length + 6 := by
  cases d with
  | set c n => exact ⟨len_write, by have := (write_rows (M := W.M) (c := c) (n := n)).1; show (W.M.write c n).rows.length ≤ _; omega⟩
  | add c o =>
    have a1 := len_wread (due := due) (W := W) (c := c)
    have a2 := len_wread (due := due) (W := W.read due c) (c := o)
    have b1 := wread_rows (due := due) (W := W) (c := c)
    have b2 := wread_rows (due := due) (W := W.read due c) (c := o)
    have a3 := len_write (M := ((W.read due c).read due o).M) (c := c) (n := (W.num due + (W.read due c).num due) % 10)
    have b3 := (write_rows (M := ((W.read due c).read due o).M) (c := c) (n := (W.num due + (W.read due c).num due) % 10)).1
    show W.M.rows.length ≤ (((W.read due c).read due o).M.write c ((W.num due + (W.read due c).num due) % 10)).rows.length ∧ (((W.read due c).read due o).M.write c ((W.num due + (W.read due c).num due) % 10)).rows.length ≤ _
    omega
  | say c =>
    have a1 := len_wread (due := due) (W := W) (c := c)
    have b1 := wread_rows (due := due) (W := W) (c := c)
    simp only [Wk.deed, Mst.tell, List.length_append, List.length_cons, List.length_nil]; omega
  | start k => simp only [Wk.deed, Mst.tell, List.length_append, List.length_cons, List.length_nil]; omega
  | wait => exact ⟨Nat.le_refl _, Nat.le_add_right _ _⟩
  | clean l =>
    have h := (clean_rows (M := W.M) (l := l)).1
    have h2 := congrArg List.length (sps_clean (M := W.M) (l := l))
    simp only [sps, List.length_append, List.length_map] at h2
    show W.M.rows.length ≤ (W.M.clean l).rows.length ∧ (W.M.clean l).rows.length ≤ _
    omega
  | drop l =>
    have h := (drop_rows (M := W.M) (l := l)).1
    have h2 := congrArg List.length (sps_drop (M := W.M) (l := l))
    simp only [sps, List.length_append, List.length_map] at h2
    show W.M.rows.length ≤ (W.M.drop l).rows.length ∧ (W.M.drop l).rows.length ≤ _
    omega
section
variable {P : Program} {w : World} {K : PySem.W.Frag} {mg : Str → Option Value} {base : Heap} {C : Addr}
abbrev st_Walk_steps_from : Stmt := (inClass (topS 31) 4)
abbrev nm_Walk_steps_from : List Str := ["self", "told", "beat", "word", "place", "number"]
theorem sc_Walk_steps_from : FnScope ["self", "told", "beat", "word", "place", "number"] ["self", "told"] (defScope st_Walk_steps_from) := ⟨rfl, rfl, rfl, by decide +kernel, rfl, by decide +kernel, by decide +kernel⟩
def spStepsFrom (C : Addr) : Sp := fun vs H Q _ => ∃ (ow : Addr → Prop) (m : Addr) (M : Mst) (sd : List Nat) (A : PA) (n : Nat), vs = [.ref m, nV n] ∧ PM ow H C m M sd A ∧ n ≤ M.rows.length ∧ M.rows.length ≤ 900000 ∧
  ∀ (H' : Hp) (p : Addr) (xs : List V), Same H H' → H p = none → H' p = some (.lst xs) → Pds H' xs ((stepsFrom M.rows n).map stpD) → Q (.ref p) H'
theorem ok_stepsfrom {f : Addr} {fd : FuncData} (F : Fun K "steps_from" "Walk.steps_from" st_Walk_steps_from f fd) (c : MCW K C) : FnOk P w K mg base CX0 1 f fd ["self", "told"] (spStepsFrom C) := by
  refine F.ok sc_Walk_steps_from (fun vs H Q E h => ?_) (fun cdv A outer s H vs Q E hr h => ?_)
  · obtain ⟨ow, m, M, sd, A, n, rfl, _⟩ := h
    rfl
  · obtain ⟨ow, m, M, sd, A, n, rfl, hM, hn, hrow, q⟩ := h
    refine ⟨_, (pss_one (ps_ret (pe_lc (own := [("beat", 2), ("word", 3), ("place", 4), ("number", 5)]) rfl sc_Walk_steps_from.nd (pi_lt (pe_slice sl_list (pe_fld (pv 0) rfl) (po_some (pv 1)) po_none)) (blkOk_by (own := [("beat", 2), ("word", 3), ("place", 4), ("number", 5)]) (N := nm_Walk_steps_from) (sc := defScope (inClass (topS 31) 4)) (by decide +kernel)) (fun _ _ _ _ _ => (pg_tupk K (n := 4) rfl (pgs_cons (pg_name (i := 2) sc_Walk_steps_from.nd rfl (Or.inl rfl)) (pgs_cons (pg_name (i := 3) sc_Walk_steps_from.nd rfl (Or.inl rfl)) (pgs_cons (pg_name (i := 4) sc_Walk_steps_from.nd rfl (Or.inl rfl)) (pgs_cons (pg_name (i := 5) sc_Walk_steps_from.nd rfl (Or.inl rfl)) pgs_nil)))))) (fun _ _ _ _ _ => pts_nil) (fun _ _ _ _ _ => (pe_tup (pa_cons (pv 3) (pa_cons (pv 4) (pa_cons (pv 5) pa_nil)))))))), ?_⟩
    have xl : A.xs.length = M.rows.length := by rw [hM.rowsD.len, List.length_map]
    refine ⟨_, rfl, m, C, _, _, _, rfl, hM.obj, c.cl, c.n _ (by decide), rfl, _, rfl, _, rfl, A.rows, _, rfl, sqL_l hM.rows, fun p np => ?_⟩
    have ecut : cutV A.xs (some (n : Int)) none = A.xs.drop n := cutV_from _ _ (by omega)
    have s1 := same_new (o := .lst (cutV A.xs (some (n : Int)) none)) np
    have hp : (upd H p (.lst (cutV A.xs (some (n : Int)) none))) p = some (.lst (A.xs.drop n)) := by rw [upd_same, ecut]
    have hM1 := hM.same s1
    generalize upd H p (.lst (cutV A.xs (some (n : Int)) none)) = H1 at s1 hp hM1
    have hdrop : Pds H1 (A.xs.drop n) ((M.rows.drop n).map Row.d) := by
      have h1 := hM1.rowsD
      rw [← List.take_append_drop n M.rows, List.map_append] at h1
      rw [← List.take_append_drop n A.xs] at h1
      exact (Pds.split (by rw [List.length_take, List.length_map, List.length_take, xl]) h1).2
    refine ⟨p, rfl, .inl ⟨_, sqL_l hp, fun D nD => ?_⟩⟩
    refine lc_it (walk_list (xs := A.xs.drop n)) (fun j H' => ∃ xs, H' D = some (.lst xs) ∧ Pds H' xs (((M.rows.drop n).take j).map fun r => stpD (stp r)) ∧ Same H1 H')
      ⟨[], upd_same, .nil, same_new nD⟩ (fun j H' _ hp' => by obtain ⟨_, _, _, s⟩ := hp'; exact sqL_l (s _ _ hp)) (fun j x Ha Hb hj hp' hy => ?_) (fun H2 hp' => ?_)
    · obtain ⟨xs, hD, hxs, sm⟩ := hp'
      obtain ⟨rfl, hx⟩ := hy
      obtain ⟨dd, hdd, hpd⟩ := (hdrop.same sm).get' hx
      rw [List.getElem?_map] at hdd
      obtain ⟨r, hr0, rfl⟩ : ∃ r, (M.rows.drop n)[j]? = some r ∧ r.d = dd := by simpa using hdd
      obtain ⟨ra, rfl, hra⟩ := Row.of hpd
      refine ⟨ra, _, rfl, sqT_t hra, rfl, _, _, rfl, _, _, rfl, _, _, rfl, _, _, rfl, rfl, rfl, _, rfl, _, rfl, _, rfl, by show 3 ≤ sizeLine; decide, fun T nT => ?_⟩
      obtain ⟨g1, g2, g3⟩ := grow hD hxs (noLs_map (fun r => noL_stp (stp r)) _) nT (d := stpD (stp r)) (fun H a h => stp_pd (s := stp r) h)
      have xlen : xs.length ≤ 900000 := by
        rw [hxs.len, List.length_map, List.length_take, List.length_drop]; omega
      refine ⟨xs, g1, big (by omega), xs ++ [.ref T], upd_same, ?_, g3.new1 sm nD⟩
      rw [List.take_add_one, hr0, Option.toList_some, List.map_append]
      exact g2
    · obtain ⟨xs, hD, hxs, sm⟩ := hp'
      have e1 : (A.xs.drop n).length = (M.rows.drop n).length := by rw [List.length_drop, List.length_drop, xl]
      rw [e1, List.take_length] at hxs
      refine q _ D xs (s1.trans sm) ?_ hD (by unfold stepsFrom; rw [List.map_map]; exact hxs)
      cases h : H D with
      | none => rfl
      | some o => have := s1 _ _ h; rw [nD] at this; cases this
abbrev st_Walk_steps_of : Stmt := (inClass (topS 31) 2)
abbrev nm_Walk_steps_of : List Str := ["self", "deed", "told"]
theorem sc_Walk_steps_of : FnScope ["self", "deed", "told"] ["self", "deed"] (defScope st_Walk_steps_of) := ⟨rfl, rfl, rfl, by decide +kernel, rfl, by decide +kernel, by decide +kernel⟩
def spStepsOf (C : Addr) : Sp := fun vs H Q _ => ∃ (ow : Addr → Prop) (m da : Addr) (W : Wk) (A : PA) (B : Brd) (d : Deed) (r : Addr) (due : List (Nat × Nat)), vs = [.ref m, .ref da] ∧ PM ow H C m W.M (saidOf W.M.rows) A ∧ A.prog.ex = exW r W.rd ∧ Due ow H r due ∧ PB H A B ∧ BrdOk B ∧ MOk0 B.mem.length W.M ∧ H da = some (.tup d.vs) ∧ DeedOk d B.ords.length B.mem.length ∧
  W.rd + rdsOf d ≤ due.length ∧ W.M.rows.length ≤ 600000 ∧ W.M.left.length ≤ 2000 ∧
  ∀ (H' : Hp) (ow' : Addr → Prop) (A' : PA) (p : Addr) (xs : List V), PM ow' H' C m (W.deed B.ords due d).M (saidOf (W.deed B.ords due d).M.rows) A' → Keep ow ow' H H' → A'.ords = A.ords → A'.prog.v = A.prog.v → A'.prog.ex = exW r (W.deed B.ords due d).rd →
    (∀ c o, ¬ ow c → H c = some o → c ≠ p) → ¬ ow' p → H' p = some (.lst xs) → Pds H' xs ((stepsFrom (W.deed B.ords due d).M.rows W.M.rows.length).map stpD) → Q (.ref p) H'
theorem ok_stepsof {f : Addr} {fd : FuncData} (F : Fun K "steps_of" "Walk.steps_of" st_Walk_steps_of f fd) (c : MCW K C) (m_do_deed : MCallee P w K mg base C "do_deed" 4 (spWDeed C)) (m_steps_from : MCallee P w K mg base C "steps_from" 1 (spStepsFrom C)) (z_len : mg "len" = none) : FnOk P w K mg base CX0 5 f fd ["self", "deed"] (spStepsOf C) := by
  refine F.ok sc_Walk_steps_of (fun vs H Q E h => ?_) (fun cdv A outer s H vs Q E hr h => ?_)
  · obtain ⟨ow, m, da, W, A, B, d, r, due, rfl, _⟩ := h
    rfl
  · obtain ⟨ow, m, da, W, A, B, d, r, due, rfl, hM, hex, hdue, hPB, ok, mok, hda, dok, hrd, hrow, hleft, q⟩ := h
    refine ⟨_, (pss_cons (ps_set (i := 2) sc_Walk_steps_of.nd rfl (Or.inl rfl) (pe_callB call_len_seq (by rfl) z_len (by decide +kernel) (pa_cons (pe_fld (pv 0) rfl) pa_nil)))
  (pss_cons (ps_expr (pe_mcal m_do_deed hr (by first | decide | exact Nat.le_refl _) (pv 0) (pa_cons (pv 1) pa_nil)))
  (pss_one (ps_ret (pe_mcal m_steps_from hr (by first | decide | exact Nat.le_refl _) (pv 0) (pa_cons (pv 2) pa_nil)))))), ?_⟩
    have xl : A.xs.length = W.M.rows.length := by rw [hM.rowsD.len, List.length_map]
    refine ⟨_, rfl, m, C, _, _, _, rfl, hM.obj, c.cl, c.n _ (by decide), rfl, A.rows, _, rfl, .inl (sqL_l hM.rows), ?_⟩
    rw [xl]
    refine ⟨_, rfl, m, _, _, rfl, hM.obj, fsM_no (by decide), _, rfl, ow, m, da, W, A, B, d, r, due, rfl, hM, hex, hdue, hPB, ok, mok, hda, dok, hrd, hrow, hleft, fun H1 ow1 A1 hM1 k1 eo1 ev1 ex1 => ?_⟩
    have hle : W.M.rows.length ≤ (W.deed B.ords due d).M.rows.length ∧ (W.deed B.ords due d).M.rows.length ≤ 900000 := by
      have := wdeed_rows (due := due) (W := W) (d := d) (ords := B.ords)
      omega
    refine ⟨_, rfl, m, _, _, rfl, hM1.obj, fsM_no (by decide), _, rfl, ow1, m, _, _, A1, W.M.rows.length, rfl, hM1, hle.1, hle.2, fun H2 p xs s2 np hp hxs => ?_⟩
    refine q H2 ow1 A1 p xs (hM1.same s2) (k1.trans (Same.keep s2)) eo1 ev1 ex1 (fun c o hc ho z => ?_) (hM1.fresh np) hp hxs
    subst z
    rw [(k1 c o hc ho).1] at np; cases np
abbrev st_Walk_steps_at_the_end : Stmt := (inClass (topS 31) 3)
abbrev nm_Walk_steps_at_the_end : List Str := ["self", "told"]
theorem sc_Walk_steps_at_the_end : FnScope ["self", "told"] ["self"] (defScope st_Walk_steps_at_the_end) := ⟨rfl, rfl, rfl, by decide +kernel, rfl, by decide +kernel, by decide +kernel⟩
def spStepsEnd (C : Addr) : Sp := fun vs H Q _ => ∃ (ow : Addr → Prop) (m : Addr) (M : Mst) (sd : List Nat) (A : PA) (cells : Nat), vs = [.ref m] ∧ PM ow H C m M sd A ∧ MOk0 cells M ∧ M.rows.length ≤ 700000 ∧
  ∀ (H' : Hp) (ow' : Addr → Prop) (A' : PA) (p : Addr) (xs : List V), PM ow' H' C m M.finish sd A' → Keep ow ow' H H' → A'.ords = A.ords → A'.prog = A.prog →
    (∀ c o, ¬ ow c → H c = some o → c ≠ p) → ¬ ow' p → H' p = some (.lst xs) → Pds H' xs ((stepsFrom M.finish.rows M.rows.length).map stpD) → Q (.ref p) H'
theorem ok_stepsend {f : Addr} {fd : FuncData} (F : Fun K "steps_at_the_end" "Walk.steps_at_the_end" st_Walk_steps_at_the_end f fd) (c : MCW K C) (m_clean_all : MCallee P w K mg base C "clean_all" 3 (spCleanAll C)) (m_steps_from : MCallee P w K mg base C "steps_from" 1 (spStepsFrom C)) (z_len : mg "len" = none) : FnOk P w K mg base CX0 4 f fd ["self"] (spStepsEnd C) := by
  refine F.ok sc_Walk_steps_at_the_end (fun vs H Q E h => ?_) (fun cdv A outer s H vs Q E hr h => ?_)
  · obtain ⟨ow, m, M, sd, A, cells, rfl, _⟩ := h
    rfl
  · obtain ⟨ow, m, M, sd, A, cells, rfl, hM, mok, hrow, q⟩ := h
    refine ⟨_, (pss_cons (ps_set (i := 1) sc_Walk_steps_at_the_end.nd rfl (Or.inl rfl) (pe_callB call_len_seq (by rfl) z_len (by decide +kernel) (pa_cons (pe_fld (pv 0) rfl) pa_nil)))
  (pss_cons (ps_expr (pe_mcal0 m_clean_all hr (by first | decide | exact Nat.le_refl _) (pv 0)))
  (pss_one (ps_ret (pe_mcal m_steps_from hr (by first | decide | exact Nat.le_refl _) (pv 0) (pa_cons (pv 1) pa_nil)))))), ?_⟩
    have xl : A.xs.length = M.rows.length := by rw [hM.rowsD.len, List.length_map]
    refine ⟨_, rfl, m, C, _, _, _, rfl, hM.obj, c.cl, c.n _ (by decide), rfl, A.rows, _, rfl, .inl (sqL_l hM.rows), ?_⟩
    rw [xl]
    refine ⟨_, rfl, m, _, _, rfl, hM.obj, fsM_no (by decide), ow, m, M, sd, A, cells, rfl, hM, mok, hrow, fun H1 A1 hM1 k1 eo1 ep1 => ?_⟩
    have hle : M.rows.length ≤ M.finish.rows.length ∧ M.finish.rows.length ≤ 900000 := by
      obtain ⟨N, e⟩ := finish_ext (M := M)
      have h2 := (cleans_ok mok (cells / 4)).2
      rw [cleans_fin mok] at h2
      have h3 := mok.lines
      rw [e, List.length_append] at h2 ⊢
      omega
    refine ⟨_, rfl, m, _, _, rfl, hM1.obj, fsM_no (by decide), _, rfl, ow, m, _, _, A1, M.rows.length, rfl, hM1, hle.1, hle.2, fun H2 p xs s2 np hp hxs => ?_⟩
    refine q H2 ow A1 p xs (hM1.same s2) (k1.trans (Same.keep s2)) eo1 ep1 (fun c o hc ho z => ?_) (hM1.fresh np) hp hxs
    subst z
    rw [(k1 c o hc ho).1] at np; cases np
end
end Vt
namespace Vt
open PySem PySem.Spec PyProof.Rows L2
/-! ### the making of a Walk -/
/-- a def of a class, of a text that says super(): as it stands -/
def FoundS (K : PySem.W.Frag) (C D : Addr) (x q : Str) (st : Stmt) (f cda cc : Addr) : Prop := ∃ (oc : Value) (od : Option Addr) (kV doc pm : Value) (an : Option Addr) (ct : Value) (osl : Array (Option Value)) (cl : Value) (cld : Option Addr) (csl : Array (Option Value)) (cdD : ClassData),
  PySem.W.findIn K (.ref C) x = some (some (.ref f)) ∧ K.lookup f = some ⟨oc, od, .func (PySem.W.fnX x q (defArgs st) (defBody st) (defScope st) [("__class__", cc)] .none kV doc pm an (.ref cda) ct), osl⟩ ∧ PySem.W.codeIn K (.ref cda) q = true ∧ PySem.W.isFn K (.ref f) = true ∧ K.lookup cc = some ⟨cl, cld, .cell (some (.ref D)), csl⟩ ∧ PySem.W.clsIn K D = some cdD
/-- the code record of the def, with its file -/
def CodeAt (P : Program) (K : PySem.W.Frag) (cda : Addr) : Prop := ∃ ccl cdd vs ccs file tf, K.lookup cda = some ⟨ccl, cdd, .fields vs, ccs⟩ ∧ vs[2]? = some (.str file tf) ∧ ((P.main.file : Str) == file) = true
theorem founds_mk {P : Program} {K : PySem.W.Frag} {C D : Addr} {x q : Str} {st : Stmt} {f cda cc : Addr} {oc : Value} {od an : Option Addr} {kV doc pm ct : Value} {osl : Array (Option Value)} {cl : Value} {cld : Option Addr} {csl : Array (Option Value)} {cdD : ClassData}
    {ccl : Value} {cdd : Option Addr} {vs : Array Value} {ccs : Array (Option Value)} {file : Str} {tf : Tok}
    (a : PySem.W.findIn K (.ref C) x = some (some (.ref f))) (l : K.lookup f = some ⟨oc, od, .func (PySem.W.fnX x q (defArgs st) (defBody st) (defScope st) [("__class__", cc)] .none kV doc pm an (.ref cda) ct), osl⟩) (c : PySem.W.codeIn K (.ref cda) q = true) (i : PySem.W.isFn K (.ref f) = true)
    (l2 : K.lookup cc = some ⟨cl, cld, .cell (some (.ref D)), csl⟩) (d : PySem.W.clsIn K D = some cdD) (l3 : K.lookup cda = some ⟨ccl, cdd, .fields vs, ccs⟩) (v2 : vs[2]? = some (.str file tf)) (fe : ((P.main.file : Str) == file) = true) : ∃ f cda cc, FoundS K C D x q st f cda cc ∧ CodeAt P K cda :=
  ⟨f, cda, cc, ⟨oc, od, kV, doc, pm, an, ct, osl, cl, cld, csl, cdD, a, l, c, i, l2, d⟩, ⟨ccl, cdd, vs, ccs, file, tf, l3, v2, fe⟩⟩
/-- the def behind D's own -/
def FoundB (K : PySem.W.Frag) (C D : Addr) (x q : Str) (st : Stmt) (f : Addr) : Prop := ∃ (oc : Value) (od : Option Addr) (kV doc pm : Value) (an : Option Addr) (cdv ct : Value) (osl : Array (Option Value)),
  PySem.W.ks_superIn K C D x = some (some (.ref f)) ∧ K.lookup f = some ⟨oc, od, .func (PySem.W.fnOf x q (defArgs st) (defBody st) (defScope st) .none kV doc pm an cdv ct), osl⟩ ∧ PySem.W.codeIn K cdv q = true ∧ PySem.W.keepIn K (.ref f) = true ∧ PySem.W.typeIn K (.ref f) = some (.type "function") ∧ PySem.W.fnIn K f = true ∧ PySem.W.mroIn K C (.ref D) = some true
theorem foundb_mk {K : PySem.W.Frag} {C D : Addr} {x q : Str} {st : Stmt} {f : Addr} {oc : Value} {od an : Option Addr} {kV doc pm cdv ct : Value} {osl : Array (Option Value)} (a : PySem.W.ks_superIn K C D x = some (some (.ref f)))
    (l : K.lookup f = some ⟨oc, od, .func (PySem.W.fnOf x q (defArgs st) (defBody st) (defScope st) .none kV doc pm an cdv ct), osl⟩) (c : PySem.W.codeIn K cdv q = true) (k : PySem.W.keepIn K (.ref f) = true) (t : PySem.W.typeIn K (.ref f) = some (.type "function")) (i : PySem.W.fnIn K f = true) (u : PySem.W.mroIn K C (.ref D) = some true) : ∃ f, FoundB K C D x q st f :=
  ⟨f, oc, od, kV, doc, pm, an, cdv, ct, osl, a, l, c, k, t, i, u⟩
theorem PB.keepV {ow ow' : Addr → Prop} {H H' : Hp} {C m : Addr} {M : Mst} {sd : List Nat} {A A' : PA} {B : Brd} (h : PB H A B) (hM : PM ow H C m M sd A) (k : Keep ow ow' H H') (eo : A'.ords = A.ords) (ep : A'.prog.v = A.prog.v) : PB H' A' B := by
  have h1 := h.keep (A' := A) hM k rfl rfl
  exact ⟨by rw [eo]; exact h1.1, by rw [ep]; exact h1.2⟩
section
variable {P : Program} {w : World} {K : PySem.W.Frag} {mg : Str → Option Value} {base : Heap} {C : Addr}
abbrev st_Walk___init__ : Stmt := (inClass (topS 31) 0)
def spWInit (C : Addr) : Sp := fun vs H Q _ => ∃ (m dx : Addr) (v : V) (B : Brd) (r : Addr) (due : List (Nat × Nat)) (xs : List V), vs = [.ref m, v, .ref r] ∧ H m = some (.ins C dx []) ∧ H dx = some (.own m) ∧ Pd H v B.d ∧ BrdOk B ∧ H r = some (.lst xs) ∧ Pds H xs (due.map rdD) ∧
  ∀ (H' : Hp) (ow : Addr → Prop) (A : PA), PM ow H' C m (Mst.begin B []) [] A → A.prog.ex = exW r 0 → PB H' A B → Due ow H' r due → (∀ c o, c ≠ m → c ≠ dx → H c = some o → H' c = some o ∧ ¬ ow c) → Q .non H'
theorem winit_scope : NdefX.NScope ["self", "board", "due", "__class__"] ["self", "board", "due"] ["__class__"] (defScope st_Walk___init__) := NdefX.nscope_by (by decide +kernel)
theorem walk_maker (hm : mg "Walk" = some (.ref C)) (mk : PySem.W.makesIn K C = true) (kc : PySem.W.keepIn K (.ref C) = true) (c : MCW K C) {f cda cc : Addr} (F : FoundS K C C "__init__" "Walk.__init__" st_Walk___init__ f cda cc) (hc : CodeAt P K cda)
    (top : (P.main.scope.names.lookup ("super" : Str)).isSome = false) (z_super : mg "super" = none) (any : PySem.W.nsIn K cStatics "thirdparty.any" = some none)
    {st2 : Stmt} (F2 : ∃ f2, FoundB K C C "__init__" "Machine.__init__" st2 f2) (ok2 : ∀ (f : Addr) (fd : FuncData), Fun K "__init__" "Machine.__init__" st2 f fd → FnOk P w K mg base CX0 1 f fd ["self", "board"] (spInit C))
    (hb2 : ∀ (kV doc pm : Value) (an : Option Addr) (cdv ct : Value) (us : List Value), us.length = (["self", "board"] : List Str).length → bindArgs (PySem.W.fnOf "__init__" "Machine.__init__" (defArgs st2) (defBody st2) (defScope st2) .none kV doc pm an cdv ct) ⟨us, []⟩ = pure ((["self", "board"] : List Str).zip us)) :
    Maker P w K mg base "Walk" C 2 (spWInit C) := by
  obtain ⟨oc, od, kV, doc, pm, an, ct, osl, cl, cld, csl, cdD, a, l, hcd, i, l2, d⟩ := F
  obtain ⟨f2, oc2, od2, kV2, doc2, pm2, an2, cdv2, ct2, osl2, a2, lk2, c2, kp2, ty2, fn2, mro⟩ := F2
  have G2 := fun_mk (st := st2) lk2 c2 kp2
  have O2 := ok2 f2 _ G2
  refine ⟨f, _, ["self", "board", "due"], ⟨mk, a, i, kc⟩, fnS_own (k := 1) (sp := spWInit C) l hcd (hbd := by rfl) winit_scope ⟨hc, top, z_super, by decide +kernel, by decide +kernel, any⟩ (by rfl) (by rfl) (by rfl) l2 d (by decide) O2 (G2.binds hb2) (Nat.le_refl _) (fun vs H Q E h => ?_) (fun _ => rfl) (fun _ => rfl) (fun _ => ⟨_, rfl⟩) (fun _ => rfl) (fun A outer s H vs Q E hr h => ?_), hm, .all fun us hl => ?_⟩
  · obtain ⟨m, dx, v, B, r, due, xs, rfl, _⟩ := h
    rfl
  · obtain ⟨m, dx, v, B, r, due, xs, rfl, hm0, hdx, hB, ok, hr0, hxs, q⟩ := h
    refine ⟨_, _, pa_cons (pv 1) pa_nil, pss_cons (ps_fld (pv 0) (pv 2) rfl) (pss_one (ps_fld (pv 0) pe_int rfl)), m, C, dx, [], rfl, hm0, ⟨mro, a2, ty2, fn2⟩, ?_⟩
    refine ⟨_, rfl, m, dx, v, B, rfl, hm0, hdx, hB, ok, fun H1 ow A1 hM hex hPB k1 => ?_⟩
    have hM1 := hM []
    have rm : r ≠ m := ne_of hr0 hm0 (by intro z; cases z)
    have rdx : r ≠ dx := ne_of hr0 hdx (by intro z; cases z)
    obtain ⟨hr1, no⟩ := k1 r _ rm rdx hr0
    have keepT : ∀ a ys, H a = some (.tup ys) → H1 a = some (.tup ys) := fun a ys e => (k1 a _ (ne_of e hm0 (by intro z; cases z)) (ne_of e hdx (by intro z; cases z)) e).1
    have due1 : Due ow H1 r due := ⟨⟨xs, hr1, Pds.tups keepT (noLs_map noL_rd _) hxs⟩, no⟩
    have e1 : fsM A1 (Mst.begin B []).at_ (Mst.begin B []).beats = ([("memory", .ref A1.mem), ("orders", A1.ords), ("program", A1.prog.v), ("deeds_done", nV (Mst.begin B []).at_), ("held", .ref A1.held), ("touched", .ref A1.tou), ("left", .ref A1.left), ("beats", nV (Mst.begin B []).beats), ("rows", .ref A1.rows), ("said", .ref A1.said)] : List (Str × V)) := by
      unfold fsM; rw [hex, List.append_nil]
    refine ⟨_, rfl, _, rfl, m, C, A1.dx, _, rfl, hM1.obj, c.cl, c.nd, fsM_len, ?_⟩
    have hp1 : putF "due" (.ref r) (fsM A1 (Mst.begin B []).at_ (Mst.begin B []).beats) = fsM A1 (Mst.begin B []).at_ (Mst.begin B []).beats ++ ([("due", .ref r)] : List (Str × V)) := by
      rw [e1]; rfl
    rw [hp1]
    have hp2 : putF "readings" (.int 0) (fsM A1 (Mst.begin B []).at_ (Mst.begin B []).beats ++ ([("due", .ref r)] : List (Str × V))) = fsM (A1.withEx r 0) (Mst.begin B []).at_ (Mst.begin B []).beats := by
      rw [e1]; rfl
    refine ⟨_, rfl, m, C, A1.dx, _, rfl, upd_same, c.cl, c.nr, by rw [e1]; show 11 < 1000; decide, ?_⟩
    rw [hp2]
    have uu : ∀ o1 o2, upd (upd H1 m o1) m o2 = upd H1 m o2 := fun o1 o2 => by
      funext y
      by_cases e : y = m
      · subst e; rw [upd_same, upd_same]
      · rw [upd_ne e, upd_ne e, upd_ne e]
    rw [uu]
    have hM2 := hM1.setEx (r := r) (rd := 0)
    have k2 : Keep ow ow H1 (upd H1 m (.ins C A1.dx (fsM (A1.withEx r 0) (Mst.begin B []).at_ (Mst.begin B []).beats))) := Keep.ofOw (hM1.oa m (List.mem_of_getElem? (i := 0) rfl))
    refine q _ ow (A1.withEx r 0) hM2 rfl ?_ (due1.keep hM1 k2) (fun y u ym yd e => ?_)
    · exact hPB.keepV (A' := A1.withEx r 0) hM1 k2 rfl rfl
    · obtain ⟨g1, g2⟩ := k1 y u ym yd e
      exact k2 y u g2 g1
  · match us, hl with
    | [_, _, _], _ => rfl
end
end Vt
namespace Vt
open PySem PySem.Spec PyProof.Rows L2
/-! ### a cell's steps -/
def optD : Option Nat → D
  | none => .non
  | some n => nD n
def optV : Option Nat → V
  | none => .non
  | some n => nV n
theorem optD_noL (o : Option Nat) : (optD o).noL = true := by cases o <;> rfl
theorem pd_opt {H : Hp} (o : Option Nat) : Pd H (optV o) (optD o) := by
  cases o with
  | none => exact .non
  | some n => exact .int _
theorem opt_of {H : Hp} {v : V} {o : Option Nat} (h : Pd H v (optD o)) : v = optV o := by
  cases o with
  | none => cases h; rfl
  | some n => cases h; rfl
def wnD (s : Str × Nat) : D := .tup [.str s.1, nD s.2]
theorem noL_wn (s : Str × Nat) : (wnD s).noL = true := by simp [wnD, D.noL, noLs, nD]
def cmD (m : CMv) : D := .tup [nD m.1, optD m.2.1, optD m.2.2]
theorem noL_cm (m : CMv) : (cmD m).noL = true := by simp [cmD, D.noL, noLs, nD, optD_noL]
def tstD (s : TSt) : D := .tup [nD s.done, optD s.num, optD s.held]
theorem noL_tst (s : TSt) : (tstD s).noL = true := by simp [tstD, D.noL, noLs, nD, optD_noL]
theorem wn_of {H : Hp} {v : V} {s : Str × Nat} (h : Pd H v (wnD s)) : ∃ a, v = .ref a ∧ H a = some (.tup [.str s.1, nV s.2]) := by
  cases h with
  | tup h hs =>
    cases hs with
    | cons a hs => cases a; cases hs with
      | cons b hs => cases b; cases hs; exact ⟨_, rfl, h⟩
theorem stp_of {H : Hp} {v : V} {s : Stp} (h : Pd H v (stpD s)) : ∃ a, v = .ref a ∧ H a = some (.tup (stpV s)) := by
  cases h with
  | tup h hs =>
    cases hs with
    | cons a hs => cases a; cases hs with
      | cons b hs => cases b; cases hs with
        | cons c hs => cases c; cases hs; exact ⟨_, rfl, h⟩
theorem cm_of {H : Hp} {v : V} {m : CMv} (h : Pd H v (cmD m)) : ∃ a, v = .ref a ∧ H a = some (.tup [nV m.1, optV m.2.1, optV m.2.2]) := by
  cases h with
  | tup h hs =>
    cases hs with
    | cons a hs => cases a; cases hs with
      | cons b hs => cases hs with
        | cons c hs => cases hs; rw [opt_of b, opt_of c] at h; exact ⟨_, rfl, h⟩
theorem tst_of {H : Hp} {v : V} {s : TSt} (h : Pd H v (tstD s)) : ∃ a, v = .ref a ∧ H a = some (.tup [nV s.done, optV s.num, optV s.held]) := by
  cases h with
  | tup h hs =>
    cases hs with
    | cons a hs => cases a; cases hs with
      | cons b hs => cases hs with
        | cons c hs => cases hs; rw [opt_of b, opt_of c] at h; exact ⟨_, rfl, h⟩
theorem pd_wn {H : Hp} {a : Addr} {w : Str} {n : Nat} (h : H a = some (.tup [.str w, nV n])) : Pd H (.ref a) (wnD (w, n)) := .tup h (.cons (.str _) (.cons (.int _) .nil))
theorem pd_cm {H : Hp} {a : Addr} {m : CMv} (h : H a = some (.tup [nV m.1, optV m.2.1, optV m.2.2])) : Pd H (.ref a) (cmD m) := .tup h (.cons (.int _) (.cons (pd_opt _) (.cons (pd_opt _) .nil)))
theorem pd_tst {H : Hp} {a : Addr} {s : TSt} (h : H a = some (.tup [nV s.done, optV s.num, optV s.held])) : Pd H (.ref a) (tstD s) := .tup h (.cons (.int _) (.cons (pd_opt _) (.cons (pd_opt _) .nil)))
theorem iteT' {p q : Prop} {b : Bool} (e : b = true) (h : p) : if b = true then p else q := by rw [if_pos e]; exact h
theorem iteF' {p q : Prop} {b : Bool} (e : b = false) (h : q) : if b = true then p else q := by rw [if_neg (by rw [e]; decide)]; exact h
theorem inV2 {w a b : Str} : inV (.str w) [.str a, .str b] = decide (w = a ∨ w = b) := by
  unfold inV
  simp only [List.any_cons, List.any_nil, eqV, Bool.or_false]
  rw [Bool.eq_iff_iff, Bool.or_eq_true, decide_eq_true_iff, beq_iff_eq, beq_iff_eq]
  constructor <;> (rintro (h | h) <;> simp [h])
theorem inV3 {w a b c : Str} : inV (.str w) [.str a, .str b, .str c] = decide (w = a ∨ w = b ∨ w = c) := by
  unfold inV
  simp only [List.any_cons, List.any_nil, eqV, Bool.or_false]
  rw [Bool.eq_iff_iff, Bool.or_eq_true, Bool.or_eq_true, decide_eq_true_iff, beq_iff_eq, beq_iff_eq, beq_iff_eq]
  constructor <;> (rintro (h | h | h) <;> simp [h])
theorem inI2 {w a b : Nat} : inV (nV w) [nV a, nV b] = decide (w = a ∨ w = b) := by
  unfold inV nV
  simp only [List.any_cons, List.any_nil, eqV, Bool.or_false]
  rw [Bool.eq_iff_iff, Bool.or_eq_true, decide_eq_true_iff, beq_iff_eq, beq_iff_eq]
  constructor <;> (rintro (h | h) <;> omega)
theorem dec_nat {a b : Nat} : decide (nV a = nV b) = decide (a = b) := by
  rw [Bool.eq_iff_iff, decide_eq_true_iff, decide_eq_true_iff]
  exact ⟨fun h => by unfold nV at h; injection h with h; omega, fun h => by rw [h]⟩
section
variable {P : Program} {w : World} {K : PySem.W.Frag} {mg : Str → Option Value} {base : Heap}
abbrev st_steps_at : Stmt := (topS 37)
abbrev nm_steps_at : List Str := ["steps", "cell", "own", "word", "place", "number"]
theorem sc_steps_at : FnScope ["steps", "cell", "own", "word", "place", "number"] ["steps", "cell"] (defScope st_steps_at) := ⟨rfl, rfl, rfl, by decide +kernel, rfl, by decide +kernel, by decide +kernel⟩
def spStepsAt : Sp := fun vs H Q _ => ∃ (v : V) (steps : List Stp) (cell : Nat), vs = [v, nV cell] ∧ Pd H v (.lst (steps.map stpD)) ∧ steps.length ≤ 400000 ∧
  ∀ (H' : Hp) (u : Addr) (us : List V), Same H H' → H u = none → H' u = some (.lst us) → Pds H' us ((stepsAt steps cell).map wnD) → Q (.ref u) H'
theorem stepsAt_snoc (steps : List Stp) (cell j : Nat) {s : Stp} (h : steps[j]? = some s) : stepsAt (steps.take (j + 1)) cell = stepsAt (steps.take j) cell ++ stepAt cell s := by
  unfold stepsAt
  rw [List.take_add_one, h, Option.toList_some, List.flatMap_append, List.flatMap_cons, List.flatMap_nil, List.append_nil]
theorem stepAt_len (cell : Nat) (s : Stp) : (stepAt cell s).length ≤ 1 := by
  unfold stepAt
  by_cases h1 : (s.1 = ("read" : Str) ∨ s.1 = ("write" : Str)) ∧ s.2.1 = cell
  · rw [if_pos h1, if_neg]
    · simp
    · rintro ⟨z, _⟩
      rcases h1.1 with e | e <;> rw [e] at z <;> rcases z with z | z | z <;> exact absurd z (by decide)
  · rw [if_neg h1]
    split <;> simp
theorem stepsAt_len (cell : Nat) : ∀ steps : List Stp, (stepsAt steps cell).length ≤ steps.length
  | [] => Nat.le_refl _
  | s :: r => by
    have := stepsAt_len cell r
    have h := stepAt_len cell s
    unfold stepsAt at this ⊢
    rw [List.flatMap_cons, List.length_append, List.length_cons]; omega
theorem ok_stepsat {f : Addr} {fd : FuncData} (F : Fun K "steps_at" "steps_at" st_steps_at f fd) (CC : Consts K mg) : FnOk P w K mg base CX0 1 f fd ["steps", "cell"] spStepsAt := by
  obtain ⟨tL, mc_LINE⟩ := CC.line
  refine F.ok sc_steps_at (fun vs H Q E h => ?_) (fun cdv A outer s H vs Q E hr h => ?_)
  · obtain ⟨v, steps, cell, rfl, _⟩ := h
    rfl
  · obtain ⟨v, steps, cell, rfl, hv, hlen, q⟩ := h
    refine ⟨_, (pss_cons (ps_set (i := 2) sc_steps_at.nd rfl (Or.inl rfl) (pe_lst pa_nil))
  (pss_cons (ps_for PassesOwn.never rfl (pi_lt (pv 0)) (pg_tup rfl (pgs_cons (pg_name (i := 3) sc_steps_at.nd rfl (Or.inl rfl)) (pgs_cons (pg_name (i := 4) sc_steps_at.nd rfl (Or.inl rfl)) (pgs_cons (pg_name (i := 5) sc_steps_at.nd rfl (Or.inl rfl)) pgs_nil))))
  (pss_cut (ps_if (PW.pt (pw_and (pt_cmpR op_in_seq (pv 3) (pe_tup (pa_cons pe_str (pa_cons pe_str pa_nil))) (by rfl)) (pw_and1 (pt_cmpR op_eq (pv 4) (pv 1) (nomark _))))) (pss_one (ps_expr (pe_bm PySem.F.plainAttrs_list PySem.F.slot_list_append PySem.F.type_list_append mt_append (pv 2) (pa_cons (pe_tup (pa_cons (pv 3) (pa_cons (pv 5) pa_nil))) pa_nil)))) pss_nil)
  (pss_one (ps_if (PW.pt (pw_and (pt_cmpR op_in_seq (pv 3) (pe_tup (pa_cons pe_str (pa_cons pe_str (pa_cons pe_str pa_nil)))) (by rfl)) (pw_and1 (pt_cmpR op_eq (pv 4) (pe_op op_fdiv (pv 1) (pe_glob (v := .int 4) rfl mc_LINE ⟨_, rfl⟩)) (nomark _))))) (pss_one (ps_expr (pe_bm PySem.F.plainAttrs_list PySem.F.slot_list_append PySem.F.type_list_append mt_append (pv 2) (pa_cons (pe_tup (pa_cons (pv 3) (pa_cons (pv 5) pa_nil))) pa_nil)))) pss_nil))))
  (pss_one (ps_ret (pv 2))))), ?_⟩
    obtain ⟨sa, ss, rfl, hsa, hss⟩ : ∃ sa ss, v = .ref sa ∧ H sa = some (.lst ss) ∧ Pds H ss (steps.map stpD) := by
      cases hv with
      | lst h hs => exact ⟨_, _, rfl, h, hs⟩
    have sl : ss.length = steps.length := by rw [hss.len, List.length_map]
    refine ⟨Nat.zero_le _, fun p np => ?_⟩
    refine ⟨_, rfl, sa, rfl, .inl ⟨ss, sqL_l (same_new np _ _ hsa), ?_⟩⟩
    have s0 := same_new (o := .lst []) np
    refine for_it (walk_list (xs := ss)) (fun i σ H' => ∃ (y1 y2 y3 : Option V) (xs : List V), σ = [some (.ref sa), some (nV cell), some (.ref p), y1, y2, y3] ∧ H' p = some (.lst xs) ∧ Pds H' xs ((stepsAt (steps.take i) cell).map wnD) ∧ Same H H')
      ⟨_, _, _, [], rfl, upd_same, .nil, s0⟩ (fun i σ H' _ hp => by obtain ⟨_, _, _, _, _, _, _, s⟩ := hp; exact sqL_l (s _ _ hsa)) (fun i x σ H1 H2 hi hp hy => ?_) (fun σ H1 hp => ?_)
    · obtain ⟨y1, y2, y3, xs, rfl, hpx, hxs, sm⟩ := hp
      obtain ⟨rfl, hx⟩ := hy
      obtain ⟨dd, hdd, hpd⟩ := (hss.same sm).get' hx
      rw [List.getElem?_map] at hdd
      obtain ⟨st, hst, rfl⟩ : ∃ r, steps[i]? = some r ∧ stpD r = dd := by simpa using hdd
      obtain ⟨ra, rfl, hra⟩ := stp_of hpd
      have xlen : xs.length ≤ 400000 := by
        have h1 := stepsAt_len cell (steps.take i)
        rw [List.length_take] at h1
        rw [hxs.len, List.length_map]; omega
      -- how a step is put in
      have put : ∀ (Hx : Hp) (ys : List V) (T : Addr) (zs : List (Str × Nat)), Hx p = some (.lst ys) → Pds Hx ys (zs.map wnD) → Same H Hx → Hx T = none →
          (upd Hx T (.tup [.str st.1, nV st.2.2])) p = some (.lst ys) ∧ Pds (upd (upd Hx T (.tup [.str st.1, nV st.2.2])) p (.lst (ys ++ [.ref T]))) (ys ++ [.ref T]) ((zs ++ [(st.1, st.2.2)]).map wnD) ∧ Same H (upd (upd Hx T (.tup [.str st.1, nV st.2.2])) p (.lst (ys ++ [.ref T]))) := fun Hx ys T zs h1 h2 h3 nT => by
        obtain ⟨g1, g2, g3⟩ := grow h1 h2 (noLs_map noL_wn zs) nT (d := wnD (st.1, st.2.2)) (fun H a h => pd_wn h)
        exact ⟨g1, by rw [List.map_append]; exact g2, g3.new1 h3 np⟩
      refine ⟨ra, _, rfl, sqT_t hra, rfl, _, _, rfl, _, _, rfl, _, _, rfl, rfl, ?_⟩
      refine ⟨fun σ' H' => ∃ ys, σ' = [some (.ref sa), some (nV cell), some (.ref p), some (.str st.1), some (nV st.2.1), some (nV st.2.2)] ∧ H' p = some (.lst ys) ∧ Same H H' ∧
        Pds H' ys ((stepsAt (steps.take i) cell ++ (if (st.1 = ("read" : Str) ∨ st.1 = ("write" : Str)) ∧ st.2.1 = cell then [(st.1, st.2.2)] else [])).map wnD), ?_, fun σ' H' hm => ?_⟩
      · refine ⟨_, rfl, by show 2 ≤ sizeLine; decide, fun T nT => ⟨T, [.str "read", .str "write"], rfl, .inr (sqT_t upd_same), rfl, rfl, _, rfl, ?_⟩⟩
        rw [show (if false = true then !inV (.str st.1) [.str "read", .str "write"] else inV (.str st.1) [.str "read", .str "write"]) = inV (.str st.1) [.str "read", .str "write"] from rfl, inV2]
        have sT := same_new (o := .tup [.str "read", .str "write"]) nT
        have hpx' := sT _ _ hpx
        have hxs' := hxs.same sT
        have sm' := sm.trans sT
        generalize upd H2 T (.tup [.str "read", .str "write"]) = H3 at hpx' hxs' sm'
        by_cases c1 : st.1 = ("read" : Str) ∨ st.1 = ("write" : Str)
        · refine iteT' (decide_eq_true c1) ⟨_, rfl, _, rfl, rfl, _, rfl, ?_⟩
          rw [dec_nat]
          by_cases c2 : st.2.1 = cell
          · refine iteT' (decide_eq_true c2) ⟨_, rfl, ?_⟩
            refine ⟨.inl ⟨rfl, _, sqL_l hpx'⟩, _, rfl, _, rfl, by show 2 ≤ sizeLine; decide, fun T2 nT2 => ?_⟩
            obtain ⟨g1, g2, g3⟩ := put H3 xs T2 _ hpx' hxs' sm' nT2
            refine ⟨p, _, _, rfl, rfl, g1, big (by omega), ?_⟩
            refine ⟨_, rfl, upd_same, g3, ?_⟩
            rw [if_pos ⟨c1, c2⟩]; exact g2
          · refine iteF' (decide_eq_false c2) ⟨xs, rfl, hpx', sm', ?_⟩
            rw [if_neg (fun z => c2 z.2), List.append_nil]; exact hxs'
        · refine iteF' (decide_eq_false c1) (iteF ⟨xs, rfl, hpx', sm', ?_⟩)
          rw [if_neg (fun z => c1 z.1), List.append_nil]; exact hxs'
      · obtain ⟨ys, rfl, hpy, sy, hys⟩ := hm
        have ylen : ys.length ≤ 400001 := by
          have h1 := stepsAt_len cell (steps.take i)
          rw [List.length_take] at h1
          rw [hys.len, List.length_map, List.length_append]
          split
          · rw [List.length_singleton]; omega
          · rw [List.length_nil]; omega
        refine ⟨_, rfl, by show 3 ≤ sizeLine; decide, fun T nT => ⟨T, [.str "take", .str "clean", .str "drop"], rfl, .inr (sqT_t upd_same), rfl, rfl, _, rfl, ?_⟩⟩
        rw [show (if false = true then !inV (.str st.1) [.str "take", .str "clean", .str "drop"] else inV (.str st.1) [.str "take", .str "clean", .str "drop"]) = inV (.str st.1) [.str "take", .str "clean", .str "drop"] from rfl, inV3]
        have sT := same_new (o := .tup [.str "take", .str "clean", .str "drop"]) nT
        have hpx' := sT _ _ hpy
        have hxs' := hys.same sT
        have sm' := sy.trans sT
        generalize upd H' T (.tup [.str "take", .str "clean", .str "drop"]) = H3 at hpx' hxs' sm'
        rw [stepsAt_snoc steps cell i hst]
        have ed : ((cell : Int) / 4) = ((cell / 4 : Nat) : Int) := by omega
        by_cases c1 : st.1 = ("take" : Str) ∨ st.1 = ("clean" : Str) ∨ st.1 = ("drop" : Str)
        · refine iteT' (decide_eq_true c1) ⟨_, rfl, _, rfl, _, _, rfl, rfl, ⟨by decide, by decide⟩, rfl, _, rfl, ?_⟩
          have dc : decide (nV st.2.1 = V.int ((cell : Int) / 4)) = decide (st.2.1 = cell / 4) := by rw [ed]; exact dec_nat
          by_cases c2 : st.2.1 = cell / 4
          · refine iteT' (dc.trans (decide_eq_true c2)) ⟨_, rfl, ?_⟩
            refine ⟨.inl ⟨rfl, _, sqL_l hpx'⟩, _, rfl, _, rfl, by show 2 ≤ sizeLine; decide, fun T2 nT2 => ?_⟩
            obtain ⟨g1, g2, g3⟩ := put H3 ys T2 _ hpx' hxs' sm' nT2
            refine ⟨p, _, _, rfl, rfl, g1, big (by omega), ?_⟩
            refine ⟨_, _, _, _, rfl, upd_same, ?_, g3⟩
            unfold stepAt
            rw [if_pos (c := (st.1 = ("take" : Str) ∨ st.1 = ("clean" : Str) ∨ st.1 = ("drop" : Str)) ∧ st.2.1 = cell / 4) ⟨c1, c2⟩, ← List.append_assoc]; exact g2
          · refine iteF' (dc.trans (decide_eq_false c2)) ⟨_, _, _, ys, rfl, hpx', ?_, sm'⟩
            unfold stepAt
            rw [if_neg (c := (st.1 = ("take" : Str) ∨ st.1 = ("clean" : Str) ∨ st.1 = ("drop" : Str)) ∧ st.2.1 = cell / 4) (fun z => c2 z.2), List.append_nil]; exact hxs'
        · refine iteF' (decide_eq_false c1) (iteF ⟨_, _, _, ys, rfl, hpx', ?_, sm'⟩)
          unfold stepAt
          rw [if_neg (c := (st.1 = ("take" : Str) ∨ st.1 = ("clean" : Str) ∨ st.1 = ("drop" : Str)) ∧ st.2.1 = cell / 4) (fun z => c1 z.1), List.append_nil]; exact hxs'
    · obtain ⟨y1, y2, y3, xs, rfl, hpx, hxs, sm⟩ := hp
      rw [sl, List.take_length] at hxs
      exact ⟨_, rfl, q H1 p xs sm np hpx hxs⟩
end
end Vt
namespace Vt
open PySem PySem.Spec PyProof.Rows L2
def mvD (m : Nat × Nat × Nat) : D := .tup [nD m.1, nD m.2.1, nD m.2.2]
theorem noL_mvD (m : Nat × Nat × Nat) : (mvD m).noL = true := by simp [mvD, D.noL, noLs, nD]
theorem mvD_of {H : Hp} {v : V} {m : Nat × Nat × Nat} (h : Pd H v (mvD m)) : ∃ a, v = .ref a ∧ H a = some (.tup [nV m.1, nV m.2.1, nV m.2.2]) := by
  cases h with
  | tup h hs =>
    cases hs with
    | cons a hs => cases a; cases hs with
      | cons b hs => cases b; cases hs with
        | cons c hs => cases c; cases hs; exact ⟨_, rfl, h⟩
theorem pd_mvD {H : Hp} {a : Addr} {m : Nat × Nat × Nat} (h : H a = some (.tup [nV m.1, nV m.2.1, nV m.2.2])) : Pd H (.ref a) (mvD m) := .tup h (.cons (.int _) (.cons (.int _) (.cons (.int _) .nil)))
theorem movesFrom_snoc (cell : Nat) : ∀ (ms : List (Nat × Nat × Nat)) (i j : Nat) {m : Nat × Nat × Nat}, ms[j]? = some m → movesFrom cell i (ms.take (j + 1)) = movesFrom cell i (ms.take j) ++ moveAt cell (i + j) m
  | [], _, _, _, h => by simp at h
  | x :: r, i, 0, m, h => by
    simp only [List.getElem?_cons_zero, Option.some.injEq] at h
    subst h
    simp [movesFrom]
  | x :: r, i, j + 1, m, h => by
    rw [List.getElem?_cons_succ] at h
    rw [List.take_succ_cons, List.take_succ_cons, movesFrom, movesFrom, movesFrom_snoc cell r (i + 1) j h, List.append_assoc, show i + 1 + j = i + (j + 1) by omega]
theorem moveAt_len (cell i : Nat) (m : Nat × Nat × Nat) : (moveAt cell i m).length ≤ 1 := by
  unfold moveAt; split <;> simp
theorem movesFrom_len (cell : Nat) : ∀ (ms : List (Nat × Nat × Nat)) (i : Nat), (movesFrom cell i ms).length ≤ ms.length
  | [], _ => Nat.le_refl _
  | m :: r, i => by
    have := movesFrom_len cell r (i + 1)
    have h := moveAt_len cell i m
    rw [movesFrom, List.length_append, List.length_cons]; omega
theorem if_opt {σ : L2.St} {H : Hp} {Q : VK} {i j k a b n : Nat} (h1 : σ[i]? = some (some (nV a))) (h2 : σ[j]? = some (some (nV b))) (h3 : σ[k]? = some (some (nV n))) (q : Q (optV (if a = b then some n else none)) H) : tIf (tTest (tOp rEq (tVar i) (tVar j))) (tVar k) (tC V.non) σ H Q := by
  refine ⟨_, h1, _, h2, rfl, _, rfl, ?_⟩
  rw [dec_nat]
  by_cases c : a = b
  · rw [if_pos c] at q
    exact iteT' (decide_eq_true c) ⟨_, h3, q⟩
  · rw [if_neg c] at q
    exact iteF' (decide_eq_false c) q
section
variable {P : Program} {w : World} {K : PySem.W.Frag} {mg : Str → Option Value} {base : Heap}
abbrev st_moves_at : Stmt := (topS 38)
abbrev nm_moves_at : List Str := ["moves", "cell", "own", "at", "source", "goal", "number"]
theorem sc_moves_at : FnScope ["moves", "cell", "own", "at", "source", "goal", "number"] ["moves", "cell"] (defScope st_moves_at) := ⟨rfl, rfl, rfl, by decide +kernel, rfl, by decide +kernel, by decide +kernel⟩
def spMovesAt : Sp := fun vs H Q _ => ∃ (v : V) (ms : List (Nat × Nat × Nat)) (cell : Nat), vs = [v, nV cell] ∧ Pd H v (.lst (ms.map mvD)) ∧ ms.length ≤ 400000 ∧
  ∀ (H' : Hp) (u : V), Same H H' → Pd H' u (.lst ((movesAt ms cell).map cmD)) → Q u H'
theorem ok_movesat {f : Addr} {fd : FuncData} (F : Fun K "moves_at" "moves_at" st_moves_at f fd) (z_enumerate : mg "enumerate" = none) : FnOk P w K mg base CX0 1 f fd ["moves", "cell"] spMovesAt := by
  refine F.ok sc_moves_at (fun vs H Q E h => ?_) (fun cdv A outer s H vs Q E hr h => ?_)
  · obtain ⟨v, ms, cell, rfl, _⟩ := h
    rfl
  · obtain ⟨v, ms, cell, rfl, hv, hlen, q⟩ := h
    refine ⟨_, (pss_cons (ps_set (i := 2) sc_moves_at.nd rfl (Or.inl rfl) (pe_lst pa_nil))
  (pss_cons (ps_for PassesOwn.never rfl (pi_enumT (by rfl) z_enumerate (pa_cons (pv 0) pa_nil)) (pg_tup rfl (pgs_cons (pg_name (i := 3) sc_moves_at.nd rfl (Or.inl rfl)) (pgs_cons (pg_tup rfl (pgs_cons (pg_name (i := 4) sc_moves_at.nd rfl (Or.inl rfl)) (pgs_cons (pg_name (i := 5) sc_moves_at.nd rfl (Or.inl rfl)) (pgs_cons (pg_name (i := 6) sc_moves_at.nd rfl (Or.inl rfl)) pgs_nil)))) pgs_nil)))
  (pss_one (ps_if (pt_cmpR op_in_seq (pv 1) (pe_tup (pa_cons (pv 4) (pa_cons (pv 5) pa_nil))) (by rfl)) (pss_one (ps_expr (pe_bm PySem.F.plainAttrs_list PySem.F.slot_list_append PySem.F.type_list_append mt_append (pv 2) (pa_cons (pe_tup (pa_cons (pv 3) (pa_cons (pe_ifExp (pt_cmpR op_eq (pv 4) (pv 1) (nomark _)) (pv 6) pe_non) (pa_cons (pe_ifExp (pt_cmpR op_eq (pv 5) (pv 1) (nomark _)) (pv 6) pe_non) pa_nil)))) pa_nil)))) pss_nil)))
  (pss_one (ps_ret (pv 2))))), ?_⟩
    obtain ⟨sa, ss, rfl, hsa, hss⟩ : ∃ sa ss, v = .ref sa ∧ H sa = some (.lst ss) ∧ Pds H ss (ms.map mvD) := by
      cases hv with
      | lst h hs => exact ⟨_, _, rfl, h, hs⟩
    have sl : ss.length = ms.length := by rw [hss.len, List.length_map]
    refine ⟨Nat.zero_le _, fun p np => ?_⟩
    have s0 := same_new (o := .lst []) np
    refine ⟨_, rfl, sa, rfl, .inl ⟨ss, sqL_l (s0 _ _ hsa), ?_⟩⟩
    refine for_it (walk_enum (xs := ss)) (fun i σ H' => ∃ (y1 y2 y3 y4 : Option V) (xs : List V), σ = [some (.ref sa), some (nV cell), some (.ref p), y1, y2, y3, y4] ∧ H' p = some (.lst xs) ∧ Pds H' xs ((movesFrom cell 0 (ms.take i)).map cmD) ∧ Same H H')
      ⟨_, _, _, _, [], rfl, upd_same, .nil, s0⟩ (fun i σ H' _ hp => by obtain ⟨_, _, _, _, _, _, _, _, s⟩ := hp; exact sqL_l (s _ _ hsa)) (fun i x σ H1 H2 hi hp hy => ?_) (fun σ H1 hp => ?_)
    · obtain ⟨y1, y2, y3, y4, xs, rfl, hpx1, hxs1, sm1⟩ := hp
      obtain ⟨T, a1, b, rfl, nT, _, h1, hb, s6, hT⟩ := pair_at hy
      cases h1
      have hpx := s6 _ _ hpx1
      have hxs := hxs1.same s6
      have sm := sm1.trans s6
      obtain ⟨dd, hdd, hpd⟩ := (hss.same sm).get' hb
      rw [List.getElem?_map] at hdd
      obtain ⟨mv, hmv, rfl⟩ : ∃ r, ms[i]? = some r ∧ mvD r = dd := by simpa using hdd
      obtain ⟨ra, rfl, hra⟩ := mvD_of hpd
      have xlen : xs.length ≤ 400000 := by
        have h1 := movesFrom_len cell (ms.take i) 0
        rw [List.length_take] at h1
        rw [hxs.len, List.length_map]; omega
      rw [movesFrom_snoc cell ms 0 i hmv, Nat.zero_add]
      refine ⟨T, _, rfl, sqT_t hT, rfl, _, _, rfl, _, _, rfl, ?_⟩
      refine ⟨ra, _, rfl, sqT_t hra, rfl, _, _, rfl, _, _, rfl, _, _, rfl, rfl, rfl, ?_⟩
      refine ⟨_, rfl, _, rfl, _, rfl, by show 2 ≤ sizeLine; decide, fun T2 nT2 => ⟨T2, [nV mv.1, nV mv.2.1], rfl, .inr (sqT_t upd_same), rfl, rfl, _, rfl, ?_⟩⟩
      have sT := same_new (o := .tup [nV mv.1, nV mv.2.1]) nT2
      have hpx' := sT _ _ hpx
      have hxs' := hxs.same sT
      have sm' := sm.trans sT
      generalize upd H2 T2 (.tup [nV mv.1, nV mv.2.1]) = H3 at hpx' hxs' sm'
      rw [show (if false = true then !inV (nV cell) [nV mv.1, nV mv.2.1] else inV (nV cell) [nV mv.1, nV mv.2.1]) = inV (nV cell) [nV mv.1, nV mv.2.1] from rfl, inI2]
      unfold moveAt
      by_cases c1 : cell = mv.1 ∨ cell = mv.2.1
      · have c1' : mv.1 = cell ∨ mv.2.1 = cell := c1.imp Eq.symm Eq.symm
        rw [if_pos c1']
        refine iteT' (decide_eq_true c1) ⟨_, rfl, ?_⟩
        refine ⟨.inl ⟨rfl, _, sqL_l hpx'⟩, _, rfl, ?_⟩
        refine if_opt rfl rfl rfl (if_opt rfl rfl rfl ⟨by show 3 ≤ sizeLine; decide, fun T3 nT3 => ?_⟩)
        obtain ⟨g1, g2, g3⟩ := grow hpx' hxs' (noLs_map noL_cm _) nT3 (d := cmD (i, if mv.1 = cell then some mv.2.2 else none, if mv.2.1 = cell then some mv.2.2 else none)) (fun H a h => pd_cm h)
        refine ⟨p, _, _, rfl, rfl, g1, big (by omega), ?_⟩
        exact ⟨_, _, _, _, _, rfl, upd_same, by rw [List.map_append]; exact g2, g3.new1 sm' np⟩
      · rw [if_neg (fun z => c1 (z.imp Eq.symm Eq.symm)), List.append_nil]
        exact iteF' (decide_eq_false c1) ⟨_, _, _, _, xs, rfl, hpx', hxs', sm'⟩
    · obtain ⟨y1, y2, y3, y4, xs, rfl, hpx, hxs, sm⟩ := hp
      rw [sl, List.take_length] at hxs
      exact ⟨_, rfl, q H1 _ sm (.lst hpx hxs)⟩
end
end Vt
namespace Vt
open PySem PySem.Spec PyProof.Rows L2
def resD : Option TSt → D
  | none => .non
  | some s => tstD s
theorem res_none {H : Hp} {v : V} (h : Pd H v (resD none)) : v = .non := by cases h; rfl
theorem afterSteps_snoc (st : TSt) (steps : List (Str × Nat)) {i : Nat} {s : Str × Nat} (h : steps[i]? = some s) : afterSteps st (steps.take (i + 1)) = (afterSteps st (steps.take i)).bind fun x => afterStep x s := by
  rw [List.take_add_one, h, Option.toList_some, afterSteps_app]
  congr 1
  funext x
  exact st_one
theorem afterSteps_none {st : TSt} {steps : List (Str × Nat)} {i : Nat} (h : afterSteps st (steps.take i) = none) : afterSteps st steps = none := by
  rw [← List.take_append_drop i steps, afterSteps_app, h]; rfl
theorem scal_opt (o : Option Nat) (n : Nat) : scal (optV o) (nV n) = true := by cases o <;> rfl
theorem scal_opt' (o : Option Nat) (n : Nat) : scal (nV n) (optV o) = true := by cases o <;> rfl
theorem dec_opt (o : Option Nat) (n : Nat) : decide (optV o = nV n) = decide (o = some n) := by
  cases o with
  | none => rw [decide_eq_false (by intro z; cases z), decide_eq_false (by intro z; cases z)]
  | some k => exact dec_nat.trans (by rw [Bool.eq_iff_iff, decide_eq_true_iff, decide_eq_true_iff, Option.some.injEq])
def as1 (w : Str) (x : TSt) : TSt := if w = ("take" : Str) then { x with held := x.num } else x
def as2 (w : Str) (n : Nat) (x : TSt) : TSt := if w = ("write" : Str) then { x with held := some n } else x
def as3 (w : Str) (x : TSt) : TSt := if w = ("clean" : Str) then { x with num := x.held } else x
def as4 (w : Str) (x : TSt) : TSt := if w = ("drop" : Str) then { x with held := none } else x
theorem as_chain {x : TSt} {s : Str × Nat} (h : ¬ (s.1 = ("read" : Str) ∧ ¬ x.held = some s.2)) : afterStep x s = some (as4 s.1 (as3 s.1 (as2 s.1 s.2 (as1 s.1 x)))) := by
  obtain ⟨w, n⟩ := s
  dsimp only at h ⊢
  have n1 : w ≠ "take" → as1 w x = x := fun z => if_neg z
  have n2 : ∀ y, w ≠ "write" → as2 w n y = y := fun y z => if_neg z
  have n3 : ∀ y, w ≠ "clean" → as3 w y = y := fun y z => if_neg z
  have n4 : ∀ y, w ≠ "drop" → as4 w y = y := fun y z => if_neg z
  by_cases h1 : w = ("take" : Str)
  · subst h1
    rw [st_take, n4 _ (by decide), n3 _ (by decide), n2 _ (by decide)]; rfl
  · by_cases h2 : w = ("write" : Str)
    · subst h2
      rw [st_write, n4 _ (by decide), n3 _ (by decide), n1 (by decide)]; rfl
    · by_cases h3 : w = ("clean" : Str)
      · subst h3
        rw [st_clean, n4 _ (by decide), n2 _ (by decide), n1 (by decide)]; rfl
      · by_cases h4 : w = ("drop" : Str)
        · subst h4
          rw [st_drop, n3 _ (by decide), n2 _ (by decide), n1 (by decide)]; rfl
        · rw [n4 _ h4, n3 _ h3, n2 _ h2, n1 h1]
          unfold afterStep
          dsimp only
          rw [if_neg h, if_neg h1, if_neg h2, if_neg h3, if_neg h4]
theorem as_done {w : Str} {n : Nat} {x : TSt} : (as4 w (as3 w (as2 w n (as1 w x)))).done = x.done := by
  unfold as4 as3 as2 as1
  split <;> split <;> split <;> split <;> rfl
theorem dec_str {a b : Str} : decide (V.str a = V.str b) = decide (a = b) := by
  rw [Bool.eq_iff_iff, decide_eq_true_iff, decide_eq_true_iff]
  exact ⟨fun h => by injection h, fun h => by rw [h]⟩
section
variable {P : Program} {w : World} {K : PySem.W.Frag} {mg : Str → Option Value} {base : Heap}
abbrev st_after_steps : Stmt := (topS 39)
abbrev nm_after_steps : List Str := ["state", "steps", "done", "number", "held", "word", "plain"]
theorem sc_after_steps : FnScope ["state", "steps", "done", "number", "held", "word", "plain"] ["state", "steps"] (defScope st_after_steps) := ⟨rfl, rfl, rfl, by decide +kernel, rfl, by decide +kernel, by decide +kernel⟩
def spAfterSteps : Sp := fun vs H Q _ => ∃ (v u : V) (st : TSt) (steps : List (Str × Nat)), vs = [v, u] ∧ Pd H v (tstD st) ∧ Pd H u (.lst (steps.map wnD)) ∧
  ∀ (H' : Hp) (r : V), Same H H' → Pd H' r (resD (afterSteps st steps)) → Q r H'
theorem ok_aftersteps {f : Addr} {fd : FuncData} (F : Fun K "after_steps" "after_steps" st_after_steps f fd) : FnOk P w K mg base CX0 1 f fd ["state", "steps"] spAfterSteps := by
  refine F.ok sc_after_steps (fun vs H Q E h => ?_) (fun cdv A outer s H vs Q E hr h => ?_)
  · obtain ⟨v, u, st, steps, rfl, _⟩ := h
    rfl
  · obtain ⟨v, u, st, steps, rfl, hv, hu, q⟩ := h
    refine ⟨_, (pss_cons (ps_asg (pv 0) (pg_tup rfl (pgs_cons (pg_name (i := 2) sc_after_steps.nd rfl (Or.inl rfl)) (pgs_cons (pg_name (i := 3) sc_after_steps.nd rfl (Or.inl rfl)) (pgs_cons (pg_name (i := 4) sc_after_steps.nd rfl (Or.inl rfl)) pgs_nil)))))
  (pss_cons (ps_for PassesOwn.never rfl (pi_lt (pv 1)) (pg_tup rfl (pgs_cons (pg_name (i := 5) sc_after_steps.nd rfl (Or.inl rfl)) (pgs_cons (pg_name (i := 6) sc_after_steps.nd rfl (Or.inl rfl)) pgs_nil)))
  (pss_cons (ps_if (PW.pt (pw_and (pt_cmpR op_eq (pv 5) pe_str (nomark _)) (pw_and1 (pt_cmpR op_ne (pv 4) (pv 6) (nomark _))))) (pss_one (ps_ret pe_non)) pss_nil)
  (pss_cut (ps_if (pt_cmpR op_eq (pv 5) pe_str (nomark _)) (pss_one (ps_set (i := 4) sc_after_steps.nd rfl (Or.inl rfl) (pv 3))) pss_nil)
  (pss_cut (ps_if (pt_cmpR op_eq (pv 5) pe_str (nomark _)) (pss_one (ps_set (i := 4) sc_after_steps.nd rfl (Or.inl rfl) (pv 6))) pss_nil)
  (pss_cut (ps_if (pt_cmpR op_eq (pv 5) pe_str (nomark _)) (pss_one (ps_set (i := 3) sc_after_steps.nd rfl (Or.inl rfl) (pv 4))) pss_nil)
  (pss_one (ps_if (pt_cmpR op_eq (pv 5) pe_str (nomark _)) (pss_one (ps_set (i := 4) sc_after_steps.nd rfl (Or.inl rfl) pe_non)) pss_nil)))))))
  (pss_one (ps_ret (pe_tup (pa_cons (pv 2) (pa_cons (pv 3) (pa_cons (pv 4) pa_nil)))))))), ?_⟩
    obtain ⟨sa, ss, rfl, hsa, hss⟩ : ∃ sa ss, u = .ref sa ∧ H sa = some (.lst ss) ∧ Pds H ss (steps.map wnD) := by
      cases hu with
      | lst h hs => exact ⟨_, _, rfl, h, hs⟩
    have sl : ss.length = steps.length := by rw [hss.len, List.length_map]
    obtain ⟨ta, rfl, hta⟩ := tst_of hv
    refine ⟨_, rfl, ta, _, rfl, sqT_t hta, rfl, _, _, rfl, _, _, rfl, _, _, rfl, rfl, ?_⟩
    refine ⟨_, rfl, sa, rfl, .inl ⟨ss, sqL_l hsa, ?_⟩⟩
    refine for_it (walk_list (xs := ss)) (fun i σ H' => H' = H ∧ ∃ (y1 y2 : Option V) (x : TSt), σ = [some (.ref ta), some (.ref sa), some (nV st.done), some (optV x.num), some (optV x.held), y1, y2] ∧ afterSteps st (steps.take i) = some x ∧ x.done = st.done)
      ⟨rfl, _, _, st, rfl, rfl, rfl⟩ (fun i σ H' _ hp => by obtain ⟨rfl, _⟩ := hp; exact sqL_l hsa) (fun i x σ H1 H2 hi hp hy => ?_) (fun σ H1 hp => ?_)
    · obtain ⟨rfl, y1, y2, x, rfl, hx, hd⟩ := hp
      obtain ⟨rfl, hxs⟩ := hy
      obtain ⟨dd, hdd, hpd⟩ := hss.get' hxs
      rw [List.getElem?_map] at hdd
      obtain ⟨s1, hs1, rfl⟩ : ∃ r, steps[i]? = some r ∧ wnD r = dd := by simpa using hdd
      obtain ⟨ra, rfl, hra⟩ := wn_of hpd
      have hsn := afterSteps_snoc st steps hs1
      rw [hx, Option.bind_some] at hsn
      refine ⟨ra, _, rfl, sqT_t hra, rfl, _, _, rfl, _, _, rfl, rfl, ?_⟩
      have rest : ∀ (nn : ¬ (s1.1 = ("read" : Str) ∧ ¬ x.held = some s1.2)) (Q1 : L2.St → Hp → Prop) (R1 : VK) (B1 C1 : L2.St → Hp → Prop), (∀ y1 y2 x', afterSteps st (steps.take (i + 1)) = some x' → x'.done = st.done → Q1 [some (.ref ta), some (.ref sa), some (nV st.done), some (optV x'.num), some (optV x'.held), y1, y2] H2) →
          tCut (tIfS (tTest (tOp rEq (tVar 5) (tC (V.str (Str.ofString "take"))))) (tAsg (tVar 3) (gName 4)) tNext)
          (tCut (tIfS (tTest (tOp rEq (tVar 5) (tC (V.str (Str.ofString "write"))))) (tAsg (tVar 6) (gName 4)) tNext)
            (tCut (tIfS (tTest (tOp rEq (tVar 5) (tC (V.str (Str.ofString "clean"))))) (tAsg (tVar 4) (gName 3)) tNext)
              (tIfS (tTest (tOp rEq (tVar 5) (tC (V.str (Str.ofString "drop"))))) (tAsg (tC V.non) (gName 4)) tNext))) ⟨Q1, R1, B1, C1⟩ [some (.ref ta), some (.ref sa), some (nV st.done), some (optV x.num), some (optV x.held), some (.str s1.1), some (nV s1.2)] H2 := fun nn Q1 R1 B1 C1 fin => by
        refine ⟨fun σ' H'' => H'' = H2 ∧ σ' = [some (.ref ta), some (.ref sa), some (nV st.done), some (optV (as1 s1.1 x).num), some (optV (as1 s1.1 x).held), some (.str s1.1), some (nV s1.2)], ⟨_, rfl, rfl, _, rfl, ?_⟩, fun σ' H' hm => ?_⟩
        · rw [dec_str]
          by_cases c : s1.1 = ("take" : Str)
          · refine iteT' (decide_eq_true c) ⟨_, rfl, rfl, ?_⟩
            unfold as1; rw [if_pos c]; rfl
          · refine iteF' (decide_eq_false c) ⟨rfl, ?_⟩
            unfold as1; rw [if_neg c]
        obtain ⟨eH, rfl⟩ := hm
        rw [eH]
        clear eH
        have e3 := as_chain nn
        have e4 := as_done (w := s1.1) (n := s1.2) (x := x)
        generalize as1 s1.1 x = x1 at *
        refine ⟨fun σ' H' => H' = H2 ∧ σ' = [some (.ref ta), some (.ref sa), some (nV st.done), some (optV (as2 s1.1 s1.2 x1).num), some (optV (as2 s1.1 s1.2 x1).held), some (.str s1.1), some (nV s1.2)], ⟨_, rfl, rfl, _, rfl, ?_⟩, fun σ' H' hm => ?_⟩
        · rw [dec_str]
          by_cases c : s1.1 = ("write" : Str)
          · refine iteT' (decide_eq_true c) ⟨_, rfl, rfl, ?_⟩
            unfold as2; rw [if_pos c]; rfl
          · refine iteF' (decide_eq_false c) ⟨rfl, ?_⟩
            unfold as2; rw [if_neg c]
        obtain ⟨eH, rfl⟩ := hm
        rw [eH]
        clear eH
        generalize as2 s1.1 s1.2 x1 = x2 at *
        refine ⟨fun σ' H' => H' = H2 ∧ σ' = [some (.ref ta), some (.ref sa), some (nV st.done), some (optV (as3 s1.1 x2).num), some (optV (as3 s1.1 x2).held), some (.str s1.1), some (nV s1.2)], ⟨_, rfl, rfl, _, rfl, ?_⟩, fun σ' H' hm => ?_⟩
        · rw [dec_str]
          by_cases c : s1.1 = ("clean" : Str)
          · refine iteT' (decide_eq_true c) ⟨_, rfl, rfl, ?_⟩
            unfold as3; rw [if_pos c]; rfl
          · refine iteF' (decide_eq_false c) ⟨rfl, ?_⟩
            unfold as3; rw [if_neg c]
        obtain ⟨eH, rfl⟩ := hm
        rw [eH]
        clear eH
        generalize as3 s1.1 x2 = x3 at *
        refine ⟨_, rfl, rfl, _, rfl, ?_⟩
        rw [dec_str]
        by_cases c : s1.1 = ("drop" : Str)
        · refine iteT' (decide_eq_true c) ?_
          unfold as4 at e3 e4
          rw [if_pos c] at e3 e4
          exact fin _ _ _ (hsn.trans e3) (e4.trans hd)
        · refine iteF' (decide_eq_false c) ?_
          unfold as4 at e3 e4
          rw [if_neg c] at e3 e4
          exact fin _ _ _ (hsn.trans e3) (e4.trans hd)
      refine ⟨_, rfl, rfl, _, rfl, ?_⟩
      rw [dec_str]
      by_cases c1 : s1.1 = ("read" : Str)
      · refine iteT' (decide_eq_true c1) ⟨_, rfl, _, rfl, scal_opt _ _, _, rfl, ?_⟩
        rw [dec_opt]
        by_cases c2 : x.held = some s1.2
        · rw [decide_eq_true c2]
          exact iteF (rest (fun z => z.2 c2) _ _ _ _ (fun y1 y2 x' e1 e2 => ⟨rfl, y1, y2, x', rfl, e1, e2⟩))
        · rw [decide_eq_false c2]
          refine iteT (q _ _ (fun _ _ e => e) ?_)
          have e0 : afterSteps st (steps.take (i + 1)) = none := by
            rw [hsn]; unfold afterStep; rw [if_pos ⟨c1, c2⟩]
          rw [afterSteps_none e0]
          exact .non
      · exact iteF' (decide_eq_false c1) (iteF (rest (fun z => c1 z.1) _ _ _ _ (fun y1 y2 x' e1 e2 => ⟨rfl, y1, y2, x', rfl, e1, e2⟩)))
    · obtain ⟨rfl, y1, y2, x, rfl, hx, hd⟩ := hp
      rw [sl, List.take_length] at hx
      refine ⟨_, rfl, _, rfl, _, rfl, by show 3 ≤ sizeLine; decide, fun T nT => q _ _ (same_new nT) ?_⟩
      rw [hx]
      exact pd_tst (s := x) (by rw [hd]; exact upd_same)
end
end Vt
namespace Vt
open PySem PySem.Spec PyProof.Rows L2
/-! ### a track in the heap -/
def trkF (v0 v2 v3 v4 v5 v6 : V) (T : Trk) : List (Str × V) := [("start", v0), ("last", nV T.last), ("waits", v2), ("told", v3), ("deeds", v4), ("end", v5), ("moves", v6), ("move_count", nV T.count)]
structure TK (H : Hp) (C m : Addr) (T : Trk) : Prop where
  ex : ∃ (dx : Addr) (v0 v2 v3 v4 v5 v6 : V), H m = some (.ins C dx (trkF v0 v2 v3 v4 v5 v6 T)) ∧ Pd H v0 (tstD T.start) ∧ Pd H v2 (.lst (T.waits.map D.bl)) ∧ Pd H v3 (.lst (T.told.map nD)) ∧
    Pd H v4 (.lst (T.deeds.map fun s => .lst (s.map wnD))) ∧ Pd H v5 (.lst (T.fin.map wnD)) ∧ Pd H v6 (.lst (T.moves.map cmD))
theorem TK.same {H H' : Hp} {C m : Addr} {T : Trk} (h : TK H C m T) (s : Same H H') : TK H' C m T := by
  obtain ⟨dx, v0, v2, v3, v4, v5, v6, h1, h2, h3, h4, h5, h6, h7⟩ := h.ex
  exact ⟨dx, v0, v2, v3, v4, v5, v6, s _ _ h1, h2.same s, h3.same s, h4.same s, h5.same s, h6.same s, h7.same s⟩
def trkNames : List Str := ["start", "last", "waits", "told", "deeds", "end", "moves", "move_count"]
structure TC (K : PySem.W.Frag) (C : Addr) : Prop where
  cl : Cls K C
  n : ∀ f ∈ trkNames, NoAttr K C f
theorem trkF_no {v0 v2 v3 v4 v5 v6 : V} {T : Trk} {x : Str} (h : trkNames.all (fun y => !decide (y = x)) = true) : (trkF v0 v2 v3 v4 v5 v6 T).lookup x = none := by
  cases e : (trkF v0 v2 v3 v4 v5 v6 T).lookup x with
  | none => rfl
  | some v =>
    exfalso
    have m := List.mem_map_of_mem (f := Prod.fst) (PySem.mem_of_lookup e)
    have k : x ∈ trkNames := m
    have := List.all_eq_true.mp h x k
    rw [decide_eq_true rfl] at this; cases this
theorem lst_of {H : Hp} {v : V} {ds : List D} (h : Pd H v (.lst ds)) : ∃ a xs, v = .ref a ∧ H a = some (.lst xs) ∧ Pds H xs ds := by
  cases h with
  | lst h hs => exact ⟨_, _, rfl, h, hs⟩
theorem mvGo_snoc (a b : Nat) : ∀ (ms : List CMv) (num : Option Nat) {i : Nat} {m : CMv}, ms[i]? = some m → mvGo a b num (ms.take (i + 1)) = (mvGo a b num (ms.take i)).bind fun n => mvOne a b n m
  | [], _, _, _, h => by simp at h
  | x :: r, num, 0, m, h => by
    simp only [List.getElem?_cons_zero, Option.some.injEq] at h
    subst h
    rw [List.take_succ_cons, List.take_zero, List.take_zero, mvGo, mvGo, Option.bind_some]
    cases mvOne a b num x <;> rfl
  | x :: r, num, i + 1, m, h => by
    rw [List.getElem?_cons_succ] at h
    rw [List.take_succ_cons, List.take_succ_cons, mvGo, mvGo]
    cases mvOne a b num x with
    | none => rfl
    | some n => rw [Option.bind_some, Option.bind_some]; exact mvGo_snoc a b r n h
theorem mvGo_none {a b : Nat} : ∀ {ms : List CMv} {num : Option Nat} {i : Nat}, mvGo a b num (ms.take i) = none → mvGo a b num ms = none
  | [], num, i, h => by simpa using h
  | x :: r, num, 0, h => by simp [mvGo] at h
  | x :: r, num, i + 1, h => by
    rw [List.take_succ_cons, mvGo] at h
    rw [mvGo]
    cases e : mvOne a b num x with
    | none => rfl
    | some n =>
      rw [e, Option.bind_some] at h
      rw [Option.bind_some]; exact mvGo_none h
theorem dec_non (o : Option Nat) : decide (optV o = .non) = o.isNone := by
  cases o with
  | none => exact decide_eq_true rfl
  | some n => exact decide_eq_false (by intro z; cases z)
theorem dec_optopt (n : Nat) (o : Option Nat) : decide (nV n = optV o) = decide (some n = o) := by
  rw [Bool.eq_iff_iff, decide_eq_true_iff, decide_eq_true_iff]
  constructor
  · intro h
    have := (decide_eq_true h.symm).symm.trans (dec_opt o n)
    exact (decide_eq_true_iff.mp this.symm).symm
  · intro h; rw [← h]; rfl
section
variable {P : Program} {w : World} {K : PySem.W.Frag} {mg : Str → Option Value} {base : Heap} {C : Addr}
abbrev st_Track_after_moves : Stmt := (inClass (topS 34) 2)
abbrev nm_Track_after_moves : List Str := ["self", "state", "until", "done", "number", "held", "at", "fetched", "brought"]
theorem sc_Track_after_moves : FnScope ["self", "state", "until", "done", "number", "held", "at", "fetched", "brought"] ["self", "state", "until"] (defScope st_Track_after_moves) := ⟨rfl, rfl, rfl, by decide +kernel, rfl, by decide +kernel, by decide +kernel⟩
def spAfterMoves (C : Addr) : Sp := fun vs H Q _ => ∃ (m : Addr) (T : Trk) (v : V) (st : TSt) (u : Nat), vs = [.ref m, v, nV u] ∧ TK H C m T ∧ Pd H v (tstD st) ∧
  ∀ (H' : Hp) (r : V), Same H H' → Pd H' r (resD (afterMoves T st u)) → Q r H'
theorem ok_aftermoves {f : Addr} {fd : FuncData} (F : Fun K "after_moves" "Track.after_moves" st_Track_after_moves f fd) (c : TC K C) : FnOk P w K mg base CX0 1 f fd ["self", "state", "until"] (spAfterMoves C) := by
  refine F.ok sc_Track_after_moves (fun vs H Q E h => ?_) (fun cdv A outer s H vs Q E hr h => ?_)
  · obtain ⟨m, T, v, st, u, rfl, _⟩ := h
    rfl
  · obtain ⟨m, T, v, st, u, rfl, hT, hv, q⟩ := h
    refine ⟨_, (pss_cons (ps_asg (pv 1) (pg_tup rfl (pgs_cons (pg_name (i := 3) sc_Track_after_moves.nd rfl (Or.inl rfl)) (pgs_cons (pg_name (i := 4) sc_Track_after_moves.nd rfl (Or.inl rfl)) (pgs_cons (pg_name (i := 5) sc_Track_after_moves.nd rfl (Or.inl rfl)) pgs_nil)))))
  (pss_cons (ps_for PassesOwn.never rfl (pi_lt (pe_fld (pv 0) rfl)) (pg_tup rfl (pgs_cons (pg_name (i := 6) sc_Track_after_moves.nd rfl (Or.inl rfl)) (pgs_cons (pg_name (i := 7) sc_Track_after_moves.nd rfl (Or.inl rfl)) (pgs_cons (pg_name (i := 8) sc_Track_after_moves.nd rfl (Or.inl rfl)) pgs_nil))))
  (pss_one (ps_if (pt_chain op_le op_lt (pv 3) (pv 6) (pv 2)) (pss_cons (ps_if (PW.pt (pw_and (pt_cmpR op_notN (pv 7) pe_non (nomark _)) (pw_and1 (pt_cmpR op_ne (pv 7) (pv 4) (nomark _))))) (pss_one (ps_ret pe_non)) pss_nil)
  (pss_one (ps_if (pt_cmpR op_notN (pv 8) pe_non (nomark _)) (pss_one (ps_set (i := 4) sc_Track_after_moves.nd rfl (Or.inl rfl) (pv 8))) pss_nil))) pss_nil)))
  (pss_one (ps_ret (pe_tup (pa_cons (pv 2) (pa_cons (pv 4) (pa_cons (pv 5) pa_nil)))))))), ?_⟩
    obtain ⟨dx, v0, v2, v3, v4, v5, v6, hm, h0, h2, h3, h4, h5, h6⟩ := hT.ex
    obtain ⟨sa, ss, rfl, hsa, hss⟩ := lst_of h6
    have sl : ss.length = T.moves.length := by rw [hss.len, List.length_map]
    obtain ⟨ta, rfl, hta⟩ := tst_of hv
    refine ⟨_, rfl, ta, _, rfl, sqT_t hta, rfl, _, _, rfl, _, _, rfl, _, _, rfl, rfl, ?_⟩
    refine ⟨_, rfl, m, C, _, _, _, rfl, hm, c.cl, c.n _ (by decide), rfl, sa, rfl, .inl ⟨ss, sqL_l hsa, ?_⟩⟩
    refine for_it (walk_list (xs := ss)) (fun i σ H' => H' = H ∧ ∃ (y1 y2 y3 : Option V) (num : Option Nat), σ = [some (.ref m), some (.ref ta), some (nV u), some (nV st.done), some (optV num), some (optV st.held), y1, y2, y3] ∧ mvGo st.done u st.num (T.moves.take i) = some num)
      ⟨rfl, _, _, _, st.num, rfl, rfl⟩ (fun i σ H' _ hp => by obtain ⟨rfl, _⟩ := hp; exact sqL_l hsa) (fun i x σ H1 H2 hi hp hy => ?_) (fun σ H1 hp => ?_)
    · obtain ⟨rfl, y1, y2, y3, num, rfl, hx⟩ := hp
      obtain ⟨rfl, hxs⟩ := hy
      obtain ⟨dd, hdd, hpd⟩ := hss.get' hxs
      rw [List.getElem?_map] at hdd
      obtain ⟨mv, hmv, rfl⟩ : ∃ r, T.moves[i]? = some r ∧ cmD r = dd := by simpa using hdd
      obtain ⟨ra, rfl, hra⟩ := cm_of hpd
      have hsn := mvGo_snoc st.done u T.moves st.num hmv
      rw [hx, Option.bind_some] at hsn
      refine ⟨ra, _, rfl, sqT_t hra, rfl, _, _, rfl, _, _, rfl, _, _, rfl, rfl, ?_⟩
      have keep : mvOne st.done u num mv = some num → mvGo st.done u st.num (T.moves.take (i + 1)) = some num := fun e => hsn.trans e
      refine ⟨_, rfl, _, rfl, _, _, rfl, rfl, _, rfl, ?_⟩
      by_cases c1 : st.done ≤ mv.1
      · refine iteT' (decide_eq_true (show (st.done : Int) ≤ (mv.1 : Int) by omega)) ⟨_, rfl, _, _, rfl, rfl, _, rfl, ?_⟩
        by_cases c2 : mv.1 < u
        · refine iteT' (decide_eq_true (show (mv.1 : Int) < (u : Int) by omega)) ?_
          have one : mvOne st.done u num mv = if mv.2.1 ≠ none ∧ ¬ mv.2.1 = num then none else some (if mv.2.2 = none then num else mv.2.2) := by
            unfold mvOne; rw [if_pos ⟨c1, c2⟩]
          -- what is behind the look at the fetch
          have fin : ∀ (hno : ¬ (mv.2.1 ≠ none ∧ ¬ mv.2.1 = num)) (Q1 : L2.St → Hp → Prop) (R1 : VK) (B1 C1 : L2.St → Hp → Prop), (∀ y1 y2 y3 nn, mvGo st.done u st.num (T.moves.take (i + 1)) = some nn → Q1 [some (.ref m), some (.ref ta), some (nV u), some (nV st.done), some (optV nn), some (optV st.held), y1, y2, y3] H2) →
              tIfS (tTest (tOp (fun x y H Q => y = V.non ∧ Q (V.bl !decide (x = V.non)) H) (tVar 8) (tC V.non))) (tAsg (tVar 8) (gName 4)) tNext ⟨Q1, R1, B1, C1⟩ [some (.ref m), some (.ref ta), some (nV u), some (nV st.done), some (optV num), some (optV st.held), some (nV mv.1), some (optV mv.2.1), some (optV mv.2.2)] H2 := fun hno Q1 R1 B1 C1 fin => by
            rw [if_neg hno] at one
            refine ⟨_, rfl, rfl, _, rfl, ?_⟩
            rw [dec_non]
            cases hb : mv.2.2 with
            | none =>
              rw [hb, if_pos rfl] at one
              exact iteF (fin _ _ _ _ (hsn.trans one))
            | some nb =>
              rw [hb, if_neg (by intro z; cases z)] at one
              exact iteT ⟨_, rfl, fin _ _ _ _ (hsn.trans one)⟩
          refine ⟨_, rfl, rfl, _, rfl, ?_⟩
          rw [dec_non]
          cases hf : mv.2.1 with
          | none =>
            rw [hf] at fin
            exact iteF (iteF (fin (fun z => z.1 rfl) _ _ _ _ (fun y1 y2 y3 nn e => ⟨rfl, y1, y2, y3, nn, rfl, e⟩)))
          | some nf =>
            rw [hf] at fin
            refine iteT ⟨_, rfl, _, rfl, scal_opt' _ _, _, rfl, ?_⟩
            rw [show decide (optV (some nf) = optV num) = decide (some nf = num) from dec_optopt nf num]
            by_cases c3 : some nf = num
            · rw [decide_eq_true c3]
              exact iteF (fin (fun z => z.2 c3) _ _ _ _ (fun y1 y2 y3 nn e => ⟨rfl, y1, y2, y3, nn, rfl, e⟩))
            · rw [decide_eq_false c3]
              refine iteT (q _ _ (fun _ _ e => e) ?_)
              have hc : mv.2.1 ≠ none ∧ ¬ mv.2.1 = num := ⟨(fun z => by rw [hf] at z; cases z), fun z => c3 (by rw [← hf]; exact z)⟩
              rw [if_pos hc] at one
              unfold afterMoves
              rw [mvGo_none (hsn.trans one)]
              exact .non
        · refine iteF' (decide_eq_false (show ¬ (mv.1 : Int) < (u : Int) by omega)) ⟨rfl, _, _, _, num, rfl, keep ?_⟩
          unfold mvOne; rw [if_neg (fun z => c2 z.2)]
      · refine iteF' (decide_eq_false (show ¬ (st.done : Int) ≤ (mv.1 : Int) by omega)) ⟨_, rfl, iteF ⟨rfl, _, _, _, num, rfl, keep ?_⟩⟩
        unfold mvOne; rw [if_neg (fun z => c1 z.1)]
    · obtain ⟨rfl, y1, y2, y3, num, rfl, hx⟩ := hp
      rw [sl, List.take_length] at hx
      refine ⟨_, rfl, _, rfl, _, rfl, by show 3 ≤ sizeLine; decide, fun T' nT => q _ _ (same_new nT) ?_⟩
      unfold afterMoves
      rw [hx]
      exact pd_tst (s := ⟨u, num, st.held⟩) upd_same
end
end Vt
namespace Vt
open PySem PySem.Spec PyProof.Rows L2
section
variable {P : Program} {w : World} {K : PySem.W.Frag} {mg : Str → Option Value} {base : Heap} {C : Addr}
abbrev st_Track_ends_well : Stmt := (inClass (topS 34) 3)
abbrev nm_Track_ends_well : List Str := ["self", "state", "moved", "done", "number", "held"]
theorem sc_Track_ends_well : FnScope ["self", "state", "moved", "done", "number", "held"] ["self", "state"] (defScope st_Track_ends_well) := ⟨rfl, rfl, rfl, by decide +kernel, rfl, by decide +kernel, by decide +kernel⟩
def spEndsWell (C : Addr) : Sp := fun vs H Q _ => ∃ (m : Addr) (T : Trk) (v : V) (st : TSt), vs = [.ref m, v] ∧ TK H C m T ∧ Pd H v (tstD st) ∧ (∀ x, afterSteps x T.fin ≠ none) ∧
  ∀ (H' : Hp), Same H H' → Q (.bl (endsWell T st)) H'
theorem ok_endswell {f : Addr} {fd : FuncData} (F : Fun K "ends_well" "Track.ends_well" st_Track_ends_well f fd) (c : TC K C) (m_after_moves : MCallee P w K mg base C "after_moves" 1 (spAfterMoves C)) (c_after_steps : Callee P w K mg base "after_steps" 1 2 spAfterSteps) : FnOk P w K mg base CX0 2 f fd ["self", "state"] (spEndsWell C) := by
  refine F.ok sc_Track_ends_well (fun vs H Q E h => ?_) (fun cdv A outer s H vs Q E hr h => ?_)
  · obtain ⟨m, T, v, st, rfl, _⟩ := h
    rfl
  · obtain ⟨m, T, v, st, rfl, hT, hv, hfin, q⟩ := h
    refine ⟨_, (pss_cons (ps_set (i := 2) sc_Track_ends_well.nd rfl (Or.inl rfl) (pe_mcal m_after_moves hr (by first | decide | exact Nat.le_refl _) (pv 0) (pa_cons (pv 1) (pa_cons (pe_fld (pv 0) rfl) pa_nil))))
  (pss_cons (ps_if (pt_cmpR op_isN (pv 2) pe_non (nomark _)) (pss_one (ps_ret pe_bl)) pss_nil)
  (pss_cons (ps_asg (pe_cal c_after_steps hr (by first | decide | exact Nat.le_refl _) (pa_cons (pv 2) (pa_cons (pe_fld (pv 0) rfl) pa_nil))) (pg_tup rfl (pgs_cons (pg_name (i := 3) sc_Track_ends_well.nd rfl (Or.inl rfl)) (pgs_cons (pg_name (i := 4) sc_Track_ends_well.nd rfl (Or.inl rfl)) (pgs_cons (pg_name (i := 5) sc_Track_ends_well.nd rfl (Or.inl rfl)) pgs_nil)))))
  (pss_one (ps_ret (pe_cmpR op_eq (pv 4) (pe_fld (pv 0) rfl) (nomark _))))))), ?_⟩
    obtain ⟨dx, v0, v2, v3, v4, v5, v6, hm, h0, h2, h3, h4, h5, h6⟩ := hT.ex
    refine ⟨_, rfl, m, _, _, rfl, hm, trkF_no (by decide), _, rfl, _, rfl, m, C, _, _, _, rfl, hm, c.cl, c.n _ (by decide), rfl, m, T, v, st, T.count, rfl, hT, hv, fun H1 r s1 hr1 => ?_⟩
    refine ⟨_, rfl, rfl, _, rfl, ?_⟩
    have hm1 := s1 _ _ hm
    cases e1 : afterMoves T st T.count with
    | none =>
      rw [e1] at hr1
      cases res_none hr1
      have ew : endsWell T st = false := by unfold endsWell; rw [e1]
      rw [ew] at q
      exact iteT' (decide_eq_true rfl) (q H1 s1)
    | some x =>
      rw [e1] at hr1
      obtain ⟨ra, rfl, hra⟩ := tst_of hr1
      refine iteF' (decide_eq_false (by intro z; cases z)) ⟨_, rfl, _, rfl, m, C, _, _, _, rfl, hm1, c.cl, c.n _ (by decide), rfl, .ref ra, v5, x, T.fin, rfl, hr1, h5.same s1, fun H2 r2 s2 hr2 => ?_⟩
      cases e2 : afterSteps x T.fin with
      | none => exact absurd e2 (hfin x)
      | some y =>
        rw [e2] at hr2
        obtain ⟨rb, rfl, hrb⟩ := tst_of hr2
        refine ⟨rb, _, rfl, sqT_t hrb, rfl, _, _, rfl, _, _, rfl, _, _, rfl, rfl, ?_⟩
        refine ⟨_, rfl, _, rfl, m, C, _, _, _, rfl, s2 _ _ hm1, c.cl, c.n _ (by decide), rfl, scal_opt _ _, ?_⟩
        rw [dec_opt]
        have ew : endsWell T st = decide (y.num = some T.last) := by unfold endsWell; rw [e1]; dsimp only; rw [e2]
        rw [ew] at q
        exact q H2 (s1.trans s2)
abbrev st_Track_ways_on : Stmt := (inClass (topS 34) 1)
abbrev nm_Track_ways_on : List Str := ["self", "state", "at", "behind"]
theorem sc_Track_ways_on : FnScope ["self", "state", "at", "behind"] ["self", "state", "at"] (defScope st_Track_ways_on) := ⟨rfl, rfl, rfl, by decide +kernel, rfl, by decide +kernel, by decide +kernel⟩
def wayD (w : Option TSt × List Bool) : D := .tup [resD w.1, .lst (w.2.map D.bl)]
theorem way_pd {H : Hp} {r : V} {a : Option TSt} {p1 p2 : Addr} {bs : List Bool} (hr : Pd H r (resD a)) (h1 : H p1 = some (.lst (bs.map V.bl))) (h2 : H p2 = some (.tup [r, .ref p1])) : Pd H (.ref p2) (wayD (a, bs)) :=
  .tup h2 (.cons hr (.cons (.lst h1 (pds_bls bs)) .nil))
/-- a way put together anew -/
theorem way_new {H : Hp} {r : V} {a : Option TSt} {bs : List Bool} (hr : Pd H r (resD a)) {p1 p2 : Addr} (n1 : H p1 = none) (n2 : (upd H p1 (.lst (bs.map V.bl))) p2 = none) :
    Pd (upd (upd H p1 (.lst (bs.map V.bl))) p2 (.tup [r, .ref p1])) (.ref p2) (wayD (a, bs)) ∧ Same H (upd (upd H p1 (.lst (bs.map V.bl))) p2 (.tup [r, .ref p1])) := by
  have s1 := same_new (o := .lst (bs.map V.bl)) n1
  have s2 := same_new (o := .tup [r, .ref p1]) n2
  exact ⟨way_pd ((hr.same s1).same s2) (s2 _ _ upd_same) upd_same, s1.trans s2⟩
def spWaysOn (C : Addr) : Sp := fun vs H Q _ => ∃ (m : Addr) (T : Trk) (v : V) (st : TSt) (at_ : Nat), vs = [.ref m, v, nV at_] ∧ TK H C m T ∧ Pd H v (tstD st) ∧ at_ < T.waits.length ∧ at_ < T.told.length ∧ at_ < T.deeds.length ∧
  ∀ (H' : Hp) (r : V), Same H H' → Pd H' r (.lst ((waysOn T st at_).map wayD)) → Q r H'
theorem ok_wayson {f : Addr} {fd : FuncData} (F : Fun K "ways_on" "Track.ways_on" st_Track_ways_on f fd) (c : TC K C) (m_after_moves : MCallee P w K mg base C "after_moves" 1 (spAfterMoves C)) (c_after_steps : Callee P w K mg base "after_steps" 1 2 spAfterSteps) : FnOk P w K mg base CX0 2 f fd ["self", "state", "at"] (spWaysOn C) := by
  refine F.ok sc_Track_ways_on (fun vs H Q E h => ?_) (fun cdv A outer s H vs Q E hr h => ?_)
  · obtain ⟨m, T, v, st, at_, rfl, _⟩ := h
    rfl
  · obtain ⟨m, T, v, st, at_, rfl, hT, hv, hw, ht, hd, q⟩ := h
    refine ⟨_, (pss_cons (ps_if (pt_val (pe_ix ix_lt (pe_fld (pv 0) rfl) (pv 2) (fun _ _ => rfl))) (pss_one (ps_ret (pe_lst (pa_cons (pe_tup (pa_cons (pe_mcal m_after_moves hr (by first | decide | exact Nat.le_refl _) (pv 0) (pa_cons (pv 1) (pa_cons (pe_ix ix_lt (pe_fld (pv 0) rfl) (pv 2) (fun _ _ => rfl)) pa_nil))) (pa_cons (pe_lst pa_nil) pa_nil))) pa_nil)))) pss_nil)
  (pss_cons (ps_set (i := 3) sc_Track_ways_on.nd rfl (Or.inl rfl) (pe_cal c_after_steps hr (by first | decide | exact Nat.le_refl _) (pa_cons (pv 1) (pa_cons (pe_ix ix_lt (pe_fld (pv 0) rfl) (pv 2) (fun _ _ => rfl)) pa_nil))))
  (pss_cons (ps_if (PW.pt (pw_or (pt_cmpR op_isN (pv 3) pe_non (nomark _)) (pw_or1 (pt_cmpR op_eq (pe_ix ix_lt (pv 3) pe_int (fun _ _ => rfl)) (pe_ix ix_lt (pe_fld (pv 0) rfl) (pv 2) (fun _ _ => rfl)) (nomark _))))) (pss_one (ps_ret (pe_lst (pa_cons (pe_tup (pa_cons (pv 3) (pa_cons (pe_lst pa_nil) pa_nil))) pa_nil)))) pss_nil)
  (pss_one (ps_ret (pe_lst (pa_cons (pe_tup (pa_cons (pv 3) (pa_cons (pe_lst (pa_cons pe_bl pa_nil)) pa_nil))) (pa_cons (pe_tup (pa_cons (pe_mcal m_after_moves hr (by first | decide | exact Nat.le_refl _) (pv 0) (pa_cons (pv 3) (pa_cons (pe_op op_add (pe_ix ix_lt (pv 3) pe_int (fun _ _ => rfl)) pe_int) pa_nil))) (pa_cons (pe_lst (pa_cons pe_bl pa_nil)) pa_nil))) pa_nil)))))))), ?_⟩
    obtain ⟨dx, v0, v2, v3, v4, v5, v6, hm, h0, h2, h3, h4, h5, h6⟩ := hT.ex
    obtain ⟨wa, ws, rfl, hwa, hws⟩ := lst_of h2
    obtain ⟨la, ls, rfl, hla, hls⟩ := lst_of h3
    obtain ⟨da, dss, rfl, hda, hds⟩ := lst_of h4
    have wx : ws[at_]? = some (.bl (T.waits.getD at_ false)) := by
      obtain ⟨v, hv, hp⟩ := hws.get (i := at_) (d := .bl (T.waits.getD at_ false)) (by rw [List.getElem?_map, List.getElem?_eq_getElem hw, List.getD_eq_getElem?_getD, List.getElem?_eq_getElem hw]; rfl)
      cases hp; exact hv
    have tx : ls[at_]? = some (nV (T.told.getD at_ 0)) := by
      obtain ⟨v, hv, hp⟩ := hls.get (i := at_) (d := nD (T.told.getD at_ 0)) (by rw [List.getElem?_map, List.getElem?_eq_getElem ht, List.getD_eq_getElem?_getD, List.getElem?_eq_getElem ht]; rfl)
      cases hp; exact hv
    obtain ⟨dv, dx', hdv⟩ : ∃ dv, dss[at_]? = some dv ∧ Pd H dv (.lst ((T.deeds.getD at_ []).map wnD)) := hds.get (by rw [List.getElem?_map, List.getElem?_eq_getElem hd, List.getD_eq_getElem?_getD, List.getElem?_eq_getElem hd]; rfl)
    refine ⟨_, rfl, m, C, _, _, _, rfl, hm, c.cl, c.n _ (by decide), rfl, _, rfl, wa, ws, (at_ : Int), .bl (T.waits.getD at_ false), rfl, rfl, sqA_l hwa, atI_nat wx, _, rfl, ?_⟩
    unfold waysOn at q
    cases ew : T.waits.getD at_ false with
    | true =>
      rw [ew, if_pos rfl] at q
      refine iteT ⟨_, rfl, m, _, _, rfl, hm, trkF_no (by decide), _, rfl, _, rfl, m, C, _, _, _, rfl, hm, c.cl, c.n _ (by decide), rfl, _, rfl, la, ls, (at_ : Int), nV (T.told.getD at_ 0), rfl, rfl, sqA_l hla, atI_nat tx, m, T, v, st, T.told.getD at_ 0, rfl, hT, hv, fun H1 r s1 hr1 => ?_⟩
      refine ⟨Nat.zero_le _, fun p1 n1 => ⟨by show 2 ≤ sizeLine; decide, fun p2 n2 => ⟨by show 1 ≤ sizeLine; decide, fun p3 n3 => ?_⟩⟩⟩
      obtain ⟨g1, g2⟩ := way_new (bs := []) hr1 n1 n2
      have s3 := same_new (o := .lst [.ref p2]) n3
      exact q _ _ ((s1.trans g2).trans s3) (.lst upd_same (.cons (g1.same s3) .nil))
    | false =>
      rw [ew, if_neg (by decide)] at q
      refine iteF ?_
      refine ⟨_, rfl, _, rfl, m, C, _, _, _, rfl, hm, c.cl, c.n _ (by decide), rfl, _, rfl, da, dss, (at_ : Int), dv, rfl, rfl, sqA_l hda, atI_nat dx', v, dv, st, _, rfl, hv, hdv, fun H1 r s1 hr1 => ?_⟩
      have hm1 := s1 _ _ hm
      cases e1 : afterSteps st (T.deeds.getD at_ []) with
      | none =>
        rw [e1] at hr1 q
        cases res_none hr1
        refine ⟨_, rfl, rfl, _, rfl, iteT' (decide_eq_true rfl) ?_⟩
        refine iteT ⟨_, rfl, ?_⟩
        refine ⟨Nat.zero_le _, fun p1 n1 => ⟨by show 2 ≤ sizeLine; decide, fun p2 n2 => ⟨by show 1 ≤ sizeLine; decide, fun p3 n3 => ?_⟩⟩⟩
        obtain ⟨g1, g2⟩ := way_new (bs := []) hr1 n1 n2
        have s3 := same_new (o := .lst [.ref p2]) n3
        exact q _ _ ((s1.trans g2).trans s3) (.lst upd_same (.cons (g1.same s3) .nil))
      | some b =>
        rw [e1] at hr1 q
        obtain ⟨ra, rfl, hra⟩ := tst_of hr1
        refine ⟨_, rfl, rfl, _, rfl, iteF' (decide_eq_false (by intro z; cases z)) ?_⟩
        refine ⟨_, rfl, ra, _, 0, nV b.done, rfl, rfl, sqA_t hra, rfl, _, rfl, m, C, _, _, _, rfl, hm1, c.cl, c.n _ (by decide), rfl, _, rfl, la, ls, (at_ : Int), nV (T.told.getD at_ 0), rfl, rfl, sqA_l (s1 _ _ hla), atI_nat tx, rfl, _, rfl, ?_⟩
        rw [dec_nat]
        by_cases ed : b.done = T.told.getD at_ 0
        · dsimp only at q
          rw [if_pos ed] at q
          refine iteT' (decide_eq_true ed) ⟨_, rfl, ?_⟩
          refine ⟨Nat.zero_le _, fun p1 n1 => ⟨by show 2 ≤ sizeLine; decide, fun p2 n2 => ⟨by show 1 ≤ sizeLine; decide, fun p3 n3 => ?_⟩⟩⟩
          obtain ⟨g1, g2⟩ := way_new (bs := []) hr1 n1 n2
          have s3 := same_new (o := .lst [.ref p2]) n3
          exact q _ _ ((s1.trans g2).trans s3) (.lst upd_same (.cons (g1.same s3) .nil))
        · dsimp only at q
          rw [if_neg ed] at q
          refine iteF' (decide_eq_false ed) ⟨_, rfl, ?_⟩
          refine ⟨by show 1 ≤ sizeLine; decide, fun p1 n1 => ⟨by show 2 ≤ sizeLine; decide, fun p2 n2 => ?_⟩⟩
          obtain ⟨g1, g2⟩ := way_new (bs := [false]) hr1 n1 n2
          have e12 := s1.trans g2
          have hr2 := hr1.same g2
          have hT2 := hT.same e12
          have hra2 := g2 _ _ hra
          have hm2 := e12 _ _ hm
          show tMeth C _ _ _ _ _ _ _ (upd (upd H1 p1 (.lst ([false].map V.bl))) p2 (.tup [.ref ra, .ref p1])) _
          generalize upd (upd H1 p1 (.lst ([false].map V.bl))) p2 (.tup [.ref ra, .ref p1]) = H2 at *
          refine ⟨_, rfl, m, _, _, rfl, hm2, trkF_no (by decide), _, rfl, _, rfl, ra, _, 0, nV b.done, rfl, rfl, sqA_t hra2, rfl, _, _, rfl, rfl, m, T, .ref ra, b, b.done + 1, rfl, hT2, hr2, fun H3 r3 s3 hr3 => ?_⟩
          refine ⟨by show 1 ≤ sizeLine; decide, fun p3 n3 => ⟨by show 2 ≤ sizeLine; decide, fun p4 n4 => ⟨by show 2 ≤ sizeLine; decide, fun p5 n5 => ?_⟩⟩⟩
          obtain ⟨g3, g4⟩ := way_new (bs := [true]) hr3 n3 n4
          have s5 := same_new (o := .lst [.ref p2, .ref p4]) n5
          exact q _ _ (((e12.trans s3).trans g4).trans s5) (.lst upd_same (.cons ((((g1.same s3)).same g4).same s5) (.cons (g3.same s5) .nil)))
end
end Vt
namespace Vt
open PySem PySem.Spec PyProof.Rows L2
/-! ### how many states there can be -/
def oc : Option Nat → Nat
  | none => 0
  | some n => n + 1
def encT (s : TSt) : Nat := s.done * 121 + oc s.num * 11 + oc s.held
def low (o : Option Nat) : Prop := ∀ n, o = some n → n < 10
theorem low_oc {o : Option Nat} (h : low o) : oc o < 11 := by
  cases o with
  | none => decide
  | some n => have := h n rfl; show n + 1 < 11; omega
theorem oc_inj {a b : Option Nat} (h : oc a = oc b) : a = b := by
  cases a <;> cases b <;> simp [oc] at h ⊢ <;> exact h
structure BoxT (i : Nat) (s : TSt) : Prop where
  done : s.done ≤ 2000 + i
  num : low s.num
  held : low s.held
theorem box_len {i : Nat} {l : List TSt} (hi : i ≤ 1000) (nd : l.Nodup) (h : ∀ s ∈ l, BoxT i s) : l.length ≤ 400000 := by
  have nd2 : (l.map encT).Nodup := by
    show List.Pairwise _ _
    rw [List.pairwise_map]
    refine List.Pairwise.imp_of_mem (fun {a b} ha hb ne e => ne ?_) nd
    obtain ⟨a1, a2, a3⟩ := h a ha
    obtain ⟨b1, b2, b3⟩ := h b hb
    have x1 := low_oc a2
    have x2 := low_oc a3
    have x3 := low_oc b2
    have x4 := low_oc b3
    unfold encT at e
    have e1 : a.done = b.done := by omega
    have e2 : oc a.num = oc b.num := by omega
    have e3 : oc a.held = oc b.held := by omega
    cases a; cases b
    simp only [TSt.mk.injEq]
    exact ⟨e1, oc_inj e2, oc_inj e3⟩
  have sub : l.map encT ⊆ List.range 400000 := fun x hx => by
    obtain ⟨s, hs, rfl⟩ := List.mem_map.mp hx
    obtain ⟨a1, a2, a3⟩ := h s hs
    have x1 := low_oc a2
    have x2 := low_oc a3
    rw [List.mem_range]
    unfold encT; omega
  have := nd2.length_le_of_subset sub
  rwa [List.length_map, List.length_range] at this
/-- a track with low numbers -/
structure TBd (T : Trk) : Prop where
  st : BoxT 0 T.start
  told : ∀ i, T.told.getD i 0 ≤ 2000
  deeds : ∀ i, ∀ s ∈ T.deeds.getD i [], s.2 < 10
  moves : ∀ m ∈ T.moves, low m.2.2
  len : T.deeds.length ≤ 1000
theorem mvGo_low {a b : Nat} : ∀ {ms : List CMv} {num x : Option Nat}, (∀ m ∈ ms, low m.2.2) → low num → mvGo a b num ms = some x → low x
  | [], num, x, _, hn, h => by
    simp only [mvGo, Option.some.injEq] at h
    rw [← h]; exact hn
  | m :: r, num, x, hm, hn, h => by
    rw [mvGo] at h
    obtain ⟨y, h1, h2⟩ := Option.bind_eq_some_iff.mp h
    refine mvGo_low (fun z hz => hm z (List.mem_cons_of_mem _ hz)) ?_ h2
    unfold mvOne at h1
    split at h1
    · split at h1
      · cases h1
      · simp only [Option.some.injEq] at h1
        rw [← h1]
        split
        · exact hn
        · exact hm m (by simp)
    · simp only [Option.some.injEq] at h1
      rw [← h1]; exact hn
theorem after_low {T : Trk} (b : TBd T) {st s : TSt} {u : Nat} (hn : low st.num) (hh : low st.held) (h : afterMoves T st u = some s) : s.done = u ∧ low s.num ∧ low s.held := by
  unfold afterMoves at h
  obtain ⟨n, e1, e2⟩ := Option.map_eq_some_iff.mp h
  subst e2
  exact ⟨rfl, mvGo_low b.moves hn e1, hh⟩
theorem afterStep_low {x y : TSt} {s : Str × Nat} (hs : s.2 < 10) (hn : low x.num) (hh : low x.held) (h : afterStep x s = some y) : y.done = x.done ∧ low y.num ∧ low y.held := by
  unfold afterStep at h
  split at h
  · cases h
  · simp only [Option.some.injEq] at h
    subst h
    split
    · exact ⟨rfl, hn, hn⟩
    · split
      · exact ⟨rfl, hn, fun n e => by cases e; exact hs⟩
      · split
        · exact ⟨rfl, hh, hh⟩
        · split
          · exact ⟨rfl, hn, fun n e => by cases e⟩
          · exact ⟨rfl, hn, hh⟩
theorem afterSteps_low : ∀ {ss : List (Str × Nat)} {x y : TSt}, (∀ s ∈ ss, s.2 < 10) → low x.num → low x.held → afterSteps x ss = some y → y.done = x.done ∧ low y.num ∧ low y.held
  | [], x, y, _, hn, hh, h => by
    simp only [afterSteps, Option.some.injEq] at h
    subst h; exact ⟨rfl, hn, hh⟩
  | s :: r, x, y, hs, hn, hh, h => by
    rw [afterSteps] at h
    obtain ⟨z, h1, h2⟩ := Option.bind_eq_some_iff.mp h
    obtain ⟨a1, a2, a3⟩ := afterStep_low (hs s (by simp)) hn hh h1
    obtain ⟨b1, b2, b3⟩ := afterSteps_low (fun q hq => hs q (List.mem_cons_of_mem _ hq)) a2 a3 h2
    exact ⟨b1.trans a1, b2, b3⟩
theorem ways_low {T : Trk} (b : TBd T) {st s : TSt} {i : Nat} {t : List Bool} (hb : BoxT i st) (h : (some s, t) ∈ waysOn T st i) : BoxT (i + 1) s ∧ t.length ≤ 1 := by
  unfold waysOn at h
  split at h
  · simp only [List.mem_singleton, Prod.mk.injEq] at h
    obtain ⟨h1, rfl⟩ := h
    obtain ⟨e, a2, a3⟩ := after_low b hb.num hb.held h1.symm
    exact ⟨⟨by rw [e]; have := b.told i; omega, a2, a3⟩, Nat.zero_le _⟩
  · split at h
    · simp at h
    · rename_i x ex
      obtain ⟨e, a2, a3⟩ := afterSteps_low (b.deeds i) hb.num hb.held ex
      have hd := hb.done
      split at h
      · simp only [List.mem_singleton, Prod.mk.injEq, Option.some.injEq] at h
        obtain ⟨rfl, rfl⟩ := h
        exact ⟨⟨by omega, a2, a3⟩, Nat.zero_le _⟩
      · simp only [List.mem_cons, Prod.mk.injEq, Option.some.injEq, List.not_mem_nil, or_false] at h
        rcases h with ⟨rfl, rfl⟩ | ⟨h1, rfl⟩
        · exact ⟨⟨by omega, a2, a3⟩, Nat.le_refl _⟩
        · obtain ⟨e', c2, c3⟩ := after_low b a2 a3 h1.symm
          exact ⟨⟨by omega, c2, c3⟩, Nat.le_refl _⟩
/-- what is reached lies in the box, each once -/
structure RBox (i : Nat) (rs : Rch) : Prop where
  nd : (rs.map Prod.fst).Nodup
  box : ∀ x ∈ rs, BoxT i x.1
  len : ∀ x ∈ rs, x.2.length ≤ i
theorem RBox.count {i : Nat} {rs : Rch} (h : RBox i rs) (hi : i ≤ 1000) : rs.length ≤ 400000 := by
  have := box_len hi h.nd (fun s hs => by obtain ⟨x, hx, rfl⟩ := List.mem_map.mp hs; exact h.box x hx)
  rwa [List.length_map] at this
theorem RBox.add {i : Nat} {f : Rch} (h : RBox (i + 1) f) {s : TSt} {p : List Bool} (hs : BoxT (i + 1) s) (hp : p.length ≤ i + 1) : RBox (i + 1) (if s ∈ f.map Prod.fst then f else f ++ [(s, p)]) := by
  split
  · exact h
  · rename_i hn
    refine ⟨?_, fun x hx => ?_, fun x hx => ?_⟩
    · rw [List.map_append]
      refine List.nodup_append.mpr ⟨h.nd, by simp, fun a ha b hb e => ?_⟩
      simp only [List.map_cons, List.map_nil, List.mem_singleton] at hb
      rw [e, hb] at ha
      exact hn ha
    · rcases List.mem_append.mp hx with hx | hx
      · exact h.box x hx
      · rw [List.mem_singleton.mp hx]; exact hs
    · rcases List.mem_append.mp hx with hx | hx
      · exact h.len x hx
      · rw [List.mem_singleton.mp hx]; exact hp
theorem addWays_box {i : Nat} {pace : List Bool} (hp : pace.length ≤ i) : ∀ {ws : List (Option TSt × List Bool)} {f g : Rch}, (∀ s t, (some s, t) ∈ ws → BoxT (i + 1) s ∧ t.length ≤ 1) → RBox (i + 1) f → addWays pace ws f = .ok g → RBox (i + 1) g
  | [], f, g, _, hf, h => by
    simp only [addWays, Except.ok.injEq] at h
    subst h; exact hf
  | (none, t) :: r, f, g, _, _, h => by simp [addWays] at h
  | (some b, t) :: r, f, g, hw, hf, h => by
    rw [addWays] at h
    obtain ⟨h1, h2⟩ := hw b t (by simp)
    exact addWays_box hp (fun s t' hm => hw s t' (List.mem_cons_of_mem _ hm)) (hf.add h1 (by rw [List.length_append]; omega)) h
theorem addAll_box {T : Trk} (b : TBd T) {i : Nat} : ∀ {rs f g : Rch}, (∀ x ∈ rs, BoxT i x.1 ∧ x.2.length ≤ i) → RBox (i + 1) f → addAll T i rs f = .ok g → RBox (i + 1) g
  | [], f, g, _, hf, h => by
    simp only [addAll, Except.ok.injEq] at h
    subst h; exact hf
  | (st, pace) :: r, f, g, hr, hf, h => by
    rw [addAll] at h
    split at h
    · cases h
    · rename_i f' e
      obtain ⟨h1, h2⟩ := hr (st, pace) (by simp)
      exact addAll_box b (fun x hx => hr x (List.mem_cons_of_mem _ hx)) (addWays_box h2 (fun s t hm => ways_low b h1 hm) hf e) h
theorem nil_box {i : Nat} : RBox i [] := ⟨List.nodup_nil, (fun x hx => nomatch hx), (fun x hx => nomatch hx)⟩
theorem reach_box {T : Trk} (b : TBd T) : ∀ {i : Nat} {rs : Rch}, reachTo T i = .ok rs → RBox i rs
  | 0, rs, h => by
    simp only [reachTo, Except.ok.injEq] at h
    subst h
    exact ⟨by simp, fun x hx => by rw [List.mem_singleton.mp hx]; exact b.st, fun x hx => by rw [List.mem_singleton.mp hx]; exact Nat.le_refl _⟩
  | i + 1, g, h => by
    rw [reachTo] at h
    split at h
    · cases h
    · rename_i rs e
      have I := reach_box b e
      exact addAll_box b (fun x hx => ⟨I.box x hx, I.len x hx⟩) nil_box h
/-! ### bit by bit -/
theorem addWays_app {pace : List Bool} : ∀ {a c : List (Option TSt × List Bool)} {f g : Rch}, addWays pace a f = .ok g → addWays pace (a ++ c) f = addWays pace c g
  | [], c, f, g, h => by
    simp only [addWays, Except.ok.injEq] at h
    subst h; rfl
  | (none, t) :: r, c, f, g, h => by simp [addWays] at h
  | (some b, t) :: r, c, f, g, h => by
    rw [addWays] at h
    rw [List.cons_append, addWays]
    exact addWays_app h
theorem addAll_app {T : Trk} {i : Nat} : ∀ {a c f g : Rch}, addAll T i a f = .ok g → addAll T i (a ++ c) f = addAll T i c g
  | [], c, f, g, h => by
    simp only [addAll, Except.ok.injEq] at h
    subst h; rfl
  | (st, pace) :: r, c, f, g, h => by
    rw [addAll] at h
    rw [List.cons_append, addAll]
    split at h
    · cases h
    · rename_i f' e
      exact addAll_app h
theorem addAll_snoc {T : Trk} {i j : Nat} {rs f : Rch} {st : TSt} {pace : List Bool} (hj : rs[j]? = some (st, pace)) (h : addAll T i (rs.take j) [] = .ok f) : addAll T i (rs.take (j + 1)) [] = addWays pace (waysOn T st i) f := by
  rw [List.take_add_one, hj, Option.toList_some, addAll_app h, addAll]
  cases addWays pace (waysOn T st i) f <;> rfl
theorem reach_bad {T : Trk} {p : List Bool} {i n : Nat} (h : reachTo T i = .error p) (hn : i ≤ n) : reachTo T n = .error p := by
  induction n with
  | zero => have : i = 0 := by omega
            rw [← this]; exact h
  | succ n ih =>
    by_cases e : i = n + 1
    · rw [← e]; exact h
    · rw [reachTo, ih (by omega)]
theorem addAll_bad {T : Trk} {i j : Nat} {rs : Rch} {p : List Bool} (h : addAll T i (rs.take j) [] = .error p) : addAll T i rs [] = .error p := by
  have gen : ∀ (a c f : Rch), addAll T i a f = .error p → addAll T i (a ++ c) f = .error p := by
    intro a
    induction a with
    | nil => intro c f h; simp [addAll] at h
    | cons x r ih =>
      intro c f h
      obtain ⟨st, pace⟩ := x
      rw [addAll] at h
      rw [List.cons_append, addAll]
      split at h
      · exact h
      · exact ih c _ h
  have := gen (rs.take j) (rs.drop j) [] h
  rwa [List.take_append_drop] at this
theorem addWays_bad {pace p : List Bool} {ws : List (Option TSt × List Bool)} {f : Rch} {j : Nat} (h : addWays pace (ws.take j) f = .error p) : addWays pace ws f = .error p := by
  have gen : ∀ (a c : List (Option TSt × List Bool)) (f : Rch), addWays pace a f = .error p → addWays pace (a ++ c) f = .error p := by
    intro a
    induction a with
    | nil => intro c f h; simp [addWays] at h
    | cons x r ih =>
      intro c f h
      obtain ⟨o, t⟩ := x
      cases o with
      | none => simpa [addWays] using h
      | some b =>
        rw [addWays] at h
        rw [List.cons_append, addWays]
        exact ih c _ h
  have := gen (ws.take j) (ws.drop j) f h
  rwa [List.take_append_drop] at this
theorem found_bad {T : Trk} {p : List Bool} {i : Nat} (hi : i ≤ T.deeds.length) (h : reachTo T i = .error p) : paceFound T = some p := by
  unfold paceFound; rw [reach_bad h hi]
theorem firstBad_skip {T : Trk} : ∀ {rs : Rch} {j : Nat}, (∀ x ∈ rs.take j, endsWell T x.1 = true) → firstBad T rs = firstBad T (rs.drop j)
  | [], j, _ => by simp
  | x :: r, 0, _ => rfl
  | (st, pace) :: r, j + 1, h => by
    rw [List.drop_succ_cons, firstBad, if_pos (h (st, pace) (by simp))]
    exact firstBad_skip (fun x hx => h x (by rw [List.take_succ_cons]; exact List.mem_cons_of_mem _ hx))
theorem firstBad_at {T : Trk} {rs : Rch} {j : Nat} {st : TSt} {pace : List Bool} (h : ∀ x ∈ rs.take j, endsWell T x.1 = true) (hj : rs[j]? = some (st, pace)) (hb : endsWell T st = false) : firstBad T rs = some pace := by
  rw [firstBad_skip h]
  have hl := (List.getElem?_eq_some_iff.mp hj).1
  have e : rs.drop j = (st, pace) :: rs.drop (j + 1) := by
    rw [List.drop_eq_getElem_cons hl]
    congr 1
    have := (List.getElem?_eq_some_iff.mp hj).2
    exact this
  rw [e, firstBad, if_neg (by rw [hb]; decide)]
end Vt
namespace Vt
open PySem PySem.Spec PyProof.Rows L2
/-! ### what is reached, in a dict -/
inductive RE (H0 H : Hp) : List NEnt → Rch → Prop
  | nil : RE H0 H [] []
  | cons {a pa : Addr} {st : TSt} {pace : List Bool} {es : List NEnt} {rs : Rch} : Pd H (.ref a) (tstD st) → H0 pa = none → H pa = some (.lst (pace.map V.bl)) → RE H0 H es rs → RE H0 H ((tstD st, a, .ref pa) :: es) ((st, pace) :: rs)
theorem none_of {H H' : Hp} {p : Addr} (s : Same H H') (n : H' p = none) : H p = none := by
  cases e : H p with
  | none => rfl
  | some o =>
    have := s _ _ e
    rw [n] at this; cases this
structure TL (H H' : Hp) : Prop where
  t : ∀ a xs, H a = some (.tup xs) → H' a = some (.tup xs)
  l : ∀ a xs, H a = some (.lst xs) → H' a = some (.lst xs)
theorem TL.refl {H : Hp} : TL H H := ⟨fun _ _ e => e, fun _ _ e => e⟩
theorem TL.trans {H H1 H2 : Hp} (a : TL H H1) (b : TL H1 H2) : TL H H2 := ⟨fun x y e => b.t _ _ (a.t _ _ e), fun x y e => b.l _ _ (a.l _ _ e)⟩
theorem TL.same {H H' : Hp} (s : Same H H') : TL H H' := ⟨fun _ _ e => s _ _ e, fun _ _ e => s _ _ e⟩
theorem TL.set {H : Hp} {d : Addr} {o u : HO} (h : H d = some o) (h1 : ∀ xs, o ≠ .tup xs) (h2 : ∀ xs, o ≠ .lst xs) : TL H (upd H d u) :=
  ⟨fun a xs e => by rw [upd_ne (fun z => by rw [z, h] at e; exact h1 xs (Option.some.inj e))]; exact e, fun a xs e => by rw [upd_ne (fun z => by rw [z, h] at e; exact h2 xs (Option.some.inj e))]; exact e⟩
theorem TL.pdT {H H' : Hp} (t : TL H H') {v : V} {s : TSt} (h : Pd H v (tstD s)) : Pd H' v (tstD s) := Pd.tups t.t (noL_tst s) h
section
variable {H0 H H' : Hp}
theorem RE.tl (t : TL H H') : ∀ {es : List NEnt} {rs : Rch}, RE H0 H es rs → RE H0 H' es rs
  | _, _, .nil => .nil
  | _, _, .cons h1 h2 h3 h4 => .cons (t.pdT h1) h2 (t.l _ _ h3) (RE.tl t h4)
theorem RE.len : ∀ {es : List NEnt} {rs : Rch}, RE H0 H es rs → es.length = rs.length
  | _, _, .nil => rfl
  | _, _, .cons _ _ _ h => by rw [List.length_cons, List.length_cons, RE.len h]
theorem RE.keys : ∀ {es : List NEnt} {rs : Rch}, RE H0 H es rs → KeysAt H es
  | _, _, .nil => fun e he => by cases he
  | _, _, .cons h1 h2 h3 h4 => fun e he => by
    rcases List.mem_cons.mp he with rfl | he
    · exact ⟨h1, noL_tst _, by rename_i st _ _ _; show (tstD st).dep ≤ 8; cases st with | mk d n h => cases n <;> cases h <;> simp [tstD, D.dep, deps, nD, optD]⟩
    · exact RE.keys h4 e he
theorem dep_tst (s : TSt) : (tstD s).dep ≤ 8 := by
  cases s with | mk d n h => cases n <;> cases h <;> simp [tstD, D.dep, deps, nD, optD]
theorem RE.get : ∀ {es : List NEnt} {rs : Rch} {i : Nat} {k : D} {b : Addr} {v : V}, RE H0 H es rs → es[i]? = some (k, b, v) → ∃ st pace pa, rs[i]? = some (st, pace) ∧ k = tstD st ∧ v = .ref pa ∧ Pd H (.ref b) (tstD st) ∧ H0 pa = none ∧ H pa = some (.lst (pace.map V.bl))
  | _, _, i, k, b, v, .nil, e => by simp at e
  | _, _, 0, k, b, v, .cons h1 h2 h3 h4, e => by
    simp only [List.getElem?_cons_zero, Option.some.injEq, Prod.mk.injEq] at e
    obtain ⟨rfl, rfl, rfl⟩ := e
    exact ⟨_, _, _, rfl, rfl, rfl, h1, h2, h3⟩
  | _, _, i + 1, k, b, v, .cons h1 h2 h3 h4, e => by
    rw [List.getElem?_cons_succ] at e
    obtain ⟨st, pace, pa, g1, g2⟩ := RE.get h4 e
    exact ⟨st, pace, pa, by rw [List.getElem?_cons_succ]; exact g1, g2⟩
theorem RE.snoc {a pa : Addr} {st : TSt} {pace : List Bool} (h1 : Pd H (.ref a) (tstD st)) (h2 : H0 pa = none) (h3 : H pa = some (.lst (pace.map V.bl))) : ∀ {es : List NEnt} {rs : Rch}, RE H0 H es rs → RE H0 H (es ++ [(tstD st, a, .ref pa)]) (rs ++ [(st, pace)])
  | _, _, .nil => .cons h1 h2 h3 .nil
  | _, _, .cons g1 g2 g3 g4 => .cons g1 g2 g3 (RE.snoc h1 h2 h3 g4)
end
theorem nk_nat {a b : Nat} : nk (nD a) = nk (nD b) ↔ a = b := by
  constructor
  · intro h
    have : (a : Int) = (b : Int) := by simpa [nD, nk] using h
    omega
  · intro h; rw [h]
theorem nk_opt {a b : Option Nat} : nk (optD a) = nk (optD b) ↔ a = b := by
  cases a with
  | none => cases b with
    | none => simp
    | some n => simp [optD, nk, nD]
  | some m => cases b with
    | none => simp [optD, nk, nD]
    | some n => rw [Option.some.injEq]; exact nk_nat
theorem nk_tst {s t : TSt} : nk (tstD s) = nk (tstD t) ↔ s = t := by
  constructor
  · intro h
    have h' : nk (nD s.done) = nk (nD t.done) ∧ nk (optD s.num) = nk (optD t.num) ∧ nk (optD s.held) = nk (optD t.held) := by
      simpa [tstD, nk, nks] using h
    obtain ⟨h1, h2, h3⟩ := h'
    have e1 := nk_nat.mp h1
    have e2 := nk_opt.mp h2
    have e3 := nk_opt.mp h3
    cases s; cases t
    dsimp only at e1 e2 e3
    rw [e1, e2, e3]
  · intro h; rw [h]
theorem RE.has {H0 H : Hp} {s : TSt} : ∀ {es : List NEnt} {rs : Rch}, RE H0 H es rs → hasN es (tstD s) = decide (s ∈ rs.map Prod.fst)
  | _, _, .nil => rfl
  | _, _, .cons (st := st) h1 h2 h3 h4 => by
    have ih := RE.has (s := s) h4
    unfold hasN at ih ⊢
    rw [List.any_cons, ih, Bool.eq_iff_iff, Bool.or_eq_true, decide_eq_true_iff, decide_eq_true_iff, decide_eq_true_iff, List.map_cons, List.mem_cons, nk_tst]
    exact ⟨fun h => h.imp Eq.symm id, fun h => h.imp Eq.symm id⟩
theorem ways_t {T : Trk} {st : TSt} {i : Nat} {o : Option TSt} {t : List Bool} (h : (o, t) ∈ waysOn T st i) : t.length ≤ 1 := by
  unfold waysOn at h
  split at h
  · simp only [List.mem_singleton, Prod.mk.injEq] at h
    rw [h.2]; exact Nat.zero_le _
  · split at h
    · simp only [List.mem_singleton, Prod.mk.injEq] at h
      rw [h.2]; exact Nat.zero_le _
    · split at h
      · simp only [List.mem_singleton, Prod.mk.injEq] at h
        rw [h.2]; exact Nat.zero_le _
      · simp only [List.mem_cons, Prod.mk.injEq, List.not_mem_nil, or_false] at h
        rcases h with ⟨_, rfl⟩ | ⟨_, rfl⟩ <;> exact Nat.le_refl _
theorem way_of {H : Hp} {v : V} {wy : Option TSt × List Bool} (h : Pd H v (wayD wy)) : ∃ a rv tl, v = .ref a ∧ H a = some (.tup [rv, .ref tl]) ∧ Pd H rv (resD wy.1) ∧ H tl = some (.lst (wy.2.map V.bl)) := by
  cases h with
  | tup h hs =>
    cases hs with
    | cons a hs =>
      cases hs with
      | cons b hs =>
        cases hs
        cases b with
        | lst h2 hb =>
          have : ∀ {bs : List Bool} {vs : List V}, Pds H vs (bs.map D.bl) → vs = bs.map V.bl := by
            intro bs
            induction bs with
            | nil => intro vs h; cases h; rfl
            | cons b r ih => intro vs h; cases h with
              | cons h1 h2 => cases h1; rw [ih h2]; rfl
          rw [this hb] at h2
          exact ⟨_, _, _, rfl, h, a, h2⟩
section
variable {P : Program} {w : World} {K : PySem.W.Frag} {mg : Str → Option Value} {base : Heap} {C : Addr}
abbrev st_Track_pace_found : Stmt := (inClass (topS 34) 4)
abbrev nm_Track_pace_found : List Str := ["self", "reached", "at", "following", "state", "pace", "behind", "truths"]
theorem sc_Track_pace_found : FnScope ["self", "reached", "at", "following", "state", "pace", "behind", "truths"] ["self"] (defScope st_Track_pace_found) := ⟨rfl, rfl, rfl, by decide +kernel, rfl, by decide +kernel, by decide +kernel⟩
def spPaceFound (C : Addr) : Sp := fun vs H Q _ => ∃ (m : Addr) (T : Trk), vs = [.ref m] ∧ TK H C m T ∧ TBd T ∧ T.deeds.length ≤ T.waits.length ∧ T.deeds.length ≤ T.told.length ∧ (∀ x, afterSteps x T.fin ≠ none) ∧
  ∀ (H' : Hp) (r : V), Same H H' → (paceFound T = none → r = .non) → (∀ p, paceFound T = some p → ∃ pl, r = .ref pl ∧ H pl = none ∧ H' pl = some (.lst (p.map V.bl))) → Q r H'
theorem ok_pacefound {f : Addr} {fd : FuncData} (F : Fun K "pace_found" "Track.pace_found" st_Track_pace_found f fd) (c : TC K C) (m_ways_on : MCallee P w K mg base C "ways_on" 2 (spWaysOn C)) (m_ends_well : MCallee P w K mg base C "ends_well" 2 (spEndsWell C)) (z_len : mg "len" = none) (z_range : mg "range" = none) : FnOk P w K mg base CX0 3 f fd ["self"] (spPaceFound C) := by
  refine F.ok sc_Track_pace_found (fun vs H Q E h => ?_) (fun cdv A outer s H vs Q E hr h => ?_)
  · obtain ⟨m, T, rfl, _⟩ := h
    rfl
  · obtain ⟨m, T, rfl, hT, tb, hwl, htl, hfin, q⟩ := h
    refine ⟨_, (pss_cons (ps_set (i := 1) sc_Track_pace_found.nd rfl (Or.inl rfl) (pe_ndisp hr.units (pe_fld (pv 0) rfl) (pe_lst pa_nil)))
  (pss_cons (ps_for PassesOwn.never rfl (pi_range1 (by rfl) z_range (pa_cons (pe_callB call_len_seq (by rfl) z_len (by decide +kernel) (pa_cons (pe_fld (pv 0) rfl) pa_nil)) pa_nil)) (pg_name (i := 2) sc_Track_pace_found.nd rfl (Or.inl rfl))
  (pss_cons (ps_set (i := 3) sc_Track_pace_found.nd rfl (Or.inl rfl) pe_nnew)
  (pss_cons (ps_lock (ps_for PassesOwn.never rfl (pi_nitems (pv 1)) (pg_tup rfl (pgs_cons (pg_name (i := 4) sc_Track_pace_found.nd rfl (Or.inl rfl)) (pgs_cons (pg_name (i := 5) sc_Track_pace_found.nd rfl (Or.inl rfl)) pgs_nil)))
  (pss_one (ps_for PassesOwn.never rfl (pi_lt (pe_mcal m_ways_on hr (by first | decide | exact Nat.le_refl _) (pv 0) (pa_cons (pv 4) (pa_cons (pv 2) pa_nil)))) (pg_tup rfl (pgs_cons (pg_name (i := 6) sc_Track_pace_found.nd rfl (Or.inl rfl)) (pgs_cons (pg_name (i := 7) sc_Track_pace_found.nd rfl (Or.inl rfl)) pgs_nil)))
  (pss_cons (ps_if (pt_cmpR op_isN (pv 6) pe_non (nomark _)) (pss_one (ps_ret (pe_op op_cat (pv 5) (pv 7)))) pss_nil)
  (pss_one (ps_if (pt_cmp (pc_nnot hr.units (pv 6) (pv 3))) (pss_one (ps_nput hr.units (pv 3) (pv 6) (pe_op op_cat (pv 5) (pv 7)) rfl)) pss_nil)))))))
  (pss_one (ps_set (i := 1) sc_Track_pace_found.nd rfl (Or.inl rfl) (pv 3))))))
  (pss_cons (ps_lock (ps_for PassesOwn.never rfl (pi_nitems (pv 1)) (pg_tup rfl (pgs_cons (pg_name (i := 4) sc_Track_pace_found.nd rfl (Or.inl rfl)) (pgs_cons (pg_name (i := 5) sc_Track_pace_found.nd rfl (Or.inl rfl)) pgs_nil)))
  (pss_one (ps_if (pt_not (pt_val (pe_mcal m_ends_well hr (by first | decide | exact Nat.le_refl _) (pv 0) (pa_cons (pv 4) pa_nil)))) (pss_one (ps_ret (pv 5))) pss_nil))))
  (pss_one (ps_ret pe_non))))), ?_⟩
    obtain ⟨dx, v0, v2, v3, v4, v5, v6, hm, h0, h2, h3, h4, h5, h6⟩ := hT.ex
    obtain ⟨ta, rfl, hta⟩ := tst_of h0
    obtain ⟨da, dss, rfl, hda, hds⟩ := lst_of h4
    have dl : dss.length = T.deeds.length := by rw [hds.len, List.length_map]
    refine fun d0 nd0 => ?_
    have sd0 := same_new (o := DN P w d0 []) nd0
    refine ⟨_, rfl, m, C, _, _, _, rfl, sd0 _ _ hm, c.cl, c.n _ (by decide), rfl, ?_⟩
    refine ⟨Nat.zero_le _, fun p0 np0 => ?_⟩
    have sp0 := same_new (o := .lst []) np0
    have np0H : H p0 = none := none_of sd0 np0
    refine ⟨sp0 _ _ upd_same, ta, tstD T.start, rfl, (h0.same sd0).same sp0, noL_tst _, dep_tst _, ?_⟩
    have e00 : ∀ k b v, upd (upd (upd H d0 (DN P w d0 [])) p0 (.lst [])) d0 (DN P w d0 [(k, b, v)]) d0 = some (DN P w d0 [(k, b, v)]) := fun _ _ _ => upd_same
    have tl0 : TL (upd (upd H d0 (DN P w d0 [])) p0 (.lst [])) (upd (upd (upd H d0 (DN P w d0 [])) p0 (.lst [])) d0 (DN P w d0 [(tstD T.start, ta, .ref p0)])) := TL.set (sp0 _ _ upd_same) (fun xs z => by cases z) (fun xs z => by cases z)
    have r0 : RE H (upd (upd (upd H d0 (DN P w d0 [])) p0 (.lst [])) d0 (DN P w d0 [(tstD T.start, ta, .ref p0)])) [(tstD T.start, ta, .ref p0)] [(T.start, [])] := .cons (tl0.pdT ((h0.same sd0).same sp0)) np0H (tl0.l _ _ upd_same) .nil
    have sH : Same H (upd (upd (upd H d0 (DN P w d0 [])) p0 (.lst [])) d0 (DN P w d0 [(tstD T.start, ta, .ref p0)])) := fun y o e => by
      rw [upd_ne (ne_of_none e nd0)]
      exact sp0 _ _ (sd0 _ _ e)
    have hd0 := e00 (tstD T.start) ta (.ref p0)
    obtain ⟨H1, hH1⟩ : ∃ H1, H1 = upd (upd (upd H d0 (DN P w d0 [])) p0 (.lst [])) d0 (DN P w d0 [(tstD T.start, ta, .ref p0)]) := ⟨_, rfl⟩
    rw [← hH1] at hd0 r0 sH
    erw [← hH1]
    clear hH1
    refine ⟨_, rfl, m, C, _, _, _, rfl, sH _ _ hm, c.cl, c.n _ (by decide), rfl, da, _, rfl, .inl (sqL_l (sH _ _ hda)), ?_⟩
    refine ⟨((T.deeds.length : Nat) : Int), by rw [dl], by omega, by have := tb.len; omega, ?_⟩
    refine for_it (walk_range (lo := 0) (n := ((T.deeds.length : Nat) : Int).toNat)) (fun i σ H' => ∃ (y2 y3 y4 y5 y6 y7 : Option V) (d : Addr) (es : List NEnt) (rs : Rch), σ = [some (.ref m), some (.ref d), y2, y3, y4, y5, y6, y7] ∧ H' d = some (DN P w d es) ∧ H d = none ∧ RE H H' es rs ∧ reachTo T i = .ok rs ∧ Same H H')
      ⟨_, _, _, _, _, _, d0, _, _, rfl, hd0, nd0, r0, rfl, sH⟩ (fun _ _ _ _ _ => trivial) (fun i x σ H3 H2 hi hp hy => ?_) (fun σ H2 hp => ?_)
    · obtain ⟨y2, y3, y4, y5, y6, y7, d, es, rs, rfl, hd, nd, hre, hreach, sm⟩ := hp
      obtain ⟨rfl, rfl⟩ := hy
      rw [Int.toNat_natCast] at hi
      have bx := reach_box tb hreach
      have i1000 : i + 1 ≤ 1000 := by have := tb.len; omega
      refine fun d2 nd2 => ?_
      have s2 := same_new (o := DN P w d2 []) nd2
      have hd2 : (upd H2 d2 (DN P w d2 [])) d2 = some (DN P w d2 []) := upd_same
      have hre2 := hre.tl (TL.same s2)
      have hdd := s2 _ _ hd
      have sm2 := sm.trans s2
      have nd2H := none_of sm nd2
      obtain ⟨H4, hH4⟩ : ∃ H4, H4 = upd H2 d2 (DN P w d2 []) := ⟨_, rfl⟩
      rw [← hH4] at s2 hd2 hre2 hdd sm2
      erw [← hH4]
      clear hH4
      have d2d : d2 ≠ d := fun z => by rw [z, hd] at nd2; cases nd2
      -- the dict is looked through
      refine ⟨d, _, hdd, True.intro, fun od => ?_⟩
      have sm5 : Same H (upd H4 d (.frz od (DN P w d es))) := fun y o e => by rw [upd_ne (ne_of_none e nd)]; exact sm2 _ _ e
      have hre5 : RE H (upd H4 d (.frz od (DN P w d es))) es rs := hre2.tl (TL.set hdd (fun xs z => by cases z) (fun xs z => by cases z))
      have hd5 : (upd H4 d (.frz od (DN P w d es))) d = some (.frz od (DN P w d es)) := upd_same
      have hd25 : (upd H4 d (.frz od (DN P w d es))) d2 = some (DN P w d2 []) := by rw [upd_ne d2d]; exact hd2
      obtain ⟨H5, hH5⟩ : ∃ H5, H5 = upd H4 d (.frz od (DN P w d es)) := ⟨_, rfl⟩
      rw [← hH5] at sm5 hre5 hd5 hd25
      erw [← hH5]
      clear hH5
      refine ⟨_, rfl, d, od, es, rfl, hd5, ?_⟩
      have elen := hre5.len
      refine for_it (walk_nitems (ob := od) (es := es)) (fun j σ H' => ∃ (y4 y5 y6 y7 : Option V) (fs : List NEnt) (gs : Rch), σ = [some (.ref m), some (.ref d), some (.int (0 + (i : Int))), some (.ref d2), y4, y5, y6, y7] ∧ H' d = some (.frz od (DN P w d es)) ∧ H' d2 = some (DN P w d2 fs) ∧ RE H H' es rs ∧ RE H H' fs gs ∧ addAll T i (rs.take j) [] = .ok gs ∧ Same H H')
        ⟨_, _, _, _, [], [], rfl, hd5, hd25, hre5, .nil, rfl, sm5⟩ (fun j σ H' _ hp => by obtain ⟨_, _, _, _, _, _, _, h, _⟩ := hp; exact h) (fun j x σ H6 H7 hj hp hy => ?_) (fun σ H6 hp => ?_)
      · obtain ⟨y4, y5, y6, y7, fs, gs, rfl, hd6, hd26, hre6, hfs6, hall, sm6⟩ := hp
        obtain ⟨T2, k, b, v, hes, rfl, nT2, rfl⟩ := hy
        obtain ⟨st, pace, pa, hrs, rfl, rfl, hb, npa, hpa⟩ := hre6.get hes
        have s7 := same_new (o := .tup [.ref b, .ref pa]) nT2
        have hT2 : (upd H6 T2 (.tup [.ref b, .ref pa])) T2 = some (.tup [.ref b, .ref pa]) := upd_same
        have hbst : BoxT i st ∧ pace.length ≤ i := ⟨bx.box _ (List.mem_of_getElem? hrs), bx.len _ (List.mem_of_getElem? hrs)⟩
        have hd7 := s7 _ _ hd6
        have hd27 := s7 _ _ hd26
        have hre7 := hre6.tl (TL.same s7)
        have hfs7 := hfs6.tl (TL.same s7)
        have sm7 := sm6.trans s7
        have hb7 := (TL.same s7).pdT hb
        have hpa7 := s7 _ _ hpa
        generalize upd H6 T2 (.tup [.ref b, .ref pa]) = H7 at *
        have ibox : RBox (i + 1) gs := addAll_box tb (fun x hx => ⟨bx.box x (List.mem_of_mem_take hx), bx.len x (List.mem_of_mem_take hx)⟩) nil_box hall
        refine ⟨T2, _, rfl, sqT_t hT2, rfl, _, _, rfl, _, _, rfl, rfl, ?_⟩
        refine ⟨_, rfl, m, _, _, rfl, sm7 _ _ hm, trkF_no (by decide), _, rfl, _, rfl, m, T, .ref b, st, i, by simp [nV], hT.same sm7, hb7, by omega, by omega, hi, fun H8 r s8 hr8 => ?_⟩
        obtain ⟨wa, ws, rfl, hwa, hws⟩ := lst_of hr8
        have wlen : ws.length = (waysOn T st i).length := by rw [hws.len, List.length_map]
        have hd8 := s8 _ _ hd7
        have hd28 := s8 _ _ hd27
        have hre8 := hre7.tl (TL.same s8)
        have hfs8 := hfs7.tl (TL.same s8)
        have sm8 := sm7.trans s8
        have hb8 := (TL.same s8).pdT hb7
        have hpa8 := s8 _ _ hpa7
        have wd : wa ≠ d2 := fun z => by rw [z, hd28] at hwa; cases hwa
        refine ⟨wa, rfl, .inl ⟨ws, sqL_l hwa, ?_⟩⟩
        refine for_it (walk_list (xs := ws)) (fun k σ H' => ∃ (y6 y7 : Option V) (fs : List NEnt) (gs' : Rch), σ = [some (.ref m), some (.ref d), some (.int (0 + (i : Int))), some (.ref d2), some (.ref b), some (.ref pa), y6, y7] ∧ H' d = some (.frz od (DN P w d es)) ∧ H' d2 = some (DN P w d2 fs) ∧ RE H H' es rs ∧ RE H H' fs gs' ∧ addWays pace ((waysOn T st i).take k) gs = .ok gs' ∧ Same H H' ∧ TL H8 H')
          ⟨_, _, fs, gs, rfl, hd8, hd28, hre8, hfs8, rfl, sm8, TL.refl⟩ (fun k σ H' _ hp => by obtain ⟨_, _, _, _, _, _, _, _, _, _, _, t⟩ := hp; exact sqL_l (t.l _ _ hwa)) (fun k x σ H9 H10 hk hp hy => ?_) (fun σ H9 hp => ?_)
        · obtain ⟨y6, y7, fs9, gs9, rfl, hd9, hd29, hre9, hfs9, hadd, sm9, t9⟩ := hp
          obtain ⟨rfl, hx⟩ := hy
          obtain ⟨dd, hdd9, hpd⟩ := hws.get' hx
          rw [List.getElem?_map] at hdd9
          obtain ⟨wy, hwy, rfl⟩ : ∃ r, (waysOn T st i)[k]? = some r ∧ wayD r = dd := by simpa using hdd9
          obtain ⟨X, rv, tl, rfl, hX, hrv, htl⟩ := way_of hpd
          have hX9 := t9.t _ _ hX
          have htl9 := t9.l _ _ htl
          have hpa9 := t9.l _ _ hpa8
          obtain ⟨o, t⟩ := wy
          have tlen := ways_t (List.mem_of_getElem? hwy)
          have hsn : addWays pace ((waysOn T st i).take (k + 1)) gs = addWays pace [(o, t)] gs9 := by rw [List.take_add_one, hwy, Option.toList_some]; exact addWays_app hadd
          have tn : tl ≠ d2 := fun z => by rw [z, hd29] at htl9; cases htl9
          have plen : (pace.map V.bl).length + (t.map V.bl).length ≤ sizeLine := by
            rw [List.length_map, List.length_map]; exact big' (by omega)
          have mapp : pace.map V.bl ++ t.map V.bl = (pace ++ t).map V.bl := by rw [List.map_append]
          refine ⟨X, _, rfl, sqT_t hX9, rfl, _, _, rfl, _, _, rfl, rfl, ?_⟩
          cases o with
          | none =>
            cases res_none hrv
            refine ⟨_, rfl, rfl, _, rfl, iteT' (decide_eq_true rfl) ?_⟩
            refine ⟨_, rfl, _, rfl, pa, tl, _, _, rfl, rfl, hpa9, htl9, plen, fun p np => ?_⟩
            rw [mapp]
            have s11 := same_new (o := .lst ((pace ++ t).map V.bl)) np
            have bad : paceFound T = some (pace ++ t) := by
              refine found_bad (i := i + 1) hi ?_
              have e1 : addWays pace (waysOn T st i) gs = .error (pace ++ t) := addWays_bad (j := k + 1) (by rw [hsn]; rfl)
              have e2 : addAll T i rs [] = .error (pace ++ t) := addAll_bad (j := j + 1) (by rw [addAll_snoc hrs hall]; exact e1)
              rw [reachTo, hreach]; exact e2
            refine ⟨s11 _ _ hd9, ?_⟩
            refine q _ _ ?_ (fun e => ?_) (fun p' e => ?_)
            · exact fun y o e => by
                show (upd (upd _ p _) d _) y = _
                rw [upd_ne (ne_of_none e nd)]; exact s11 _ _ (sm9 _ _ e)
            · rw [bad] at e; cases e
            · rw [bad] at e
              cases e
              refine ⟨p, rfl, none_of sm9 np, ?_⟩
              show (upd (upd _ p _) d _) p = _
              rw [upd_ne (fun z => by rw [z, hd9] at np; cases np), upd_same]
          | some s' =>
            obtain ⟨rb, rfl, hrb⟩ := tst_of hrv
            have hrv9 := t9.pdT hrv
            refine ⟨_, rfl, rfl, _, rfl, iteF' (decide_eq_false (by intro z; cases z)) ?_⟩
            refine ⟨_, rfl, _, rfl, d2, rb, fs9, tstD s', rfl, rfl, .inl hd29, hfs9.keys, hrv9, noL_tst _, dep_tst _, _, rfl, ?_⟩
            rw [hfs9.has]
            obtain ⟨bs, bt⟩ := ways_low tb hbst.1 (List.mem_of_getElem? hwy)
            have gbox : RBox (i + 1) gs9 := addWays_box hbst.2 (fun s t hm => ways_low tb hbst.1 (List.mem_of_mem_take hm)) ibox hadd
            have gcnt := gbox.count i1000
            have flen := hfs9.len
            by_cases hmem : s' ∈ gs9.map Prod.fst
            · rw [decide_eq_true hmem]
              refine iteF ⟨_, _, fs9, gs9, rfl, hd9, hd29, hre9, hfs9, ?_, sm9, t9⟩
              rw [hsn, addWays, if_pos hmem]; rfl
            · rw [decide_eq_false hmem]
              refine iteT ?_
              refine ⟨_, rfl, _, rfl, pa, tl, _, _, rfl, rfl, hpa9, htl9, plen, fun p np => ?_⟩
              rw [mapp]
              have s11 := same_new (o := .lst ((pace ++ t).map V.bl)) np
              have npH := none_of sm9 np
              have hp11 : (upd H10 p (.lst ((pace ++ t).map V.bl))) p = some (.lst ((pace ++ t).map V.bl)) := upd_same
              have hd11 := s11 _ _ hd9
              have hd211 := s11 _ _ hd29
              have hre11 := hre9.tl (TL.same s11)
              have hfs11 := hfs9.tl (TL.same s11)
              have sm11 := sm9.trans s11
              have t11 := t9.trans (TL.same s11)
              have hrv11 := t11.pdT hrv
              generalize upd H10 p (.lst ((pace ++ t).map V.bl)) = H11 at *
              have t12 : TL H11 (upd H11 d2 (DN P w d2 (fs9 ++ [(tstD s', rb, .ref p)]))) := TL.set hd211 (fun xs z => by cases z) (fun xs z => by cases z)
              refine ⟨_, rfl, _, rfl, d2, rb, fs9, tstD s', rfl, rfl, hd211, hfs11.keys, hrv11, noL_tst _, dep_tst _, by rw [hfs11.has]; exact decide_eq_false hmem, by rw [flen]; exact Nat.lt_of_le_of_lt gcnt (by decide), ?_⟩
              have rfin : RE H (upd H11 d2 (DN P w d2 (fs9 ++ [(tstD s', rb, .ref p)]))) (fs9 ++ [(tstD s', rb, .ref p)]) (gs9 ++ [(s', pace ++ t)]) := RE.snoc (t12.pdT hrv11) npH (t12.l _ _ hp11) (hfs11.tl t12)
              refine ⟨_, _, fs9 ++ [(tstD s', rb, V.ref p)], gs9 ++ [(s', pace ++ t)], rfl, ?_, upd_same, hre11.tl t12, rfin, ?_, fun y o e => ?_, t11.trans t12⟩
              · show (upd H11 d2 _) d = _
                rw [upd_ne d2d.symm]; exact hd11
              · rw [hsn, addWays, if_neg hmem]; rfl
              · show (upd H11 d2 _) y = _
                rw [upd_ne (ne_of_none e nd2H)]; exact sm11 _ _ e
        · obtain ⟨y6, y7, fs9, gs9, rfl, hd9, hd29, hre9, hfs9, hadd, sm9, t9⟩ := hp
          rw [wlen, List.take_length] at hadd
          exact ⟨_, _, _, _, fs9, gs9, rfl, hd9, hd29, hre9, hfs9, by rw [addAll_snoc hrs hall]; exact hadd, sm9⟩
      · obtain ⟨y4, y5, y6, y7, fs, gs, rfl, hd6, hd26, hre6, hfs6, hall, sm6⟩ := hp
        rw [elen, List.take_length] at hall
        refine ⟨hd6, ?_⟩
        have tl : TL H6 (upd H6 d (DN P w d es)) := TL.set hd6 (fun xs z => by cases z) (fun xs z => by cases z)
        refine ⟨_, rfl, _, _, _, _, _, _, d2, fs, gs, rfl, ?_, nd2H, hfs6.tl tl, ?_, ?_⟩
        · show (upd H6 d _) d2 = _
          rw [upd_ne d2d]; exact hd26
        · rw [reachTo, hreach]; exact hall
        · exact fun y o e => by
            show (upd H6 d _) y = _
            rw [upd_ne (ne_of_none e nd)]; exact sm6 _ _ e
    · obtain ⟨y2, y3, y4, y5, y6, y7, d, es, rs, rfl, hd, nd, hre, hreach, sm⟩ := hp
      rw [Int.toNat_natCast] at hreach
      refine ⟨d, _, hd, True.intro, fun od => ?_⟩
      have sm5 : Same H (upd H2 d (.frz od (DN P w d es))) := fun y o e => by rw [upd_ne (ne_of_none e nd)]; exact sm _ _ e
      have hre5 : RE H (upd H2 d (.frz od (DN P w d es))) es rs := hre.tl (TL.set hd (fun xs z => by cases z) (fun xs z => by cases z))
      have hd5 : (upd H2 d (.frz od (DN P w d es))) d = some (.frz od (DN P w d es)) := upd_same
      obtain ⟨H5, hH5⟩ : ∃ H5, H5 = upd H2 d (.frz od (DN P w d es)) := ⟨_, rfl⟩
      rw [← hH5] at sm5 hre5 hd5
      erw [← hH5]
      clear hH5
      refine ⟨_, rfl, d, od, es, rfl, hd5, ?_⟩
      have elen := hre5.len
      have fd : paceFound T = firstBad T rs := by unfold paceFound; rw [hreach]
      refine for_it (walk_nitems (ob := od) (es := es)) (fun j σ H' => ∃ (y2 y3 y4 y5 y6 y7 : Option V), σ = [some (.ref m), some (.ref d), y2, y3, y4, y5, y6, y7] ∧ H' d = some (.frz od (DN P w d es)) ∧ RE H H' es rs ∧ (∀ x ∈ rs.take j, endsWell T x.1 = true) ∧ Same H H')
        ⟨_, _, _, _, _, _, rfl, hd5, hre5, (fun x hx => by cases hx), sm5⟩ (fun j σ H' _ hp => by obtain ⟨_, _, _, _, _, _, _, h, _⟩ := hp; exact h) (fun j x σ H6 H7 hj hp hy => ?_) (fun σ H6 hp => ?_)
      · obtain ⟨y2, y3, y4, y5, y6, y7, rfl, hd6, hre6, hall, sm6⟩ := hp
        obtain ⟨T2, k, b, v, hes, rfl, nT2, rfl⟩ := hy
        obtain ⟨st, pace, pa, hrs, rfl, rfl, hb, npa, hpa⟩ := hre6.get hes
        have s7 := same_new (o := .tup [.ref b, .ref pa]) nT2
        have hT2 : (upd H6 T2 (.tup [.ref b, .ref pa])) T2 = some (.tup [.ref b, .ref pa]) := upd_same
        have hd7 := s7 _ _ hd6
        have hre7 := hre6.tl (TL.same s7)
        have sm7 := sm6.trans s7
        have hb7 := (TL.same s7).pdT hb
        have hpa7 := s7 _ _ hpa
        generalize upd H6 T2 (.tup [.ref b, .ref pa]) = H7 at *
        refine ⟨T2, _, rfl, sqT_t hT2, rfl, _, _, rfl, _, _, rfl, rfl, ?_⟩
        refine ⟨_, rfl, m, _, _, rfl, sm7 _ _ hm, trkF_no (by decide), _, rfl, m, T, .ref b, st, rfl, hT.same sm7, hb7, hfin, fun H8 s8 => ⟨_, rfl, ?_⟩⟩
        cases ew : endsWell T st with
        | true =>
          refine iteF ⟨_, _, _, _, _, _, rfl, s8 _ _ hd7, hre7.tl (TL.same s8), fun x hx => ?_, sm7.trans s8⟩
          rw [List.take_add_one, hrs, Option.toList_some] at hx
          rcases List.mem_append.mp hx with hx | hx
          · exact hall x hx
          · rw [List.mem_singleton.mp hx]; exact ew
        | false =>
          refine iteT ⟨_, rfl, s8 _ _ hd7, ?_⟩
          have fb := firstBad_at hall hrs ew
          have hd8 := s8 _ _ hd7
          refine q _ _ ?_ (fun e => ?_) (fun p e => ?_)
          · exact fun y o e => by
              show (upd H8 d _) y = _
              rw [upd_ne (ne_of_none e nd)]; exact s8 _ _ (sm7 _ _ e)
          · rw [fd, fb] at e; cases e
          · rw [fd, fb] at e
            cases e
            refine ⟨pa, rfl, npa, ?_⟩
            show (upd H8 d _) pa = _
            exact (TL.set hd8 (fun xs z => by cases z) (fun xs z => by cases z)).l _ _ (s8 _ _ hpa7)
      · obtain ⟨y2, y3, y4, y5, y6, y7, rfl, hd6, hre6, hall, sm6⟩ := hp
        rw [elen, List.take_length] at hall
        have fb : firstBad T rs = none := by
          cases e : firstBad T rs with
          | none => rfl
          | some p =>
            obtain ⟨st, h1, h2⟩ := firstBad_some e
            rw [hall _ h1] at h2; cases h2
        refine ⟨hd6, ?_⟩
        refine q _ _ ?_ (fun e => rfl) (fun p e => ?_)
        · exact fun y o e => by
            show (upd H6 d _) y = _
            rw [upd_ne (ne_of_none e nd)]; exact sm6 _ _ e
        · rw [fd, fb] at e; cases e
end
end Vt
namespace Vt
open PySem PySem.Spec PyProof.Rows L2
/-! ### a script in the heap; the making of a track -/
mutual
theorem Pd.tl {H H' : Hp} (t : TL H H') : ∀ {d : D} {v : V}, Pd H v d → Pd H' v d
  | .non, _, .non => .non
  | .bl b, _, .bl _ => .bl b
  | .int i, _, .int _ => .int i
  | .str x, _, .str _ => .str x
  | .tup _, _, .tup h hs => .tup (t.t _ _ h) (Pds.tl t hs)
  | .lst _, _, .lst h hs => .lst (t.l _ _ h) (Pds.tl t hs)
theorem Pds.tl {H H' : Hp} (t : TL H H') : ∀ {ds : List D} {vs : List V}, Pds H vs ds → Pds H' vs ds
  | [], _, .nil => .nil
  | _ :: _, _, .cons h hs => .cons (Pd.tl t h) (Pds.tl t hs)
end
def scrF (v0 v1 v2 v3 v4 v5 v6 : V) : List (Str × V) := [("first", v0), ("last", v1), ("waits", v2), ("deeds", v3), ("told", v4), ("end", v5), ("moves", v6)]
structure SCR (H : Hp) (C m : Addr) (S : Scr) : Prop where
  ex : ∃ (dx : Addr) (v0 v1 v2 v3 v4 v5 v6 : V), H m = some (.ins C dx (scrF v0 v1 v2 v3 v4 v5 v6)) ∧ Pd H v0 (.lst (S.first.map nD)) ∧ Pd H v1 (.lst (S.last.map nD)) ∧ Pd H v2 (.lst (S.waits.map D.bl)) ∧
    Pd H v3 (.lst (S.deeds.map fun s => .lst (s.map stpD))) ∧ Pd H v4 (.lst (S.told.map nD)) ∧ Pd H v5 (.lst (S.fin.map stpD)) ∧ Pd H v6 (.lst (S.moves.map mvD))
theorem SCR.but {H H' : Hp} {C m : Addr} {S : Scr} (h : SCR H C m S) (t : TL H H') (e : ∀ o, H m = some o → H' m = some o) : SCR H' C m S := by
  obtain ⟨dx, v0, v1, v2, v3, v4, v5, v6, h0, h1, h2, h3, h4, h5, h6, h7⟩ := h.ex
  exact ⟨dx, v0, v1, v2, v3, v4, v5, v6, e _ h0, h1.tl t, h2.tl t, h3.tl t, h4.tl t, h5.tl t, h6.tl t, h7.tl t⟩
theorem SCR.same {H H' : Hp} {C m : Addr} {S : Scr} (h : SCR H C m S) (s : Same H H') : SCR H' C m S := h.but (TL.same s) (fun o e => s _ _ e)
def scrNames : List Str := ["first", "last", "waits", "deeds", "told", "end", "moves"]
structure SC' (K : PySem.W.Frag) (C : Addr) : Prop where
  cl : Cls K C
  n : ∀ f ∈ scrNames, NoAttr K C f
theorem nats_of {H : Hp} : ∀ {ns : List Nat} {vs : List V}, Pds H vs (ns.map nD) → vs = ns.map nV := fun h => pds_ns' h
/-- an object's field is set -/
structure Mk1 (H0 H : Hp) (C m dx : Addr) (fs : List (Str × V)) : Prop where
  at_ : H m = some (.ins C dx fs)
  but : But [m] H0 H
  tl : TL H0 H
theorem Mk1.set {H0 H : Hp} {C m dx : Addr} {fs fs' : List (Str × V)} (h : Mk1 H0 H C m dx fs) : Mk1 H0 (upd H m (.ins C dx fs')) C m dx fs' :=
  ⟨upd_same, But.trans h.but (But.set (by simp)), h.tl.trans (TL.set h.at_ (fun xs z => by cases z) (fun xs z => by cases z))⟩
theorem Mk1.same {H0 H H' : Hp} {C m dx : Addr} {fs : List (Str × V)} (h : Mk1 H0 H C m dx fs) (s : Same H H') : Mk1 H0 H' C m dx fs :=
  ⟨s _ _ h.at_, But.trans h.but (Same.but s), h.tl.trans (TL.same s)⟩
theorem Mk1.old {H0 H : Hp} {C m dx : Addr} {fs : List (Str × V)} (h : Mk1 H0 H C m dx fs) {y : Addr} {o : HO} (ne : y ≠ m) (e : H0 y = some o) : H y = some o := h.but y o (by simp [ne]) e
/-- a list of lists, beside a list L -/
inductive LL (H : Hp) (L : Addr) : List V → List (List D) → Prop
  | nil : LL H L [] []
  | cons {p : Addr} {xs vs : List V} {ds : List D} {dss : List (List D)} : p ≠ L → H p = some (.lst xs) → Pds H xs ds → noLs ds = true → LL H L vs dss → LL H L (.ref p :: vs) (ds :: dss)
theorem LL.keep {H H' : Hp} {L : Addr} (k : ∀ y o, y ≠ L → H y = some o → H' y = some o) {ys : List V} (hL : H L = some (.lst ys)) : ∀ {vs : List V} {dss : List (List D)}, LL H L vs dss → LL H' L vs dss
  | _, _, .nil => .nil
  | _, _, .cons h1 h2 h3 h4 h5 => .cons h1 (k _ _ h1 h2) (Pds.tups (fun a xs e => k a _ (fun z => by rw [z, hL] at e; cases e) e) h4 h3) h4 (LL.keep k hL h5)
theorem LL.same {H H' : Hp} {L : Addr} (s : Same H H') : ∀ {vs : List V} {dss : List (List D)}, LL H L vs dss → LL H' L vs dss
  | _, _, .nil => .nil
  | _, _, .cons h1 h2 h3 h4 h5 => .cons h1 (s _ _ h2) (h3.same s) h4 (LL.same s h5)
theorem LL.snoc {H : Hp} {L p : Addr} {xs : List V} {ds : List D} (h1 : p ≠ L) (h2 : H p = some (.lst xs)) (h3 : Pds H xs ds) (h4 : noLs ds = true) : ∀ {vs : List V} {dss : List (List D)}, LL H L vs dss → LL H L (vs ++ [.ref p]) (dss ++ [ds])
  | _, _, .nil => .cons h1 h2 h3 h4 .nil
  | _, _, .cons g1 g2 g3 g4 g5 => .cons g1 g2 g3 g4 (LL.snoc h1 h2 h3 h4 g5)
theorem LL.pds {H : Hp} {L : Addr} : ∀ {vs : List V} {dss : List (List D)}, LL H L vs dss → Pds H vs (dss.map D.lst)
  | _, _, .nil => .nil
  | _, _, .cons _ h2 h3 _ h5 => .cons (.lst h2 h3) (LL.pds h5)
theorem LL.len {H : Hp} {L : Addr} : ∀ {vs : List V} {dss : List (List D)}, LL H L vs dss → vs.length = dss.length
  | _, _, .nil => rfl
  | _, _, .cons _ _ _ _ h => by rw [List.length_cons, List.length_cons, LL.len h]
section
variable {P : Program} {w : World} {K : PySem.W.Frag} {mg : Str → Option Value} {base : Heap} {C CS : Addr}
abbrev st_Track___init__ : Stmt := (inClass (topS 34) 0)
abbrev nm_Track___init__ : List Str := ["self", "script", "cell", "steps"]
theorem sc_Track___init__ : FnScope ["self", "script", "cell", "steps"] ["self", "script", "cell"] (defScope st_Track___init__) := ⟨rfl, rfl, rfl, by decide +kernel, rfl, by decide +kernel, by decide +kernel⟩
def spTInit (C CS : Addr) : Sp := fun vs H Q _ => ∃ (m dx sc : Addr) (S : Scr) (cell : Nat), vs = [.ref m, .ref sc, nV cell] ∧ H m = some (.ins C dx []) ∧ SCR H CS sc S ∧ sc ≠ m ∧ cell < S.first.length ∧ cell < S.last.length ∧ (∀ s ∈ S.deeds, s.length ≤ 400000) ∧ S.deeds.length ≤ 1000 ∧ S.fin.length ≤ 400000 ∧ S.moves.length ≤ 400000 ∧
  ∀ (H' : Hp), But [m] H H' → TL H H' → TK H' C m (trk S cell) → Q .non H'
theorem ok_tinit {f : Addr} {fd : FuncData} (F : Fun K "__init__" "Track.__init__" st_Track___init__ f fd) (c : TC K C) (cs : SC' K CS) (c_steps_at : Callee P w K mg base "steps_at" 1 2 spStepsAt) (c_moves_at : Callee P w K mg base "moves_at" 1 2 spMovesAt) (z_len : mg "len" = none) : FnOk P w K mg base CX0 2 f fd ["self", "script", "cell"] (spTInit C CS) := by
  refine F.ok sc_Track___init__ (fun vs H Q E h => ?_) (fun cdv A outer s H vs Q E hr h => ?_)
  · obtain ⟨m, dx, sc, S, cell, rfl, _⟩ := h
    rfl
  · obtain ⟨m, dx, sc, S, cell, rfl, hm0, hS, scm, hc1, hc2, hdl, hdn, hfl, hml, q⟩ := h
    refine ⟨_, (pss_cons (ps_fld (pv 0) (pe_tup (pa_cons pe_int (pa_cons (pe_ix ix_lt (pe_fld (pv 1) rfl) (pv 2) (fun _ _ => rfl)) (pa_cons pe_non pa_nil)))) rfl)
  (pss_cons (ps_fld (pv 0) (pe_ix ix_lt (pe_fld (pv 1) rfl) (pv 2) (fun _ _ => rfl)) rfl)
  (pss_cons (ps_fld (pv 0) (pe_fld (pv 1) rfl) rfl)
  (pss_cons (ps_fld (pv 0) (pe_fld (pv 1) rfl) rfl)
  (pss_cons (ps_fld (pv 0) (pe_lc (own := [("steps", 3)]) rfl sc_Track___init__.nd (pi_lt (pe_fld (pv 1) rfl)) (blkOk_by (own := [("steps", 3)]) (N := nm_Track___init__) (sc := defScope (inClass (topS 34) 0)) (by decide +kernel)) (fun _ _ _ _ _ => (pg_name (i := 3) sc_Track___init__.nd rfl (Or.inl rfl))) (fun _ _ _ _ _ => pts_nil) (fun _ _ _ _ _ => (pe_cal c_steps_at hr (by first | decide | exact Nat.le_refl _) (pa_cons (pv 3) (pa_cons (pv 2) pa_nil))))) rfl)
  (pss_cons (ps_fld (pv 0) (pe_cal c_steps_at hr (by first | decide | exact Nat.le_refl _) (pa_cons (pe_fld (pv 1) rfl) (pa_cons (pv 2) pa_nil))) rfl)
  (pss_cons (ps_fld (pv 0) (pe_cal c_moves_at hr (by first | decide | exact Nat.le_refl _) (pa_cons (pe_fld (pv 1) rfl) (pa_cons (pv 2) pa_nil))) rfl)
  (pss_one (ps_fld (pv 0) (pe_callB call_len_seq (by rfl) z_len (by decide +kernel) (pa_cons (pe_fld (pv 1) rfl) pa_nil)) rfl))))))))), ?_⟩
    obtain ⟨sdx, v0, v1, v2, v3, v4, v5, v6, hs, h0, h1, h2, h3, h4, h5, h6⟩ := hS.ex
    obtain ⟨a0, xs0, rfl, ha0, hx0⟩ := lst_of h0
    obtain ⟨a1, xs1, rfl, ha1, hx1⟩ := lst_of h1
    obtain ⟨a3, xs3, rfl, ha3, hx3⟩ := lst_of h3
    obtain ⟨a6, xs6, rfl, ha6, hx6⟩ := lst_of h6
    have e0 := nats_of hx0
    have e1 := nats_of hx1
    subst e0 e1
    have M0 : Mk1 H H C m dx [] := ⟨hm0, But.refl, TL.refl⟩
    have g0 : (S.first.map nV)[cell]? = some (nV (S.first.getD cell 0)) := nat_at hc1
    have g1 : (S.last.map nV)[cell]? = some (nV (S.last.getD cell 0)) := nat_at hc2
    refine ⟨_, rfl, sc, CS, _, _, _, rfl, hs, cs.cl, cs.n _ (by decide), rfl, _, rfl, a0, _, (cell : Int), nV (S.first.getD cell 0), rfl, rfl, sqA_l ha0, atI_nat g0, by show 3 ≤ sizeLine; decide, fun T nT => ?_⟩
    have s1 := same_new (o := .tup [.int 0, nV (S.first.getD cell 0), .non]) nT
    have hT1 : (upd H T (.tup [.int 0, nV (S.first.getD cell 0), .non])) T = some (.tup [.int 0, nV (S.first.getD cell 0), .non]) := upd_same
    have pT : Pd (upd H T (.tup [.int 0, nV (S.first.getD cell 0), .non])) (.ref T) (tstD (trk S cell).start) := pd_tst (s := (trk S cell).start) hT1
    have M1 := M0.same s1
    generalize upd H T (.tup [.int 0, nV (S.first.getD cell 0), .non]) = H1 at M1 pT
    refine ⟨_, rfl, m, C, dx, [], rfl, M1.at_, c.cl, c.n _ (by decide), by show 0 < 1000; decide, ?_⟩
    have M2 : Mk1 H (upd H1 m (.ins C dx (putF "start" (.ref T) []))) C m dx [("start", .ref T)] := M1.set
    have t2 : TL H1 (upd H1 m (.ins C dx (putF "start" (.ref T) []))) := TL.set M1.at_ (fun xs z => by cases z) (fun xs z => by cases z)
    have p2 := t2.pdT pT
    generalize upd H1 m (.ins C dx (putF "start" (.ref T) [])) = H2 at M2 p2
    refine ⟨_, rfl, sc, CS, _, _, _, rfl, M2.old scm hs, cs.cl, cs.n _ (by decide), rfl, _, rfl, a1, _, (cell : Int), nV (S.last.getD cell 0), rfl, rfl, sqA_l (M2.tl.l _ _ ha1), atI_nat g1, ?_⟩
    refine ⟨_, rfl, m, C, dx, _, rfl, M2.at_, c.cl, c.n _ (by decide), by show 1 < 1000; decide, ?_⟩
    have M3 : Mk1 H (upd H2 m (.ins C dx (putF "last" (nV (S.last.getD cell 0)) [("start", .ref T)]))) C m dx [("start", .ref T), ("last", nV (S.last.getD cell 0))] := M2.set
    have t3 : TL H2 (upd H2 m (.ins C dx (putF "last" (nV (S.last.getD cell 0)) [("start", .ref T)]))) := TL.set M2.at_ (fun xs z => by cases z) (fun xs z => by cases z)
    have p3 := t3.pdT p2
    generalize upd H2 m (.ins C dx (putF "last" (nV (S.last.getD cell 0)) [("start", .ref T)])) = H3 at M3 p3
    refine ⟨_, rfl, sc, CS, _, _, _, rfl, M3.old scm hs, cs.cl, cs.n _ (by decide), rfl, ?_⟩
    refine ⟨_, rfl, m, C, dx, _, rfl, M3.at_, c.cl, c.n _ (by decide), by show 2 < 1000; decide, ?_⟩
    have M4 : Mk1 H (upd H3 m (.ins C dx (putF "waits" v2 [("start", .ref T), ("last", nV (S.last.getD cell 0))]))) C m dx [("start", .ref T), ("last", nV (S.last.getD cell 0)), ("waits", v2)] := M3.set
    have t4 : TL H3 (upd H3 m (.ins C dx (putF "waits" v2 [("start", .ref T), ("last", nV (S.last.getD cell 0))]))) := TL.set M3.at_ (fun xs z => by cases z) (fun xs z => by cases z)
    have p4 := t4.pdT p3
    generalize upd H3 m (.ins C dx (putF "waits" v2 [("start", .ref T), ("last", nV (S.last.getD cell 0))])) = H4 at M4 p4
    refine ⟨_, rfl, sc, CS, _, _, _, rfl, M4.old scm hs, cs.cl, cs.n _ (by decide), rfl, ?_⟩
    refine ⟨_, rfl, m, C, dx, _, rfl, M4.at_, c.cl, c.n _ (by decide), by show 3 < 1000; decide, ?_⟩
    have M5 : Mk1 H (upd H4 m (.ins C dx (putF "told" v4 [("start", .ref T), ("last", nV (S.last.getD cell 0)), ("waits", v2)]))) C m dx [("start", .ref T), ("last", nV (S.last.getD cell 0)), ("waits", v2), ("told", v4)] := M4.set
    have t5 : TL H4 (upd H4 m (.ins C dx (putF "told" v4 [("start", .ref T), ("last", nV (S.last.getD cell 0)), ("waits", v2)]))) := TL.set M4.at_ (fun xs z => by cases z) (fun xs z => by cases z)
    have p5 := t5.pdT p4
    generalize upd H4 m (.ins C dx (putF "told" v4 [("start", .ref T), ("last", nV (S.last.getD cell 0)), ("waits", v2)])) = H5 at M5 p5
    have sl3 : xs3.length = S.deeds.length := by rw [hx3.len, List.length_map]
    -- the list of the deeds' steps
    refine ⟨_, rfl, sc, CS, _, _, _, rfl, M5.old scm hs, cs.cl, cs.n _ (by decide), rfl, a3, rfl, .inl ⟨xs3, sqL_l (M5.tl.l _ _ ha3), fun L nL => ?_⟩⟩
    refine lc_it (walk_list (xs := xs3)) (fun j H' => ∃ xs, H' L = some (.lst xs) ∧ LL H' L xs ((S.deeds.take j).map fun s => (stepsAt s cell).map wnD) ∧ Same H5 H' ∧ H5 L = none)
      ⟨[], upd_same, .nil, same_new nL, nL⟩ (fun j H' _ hp' => by obtain ⟨_, _, _, s, _⟩ := hp'; exact sqL_l (s _ _ (M5.tl.l _ _ ha3))) (fun j x Ha Hb hj hp' hy => ?_) (fun H6 hp' => ?_)
    · obtain ⟨xs, hL, hxs, sm, nL⟩ := hp'
      obtain ⟨rfl, hx⟩ := hy
      obtain ⟨dd, hdd, hpd⟩ := (Pds.same sm (hx3.tl M5.tl)).get' hx
      rw [List.getElem?_map] at hdd
      obtain ⟨ss, hss, rfl⟩ : ∃ r, S.deeds[j]? = some r ∧ (D.lst (r.map stpD)) = dd := by simpa using hdd
      have xl : xs.length ≤ 1000 := by
        rw [hxs.len, List.length_map, List.length_take]; omega
      refine ⟨rfl, _, rfl, _, rfl, x, ss, cell, rfl, hpd, hdl ss (List.mem_of_getElem? hss), fun H6 u us s6 nu hu hus => ⟨xs, s6 _ _ hL, big (by omega), xs ++ [.ref u], upd_same, ?_, ?_, nL⟩⟩
      · have uL : u ≠ L := fun z => by rw [z, hL] at nu; cases nu
        have g1 := LL.snoc uL hu hus (noLs_map noL_wn _) (hxs.same s6)
        rw [List.take_add_one, hss, Option.toList_some, List.map_append]
        exact g1.keep (fun y o ne e => by rw [upd_ne ne]; exact e) (s6 _ _ hL)
      · exact fun y o e => by rw [upd_ne (ne_of_none e nL)]; exact s6 _ _ (sm _ _ e)
    · obtain ⟨xs, hL, hxs, sm, nL⟩ := hp'
      rw [sl3, List.take_length] at hxs
      have M6 := M5.same sm
      have p6 := (TL.same sm).pdT p5
      have d6 := hxs.pds
      refine ⟨_, rfl, m, C, dx, _, rfl, M6.at_, c.cl, c.n _ (by decide), by show 4 < 1000; decide, ?_⟩
      have M7 : Mk1 H (upd H6 m (.ins C dx (putF "deeds" (.ref L) [("start", .ref T), ("last", nV (S.last.getD cell 0)), ("waits", v2), ("told", v4)]))) C m dx [("start", .ref T), ("last", nV (S.last.getD cell 0)), ("waits", v2), ("told", v4), ("deeds", .ref L)] := M6.set
      have t7 : TL H6 (upd H6 m (.ins C dx (putF "deeds" (.ref L) [("start", .ref T), ("last", nV (S.last.getD cell 0)), ("waits", v2), ("told", v4)]))) := TL.set M6.at_ (fun xs z => by cases z) (fun xs z => by cases z)
      have p7 := t7.pdT p6
      have l7 := t7.l _ _ hL
      have d7 := Pds.tl t7 d6
      generalize upd H6 m (.ins C dx (putF "deeds" (.ref L) [("start", .ref T), ("last", nV (S.last.getD cell 0)), ("waits", v2), ("told", v4)])) = H7 at M7 p7 d7 l7
      refine ⟨_, rfl, sc, CS, _, _, _, rfl, M7.old scm hs, cs.cl, cs.n _ (by decide), rfl, _, rfl, v5, S.fin, cell, rfl, h5.tl M7.tl, hfl, fun H8 u7 us7 s8 nu7 hu7 hus7 => ?_⟩
      have M8 := M7.same s8
      have p8 := (TL.same s8).pdT p7
      have l8 := s8 _ _ l7
      have d8 := d7.same s8
      refine ⟨_, rfl, m, C, dx, _, rfl, M8.at_, c.cl, c.n _ (by decide), by show 5 < 1000; decide, ?_⟩
      have M9 : Mk1 H (upd H8 m (.ins C dx (putF "end" (.ref u7) [("start", .ref T), ("last", nV (S.last.getD cell 0)), ("waits", v2), ("told", v4), ("deeds", .ref L)]))) C m dx [("start", .ref T), ("last", nV (S.last.getD cell 0)), ("waits", v2), ("told", v4), ("deeds", .ref L), ("end", .ref u7)] := M8.set
      have t9 : TL H8 (upd H8 m (.ins C dx (putF "end" (.ref u7) [("start", .ref T), ("last", nV (S.last.getD cell 0)), ("waits", v2), ("told", v4), ("deeds", .ref L)]))) := TL.set M8.at_ (fun xs z => by cases z) (fun xs z => by cases z)
      have p9 := t9.pdT p8
      have l9 := t9.l _ _ l8
      have d9 := Pds.tl t9 d8
      have e9 := Pd.tl t9 (.lst hu7 hus7)
      generalize upd H8 m (.ins C dx (putF "end" (.ref u7) [("start", .ref T), ("last", nV (S.last.getD cell 0)), ("waits", v2), ("told", v4), ("deeds", .ref L)])) = H9 at M9 p9 d9 l9 e9
      refine ⟨_, rfl, sc, CS, _, _, _, rfl, M9.old scm hs, cs.cl, cs.n _ (by decide), rfl, _, rfl, .ref a6, S.moves, cell, rfl, h6.tl M9.tl, hml, fun H10 u9 s10 hu9 => ?_⟩
      have M10 := M9.same s10
      have p10 := (TL.same s10).pdT p9
      have l10 := s10 _ _ l9
      have d10 := d9.same s10
      have e10 := e9.same s10
      refine ⟨_, rfl, m, C, dx, _, rfl, M10.at_, c.cl, c.n _ (by decide), by show 6 < 1000; decide, ?_⟩
      have M11 : Mk1 H (upd H10 m (.ins C dx (putF "moves" u9 [("start", .ref T), ("last", nV (S.last.getD cell 0)), ("waits", v2), ("told", v4), ("deeds", .ref L), ("end", .ref u7)]))) C m dx [("start", .ref T), ("last", nV (S.last.getD cell 0)), ("waits", v2), ("told", v4), ("deeds", .ref L), ("end", .ref u7), ("moves", u9)] := M10.set
      have t11 : TL H10 (upd H10 m (.ins C dx (putF "moves" u9 [("start", .ref T), ("last", nV (S.last.getD cell 0)), ("waits", v2), ("told", v4), ("deeds", .ref L), ("end", .ref u7)]))) := TL.set M10.at_ (fun xs z => by cases z) (fun xs z => by cases z)
      have p11 := t11.pdT p10
      have l11 := t11.l _ _ l10
      have d11 := Pds.tl t11 d10
      have e11 := Pd.tl t11 e10
      have f11 := Pd.tl t11 hu9
      generalize upd H10 m (.ins C dx (putF "moves" u9 [("start", .ref T), ("last", nV (S.last.getD cell 0)), ("waits", v2), ("told", v4), ("deeds", .ref L), ("end", .ref u7)])) = H11 at M11 p11 d11 l11 e11 f11
      have sl6 : xs6.length = S.moves.length := by rw [hx6.len, List.length_map]
      refine ⟨_, rfl, sc, CS, _, _, _, rfl, M11.old scm hs, cs.cl, cs.n _ (by decide), rfl, a6, _, rfl, .inl (sqL_l (M11.tl.l _ _ ha6)), ?_⟩
      rw [sl6]
      refine ⟨_, rfl, m, C, dx, _, rfl, M11.at_, c.cl, c.n _ (by decide), by show 7 < 1000; decide, ?_⟩
      have M12 : Mk1 H (upd H11 m (.ins C dx (putF "move_count" (nV S.moves.length) [("start", .ref T), ("last", nV (S.last.getD cell 0)), ("waits", v2), ("told", v4), ("deeds", .ref L), ("end", .ref u7), ("moves", u9)]))) C m dx [("start", .ref T), ("last", nV (S.last.getD cell 0)), ("waits", v2), ("told", v4), ("deeds", .ref L), ("end", .ref u7), ("moves", u9), ("move_count", nV S.moves.length)] := M11.set
      have t12 : TL H11 (upd H11 m (.ins C dx (putF "move_count" (nV S.moves.length) [("start", .ref T), ("last", nV (S.last.getD cell 0)), ("waits", v2), ("told", v4), ("deeds", .ref L), ("end", .ref u7), ("moves", u9)]))) := TL.set M11.at_ (fun xs z => by cases z) (fun xs z => by cases z)
      refine q _ M12.but M12.tl ⟨dx, .ref T, v2, v4, .ref L, .ref u7, u9, M12.at_, t12.pdT p11, h2.tl M12.tl, h4.tl M12.tl, ?_, Pd.tl t12 e11, Pd.tl t12 f11⟩
      refine .lst (t12.l _ _ l11) ?_
      have := Pds.tl t12 d11
      rw [List.map_map] at this
      show Pds _ _ ((S.deeds.map fun s => stepsAt s cell).map fun s => .lst (s.map wnD))
      rw [List.map_map]; exact this
end
end Vt
namespace Vt
open PySem PySem.Spec PyProof.Rows L2
/-! ### what a script's numbers can be -/
structure PLow (s : Pst) : Prop where
  mem : ∀ n ∈ s.mem, n < 10
  reads : ∀ p ∈ s.reads, p.2 < 10
  fet : ∀ p ∈ s.fet, p.2 < 10
theorem getD_low {xs : List Nat} (h : ∀ n ∈ xs, n < 10) (c : Nat) : xs.getD c 0 < 10 := by
  rw [List.getD_eq_getElem?_getD]
  cases e : xs[c]? with
  | none => decide
  | some n => exact h n (List.mem_of_getElem? e)
theorem set_low {xs : List Nat} (h : ∀ n ∈ xs, n < 10) {c v : Nat} (hv : v < 10) : ∀ n ∈ xs.set c v, n < 10 := fun n hn => by
  rcases List.mem_or_eq_of_mem_set hn with h1 | h1
  · exact h n h1
  · rw [h1]; exact hv
theorem mvs_low : ∀ (ms : List Mv) (p : List Nat × List (Nat × Nat)), (∀ n ∈ p.1, n < 10) → (∀ q ∈ p.2, q.2 < 10) → (∀ n ∈ (ms.foldl mvStep p).1, n < 10) ∧ ∀ q ∈ (ms.foldl mvStep p).2, q.2 < 10
  | [], p, h1, h2 => ⟨h1, h2⟩
  | m :: r, p, h1, h2 => by
    rw [List.foldl_cons]
    refine mvs_low r _ (set_low h1 (getD_low h1 _)) (fun q hq => ?_)
    rcases List.mem_append.mp hq with hq | hq
    · exact h2 q hq
    · rw [List.mem_singleton.mp hq]; exact getD_low h1 _
theorem PLow.step {ords : List Ord} {s : Pst} {d : Deed} {n m : Nat} (h : PLow s) (hd : DeedOk d n m) : PLow (pstep ords s d) := by
  have one : ∀ {ps : List (Nat × Nat)} {c : Nat}, (∀ p ∈ ps, p.2 < 10) → ∀ p ∈ ps ++ [(c, s.mem.getD c 0)], p.2 < 10 := fun h1 p hp => by
    rcases List.mem_append.mp hp with hp | hp
    · exact h1 p hp
    · rw [List.mem_singleton.mp hp]; exact getD_low h.mem _
  cases d with
  | set c k => exact ⟨set_low h.mem hd.2, h.reads, h.fet⟩
  | add c o => exact ⟨set_low h.mem (Nat.mod_lt _ (by decide)), one (one h.reads), h.fet⟩
  | say c => exact ⟨h.mem, one h.reads, h.fet⟩
  | start o =>
    obtain ⟨a, b⟩ := mvs_low (told ords o) (s.mem, []) h.mem (fun q hq => by cases hq)
    refine ⟨a, h.reads, fun p hp => ?_⟩
    rcases List.mem_append.mp hp with hp | hp
    · exact h.fet p hp
    · exact b p hp
  | wait => exact h
  | clean l => exact h
  | drop l => exact h
theorem PLow.fold {ords : List Ord} {n m : Nat} : ∀ {ds : List Deed} {s : Pst}, (∀ d ∈ ds, DeedOk d n m) → PLow s → PLow (ds.foldl (pstep ords) s)
  | [], s, _, h => h
  | d :: r, s, hd, h => by
    rw [List.foldl_cons]
    exact PLow.fold (fun e he => hd e (List.mem_cons_of_mem _ he)) (h.step (hd d (by simp)))
theorem plain_low {B : Brd} (ok : BrdOk B) : PLow (plain B) := PLow.fold ok.prog ⟨ok.nums, (fun p hp => by cases hp), (fun p hp => by cases hp)⟩
theorem plain_mem {B : Brd} : (plain B).mem.length = B.mem.length := by
  have mv : ∀ (ms : List Mv) (p : List Nat × List (Nat × Nat)), (ms.foldl mvStep p).1.length = p.1.length := by
    intro ms
    induction ms with
    | nil => intro p; rfl
    | cons m r ih => intro p; rw [List.foldl_cons, ih]; simp [mvStep]
  have : ∀ (ds : List Deed) (s : Pst), (ds.foldl (pstep B.ords) s).mem.length = s.mem.length := by
    intro ds
    induction ds with
    | nil => intro s; rfl
    | cons d r ih =>
      intro s
      rw [List.foldl_cons, ih]
      cases d with
      | start o => exact mv _ _
      | _ => simp [pstep]
  exact this B.prog _
/-! the walk -/
def RowLow (M : Mst) : Prop := ∀ r ∈ M.rows, r.num < 10
theorem RowLow.tell {M : Mst} {w : Str} {p n : Nat} (h : RowLow M) (hn : n < 10) : RowLow (M.tell w p n) := fun r hr => by
  rcases List.mem_append.mp hr with hr | hr
  · exact h r hr
  · rw [List.mem_singleton.mp hr]; exact hn
theorem RowLow.of {M M' : Mst} (h : RowLow M) (e : M'.rows = M.rows) : RowLow M' := fun r hr => h r (by rw [← e]; exact hr)
theorem RowLow.take {M : Mst} {l : Nat} (h : RowLow M) : RowLow (M.take l) := by
  unfold Mst.take
  split
  · exact h
  · exact RowLow.tell (M := { M with held := M.held.set l (some ((M.mem.drop (4 * l)).take 4)) }) (h.of rfl) (by decide)
theorem RowLow.write {M : Mst} {c n : Nat} (h : RowLow M) (hn : n < 10) : RowLow (M.write c n) := by
  exact RowLow.tell (M := (M.take (c / 4)).write0 c n) (h.take.of rfl) hn
theorem RowLow.clean {M : Mst} {l : Nat} (h : RowLow M) : RowLow (M.clean l) := by
  unfold Mst.clean
  split
  · exact RowLow.tell (M := { M with mem := _, tou := _ }) (h.of rfl) (by decide)
  · exact h
theorem RowLow.drop {M : Mst} {l : Nat} (h : RowLow M) : RowLow (M.drop l) := by
  unfold Mst.drop
  split
  · exact RowLow.tell (M := { M with held := _, tou := _ }) (h.of rfl) (by decide)
  · exact h
structure WkOk (B : Brd) (i : Nat) (W : Wk) : Prop where
  mok : MOk0 B.mem.length W.M
  rows : W.M.rows.length ≤ 6 * i
  left : W.M.left.length ≤ 32 * i
  low : RowLow W.M
  rd : W.rd = ((B.prog.take i).map rdsOf).sum
theorem due_low {due : List (Nat × Nat)} (h : ∀ p ∈ due, p.2 < 10) (W : Wk) : W.num due < 10 := by
  unfold Wk.num
  rw [List.getD_eq_getElem?_getD]
  cases e : due[W.rd]? with
  | none => decide
  | some p => exact h p (List.mem_of_getElem? e)
theorem RowLow.wread {due : List (Nat × Nat)} (hd : ∀ p ∈ due, p.2 < 10) {W : Wk} {c : Nat} (h : RowLow W.M) : RowLow (W.read due c).M := RowLow.tell h.take (due_low hd W)
theorem wk_ok {B : Brd} (ok : BrdOk B) : ∀ {i : Nat}, i ≤ B.prog.length → WkOk B i (walkTo B i)
  | 0, _ => ⟨(begin_ok ok []).toMOk0, Nat.zero_le _, Nat.zero_le _, (fun r hr => by cases hr), rfl⟩
  | i + 1, hi => by
    obtain ⟨h1, h2, h3, h4, h5⟩ := wk_ok ok (i := i) (by omega)
    have hd : B.prog[i]? = some B.prog[i] := List.getElem?_eq_getElem (by omega)
    generalize B.prog[i] = d at hd
    have dok := ok.prog d (List.mem_of_getElem? hd)
    have rl := (plain_low ok).reads
    rw [walkTo_succ hd]
    have hr := wdeed_rows (ords := B.ords) (due := (plain B).reads) (W := walkTo B i) (d := d)
    refine ⟨?_, by omega, ?_, ?_, ?_⟩
    · cases d with
      | set c n => exact h1.write dok.1
      | add c o => exact MOk0.write ((MOk0.tell ((MOk0.tell (h1.take (h1.line dok.1))).take (h1.line dok.2)))) dok.1
      | say c => exact MOk0.tell (MOk0.tell (h1.take (h1.line dok)))
      | start o =>
        refine MOk0.tell ⟨h1.lines, h1.mem, h1.held, h1.tou, h1.four, h1.th, fun m hm => ?_⟩
        rcases List.mem_append.mp hm with hm | hm
        · exact h1.left m hm
        · exact brd_told ok o m hm
      | wait => exact h1
      | clean l => exact h1.clean
      | drop l => exact h1.drop
    · rw [wk_left, List.length_append]
      have : (mvOf B.ords d).length ≤ 32 := by
        cases d with
        | start o => exact told_len (brd_eight ok) o
        | _ => exact Nat.zero_le _
      omega
    · cases d with
      | set c n => exact h4.write dok.2
      | add c o => exact ((h4.wread rl).wread rl).write (Nat.mod_lt _ (by decide))
      | say c => exact RowLow.tell (h4.wread rl) (due_low rl _)
      | start o => exact RowLow.tell (M := { (walkTo B i).M with left := _ }) (h4.of rfl) (by decide)
      | wait => exact h4
      | clean l => exact h4.clean
      | drop l => exact h4.drop
    · rw [List.take_add_one, hd, Option.toList_some, List.map_append, List.sum_append, ← h5]
      cases d <;> simp [Wk.deed, rdsOf]
theorem due_len {B : Brd} : (plain B).reads.length = (B.prog.map rdsOf).sum := by
  have h := (plain_turns (ords := B.ords) B.prog ⟨B.mem, [], [], []⟩).1
  have h2 := congrArg List.length h
  simp only [List.map_nil, List.nil_append, List.length_map] at h2
  show (B.prog.foldl (pstep B.ords) ⟨B.mem, [], [], []⟩).reads.length = _
  rw [h2, List.length_flatMap]
  congr 1
  refine List.map_congr_left fun d _ => ?_
  cases d <;> rfl
theorem due_room {B : Brd} {i : Nat} {d : Deed} (h : B.prog[i]? = some d) : ((B.prog.take i).map rdsOf).sum + rdsOf d ≤ (plain B).reads.length := by
  rw [due_len]
  have hl := (List.getElem?_eq_some_iff.mp h).1
  have e : B.prog = B.prog.take i ++ (d :: B.prog.drop (i + 1)) := by
    conv => lhs; rw [← List.take_append_drop i B.prog]
    congr 1
    rw [List.drop_eq_getElem_cons hl]
    congr 1
    exact (List.getElem?_eq_some_iff.mp h).2
  conv => rhs; rw [e]
  rw [List.map_append, List.sum_append, List.map_cons, List.sum_cons]; omega
end Vt
namespace Vt
open PySem PySem.Spec PyProof.Rows L2
theorem steps_mem {cell : Nat} {steps : List Stp} {s : Str × Nat} (h : s ∈ stepsAt steps cell) : ∃ t ∈ steps, s = (t.1, t.2.2) := by
  obtain ⟨t, ht, hs⟩ := List.mem_flatMap.mp h
  refine ⟨t, ht, ?_⟩
  unfold stepAt at hs
  rcases List.mem_append.mp hs with hs | hs
  · split at hs
    · exact List.mem_singleton.mp hs
    · cases hs
  · split at hs
    · exact List.mem_singleton.mp hs
    · cases hs
theorem stepsFrom_mem {rows : List Row} {n : Nat} {t : Stp} (h : t ∈ stepsFrom rows n) : ∃ r ∈ rows, t = stp r := by
  obtain ⟨r, hr, rfl⟩ := List.mem_map.mp h
  exact ⟨r, List.mem_of_mem_drop hr, rfl⟩
theorem after_noread : ∀ {ss : List (Str × Nat)} {x : TSt}, (∀ s ∈ ss, s.1 ≠ ("read" : Str)) → afterSteps x ss ≠ none
  | [], x, _ => by simp [afterSteps]
  | s :: r, x, h => by
    rw [afterSteps]
    have : ∃ y, afterStep x s = some y := by
      unfold afterStep
      rw [if_neg (fun z => h s (by simp) z.1)]
      exact ⟨_, rfl⟩
    obtain ⟨y, e⟩ := this
    rw [e, Option.bind_some]
    exact after_noread (fun q hq => h q (List.mem_cons_of_mem _ hq))
theorem fin_new (M : Mst) : ∃ N : List Stp, sps M.finish = sps M ++ N ∧ N.length ≤ 4 ∧ ∀ t ∈ N, t.1 = ("clean" : Str) := by
  have one : ∀ (M : Mst) l, (cleanN M l).length ≤ 1 ∧ ∀ t ∈ cleanN M l, t.1 = ("clean" : Str) := fun M l => by
    unfold cleanN
    split
    · exact ⟨Nat.le_refl _, fun t ht => by rw [List.mem_singleton.mp ht]⟩
    · exact ⟨Nat.zero_le _, fun t ht => by cases ht⟩
  refine ⟨cleanN M 0 ++ (cleanN (M.clean 0) 1 ++ (cleanN ((M.clean 0).clean 1) 2 ++ cleanN (((M.clean 0).clean 1).clean 2) 3)), ?_, ?_, ?_⟩
  · show sps ((((M.clean 0).clean 1).clean 2).clean 3) = _
    rw [sps_clean, sps_clean, sps_clean, sps_clean]
    simp only [List.append_assoc]
  · simp only [List.length_append]
    have a := (one M 0).1
    have b := (one (M.clean 0) 1).1
    have c := (one ((M.clean 0).clean 1) 2).1
    have d := (one (((M.clean 0).clean 1).clean 2) 3).1
    omega
  · intro t ht
    rcases List.mem_append.mp ht with h | h
    · exact (one _ _).2 t h
    · rcases List.mem_append.mp h with h | h
      · exact (one _ _).2 t h
      · rcases List.mem_append.mp h with h | h
        · exact (one _ _).2 t h
        · exact (one _ _).2 t h
section
variable {B : Brd}
theorem scr_fin : ∃ N : List Stp, (scr B).fin = N ∧ N.length ≤ 4 ∧ ∀ t ∈ N, t.1 = ("clean" : Str) := by
  obtain ⟨N, h1, h2, h3⟩ := fin_new (walkTo B B.prog.length).M
  refine ⟨N, ?_, h2, h3⟩
  show stepsFrom _ _ = _
  unfold stepsFrom
  rw [List.map_drop]
  have h' : (walkTo B B.prog.length).M.finish.rows.map stp = (walkTo B B.prog.length).M.rows.map stp ++ N := h1
  rw [h', List.drop_left' (by simp)]
theorem trk_fin (k : Nat) : ∀ x, afterSteps x (trk (scr B) k).fin ≠ none := fun x => by
  obtain ⟨N, h1, h2, h3⟩ := scr_fin (B := B)
  refine after_noread (fun s hs => ?_)
  obtain ⟨t, ht, rfl⟩ := steps_mem (steps := (scr B).fin) hs
  rw [h1] at ht
  show t.1 ≠ _
  rw [h3 t ht]; decide
theorem moves_low_at {cell : Nat} : ∀ {ms : List (Nat × Nat × Nat)} {i : Nat}, (∀ m ∈ ms, m.2.2 < 10) → ∀ c ∈ movesFrom cell i ms, low c.2.2
  | [], i, _, c, hc => by cases hc
  | m :: r, i, h, c, hc => by
    rw [movesFrom] at hc
    rcases List.mem_append.mp hc with hc | hc
    · unfold moveAt at hc
      split at hc
      · rw [List.mem_singleton.mp hc]
        intro n e
        dsimp only at e
        split at e
        · cases e; exact h m (by simp)
        · cases e
      · cases hc
    · exact moves_low_at (fun q hq => h q (List.mem_cons_of_mem _ hq)) c hc
theorem scr_told_le (ok : BrdOk B) : ∀ n ∈ (scr B).told, n ≤ 2000 := fun n hn => by
  obtain ⟨i, hi, rfl⟩ := List.mem_map.mp hn
  rw [List.mem_range] at hi
  have := (wk_ok ok (i := i + 1) (by omega)).left
  have h60 := ok.sixty
  omega
theorem scr_moves_low (ok : BrdOk B) : ∀ m ∈ (scr B).moves, m.2.2 < 10 := fun m hm => by
  have hm' : m ∈ List.zipWith mvSeen (walkTo B B.prog.length).M.left (plain B).fet := hm
  have gen : ∀ (ls : List Mv) (fs : List (Nat × Nat)), (∀ p ∈ fs, p.2 < 10) → ∀ m ∈ List.zipWith mvSeen ls fs, m.2.2 < 10 := by
    intro ls
    induction ls with
    | nil => intro fs _ m hm; simp at hm
    | cons l r ih =>
      intro fs hf m hm
      cases fs with
      | nil => simp at hm
      | cons f fs =>
        rw [List.zipWith_cons_cons] at hm
        rcases List.mem_cons.mp hm with e | hm
        · rw [e]; exact hf f (by simp)
        · exact ih fs (fun p hp => hf p (List.mem_cons_of_mem _ hp)) m hm
  exact gen _ _ (plain_low ok).fet m hm'
theorem scr_deed_at {i : Nat} (hi : i < B.prog.length) : (scr B).deeds[i]? = some (stepsFrom (walkTo B (i + 1)).M.rows (walkTo B i).M.rows.length) := by
  show ((List.range B.prog.length).map _)[i]? = _
  rw [List.getElem?_map, List.getElem?_range hi]; rfl
theorem scr_deeds_len : (scr B).deeds.length = B.prog.length := by simp [scr]
theorem scr_step_len (ok : BrdOk B) : ∀ s ∈ (scr B).deeds, s.length ≤ 400000 := fun s hs => by
  obtain ⟨i, hi, rfl⟩ := List.mem_map.mp hs
  rw [List.mem_range] at hi
  have := (wk_ok ok (i := i + 1) (by omega)).rows
  have h60 := ok.sixty
  unfold stepsFrom
  rw [List.length_map, List.length_drop]; omega
theorem scr_moves_len (ok : BrdOk B) : (scr B).moves.length ≤ 2000 := by
  have := (wk_ok ok (i := B.prog.length) (Nat.le_refl _)).left
  have h60 := ok.sixty
  rw [moves_len]; omega
theorem trk_low (ok : BrdOk B) (k : Nat) : TBd (trk (scr B) k) := by
  refine ⟨⟨Nat.zero_le _, fun n e => ?_, fun n e => by cases e⟩, fun i => ?_, fun i s hs => ?_, moves_low_at (scr_moves_low ok), ?_⟩
  · have : (scr B).first.getD k 0 = n := by injection e
    rw [← this]; exact getD_low ok.nums _
  · show (scr B).told.getD i 0 ≤ 2000
    rw [List.getD_eq_getElem?_getD]
    cases e : (scr B).told[i]? with
    | none => exact Nat.zero_le _
    | some n => exact scr_told_le ok n (List.mem_of_getElem? e)
  · have hs' : s ∈ ((scr B).deeds.map fun s => stepsAt s k).getD i [] := hs
    rw [List.getD_eq_getElem?_getD, List.getElem?_map] at hs'
    cases e : (scr B).deeds[i]? with
    | none => rw [e] at hs'; cases hs'
    | some ss =>
      rw [e] at hs'
      obtain ⟨t, ht, rfl⟩ := steps_mem (steps := ss) hs'
      have hi : i < B.prog.length := by
        have := (List.getElem?_eq_some_iff.mp e).1
        rwa [scr_deeds_len] at this
      rw [scr_deed_at hi] at e
      cases e
      obtain ⟨r, hr, rfl⟩ := stepsFrom_mem ht
      exact (wk_ok ok (i := i + 1) (by omega)).low r hr
  · have h60 := ok.sixty
    rw [deeds_len]; omega
end
end Vt
namespace Vt
open PySem PySem.Spec PyProof.Rows L2
/-- a list of lists that are neither owned nor of these -/
inductive LQ (ow : Addr → Prop) (H : Hp) (av : List Addr) : List V → List (List D) → Prop
  | nil : LQ ow H av [] []
  | cons {p : Addr} {xs vs : List V} {ds : List D} {dss : List (List D)} : p ∉ av → ¬ ow p → H p = some (.lst xs) → Pds H xs ds → noLs ds = true → LQ ow H av vs dss → LQ ow H av (.ref p :: vs) (ds :: dss)
theorem LQ.keep {ow ow' : Addr → Prop} {H H' : Hp} {av : List Addr} (nt : ∀ c xs, H c = some (.tup xs) → ¬ ow c) (k : Keep ow ow' H H') : ∀ {vs : List V} {dss : List (List D)}, LQ ow H av vs dss → LQ ow' H' av vs dss
  | _, _, .nil => .nil
  | _, _, .cons h1 h2 h3 h4 h5 h6 => .cons h1 (k _ _ h2 h3).2 (k _ _ h2 h3).1 (Pds.tups (fun a xs e => (k a _ (nt a xs e) e).1) h5 h4) h5 (LQ.keep nt k h6)
theorem LQ.set {ow : Addr → Prop} {H : Hp} {av : List Addr} {L : Addr} {u o : HO} (hL : L ∈ av) (hu : H L = some u) (nu : ∀ xs, u ≠ .tup xs) : ∀ {vs : List V} {dss : List (List D)}, LQ ow H av vs dss → LQ ow (upd H L o) av vs dss
  | _, _, .nil => .nil
  | _, _, .cons h1 h2 h3 h4 h5 h6 => .cons h1 h2 (by rw [upd_ne (fun z => h1 (by rw [z]; exact hL))]; exact h3) (Pds.tups (fun a xs e => by rw [upd_ne (fun z => by rw [z, hu] at e; exact nu xs (Option.some.inj e))]; exact e) h5 h4) h5 (LQ.set hL hu nu h6)
theorem LQ.snoc {ow : Addr → Prop} {H : Hp} {av : List Addr} {p : Addr} {xs : List V} {ds : List D} (h1 : p ∉ av) (h2 : ¬ ow p) (h3 : H p = some (.lst xs)) (h4 : Pds H xs ds) (h5 : noLs ds = true) : ∀ {vs : List V} {dss : List (List D)}, LQ ow H av vs dss → LQ ow H av (vs ++ [.ref p]) (dss ++ [ds])
  | _, _, .nil => .cons h1 h2 h3 h4 h5 .nil
  | _, _, .cons g1 g2 g3 g4 g5 g6 => .cons g1 g2 g3 g4 g5 (LQ.snoc h1 h2 h3 h4 h5 g6)
theorem LQ.pds {ow : Addr → Prop} {H : Hp} {av : List Addr} : ∀ {vs : List V} {dss : List (List D)}, LQ ow H av vs dss → Pds H vs (dss.map D.lst)
  | _, _, .nil => .nil
  | _, _, .cons _ _ h2 h3 _ h5 => .cons (.lst h2 h3) (LQ.pds h5)
theorem LQ.len {ow : Addr → Prop} {H : Hp} {av : List Addr} : ∀ {vs : List V} {dss : List (List D)}, LQ ow H av vs dss → vs.length = dss.length
  | _, _, .nil => rfl
  | _, _, .cons _ _ _ _ _ h => by rw [List.length_cons, List.length_cons, LQ.len h]
/-- what stood, was not owned and is none of these, stands -/
def Stay (av : List Addr) (ow ow' : Addr → Prop) (H H' : Hp) : Prop := ∀ c o, ¬ ow c → c ∉ av → H c = some o → H' c = some o ∧ ¬ ow' c
theorem Stay.refl {av : List Addr} {ow : Addr → Prop} {H : Hp} : Stay av ow ow H H := fun c o h1 _ h3 => ⟨h3, h1⟩
theorem Stay.keep {av : List Addr} {ow ow' ow'' : Addr → Prop} {H H' H'' : Hp} (s : Stay av ow ow' H H') (k : Keep ow' ow'' H' H'') : Stay av ow ow'' H H'' := fun c o h1 h2 h3 => k c o (s c o h1 h2 h3).2 (s c o h1 h2 h3).1
theorem Stay.set {av : List Addr} {ow ow' : Addr → Prop} {H H' : Hp} {L : Addr} {o : HO} (s : Stay av ow ow' H H') (hL : L ∈ av) : Stay av ow ow' H (upd H' L o) := fun c u h1 h2 h3 => ⟨by rw [upd_ne (fun z => h2 (by rw [z]; exact hL))]; exact (s c u h1 h2 h3).1, (s c u h1 h2 h3).2⟩
theorem PM.out {ow : Addr → Prop} {H H' : Hp} {C m : Addr} {M : Mst} {sd : List Nat} {A : PA} (h : PM ow H C m M sd A) (e : ∀ y, ow y → H' y = H y) (t : ∀ a xs, H a = some (.tup xs) → H' a = some (.tup xs)) : PM ow H' C m M sd A := by
  have g : ∀ (i : Nat) (y : Addr) (o : HO), (A.all m)[i]? = some y → H y = some o → H' y = some o := fun i y o hi hy => by rw [e y (h.oa y (List.mem_of_getElem? hi))]; exact hy
  exact ⟨g 0 m _ rfl h.obj, g 1 _ _ rfl h.dxo, g 2 _ _ rfl h.mem, g 3 _ _ rfl h.held, g 4 _ _ rfl h.tou, g 5 _ _ rfl h.left, Pds.tups t (noLs_map noL_mv _) h.leftD, g 6 _ _ rfl h.rows, Pds.tups t (noLs_map noL_row _) h.rowsD, g 7 _ _ rfl h.said,
    fun l el => by rw [e _ (h.ol l el)]; exact h.line l el, h.inj, h.nd, h.hl, h.oa, h.ol, fun y hy => by rw [e y hy]; exact h.kind y hy⟩
/-- the walk at a deed, and the object that is made -/
structure WS (B : Brd) (CW CS wk r m dx : Addr) (ow : Addr → Prop) (H : Hp) (A : PA) (W : Wk) (fs : List (Str × V)) : Prop where
  pm : PM ow H CW wk W.M (saidOf W.M.rows) A
  ex : A.prog.ex = exW r W.rd
  due : Due ow H r (plain B).reads
  pb : PB H A B
  at_ : H m = some (.ins CS dx fs)
  no : ¬ ow m
section
variable {B : Brd} {CW CS wk r m dx : Addr} {ow ow' : Addr → Prop} {H H' : Hp} {A A' : PA} {W W' : Wk} {fs fs' : List (Str × V)}
theorem WS.same (h : WS B CW CS wk r m dx ow H A W fs) (s : Same H H') : WS B CW CS wk r m dx ow H' A W fs :=
  ⟨h.pm.same s, h.ex, h.due.same s, ⟨h.pb.1.same s, h.pb.2.same s⟩, s _ _ h.at_, h.no⟩
theorem due_out {due : List (Nat × Nat)} {L : Addr} {o u : HO} (h : Due ow H r due) (hL : H L = some u) (nt : ∀ xs, u ≠ .tup xs) (nr : L ≠ r) : Due ow (upd H L o) r due := by
  obtain ⟨⟨xs, h1, h2⟩, no⟩ := h
  exact ⟨⟨xs, by rw [upd_ne nr.symm]; exact h1, Pds.tups (fun a ys e => by rw [upd_ne (fun z => by rw [z, hL] at e; exact nt ys (Option.some.inj e))]; exact e) (noLs_map noL_rd _) h2⟩, no⟩
theorem WS.put (h : WS B CW CS wk r m dx ow H A W fs) {L : Addr} {o u : HO} (hL : H L = some u) (nt : ∀ xs, u ≠ .tup xs) (nL : ¬ ow L) (nr : L ≠ r) : PM ow (upd H L o) CW wk W.M (saidOf W.M.rows) A ∧ Due ow (upd H L o) r (plain B).reads ∧ PB (upd H L o) A B := by
  have tt : ∀ a xs, H a = some (.tup xs) → (upd H L o) a = some (.tup xs) := fun a xs e => by rw [upd_ne (fun z => by rw [z, hL] at e; exact nt xs (Option.some.inj e))]; exact e
  exact ⟨h.pm.out (fun y hy => upd_ne (fun z => nL (by rw [← z]; exact hy))) tt, due_out h.due hL nt nr, Pd.tups tt (by rw [D.noL]; exact noLs_map noL_ord _) h.pb.1, Pd.tups tt (by rw [D.noL]; exact noLs_map noL_deed _) h.pb.2⟩
theorem WS.rm (h : WS B CW CS wk r m dx ow H A W fs) : m ≠ r := fun z => by
  obtain ⟨xs, h1, _⟩ := h.due.ex
  have := h.at_
  rw [z, h1] at this; cases this
theorem WS.set (h : WS B CW CS wk r m dx ow H A W fs) : WS B CW CS wk r m dx ow (upd H m (.ins CS dx fs')) A W fs' := by
  obtain ⟨a, b, d⟩ := h.put (o := .ins CS dx fs') h.at_ (fun xs z => by cases z) h.no h.rm
  exact ⟨a, h.ex, b, d, upd_same, h.no⟩
theorem WS.list (h : WS B CW CS wk r m dx ow H A W fs) {L : Addr} {xs ys : List V} (hL : H L = some (.lst xs)) (nL : ¬ ow L) (nr : L ≠ r) : WS B CW CS wk r m dx ow (upd H L (.lst ys)) A W fs := by
  obtain ⟨a, b, d⟩ := h.put (o := .lst ys) hL (fun xs z => by cases z) nL nr
  exact ⟨a, h.ex, b, d, by rw [upd_ne (fun z => by have := h.at_; rw [z, hL] at this; cases this)]; exact h.at_, h.no⟩
end
theorem finish_left {M : Mst} : M.finish.left = M.left := by
  show ((((M.clean 0).clean 1).clean 2).clean 3).left = _
  rw [clean_rows.2.1, clean_rows.2.1, clean_rows.2.1, clean_rows.2.1]
/-- an object that is not owned -/
def At (ow : Addr → Prop) (H : Hp) (p : Addr) (o : HO) : Prop := H p = some o ∧ ¬ ow p
theorem At.keep {ow ow' : Addr → Prop} {H H' : Hp} {p : Addr} {o : HO} (h : At ow H p o) (k : Keep ow ow' H H') : At ow' H' p o := k p o h.2 h.1
theorem At.same {ow : Addr → Prop} {H H' : Hp} {p : Addr} {o : HO} (h : At ow H p o) (s : Same H H') : At ow H' p o := ⟨s _ _ h.1, h.2⟩
theorem At.put {ow : Addr → Prop} {H : Hp} {p q : Addr} {o u v : HO} (h : At ow H p o) (hq : H q = some u) (ne : o ≠ u) : At ow (upd H q v) p o := ⟨by rw [upd_ne (fun z => by have := h.1; rw [z, hq] at this; exact ne (Option.some.inj this).symm)]; exact h.1, h.2⟩
theorem Stay.same {av : List Addr} {ow ow' : Addr → Prop} {H H' H'' : Hp} (s : Stay av ow ow' H H') (k : Same H' H'') : Stay av ow ow' H H'' := fun c o h1 h2 h3 => ⟨k _ _ (s c o h1 h2 h3).1, (s c o h1 h2 h3).2⟩
theorem At.off {ow : Addr → Prop} {H : Hp} {p q : Addr} {o v : HO} (h : At ow H p o) (ne : p ≠ q) : At ow (upd H q v) p o := ⟨by rw [upd_ne ne]; exact h.1, h.2⟩
theorem Stay.weak {av av' : List Addr} {ow ow' : Addr → Prop} {H H' : Hp} (s : Stay av ow ow' H H') (h : ∀ y ∈ av, y ∈ av') : Stay av' ow ow' H H' := fun c o h1 h2 h3 => s c o h1 (fun z => h2 (h c z)) h3
section
variable {P : Program} {w : World} {K : PySem.W.Frag} {mg : Str → Option Value} {base : Heap} {CS CW : Addr}
abbrev st_Script___init__ : Stmt := (inClass (topS 32) 0)
abbrev nm_Script___init__ : List Str := ["self", "board", "memory", "orders", "program", "end", "said", "reads", "fetches", "walk", "deed", "source", "goal", "bell", "seen"]
theorem sc_Script___init__ : FnScope ["self", "board", "memory", "orders", "program", "end", "said", "reads", "fetches", "walk", "deed", "source", "goal", "bell", "seen"] ["self", "board"] (defScope st_Script___init__) := ⟨rfl, rfl, rfl, by decide +kernel, rfl, by decide +kernel, by decide +kernel⟩
def spSInit (CS : Addr) : Sp := fun vs H Q _ => ∃ (m dx : Addr) (v : V) (B : Brd), vs = [.ref m, v] ∧ H m = some (.ins CS dx []) ∧ Pd H v B.d ∧ BrdOk B ∧
  ∀ (H' : Hp), But [m] H H' → SCR H' CS m (scr B) → Q .non H'
set_option maxHeartbeats 0 in
theorem ok_sinit {f : Addr} {fd : FuncData} (F : Fun K "__init__" "Script.__init__" st_Script___init__ f fd) (c : SC' K CS) (cw : MCW K CW) (c_plain_run : Callee P w K mg base "plain_run" 4 1 spRun) (k_Walk : Maker P w K mg base "Walk" CW 2 (spWInit CW)) (m_steps_of : MCallee P w K mg base CW "steps_of" 5 (spStepsOf CW)) (m_steps_at_the_end : MCallee P w K mg base CW "steps_at_the_end" 4 (spStepsEnd CW))
    (z_list : mg "list" = none) (z_len : mg "len" = none) (z_zip : mg "zip" = none) : FnOk P w K mg base CX0 6 f fd ["self", "board"] (spSInit CS) := by
  refine F.ok sc_Script___init__ (fun vs H Q E h => ?_) (fun cdv A outer s H vs Q E hr h => ?_)
  · obtain ⟨m, dx, v, B, rfl, _⟩ := h
    rfl
  · obtain ⟨m, dx, v, B, rfl, hm0, hB, ok, q⟩ := h
    refine ⟨_, (pss_cons (ps_asg (pv 1) (pg_tup rfl (pgs_cons (pg_name (i := 2) sc_Script___init__.nd rfl (Or.inl rfl)) (pgs_cons (pg_name (i := 3) sc_Script___init__.nd rfl (Or.inl rfl)) (pgs_cons (pg_name (i := 4) sc_Script___init__.nd rfl (Or.inl rfl)) pgs_nil)))))
  (pss_cons (ps_asg (pe_cal c_plain_run hr (by first | decide | exact Nat.le_refl _) (pa_cons (pv 1) pa_nil)) (pg_tup rfl (pgs_cons (pg_name (i := 5) sc_Script___init__.nd rfl (Or.inl rfl)) (pgs_cons (pg_name (i := 6) sc_Script___init__.nd rfl (Or.inl rfl)) (pgs_cons (pg_name (i := 7) sc_Script___init__.nd rfl (Or.inl rfl)) (pgs_cons (pg_name (i := 8) sc_Script___init__.nd rfl (Or.inl rfl)) pgs_nil))))))
  (pss_cons (ps_set (i := 9) sc_Script___init__.nd rfl (Or.inl rfl) (pe_mkc k_Walk hr (by first | decide | exact Nat.le_refl _) (pa_cons (pv 1) (pa_cons (pv 7) pa_nil))))
  (pss_cons (ps_fld (pv 0) (pe_callTy call_list_of (by rfl) z_list (by decide +kernel) (pa_cons (pv 2) pa_nil)) rfl)
  (pss_cons (ps_fld (pv 0) (pv 5) rfl)
  (pss_cons (ps_fld (pv 0) (pe_lc (own := [("deed", 10)]) rfl sc_Script___init__.nd (pi_lt (pv 4)) (blkOk_by (own := [("deed", 10)]) (N := nm_Script___init__) (sc := defScope (inClass (topS 32) 0)) (by decide +kernel)) (fun _ _ _ _ _ => (pg_name (i := 10) sc_Script___init__.nd rfl (Or.inl rfl))) (fun _ _ _ _ _ => pts_nil) (fun _ _ _ _ _ => (pe_cmpR op_eq (pe_ix (ix_ltk K) (pv 10) pe_int (fun _ _ => rfl)) pe_str (nomark _)))) rfl)
  (pss_cons (ps_fld (pv 0) (pe_lst pa_nil) rfl)
  (pss_cons (ps_fld (pv 0) (pe_lst pa_nil) rfl)
  (pss_cons (ps_for PassesOwn.never rfl (pi_lt (pv 4)) (pg_name (i := 10) sc_Script___init__.nd rfl (Or.inl rfl))
  (pss_cons (ps_expr (pe_bm PySem.F.plainAttrs_list PySem.F.slot_list_append PySem.F.type_list_append mt_append (pe_fld (pv 0) rfl) (pa_cons (pe_mcal m_steps_of hr (by first | decide | exact Nat.le_refl _) (pv 9) (pa_cons (pv 10) pa_nil)) pa_nil)))
  (pss_one (ps_expr (pe_bm PySem.F.plainAttrs_list PySem.F.slot_list_append PySem.F.type_list_append mt_append (pe_fld (pv 0) rfl) (pa_cons (pe_callB call_len_seq (by rfl) z_len (by decide +kernel) (pa_cons (pe_fld (pv 9) rfl) pa_nil)) pa_nil))))))
  (pss_cons (ps_fld (pv 0) (pe_mcal0 m_steps_at_the_end hr (by first | decide | exact Nat.le_refl _) (pv 9)) rfl)
  (pss_one (ps_fld (pv 0) (pe_lc (own := [("source", 11), ("goal", 12), ("bell", 13), ("seen", 14)]) rfl sc_Script___init__.nd (pi_zip (by rfl) z_zip (pa_cons (pe_fld (pv 9) rfl) (pa_cons (pv 8) pa_nil))) (blkOk_by (own := [("source", 11), ("goal", 12), ("bell", 13), ("seen", 14)]) (N := nm_Script___init__) (sc := defScope (inClass (topS 32) 0)) (by decide +kernel)) (fun _ _ _ _ _ => (pg_tupk K (n := 2) rfl (pgs_cons (pg_tupk K (n := 3) rfl (pgs_cons (pg_name (i := 11) sc_Script___init__.nd rfl (Or.inl rfl)) (pgs_cons (pg_name (i := 12) sc_Script___init__.nd rfl (Or.inl rfl)) (pgs_cons (pg_name (i := 13) sc_Script___init__.nd rfl (Or.inl rfl)) pgs_nil)))) (pgs_cons (pg_name (i := 14) sc_Script___init__.nd rfl (Or.inl rfl)) pgs_nil)))) (fun _ _ _ _ _ => pts_nil) (fun _ _ _ _ _ => (pe_tup (pa_cons (pv 11) (pa_cons (pv 12) (pa_cons (pe_ix (ix_ltk K) (pv 14) pe_int (fun _ _ => rfl)) pa_nil)))))) rfl)))))))))))), ?_⟩
    obtain ⟨a, mm, o, p, os, ps, rfl, ha, hmm, ho, hos, hp, hps⟩ := Brd.of hB
    refine ⟨_, rfl, a, _, rfl, sqT_t ha, rfl, _, _, rfl, _, _, rfl, _, _, rfl, rfl, ?_⟩
    refine ⟨_, rfl, .ref a, B, rfl, hB, ok, fun H1 t em sd rd fe s1 nem nsd nrd nfe ap ht hh => ?_⟩
    refine ⟨t, _, rfl, sqT_t ht, rfl, _, _, rfl, _, _, rfl, _, _, rfl, _, _, rfl, rfl, ?_⟩
    obtain ⟨rxs, hrd, hrx⟩ := hh.reads
    obtain ⟨fxs, hfe, hfx⟩ := hh.fet
    refine ⟨_, rfl, _, rfl, fun wk wx nwk nwx dwx => ?_⟩
    have sA : Same H1 (upd (upd H1 wx (.own wk)) wk (.ins CW wx [])) := fun b o e => by rw [upd_ne (ne_of_none e nwk), upd_ne (ne_of_none e nwx)]; exact e
    refine ⟨wk, wx, .ref a, B, rd, (plain B).reads, rxs, rfl, upd_same, by rw [upd_ne dwx, upd_same], (hB.same s1).same sA, ok, sA _ _ hrd, hrx.same sA, fun H2 ow A2 hM2 hex2 hPB2 hdue2 k2 => ⟨rfl, ?_⟩⟩
    -- what stood, stands and is not owned
    have K2 : ∀ y u, H1 y = some u → H2 y = some u ∧ ¬ ow y := fun y u e => k2 y u (ne_of_none e nwk) (ne_of_none e nwx) (sA _ _ e)
    have st2 : Stay [m] (fun _ => False) ow H1 H2 := fun y u _ _ e => K2 y u e
    have w2 : WS B CW CS wk rd m dx ow H2 A2 (walkTo B 0) [] := ⟨hM2, hex2, hdue2, hPB2, (K2 _ _ (s1 _ _ hm0)).1, (K2 _ _ (s1 _ _ hm0)).2⟩
    have eM : (walkTo B 0) = ⟨Mst.begin B [], 0⟩ := rfl
    refine ⟨_, rfl, mm, _, rfl, .inr (sqT_t (K2 _ _ (s1 _ _ hmm)).1), fun L0 nL0 => ?_⟩
    have s3 := same_new (o := .lst (B.mem.map nV)) nL0
    have w3 := w2.same s3
    have st3 := st2.same s3
    have a3 : At ow (upd H2 L0 (.lst (B.mem.map nV))) L0 (.lst (B.mem.map nV)) := ⟨upd_same, hM2.fresh nL0⟩
    generalize upd H2 L0 (.lst (B.mem.map nV)) = H3 at w3 st3 a3
    refine ⟨_, rfl, m, CS, dx, _, rfl, w3.at_, c.cl, c.n _ (by decide), by show 0 < 1000; decide, ?_⟩
    have w4 : WS B CW CS wk rd m dx ow (upd H3 m (.ins CS dx (putF "first" (V.ref L0) []))) A2 (walkTo B 0) [("first", V.ref L0)] := w3.set
    have st4 : Stay [m] (fun _ => False) ow H1 (upd H3 m (.ins CS dx (putF "first" (V.ref L0) []))) := st3.set (by simp)
    have a4 := a3.put (q := m) (v := .ins CS dx (putF "first" (V.ref L0) [])) w3.at_ (by intro z; cases z)
    generalize upd H3 m (.ins CS dx (putF "first" (V.ref L0) [])) = H4 at *
    refine ⟨_, rfl, ?_⟩
    refine ⟨_, rfl, m, CS, dx, _, rfl, w4.at_, c.cl, c.n _ (by decide), by show 1 < 1000; decide, ?_⟩
    have w5 : WS B CW CS wk rd m dx ow (upd H4 m (.ins CS dx (putF "last" (V.ref em) [("first", V.ref L0)]))) A2 (walkTo B 0) [("first", V.ref L0), ("last", V.ref em)] := w4.set
    have st5 : Stay [m] (fun _ => False) ow H1 (upd H4 m (.ins CS dx (putF "last" (V.ref em) [("first", V.ref L0)]))) := st4.set (by simp)
    have a5 := a4.put (q := m) (v := .ins CS dx (putF "last" (V.ref em) [("first", V.ref L0)])) w4.at_ (by intro z; cases z)
    generalize upd H4 m (.ins CS dx (putF "last" (V.ref em) [("first", V.ref L0)])) = H5 at *
    have hp5 : H5 p = some (.tup ps) := (st5 p _ (by simp) (by simp only [List.mem_singleton]; exact fun z => by have := s1 _ _ hp; rw [z, s1 _ _ hm0] at this; cases this) (s1 _ _ hp)).1
    have tt5 : ∀ y us, H y = some (.tup us) → H5 y = some (.tup us) := fun y us e => (st5 y _ (by simp) (by simp only [List.mem_singleton]; exact fun z => by have := s1 _ _ e; rw [z, s1 _ _ hm0] at this; cases this) (s1 _ _ e)).1
    have hps5 : Pds H5 ps (B.prog.map Deed.d) := Pds.tups tt5 (noLs_map noL_deed _) hps
    have pl : ps.length = B.prog.length := by rw [hps.len, List.length_map]
    have p60 := ok.sixty
    refine ⟨_, rfl, p, rfl, .inr ⟨ps, sqT_t hp5, fun Lw nLw => ?_⟩⟩
    refine lc_it (walk_tup (xs := ps)) (fun j H' => H' Lw = some (.lst ((B.prog.take j).map fun d => V.bl (isWait d))) ∧ Same H5 H' ∧ H5 Lw = none)
      ⟨upd_same, same_new nLw, nLw⟩ (fun j H' _ hp' => sqT_t (hp'.2.1 _ _ hp5)) (fun j x Ha Hb hj hp' hy => ?_) (fun H6 hp' => ?_)
    · obtain ⟨hL, sm, nL⟩ := hp'
      obtain ⟨rfl, hx⟩ := hy
      obtain ⟨dd, hdd, hpd⟩ := (hps5.same sm).get' hx
      rw [List.getElem?_map] at hdd
      obtain ⟨d, hd, rfl⟩ : ∃ r, B.prog[j]? = some r ∧ r.d = dd := by simpa using hdd
      obtain ⟨da, rfl, hda⟩ := Deed.of hpd
      have ll : ((B.prog.take j).map fun d => V.bl (isWait d)).length < sizeLine := by
        rw [List.length_map, List.length_take]
        exact Nat.lt_of_le_of_lt (Nat.le_trans (Nat.min_le_right _ _) p60) (by decide)
      have e0 : atI d.vs 0 = some (.str d.word) := atI_nat (xs := d.vs) (j := 0) (by unfold Deed.vs; rfl)
      refine ⟨rfl, _, rfl, da, _, 0, .str d.word, rfl, rfl, sqA_t hda, e0, rfl, ⟨_, hL, ll, ?_⟩⟩
      have ew : decide (V.str d.word = V.str "wait") = isWait d := by
        rw [dec_str]
        cases d <;> first | rfl | (exact decide_eq_false (by decide)) | exact decide_eq_true rfl
      refine ⟨?_, fun y u e => by rw [upd_ne (ne_of_none e nL)]; exact sm _ _ e, nL⟩
      rw [ew, List.take_add_one, hd, Option.toList_some, List.map_append]
      exact upd_same
    · obtain ⟨hLw, sm, nL⟩ := hp'
      rw [pl, List.take_length] at hLw
      have w6 := w5.same sm
      have st6 := st5.same sm
      have a6 := a5.same sm
      have b6 : At ow H6 Lw (.lst (B.prog.map fun d => V.bl (isWait d))) := ⟨hLw, w5.pm.fresh nL⟩
      refine ⟨_, rfl, m, CS, dx, _, rfl, w6.at_, c.cl, c.n _ (by decide), by show 2 < 1000; decide, ?_⟩
      have w7 : WS B CW CS wk rd m dx ow (upd H6 m (.ins CS dx (putF "waits" (V.ref Lw) [("first", V.ref L0), ("last", V.ref em)]))) A2 (walkTo B 0) [("first", V.ref L0), ("last", V.ref em), ("waits", V.ref Lw)] := w6.set
      have st7 : Stay [m] (fun _ => False) ow H1 (upd H6 m (.ins CS dx (putF "waits" (V.ref Lw) [("first", V.ref L0), ("last", V.ref em)]))) := st6.set (by simp)
      have a7 := a6.put (q := m) (v := .ins CS dx (putF "waits" (V.ref Lw) [("first", V.ref L0), ("last", V.ref em)])) w6.at_ (by intro z; cases z)
      have b7 := b6.put (q := m) (v := .ins CS dx (putF "waits" (V.ref Lw) [("first", V.ref L0), ("last", V.ref em)])) w6.at_ (by intro z; cases z)
      generalize upd H6 m (.ins CS dx (putF "waits" (V.ref Lw) [("first", V.ref L0), ("last", V.ref em)])) = H7 at w7 st7 a7 b7
      refine ⟨Nat.zero_le _, fun L1 nL1 => ?_⟩
      have s8 := same_new (o := .lst []) nL1
      have w8 := w7.same s8
      have st8 := st7.same s8
      have a8 := a7.same s8
      have b8 := b7.same s8
      have c8 : At ow (upd H7 L1 (.lst [])) L1 (.lst []) := ⟨upd_same, w7.pm.fresh nL1⟩
      have L1rd : L1 ≠ rd := fun z => by
        obtain ⟨xs, e, _⟩ := w7.due.ex
        rw [← z, nL1] at e; cases e
      have L1m : L1 ≠ m := fun z => by have := w7.at_; rw [← z, nL1] at this; cases this
      have L1a : ∀ y u, H7 y = some u → y ≠ L1 := fun y u e z => by rw [z, nL1] at e; cases e
      generalize upd H7 L1 (.lst []) = H8 at w8 st8 a8 b8 c8
      refine ⟨_, rfl, m, CS, dx, _, rfl, w8.at_, c.cl, c.n _ (by decide), by show 3 < 1000; decide, ?_⟩
      have w9 : WS B CW CS wk rd m dx ow (upd H8 m (.ins CS dx (putF "deeds" (V.ref L1) [("first", V.ref L0), ("last", V.ref em), ("waits", V.ref Lw)]))) A2 (walkTo B 0) [("first", V.ref L0), ("last", V.ref em), ("waits", V.ref Lw), ("deeds", V.ref L1)] := w8.set
      have st9 : Stay [m] (fun _ => False) ow H1 (upd H8 m (.ins CS dx (putF "deeds" (V.ref L1) [("first", V.ref L0), ("last", V.ref em), ("waits", V.ref Lw)]))) := st8.set (by simp)
      have L0m : L0 ≠ m := fun z => by have := a8.1; rw [z, w8.at_] at this; cases this
      have Lwm : Lw ≠ m := fun z => by have := b8.1; rw [z, w8.at_] at this; cases this
      have a9 := a8.off (v := .ins CS dx (putF "deeds" (V.ref L1) [("first", V.ref L0), ("last", V.ref em), ("waits", V.ref Lw)])) L0m
      have b9 := b8.off (v := .ins CS dx (putF "deeds" (V.ref L1) [("first", V.ref L0), ("last", V.ref em), ("waits", V.ref Lw)])) Lwm
      have c9 := c8.off (v := .ins CS dx (putF "deeds" (V.ref L1) [("first", V.ref L0), ("last", V.ref em), ("waits", V.ref Lw)])) L1m
      generalize upd H8 m (.ins CS dx (putF "deeds" (V.ref L1) [("first", V.ref L0), ("last", V.ref em), ("waits", V.ref Lw)])) = H9 at w9 st9 a9 b9 c9
      refine ⟨Nat.zero_le _, fun L2 nL2 => ?_⟩
      have s10 := same_new (o := .lst []) nL2
      have w10 := w9.same s10
      have st10 := st9.same s10
      have a10 := a9.same s10
      have b10 := b9.same s10
      have c10 := c9.same s10
      have d10 : At ow (upd H9 L2 (.lst [])) L2 (.lst []) := ⟨upd_same, w9.pm.fresh nL2⟩
      have L2a : ∀ y u, H9 y = some u → y ≠ L2 := fun y u e z => by rw [z, nL2] at e; cases e
      have L2rd : L2 ≠ rd := fun z => by
        obtain ⟨xs, e, _⟩ := w9.due.ex
        exact L2a _ _ e z.symm
      have L2m : L2 ≠ m := fun z => L2a _ _ w9.at_ z.symm
      have L12 : L1 ≠ L2 := L2a _ _ c9.1
      have L02 : L0 ≠ L2 := L2a _ _ a9.1
      have Lw2 : Lw ≠ L2 := L2a _ _ b9.1
      have L01 : L0 ≠ L1 := L1a _ _ a7.1
      have Lw1 : Lw ≠ L1 := L1a _ _ b7.1
      have old : ∀ y u, H1 y = some u → y ≠ m → y ∉ [m, L1, L2] := fun y u e ne z => by
        simp only [List.mem_cons, List.not_mem_nil, or_false] at z
        rcases z with z | z | z
        · exact ne z
        · exact L1a _ _ (st7 y u (by simp) (by simp [ne]) e).1 z
        · exact L2a _ _ (st9 y u (by simp) (by simp [ne]) e).1 z
      generalize upd H9 L2 (.lst []) = H10 at w10 st10 a10 b10 c10 d10
      refine ⟨_, rfl, m, CS, dx, _, rfl, w10.at_, c.cl, c.n _ (by decide), by show 4 < 1000; decide, ?_⟩
      have w11 : WS B CW CS wk rd m dx ow (upd H10 m (.ins CS dx (putF "told" (V.ref L2) [("first", V.ref L0), ("last", V.ref em), ("waits", V.ref Lw), ("deeds", V.ref L1)]))) A2 (walkTo B 0) [("first", V.ref L0), ("last", V.ref em), ("waits", V.ref Lw), ("deeds", V.ref L1), ("told", V.ref L2)] := w10.set
      have st11 : Stay [m, L1, L2] (fun _ => False) ow H1 (upd H10 m (.ins CS dx (putF "told" (V.ref L2) [("first", V.ref L0), ("last", V.ref em), ("waits", V.ref Lw), ("deeds", V.ref L1)]))) := (st10.set (by simp)).weak (fun y hy => by simp [List.mem_singleton.mp hy])
      have a11 := a10.off (v := .ins CS dx (putF "told" (V.ref L2) [("first", V.ref L0), ("last", V.ref em), ("waits", V.ref Lw), ("deeds", V.ref L1)])) L0m
      have b11 := b10.off (v := .ins CS dx (putF "told" (V.ref L2) [("first", V.ref L0), ("last", V.ref em), ("waits", V.ref Lw), ("deeds", V.ref L1)])) Lwm
      have c11 := c10.off (v := .ins CS dx (putF "told" (V.ref L2) [("first", V.ref L0), ("last", V.ref em), ("waits", V.ref Lw), ("deeds", V.ref L1)])) L1m
      have d11 := d10.off (v := .ins CS dx (putF "told" (V.ref L2) [("first", V.ref L0), ("last", V.ref em), ("waits", V.ref Lw), ("deeds", V.ref L1)])) L2m
      generalize upd H10 m (.ins CS dx (putF "told" (V.ref L2) [("first", V.ref L0), ("last", V.ref em), ("waits", V.ref Lw), ("deeds", V.ref L1)])) = H11 at w11 st11 a11 b11 c11 d11
      have hpP : p ≠ m := fun z => by have := s1 _ _ hp; rw [z, s1 _ _ hm0] at this; cases this
      have hp11 : ∀ (ow' : Addr → Prop) (Hx : Hp), Stay [m, L1, L2] (fun _ => False) ow' H1 Hx → Hx p = some (.tup ps) := fun ow' Hx st => (st p _ (by simp) (old p _ (s1 _ _ hp) hpP) (s1 _ _ hp)).1
      have tt11 : ∀ (ow' : Addr → Prop) (Hx : Hp), Stay [m, L1, L2] (fun _ => False) ow' H1 Hx → ∀ y us, H y = some (.tup us) → Hx y = some (.tup us) := fun ow' Hx st y us e => (st y _ (by simp) (old y _ (s1 _ _ e) (fun z => by rw [z, hm0] at e; cases e)) (s1 _ _ e)).1
      refine ⟨_, rfl, p, rfl, .inr ⟨ps, sqT_t (hp11 _ _ st11), ?_⟩⟩
      refine for_it (walk_tup (xs := ps)) (fun i σ H' => ∃ (y10 y11 y12 y13 y14 : Option V) (ow' : Addr → Prop) (A' : PA) (xs : List V), σ = [some (.ref m), some (.ref a), some (.ref mm), some (.ref o), some (.ref p), some (.ref em), some (.ref sd), some (.ref rd), some (.ref fe), some (.ref wk), y10, y11, y12, y13, y14] ∧
          WS B CW CS wk rd m dx ow' H' A' (walkTo B i) [("first", V.ref L0), ("last", V.ref em), ("waits", V.ref Lw), ("deeds", V.ref L1), ("told", V.ref L2)] ∧ Stay [m, L1, L2] (fun _ => False) ow' H1 H' ∧ At ow' H' L0 (.lst (B.mem.map nV)) ∧ At ow' H' Lw (.lst (B.prog.map fun d => V.bl (isWait d))) ∧ At ow' H' L1 (.lst xs) ∧ LQ ow' H' [m, L1, L2] xs ((List.range i).map fun k => (stepsFrom (walkTo B (k + 1)).M.rows (walkTo B k).M.rows.length).map stpD) ∧
          At ow' H' L2 (.lst ((List.range i).map fun k => nV (walkTo B (k + 1)).M.left.length)))
        ⟨_, _, _, _, _, ow, A2, [], rfl, w11, st11, a11, b11, c11, .nil, d11⟩ (fun i σ H' _ hp => by obtain ⟨_, _, _, _, _, _, _, _, _, _, st, _⟩ := hp; exact sqT_t (hp11 _ _ st)) (fun i x σ Ha Hb hi hp' hy => ?_) (fun σ Ha hp' => ?_)
      · obtain ⟨y10, y11, y12, y13, y14, ow3, A3, xs, rfl, w12, st12, a12, b12, c12, lq12, d12⟩ := hp'
        obtain ⟨rfl, hx⟩ := hy
        obtain ⟨dd, hdd, hpd⟩ := (Pds.tups (tt11 _ _ st12) (noLs_map noL_deed _) hps).get' hx
        rw [List.getElem?_map] at hdd
        obtain ⟨d, hd, rfl⟩ : ∃ r, B.prog[i]? = some r ∧ r.d = dd := by simpa using hdd
        obtain ⟨da, rfl, hda⟩ := Deed.of hpd
        have hi60 : i < B.prog.length := (List.getElem?_eq_some_iff.mp hd).1
        have wko := wk_ok ok (i := i) (by omega)
        have dok := ok.prog d (List.mem_of_getElem? hd)
        refine ⟨_, rfl, m, CS, _, _, _, rfl, w12.at_, c.cl, c.n _ (by decide), rfl, .inl ⟨rfl, _, sqL_l c12.1⟩, ?_⟩
        refine ⟨_, rfl, wk, _, _, rfl, w12.pm.obj, fsM_no (by decide), _, rfl, ow3, wk, da, walkTo B i, A3, B, d, rd, _, rfl, w12.pm, w12.ex, w12.due, w12.pb, ok, wko.mok, hda, dok, by rw [wko.rd]; exact due_room hd, by have := wko.rows; omega, by have := wko.left; omega, fun H13 ow4 A4 p4 xs4 pm4 k4 eo4 ev4 ex4 fr4 no4 hp4 hxs4 => ?_⟩
        have w13 : WS B CW CS wk rd m dx ow4 H13 A4 (walkTo B (i + 1)) [("first", V.ref L0), ("last", V.ref em), ("waits", V.ref Lw), ("deeds", V.ref L1), ("told", V.ref L2)] := by
          rw [walkTo_succ hd]
          exact ⟨pm4, ex4, w12.due.keep w12.pm k4, w12.pb.keepV w12.pm k4 eo4 ev4, (k4 m _ w12.no w12.at_).1, (k4 m _ w12.no w12.at_).2⟩
        have hxs5 : Pds H13 xs4 ((stepsFrom (walkTo B (i + 1)).M.rows (walkTo B i).M.rows.length).map stpD) := by rw [walkTo_succ hd]; exact hxs4
        have st13 := st12.keep k4
        have a13 := a12.keep k4
        have b13 := b12.keep k4
        have c13 := c12.keep k4
        have d13 := d12.keep k4
        have lq13 := lq12.keep (fun c xs e => w12.pm.notTup e) k4
        have pav : p4 ∉ [m, L1, L2] := fun z => by
          simp only [List.mem_cons, List.not_mem_nil, or_false] at z
          rcases z with z | z | z
          · exact fr4 m _ w12.no w12.at_ z.symm
          · exact fr4 L1 _ c12.2 c12.1 z.symm
          · exact fr4 L2 _ d12.2 d12.1 z.symm
        have xl : xs.length ≤ 60 := by rw [lq13.len, List.length_map, List.length_range]; omega
        refine ⟨L1, _, _, rfl, rfl, c13.1, big (by omega), ?_⟩
        have w14 := w13.list (ys := xs ++ [.ref p4]) c13.1 c13.2 L1rd
        have st14 : Stay [m, L1, L2] (fun _ => False) ow4 H1 (upd H13 L1 (.lst (xs ++ [.ref p4]))) := st13.set (by simp)
        have a14 := a13.off (v := .lst (xs ++ [.ref p4])) L01
        have b14 := b13.off (v := .lst (xs ++ [.ref p4])) Lw1
        have c14 : At ow4 (upd H13 L1 (.lst (xs ++ [.ref p4]))) L1 (.lst (xs ++ [.ref p4])) := ⟨upd_same, c13.2⟩
        have d14 := d13.off (v := .lst (xs ++ [.ref p4])) L12.symm
        have p4L : p4 ≠ L1 := fun z => pav (by simp [z])
        have lq14 : LQ ow4 (upd H13 L1 (.lst (xs ++ [.ref p4]))) [m, L1, L2] (xs ++ [.ref p4]) (((List.range i).map fun k => (stepsFrom (walkTo B (k + 1)).M.rows (walkTo B k).M.rows.length).map stpD) ++ [(stepsFrom (walkTo B (i + 1)).M.rows (walkTo B i).M.rows.length).map stpD]) :=
          LQ.snoc pav no4 (by rw [upd_ne p4L]; exact hp4) (Pds.tups (fun y us e => by rw [upd_ne (fun z => by rw [z, c13.1] at e; cases e)]; exact e) (noLs_map noL_stp _) hxs5) (noLs_map noL_stp _) (lq13.set (by simp) c13.1 (fun xs z => by cases z))
        generalize upd H13 L1 (.lst (xs ++ [.ref p4])) = H14 at w14 st14 a14 b14 c14 d14 lq14
        have ll : A4.ls.length = (walkTo B (i + 1)).M.left.length := by have := w14.pm.leftD.len; rw [List.length_map] at this; exact this
        refine ⟨_, rfl, m, CS, _, _, _, rfl, w14.at_, c.cl, c.n _ (by decide), rfl, .inl ⟨rfl, _, sqL_l d14.1⟩, ?_⟩
        refine ⟨_, rfl, wk, CW, _, _, _, rfl, w14.pm.obj, cw.cl, cw.n _ (by decide), rfl, A4.left, _, rfl, .inl (sqL_l w14.pm.left), ?_⟩
        rw [ll]
        refine ⟨L2, _, _, rfl, rfl, d14.1, by rw [List.length_map, List.length_range]; exact big (by omega), ?_⟩
        have en : (List.range i).map (fun k => nV (walkTo B (k + 1)).M.left.length) ++ [V.int ((walkTo B (i + 1)).M.left.length : Int)] = (List.range (i + 1)).map fun k => nV (walkTo B (k + 1)).M.left.length := by rw [List.range_succ, List.map_append]; rfl
        rw [en]
        have w15 := w14.list (ys := (List.range (i + 1)).map fun k => nV (walkTo B (k + 1)).M.left.length) d14.1 d14.2 L2rd
        refine ⟨_, _, _, _, _, ow4, A4, xs ++ [.ref p4], rfl, w15, st14.set (by simp), a14.off L02, b14.off Lw2, c14.off L12, ?_, upd_same, d14.2⟩
        have e2 : (List.range (i + 1)).map (fun k => (stepsFrom (walkTo B (k + 1)).M.rows (walkTo B k).M.rows.length).map stpD) = ((List.range i).map fun k => (stepsFrom (walkTo B (k + 1)).M.rows (walkTo B k).M.rows.length).map stpD) ++ [(stepsFrom (walkTo B (i + 1)).M.rows (walkTo B i).M.rows.length).map stpD] := by rw [List.range_succ, List.map_append]; rfl
        rw [e2]
        exact lq14.set (by simp) d14.1 (fun xs z => by cases z)
      · obtain ⟨y10, y11, y12, y13, y14, ow3, A3, xs, rfl, w12, st12, a12, b12, c12, lq12, d12⟩ := hp'
        rw [pl] at w12 lq12 d12
        have wko := wk_ok ok (i := B.prog.length) (Nat.le_refl _)
        refine ⟨_, rfl, wk, _, _, rfl, w12.pm.obj, fsM_no (by decide), ow3, wk, _, _, A3, B.mem.length, rfl, w12.pm, wko.mok, by have := wko.rows; omega, fun H13 ow4 A4 p4 xs4 pm4 k4 eo4 ep4 fr4 no4 hp4 hxs4 => ?_⟩
        have st13 := st12.keep k4
        have a13 := a12.keep k4
        have b13 := b12.keep k4
        have c13 := c12.keep k4
        have d13 := d12.keep k4
        have lq13 := lq12.keep (fun c xs e => w12.pm.notTup e) k4
        have mat := k4 m _ w12.no w12.at_
        refine ⟨_, rfl, m, CS, dx, _, rfl, mat.1, c.cl, c.n _ (by decide), by show 5 < 1000; decide, ?_⟩
        have tl14 : TL H13 (upd H13 m (.ins CS dx (putF "end" (V.ref p4) [("first", V.ref L0), ("last", V.ref em), ("waits", V.ref Lw), ("deeds", V.ref L1), ("told", V.ref L2)]))) := TL.set mat.1 (fun xs z => by cases z) (fun xs z => by cases z)
        have m14 : (upd H13 m (.ins CS dx (putF "end" (V.ref p4) [("first", V.ref L0), ("last", V.ref em), ("waits", V.ref Lw), ("deeds", V.ref L1), ("told", V.ref L2)]))) m = some (.ins CS dx [("first", V.ref L0), ("last", V.ref em), ("waits", V.ref Lw), ("deeds", V.ref L1), ("told", V.ref L2), ("end", V.ref p4)]) := upd_same
        have pm14 : PM ow4 (upd H13 m (.ins CS dx (putF "end" (V.ref p4) [("first", V.ref L0), ("last", V.ref em), ("waits", V.ref Lw), ("deeds", V.ref L1), ("told", V.ref L2)]))) CW wk _ _ A4 := pm4.out (fun y hy => upd_ne (fun z => mat.2 (by rw [← z]; exact hy))) tl14.t
        have st14 : Stay [m, L1, L2] (fun _ => False) ow4 H1 (upd H13 m (.ins CS dx (putF "end" (V.ref p4) [("first", V.ref L0), ("last", V.ref em), ("waits", V.ref Lw), ("deeds", V.ref L1), ("told", V.ref L2)]))) := st13.set (by simp)
        have q1 : Pd (upd H13 m (.ins CS dx (putF "end" (V.ref p4) [("first", V.ref L0), ("last", V.ref em), ("waits", V.ref Lw), ("deeds", V.ref L1), ("told", V.ref L2)]))) (.ref L0) (.lst (B.mem.map nD)) := .lst (tl14.l _ _ a13.1) (pds_ns _)
        have q3 : Pd (upd H13 m (.ins CS dx (putF "end" (V.ref p4) [("first", V.ref L0), ("last", V.ref em), ("waits", V.ref Lw), ("deeds", V.ref L1), ("told", V.ref L2)]))) (.ref Lw) (.lst ((B.prog.map isWait).map D.bl)) := .lst (tl14.l _ _ b13.1) (by have := pds_bls (H := upd H13 m (.ins CS dx (putF "end" (V.ref p4) [("first", V.ref L0), ("last", V.ref em), ("waits", V.ref Lw), ("deeds", V.ref L1), ("told", V.ref L2)]))) (B.prog.map isWait); rw [List.map_map] at this; exact this)
        have q4 : Pd (upd H13 m (.ins CS dx (putF "end" (V.ref p4) [("first", V.ref L0), ("last", V.ref em), ("waits", V.ref Lw), ("deeds", V.ref L1), ("told", V.ref L2)]))) (.ref L1) (.lst ((scr B).deeds.map fun s => .lst (s.map stpD))) := .lst (tl14.l _ _ c13.1) (by
          have := Pds.tl tl14 lq13.pds
          rw [List.map_map] at this
          show Pds _ _ (((List.range B.prog.length).map fun i => stepsFrom (walkTo B (i + 1)).M.rows (walkTo B i).M.rows.length).map fun s => D.lst (s.map stpD))
          rw [List.map_map]; exact this)
        have q5 : Pd (upd H13 m (.ins CS dx (putF "end" (V.ref p4) [("first", V.ref L0), ("last", V.ref em), ("waits", V.ref Lw), ("deeds", V.ref L1), ("told", V.ref L2)]))) (.ref L2) (.lst ((scr B).told.map nD)) := .lst (tl14.l _ _ d13.1) (by
          have := pds_ns (H := upd H13 m (.ins CS dx (putF "end" (V.ref p4) [("first", V.ref L0), ("last", V.ref em), ("waits", V.ref Lw), ("deeds", V.ref L1), ("told", V.ref L2)]))) (scr B).told
          have e : (scr B).told.map nV = (List.range B.prog.length).map fun k => nV (walkTo B (k + 1)).M.left.length := by
            show ((List.range B.prog.length).map fun i => (walkTo B (i + 1)).M.left.length).map nV = _
            rw [List.map_map]; rfl
          rw [e] at this; exact this)
        have q6 : Pd (upd H13 m (.ins CS dx (putF "end" (V.ref p4) [("first", V.ref L0), ("last", V.ref em), ("waits", V.ref Lw), ("deeds", V.ref L1), ("told", V.ref L2)]))) (.ref p4) (.lst ((scr B).fin.map stpD)) := .lst (tl14.l _ _ hp4) (Pds.tl tl14 hxs4)
        generalize upd H13 m (.ins CS dx (putF "end" (V.ref p4) [("first", V.ref L0), ("last", V.ref em), ("waits", V.ref Lw), ("deeds", V.ref L1), ("told", V.ref L2)])) = H14 at tl14 m14 pm14 st14 q1 q3 q4 q5 q6
        have hfe14 : H14 fe = some (.lst fxs) := by
          have g := st13 fe _ (by simp) (old fe _ hfe (fun z => by rw [z, s1 _ _ hm0] at hfe; cases hfe)) hfe
          exact tl14.l _ _ g.1
        have nfm : fe ≠ m := fun z => by rw [z, s1 _ _ hm0] at hfe; cases hfe
        have tH1 : ∀ y us, H1 y = some (.tup us) → H14 y = some (.tup us) := fun y us e => tl14.t _ _ (st13 y _ (by simp) (old y _ e (fun z => by rw [z, s1 _ _ hm0] at e; cases e)) e).1
        have hfx14 : Pds H14 fxs ((plain B).fet.map rdD) := Pds.tups tH1 (noLs_map noL_rd _) hfx
        have fl : fxs.length = (plain B).fet.length := by rw [hfx.len, List.length_map]
        have ll : A4.ls.length = (walkTo B B.prog.length).M.left.length := by
          have := pm4.leftD.len
          rw [List.length_map] at this
          rw [this]
          show (walkTo B B.prog.length).M.finish.left.length = _
          rw [finish_left]
        refine ⟨_, rfl, wk, CW, _, _, _, rfl, pm14.obj, cw.cl, cw.n _ (by decide), rfl, _, rfl, ?_⟩
        have hls14 : Pds H14 A4.ls ((walkTo B B.prog.length).M.left.map Mv.d) := by
          have := pm14.leftD
          rw [finish_left] at this; exact this
        refine ⟨A4.left, fe, A4.ls, fxs, rfl, sqL_l pm14.left, sqL_l hfe14, fun Lm nLm => ?_⟩
        have zl : min A4.ls.length fxs.length = (walkTo B B.prog.length).M.left.length := by rw [ll, fl, fet_len, Nat.min_self]
        refine lc_it (walk_zip (xs := A4.ls) (ys := fxs) rfl) (fun j H' => ∃ xs, H' Lm = some (.lst xs) ∧ Pds H' xs (((scr B).moves.take j).map mvD) ∧ Same H14 H' ∧ H14 Lm = none)
          ⟨[], upd_same, .nil, same_new nLm, nLm⟩ (fun j H' _ hp' => by obtain ⟨_, _, _, s, _⟩ := hp'; exact ⟨sqL_l (s _ _ pm14.left), sqL_l (s _ _ hfe14)⟩) (fun j x Ha Hb hj hp' hy => ?_) (fun H15 hp' => ?_)
        · obtain ⟨xs, hL, hxs, sm, nL⟩ := hp'
          obtain ⟨T, u1, u2, rfl, nT, _, hu1, hu2, s6, hT⟩ := pair_at hy
          have hL6 := s6 _ _ hL
          have hxs6 := hxs.same s6
          have sm6 := sm.trans s6
          rw [zl] at hj
          have hmv : (walkTo B B.prog.length).M.left[j]? = some (walkTo B B.prog.length).M.left[j] := List.getElem?_eq_getElem hj
          generalize (walkTo B B.prog.length).M.left[j] = mv at hmv
          have hfj : j < (plain B).fet.length := by rw [fet_len]; exact hj
          have hft : (plain B).fet[j]? = some ((plain B).fet.getD j (0, 0)) := by rw [List.getD_eq_getElem?_getD, List.getElem?_eq_getElem hfj]; rfl
          obtain ⟨v1, g1, g2⟩ := (hls14.same sm6).get (i := j) (d := mv.d) (by rw [List.getElem?_map, hmv]; rfl)
          rw [hu1] at g1
          cases g1
          obtain ⟨v2, g3, g4⟩ := (hfx14.same sm6).get (i := j) (d := rdD ((plain B).fet.getD j (0, 0))) (by rw [List.getElem?_map, hft]; rfl)
          rw [hu2] at g3
          cases g3
          obtain ⟨ma, rfl, hma⟩ := Mv.of g2
          obtain ⟨fa, rfl, hfa⟩ : ∃ a, u2 = .ref a ∧ Hb a = some (.tup [nV ((plain B).fet.getD j (0, 0)).1, nV ((plain B).fet.getD j (0, 0)).2]) := by
            cases g4 with
            | tup h hs => cases hs with
              | cons a hs => cases a; cases hs with
                | cons b hs => cases b; cases hs; exact ⟨_, rfl, h⟩
          have hsm := moves_at hmv
          have xl : xs.length ≤ 2000 := by
            have := scr_moves_len ok
            rw [hxs.len, List.length_map, List.length_take]; omega
          refine ⟨T, _, rfl, sqT_t hT, rfl, _, _, rfl, ?_⟩
          refine ⟨ma, _, rfl, sqT_t hma, rfl, _, _, rfl, _, _, rfl, _, _, rfl, rfl, _, _, rfl, rfl, rfl, ?_⟩
          refine ⟨_, rfl, _, rfl, _, rfl, fa, _, 1, nV ((plain B).fet.getD j (0, 0)).2, rfl, rfl, sqA_t hfa, rfl, by show 3 ≤ sizeLine; decide, fun T2 nT2 => ?_⟩
          obtain ⟨g1, g2, g3⟩ := grow hL6 hxs6 (noLs_map noL_mvD _) nT2 (d := mvD (mv.src, mv.goal, ((plain B).fet.getD j (0, 0)).2)) (vs := [nV mv.src, nV mv.goal, nV ((plain B).fet.getD j (0, 0)).2]) (fun H a h => pd_mvD (m := (mv.src, mv.goal, ((plain B).fet.getD j (0, 0)).2)) h)
          refine ⟨xs, g1, big (by omega), xs ++ [.ref T2], upd_same, ?_, g3.new1 sm6 nL, nL⟩
          rw [List.take_add_one, hsm, Option.toList_some, List.map_append]
          exact g2
        · obtain ⟨xs, hL, hxs, sm, nL⟩ := hp'
          have e1 : (scr B).moves.take (min A4.ls.length fxs.length) = (scr B).moves := by
            rw [zl, List.take_of_length_le (by rw [moves_len]; exact Nat.le_refl _)]
          rw [e1] at hxs
          have m15 := sm _ _ m14
          refine ⟨_, rfl, m, CS, dx, _, rfl, m15, c.cl, c.n _ (by decide), by show 6 < 1000; decide, ?_⟩
          have tl16 : TL H15 (upd H15 m (.ins CS dx (putF "moves" (V.ref Lm) [("first", V.ref L0), ("last", V.ref em), ("waits", V.ref Lw), ("deeds", V.ref L1), ("told", V.ref L2), ("end", V.ref p4)]))) := TL.set m15 (fun xs z => by cases z) (fun xs z => by cases z)
          have em14 : Pd H14 (.ref em) (.lst ((plain B).mem.map nD)) := by
            have nem' : em ≠ m := fun z => by have := hh.mem; rw [z, s1 _ _ hm0] at this; cases this
            have g := st14 em _ (by simp) (old em _ hh.mem nem') hh.mem
            exact .lst g.1 (pds_ns _)
          refine q _ (fun y u hy e => ?_) ⟨dx, .ref L0, .ref em, .ref Lw, .ref L1, .ref L2, .ref p4, .ref Lm, upd_same, (q1.same sm).tl tl16, (em14.same sm).tl tl16, (q3.same sm).tl tl16, (q4.same sm).tl tl16, (q5.same sm).tl tl16, (q6.same sm).tl tl16, .lst (tl16.l _ _ hL) (Pds.tl tl16 hxs)⟩
          simp only [List.mem_singleton] at hy
          show (upd H15 m _) y = _
          rw [upd_ne hy]
          exact sm _ _ (st14 y _ (by simp) (old y _ (s1 _ _ e) hy) (s1 _ _ e)).1
end
end Vt
namespace Vt
open PySem PySem.Spec PyProof.Rows L2
theorem found_len {T : Trk} (b : TBd T) {p : List Bool} (h : paceFound T = some p) : p.length ≤ 1000 := by
  have err : ∀ i, i ≤ T.deeds.length → reachTo T i = .error p → p.length ≤ 1000 := by
    intro i
    induction i with
    | zero => intro _ h; simp [reachTo] at h
    | succ i ih =>
      intro hi h
      rw [reachTo] at h
      split at h
      · rename_i p' e
        cases h
        exact ih (by omega) e
      · rename_i rs e
        have I := reach_box b e
        obtain ⟨st, pace, t, h1, h2, h3⟩ := addAll_err h
        have := I.len _ h1
        have := ways_t h3
        have := b.len
        rw [h2, List.length_append]
        dsimp only at *
        omega
  unfold paceFound at h
  split at h
  · rename_i p' e
    cases h
    exact err _ (Nat.le_refl _) e
  · rename_i rs e
    obtain ⟨st, h1, _⟩ := firstBad_some h
    have := (reach_box b e).len _ h1
    have := b.len
    dsimp only at *
    omega
theorem paceFrom_skip {S : Scr} : ∀ {a c : List Nat}, (∀ k ∈ a, paceFound (trk S k) = none) → paceFrom S (a ++ c) = paceFrom S c
  | [], c, _ => rfl
  | k :: r, c, h => by
    rw [List.cons_append, paceFrom, h k (by simp)]
    exact paceFrom_skip (fun q hq => h q (List.mem_cons_of_mem _ hq))
theorem paceAmiss_at {B : Brd} {k : Nat} {p : List Bool} (hk : k < B.mem.length) (h : ∀ j, j < k → paceFound (trk (scr B) j) = none) (hp : paceFound (trk (scr B) k) = some p) : paceAmiss B = some p := by
  unfold paceAmiss
  have e : List.range B.mem.length = List.range k ++ (k :: (List.range B.mem.length).drop (k + 1)) := by
    conv => lhs; rw [← List.take_append_drop k (List.range B.mem.length)]
    rw [List.take_range, Nat.min_eq_left (by omega)]
    congr 1
    rw [List.drop_eq_getElem_cons (by simpa using hk), List.getElem_range]
  rw [e, paceFrom_skip (fun j hj => h j (List.mem_range.mp hj)), paceFrom, hp]
theorem paceAmiss_none {B : Brd} (h : ∀ j, j < B.mem.length → paceFound (trk (scr B) j) = none) : paceAmiss B = none := by
  unfold paceAmiss
  have := paceFrom_skip (S := scr B) (a := List.range B.mem.length) (c := []) (fun j hj => h j (List.mem_range.mp hj))
  rw [List.append_nil] at this
  rw [this]; rfl
theorem paceAmiss_len {B : Brd} (ok : BrdOk B) {p : List Bool} (h : paceAmiss B = some p) : p.length ≤ 1000 := by
  have gen : ∀ l : List Nat, paceFrom (scr B) l = some p → p.length ≤ 1000 := by
    intro l
    induction l with
    | nil => intro h; simp [paceFrom] at h
    | cons k r ih =>
      intro h
      rw [paceFrom] at h
      split at h
      · rename_i p' e
        cases h
        exact found_len (trk_low ok k) e
      · exact ih h
  exact gen _ h
section
variable {P : Program} {w : World} {K : PySem.W.Frag} {mg : Str → Option Value} {base : Heap} {C CS CT : Addr}
abbrev st_pace_amiss : Stmt := (topS 35)
abbrev nm_pace_amiss : List Str := ["board", "script", "cell", "pace"]
theorem sc_pace_amiss : FnScope ["board", "script", "cell", "pace"] ["board"] (defScope st_pace_amiss) := ⟨rfl, rfl, rfl, by decide +kernel, rfl, by decide +kernel, by decide +kernel⟩
def spPaceAmiss : Sp := fun vs H Q _ => ∃ (v : V) (B : Brd), vs = [v] ∧ Pd H v B.d ∧ BrdOk B ∧
  ∀ (H' : Hp) (r : V), Same H H' → (paceAmiss B = none → r = .non) → (∀ p, paceAmiss B = some p → ∃ pl, r = .ref pl ∧ H pl = none ∧ H' pl = some (.lst (p.map V.bl))) → Q r H'
theorem ok_paceamiss {f : Addr} {fd : FuncData} (F : Fun K "pace_amiss" "pace_amiss" st_pace_amiss f fd) (cs : SC' K CS) (k_Script : Maker P w K mg base "Script" CS 6 (spSInit CS)) (k_Track : Maker P w K mg base "Track" CT 2 (spTInit CT CS)) (m_pace_found : MCallee P w K mg base CT "pace_found" 3 (spPaceFound CT)) (z_len : mg "len" = none) (z_range : mg "range" = none) : FnOk P w K mg base CX0 8 f fd ["board"] spPaceAmiss := by
  refine F.ok sc_pace_amiss (fun vs H Q E h => ?_) (fun cdv A outer s H vs Q E hr h => ?_)
  · obtain ⟨v, B, rfl, _⟩ := h
    rfl
  · obtain ⟨v, B, rfl, hB, ok, q⟩ := h
    refine ⟨_, (pss_cons (ps_set (i := 1) sc_pace_amiss.nd rfl (Or.inl rfl) (pe_mkc k_Script hr (by first | decide | exact Nat.le_refl _) (pa_cons (pv 0) pa_nil)))
  (pss_cons (ps_for PassesOwn.never rfl (pi_range1 (by rfl) z_range (pa_cons (pe_callB call_len_seq (by rfl) z_len (by decide +kernel) (pa_cons (pe_fld (pv 1) rfl) pa_nil)) pa_nil)) (pg_name (i := 2) sc_pace_amiss.nd rfl (Or.inl rfl))
  (pss_cons (ps_set (i := 3) sc_pace_amiss.nd rfl (Or.inl rfl) (pe_mcal0 m_pace_found hr (by first | decide | exact Nat.le_refl _) (pe_mkc k_Track hr (by first | decide | exact Nat.le_refl _) (pa_cons (pv 1) (pa_cons (pv 2) pa_nil)))))
  (pss_one (ps_if (pt_cmpR op_notN (pv 3) pe_non (nomark _)) (pss_one (ps_ret (pv 3))) pss_nil))))
  (pss_one (ps_ret pe_non)))), ?_⟩
    refine ⟨_, rfl, fun sc sx nsc nsx dsx => ?_⟩
    have sA : Same H (upd (upd H sx (.own sc)) sc (.ins CS sx [])) := fun b o e => by rw [upd_ne (ne_of_none e nsc), upd_ne (ne_of_none e nsx)]; exact e
    refine ⟨sc, sx, v, B, rfl, upd_same, hB.same sA, ok, fun H1 b1 hS => ⟨rfl, ?_⟩⟩
    have s1 : Same H H1 := fun y o e => b1 y o (by simp [ne_of_none e nsc]) (sA _ _ e)
    obtain ⟨sdx, v0, v1, v2, v3, v4, v5, v6, hs, h0, h1, h2, h3, h4, h5, h6⟩ := hS.ex
    obtain ⟨a0, xs0, rfl, ha0, hx0⟩ := lst_of h0
    have l0 : xs0.length = B.mem.length := by rw [hx0.len, List.length_map]; rfl
    have c16 : B.mem.length ≤ 16 := by have := ok.cells; omega
    refine ⟨_, rfl, sc, CS, _, _, _, rfl, hs, cs.cl, cs.n _ (by decide), rfl, a0, _, rfl, .inl (sqL_l ha0), ((B.mem.length : Nat) : Int), by rw [l0], by omega, by omega, ?_⟩
    refine for_it (walk_range (lo := 0) (n := ((B.mem.length : Nat) : Int).toNat)) (fun i σ H' => ∃ (y2 y3 : Option V), σ = [some v, some (.ref sc), y2, y3] ∧ Same H1 H' ∧ ∀ j, j < i → paceFound (trk (scr B) j) = none)
      ⟨_, _, rfl, (fun _ _ e => e), fun j hj => absurd hj (Nat.not_lt_zero _)⟩ (fun _ _ _ _ _ => trivial) (fun i x σ H3 H2 hi hp hy => ?_) (fun σ H2 hp => ?_)
    · obtain ⟨y2, y3, rfl, sm, hno⟩ := hp
      obtain ⟨rfl, rfl⟩ := hy
      rw [Int.toNat_natCast] at hi
      refine ⟨_, rfl, _, rfl, fun tr tx ntr ntx dtx => ?_⟩
      have sT : Same H2 (upd (upd H2 tx (.own tr)) tr (.ins CT tx [])) := fun b o e => by rw [upd_ne (ne_of_none e ntr), upd_ne (ne_of_none e ntx)]; exact e
      have sct : sc ≠ tr := ne_of_none (sm _ _ hs) ntr
      refine ⟨tr, tx, sc, scr B, i, by simp [nV], upd_same, (hS.same sm).same sT, sct, hi, by show i < (plain B).mem.length; rw [plain_mem]; exact hi, scr_step_len ok, by rw [scr_deeds_len]; have := ok.sixty; omega, ?_, Nat.le_trans (scr_moves_len ok) (by decide), fun H4 b4 t4 hT => ⟨rfl, ?_⟩⟩
      · obtain ⟨N, g1, g2, _⟩ := scr_fin (B := B)
        rw [g1]; omega
      have s4 : Same H2 H4 := fun y o e => b4 y o (by simp [ne_of_none e ntr]) (sT _ _ e)
      obtain ⟨tdx, w0, w2, w3, w4, w5, w6, ht, _⟩ := hT.ex
      refine ⟨tr, _, _, rfl, ht, trkF_no (by decide), tr, trk (scr B) i, rfl, hT, trk_low ok i, ?_, ?_, trk_fin i, fun H5 r s5 hn hs => ?_⟩
      · rw [deeds_len]; show _ ≤ (B.prog.map isWait).length; rw [List.length_map]; exact Nat.le_refl _
      · rw [deeds_len]; show _ ≤ ((List.range B.prog.length).map _).length; rw [List.length_map, List.length_range]; exact Nat.le_refl _
      have s15 := (sm.trans s4).trans s5
      refine ⟨_, rfl, rfl, _, rfl, ?_⟩
      cases ef : paceFound (trk (scr B) i) with
      | none =>
        cases hn ef
        refine iteF' (by rw [decide_eq_true rfl]; rfl) ⟨_, _, rfl, s15, fun j hj => ?_⟩
        rcases Nat.lt_or_ge j i with h | h
        · exact hno j h
        · have : j = i := by omega
          rw [this]; exact ef
      | some p =>
        obtain ⟨pl, rfl, npl, hpl⟩ := hs p ef
        have ea := paceAmiss_at hi hno ef
        refine iteT' (by rw [decide_eq_false (by intro z; cases z)]; rfl) ⟨_, rfl, q H5 _ (s1.trans s15) (fun e => ?_) (fun p' e => ?_)⟩
        · rw [ea] at e; cases e
        · rw [ea] at e
          cases e
          exact ⟨pl, rfl, none_of ((s1.trans sm).trans s4) npl, hpl⟩
    · obtain ⟨y2, y3, rfl, sm, hno⟩ := hp
      rw [Int.toNat_natCast] at hno
      have en := paceAmiss_none hno
      exact q H2 _ (s1.trans sm) (fun _ => rfl) (fun p e => by rw [en] at e; cases e)
end
end Vt
namespace Vt
open PySem PySem.Spec PyProof.Rows L2
section
variable {P : Program} {w : World} {K : PySem.W.Frag} {mg : Str → Option Value} {base : Heap}
abbrev st_is_sure : Stmt := (topS 36)
abbrev nm_is_sure : List Str := ["board"]
theorem sc_is_sure : FnScope ["board"] ["board"] (defScope st_is_sure) := ⟨rfl, rfl, rfl, by decide +kernel, rfl, by decide +kernel, by decide +kernel⟩
def spIsSure : Sp := fun vs H Q _ => ∃ (v : V) (B : Brd), vs = [v] ∧ Pd H v B.d ∧ BrdOk B ∧ ∀ (H' : Hp), Same H H' → Q (.bl (decide (paceAmiss B = none))) H'
theorem ok_issure {f : Addr} {fd : FuncData} (F : Fun K "is_sure" "is_sure" st_is_sure f fd) (c_pace_amiss : Callee P w K mg base "pace_amiss" 8 1 spPaceAmiss) : FnOk P w K mg base CX0 9 f fd ["board"] spIsSure := by
  refine F.ok sc_is_sure (fun vs H Q E h => ?_) (fun cdv A outer s H vs Q E hr h => ?_)
  · obtain ⟨v, B, rfl, _⟩ := h
    rfl
  · obtain ⟨v, B, rfl, hB, ok, q⟩ := h
    refine ⟨_, (pss_one (ps_ret (pe_cmpR op_isN (pe_cal c_pace_amiss hr (by first | decide | exact Nat.le_refl _) (pa_cons (pv 0) pa_nil)) pe_non (nomark _)))), ?_⟩
    refine ⟨_, rfl, v, B, rfl, hB, ok, fun H1 r s1 h1 h2 => ⟨rfl, ?_⟩⟩
    have e : decide (r = V.non) = decide (paceAmiss B = none) := by
      cases ea : paceAmiss B with
      | none => rw [h1 ea]; rfl
      | some p =>
        obtain ⟨pl, rfl, _⟩ := h2 p ea
        rfl
    rw [e]
    exact q H1 s1
end
end Vt
namespace Vt
open PySem PySem.Spec PyProof.Rows L2
/-! ### a list extended by a tuple -/
open PySem.AutoSeq1 in
theorem extend_tupW (l : Addr) (items : Array Value) (n : Nat) (b : Addr) (items2 : Array Value) (n2 : Nat) (dd : Option Addr) (sl : Array (Option Value)) (hs0 : ¬(!items.isEmpty && Builtin.List.listTooLong (items.size + items2.size)) = true) (hs1 : items.size ≤ sizeLine) (hs2 : items.size + items2.size ≤ sizeLine + 1) :
    Meets (Builtin.«list.extend» ⟨[.ref l, .ref b], []⟩) (fun _ R s => s.heap.get? l = some { cls := .type "list", dict := none, data := .seq items n, slots := #[] } ∧ s.heap.get? b = some { cls := .type "tuple", dict := dd, data := .seq items2 n2, slots := sl } ∧ R (.ok (.ret Value.none)) { s with heap := s.heap.update l (Obj.mapSeq fun x => x ++ items2), toks := s.toks }) :=
  .of_wp fun prog w A R s h => by
    obtain ⟨hp, g, d, tk, os⟩ := s; obtain ⟨hl, hb, h⟩ := h; have f1 := AutoSeq1.idx_int; have f2 := AutoSeq1.sub_tuple_tuple; have f3 := AutoSeq1.sub_list_list; have f4 := AutoSeq1.sub_tuple_list; have f5 := AutoSeq1.sub_list_tuple;
    have hz' : (items ++ items2).size ≤ sizeLine + 1 := by rw [Array.size_append]; exact hs2
    wp_walk using (wpAny_updateSeq hl rfl (hz := hs1) (_hz' := hz')), wpAny_loadPart' hl, wpAny_loadPart' hb; exact ⟨_, rfl, h⟩
def rExtendT (K : PySem.W.Frag) : V → List V → Hp → VK → Prop := fun x vs H Q => ∃ l b xs zs, x = .ref l ∧ vs = [.ref b] ∧ H l = some (.lst xs) ∧ SqT K H b zs ∧ xs.length + zs.length ≤ sizeLine ∧ Q .non (upd H l (.lst (xs ++ zs)))
theorem mt_extendT {X : Cx} : MtM X "list.extend" (rExtendT X.K) := by
  intro pins s σ H x vs v us Q I rx rv h
  obtain ⟨l, b, xs, zs, rfl, rfl, hH, hB, hz, q⟩ := h
  cases rx
  obtain ⟨u, rfl, ru⟩ := rv.one
  cases ru
  obtain ⟨z, its, n, r, hl, e⟩ := I.lstM hH
  obtain ⟨its2, r2, p2, z2⟩ := I.tuple hB
  have hl2 := r2.length
  obtain ⟨⟨cls2, dd2, data2, sl2⟩, ho2, hc2, n2, hd2⟩ := id p2
  simp only at hc2 hd2
  subst hc2 hd2
  have hsz : its.toArray.size + its2.toArray.size ≤ sizeLine := by rw [List.size_toArray, List.size_toArray]; omega
  have hlong : ¬ (!its.toArray.isEmpty && Builtin.List.listTooLong (its.toArray.size + its2.toArray.size)) = true := by
    rw [notLongL hsz, Bool.and_false]
    exact Bool.false_ne_true
  refine call_meets PySem.F.slot_list_extend ⟨_, e, rfl⟩ PySem.F.entry_list_extend (PySem.F.args_list_extend_2 _ _)
    (extend_tupW l its.toArray n b its2.toArray n2 dd2 sl2 hlong (by rw [List.size_toArray]; omega) (by omega)) ⟨e, ho2, ?_⟩
  refine ⟨.non, _, I.lset (its' := its ++ its2) hH e (by simp) (r.append r2) ?_, rfl, q⟩
  rw [List.length_append]
  omega
theorem sl_tupAk {X : Cx} (K : PySem.W.Frag) (h : X.K = K := by rfl) : SlR X (rSlA K) := by
  subst h
  exact sl_tupA
/-- t[i:i+1]: what stands there, alone -/
theorem cut_one {xs : List V} {i : Nat} : cutV xs (some (i : Int)) (some ((i : Int) + 1)) = xs[i]?.toList := by
  rw [show ((i : Int) + 1) = ((i + 1 : Nat) : Int) from by omega]
  unfold cutV
  rw [HT.sIx_nat, HT.sIx_nat]
  rcases Nat.lt_or_ge i xs.length with h | h
  · rw [Nat.min_eq_left (by omega), Nat.min_eq_left (by omega), show i + 1 - i = 1 from by omega, List.getElem?_eq_getElem h, List.drop_eq_getElem_cons h]; rfl
  · rw [Nat.min_eq_right h, List.drop_of_length_le (Nat.le_refl _), List.getElem?_eq_none h]; simp
theorem cut_whole {xs : List V} {lo hi : Option Int} (h : HT.sIx xs.length 0 lo = 0 ∧ HT.sIx xs.length xs.length hi = xs.length) : cutV xs lo hi = xs := by
  unfold cutV
  rw [h.1, h.2, List.drop_zero, Nat.sub_zero, List.take_length]
theorem sl_one {K : PySem.W.Frag} {H : Hp} {a : Addr} {xs : List V} {i : Nat} {j k : Int} {Q : VK} (hj : j = (i : Int)) (hk : k = (i : Int) + 1) (ha : SqT K H a xs) (q : ∀ (b : Addr) (H' : Hp), Same H H' → SqT K H' b xs[i]?.toList → Q (.ref b) H') : rSlA K (.ref a) (some j) (some k) H Q := by
  subst hj hk
  refine ⟨a, xs, rfl, ha, fun h => ?_, fun _ p np => ?_⟩
  · have e := cut_whole h
    rw [cut_one] at e
    exact q a H (Same.refl _) (by rw [e]; exact ha)
  · rw [cut_one]
    exact q p _ (same_new np) (sqT_t upd_same)
end Vt
namespace Vt
open PySem PySem.Spec PyProof.Rows L2
/-! ### fences: a place and a deed -/
abbrev Fc := Nat × Deed
def fcD (x : Fc) : D := .tup [nD x.1, x.2.d]
theorem noL_fc (x : Fc) : (fcD x).noL = true := by
  simp only [fcD, nD, D.noL, noLs, noL_deed, Bool.and_self]
theorem Fc.of {H : Hp} {x : Fc} {v : V} (h : Pd H v (fcD x)) : ∃ a da, v = .ref a ∧ H a = some (.tup [nV x.1, .ref da]) ∧ H da = some (.tup x.2.vs) := by
  cases h with
  | tup h hs =>
    cases hs with
    | cons h1 hs => cases h1; cases hs with
      | cons h2 hs =>
        cases hs
        obtain ⟨da, rfl, hda⟩ := Deed.of h2
        exact ⟨_, da, rfl, h, hda⟩
theorem Fc.pd {H : Hp} {x : Fc} {a da : Addr} (h : H a = some (.tup [nV x.1, .ref da])) (h2 : H da = some (.tup x.2.vs)) : Pd H (.ref a) (fcD x) := .tup h (.cons (.int _) (.cons (Deed.pd h2) .nil))
/-- what may be put into a board -/
structure FcOk (B : Brd) (x : Fc) : Prop where
  place : x.1 ≤ B.prog.length
  word : x.2.word = ("wait" : Str) ∨ x.2.word = ("clean" : Str) ∨ x.2.word = ("drop" : Str)
  deed : DeedOk x.2 B.ords.length B.mem.length
/-- put in, up to a place -/
def putTo (prog : List Deed) (fs : List Fc) : Nat → List Deed
  | 0 => []
  | i + 1 => putTo prog fs i ++ ((fs.filter fun x => decide (x.1 = i)).map Prod.snd ++ prog[i]?.toList)
def putIn (B : Brd) (fs : List Fc) : Brd := ⟨B.mem, B.ords, putTo B.prog fs (B.prog.length + 1)⟩
/-- the fences around a start, of a board of so many lines -/
def ahead (n i : Nat) : List Fc := (List.range n).map fun l => (i, .clean l)
def behind (n i : Nat) : List Fc := (i, .wait) :: (List.range n).map fun l => (i, .drop l)
def around (n i : Nat) (d : Deed) : List Fc := if isStart d then ahead n i ++ behind n (i + 1) else []
def fullTo (n : Nat) (prog : List Deed) : Nat → List Fc
  | 0 => []
  | i + 1 => fullTo n prog i ++ (match prog[i]? with
    | some d => around n i d
    | none => [])
def full (B : Brd) : List Fc := fullTo (B.mem.length / 4) B.prog B.prog.length
theorem fullTo_succ {n i : Nat} {prog : List Deed} {d : Deed} (h : prog[i]? = some d) : fullTo n prog (i + 1) = fullTo n prog i ++ around n i d := by rw [fullTo, h]
theorem around_len {n i : Nat} {d : Deed} : (around n i d).length ≤ 2 * n + 1 := by
  unfold around ahead behind
  split
  · simp; omega
  · exact Nat.zero_le _
theorem fullTo_len {n : Nat} {prog : List Deed} : ∀ i, (fullTo n prog i).length ≤ (2 * n + 1) * ((prog.take i).filter isStart).length
  | 0 => Nat.zero_le _
  | i + 1 => by
    have ih := fullTo_len (n := n) (prog := prog) i
    cases h : prog[i]? with
    | none => rw [fullTo, h, List.append_nil, List.take_of_length_le (by have := List.getElem?_eq_none_iff.mp h; omega)]; rw [List.take_of_length_le (List.getElem?_eq_none_iff.mp h)] at ih; exact ih
    | some d =>
      rw [fullTo_succ h, List.take_add_one, h, List.length_append, List.filter_append, List.length_append, Nat.mul_add]
      have h2 : (around n i d).length ≤ (2 * n + 1) * (([d] : List Deed).filter isStart).length := by
        cases hd : isStart d with
        | true => rw [List.filter_cons_of_pos hd]; simpa using around_len
        | false => unfold around; rw [hd]; simp
      exact Nat.add_le_add ih h2
section
variable {n : Nat} {prog : List Deed}
/-- what stands at a place -/
def behD (n : Nat) (prog : List Deed) : Nat → List Deed
  | 0 => []
  | j + 1 => match prog[j]? with
    | some d => if isStart d then Deed.wait :: (List.range n).map Deed.drop else []
    | none => []
def aheD (n : Nat) (prog : List Deed) (j : Nat) : List Deed := match prog[j]? with
  | some d => if isStart d then (List.range n).map Deed.clean else []
  | none => []
theorem at_ahead {i j : Nat} : ((ahead n i).filter fun x => decide (x.1 = j)).map Prod.snd = if i = j then (List.range n).map Deed.clean else [] := by
  unfold ahead
  rw [List.filter_map, List.map_map]
  by_cases h : i = j
  · rw [if_pos h, List.filter_eq_self.mpr (fun a _ => by simp [h])]; rfl
  · rw [if_neg h, List.filter_eq_nil_iff.mpr (fun a _ => by simp [h])]; rfl
theorem at_behind {i j : Nat} : ((behind n i).filter fun x => decide (x.1 = j)).map Prod.snd = if i = j then Deed.wait :: (List.range n).map Deed.drop else [] := by
  unfold behind
  by_cases h : i = j
  · rw [if_pos h, List.filter_eq_self.mpr]
    · rw [List.map_cons, List.map_map]; rfl
    · intro a ha
      rcases List.mem_cons.mp ha with rfl | ha
      · exact decide_eq_true h
      · obtain ⟨l, _, rfl⟩ := List.mem_map.mp ha
        exact decide_eq_true h
  · rw [if_neg h, List.filter_eq_nil_iff.mpr]
    · rfl
    · intro a ha
      rcases List.mem_cons.mp ha with rfl | ha
      · simp [h]
      · obtain ⟨l, _, rfl⟩ := List.mem_map.mp ha
        simp [h]
theorem at_full : ∀ (N j : Nat), N ≤ prog.length → ((fullTo n prog N).filter fun x => decide (x.1 = j)).map Prod.snd = (if j ≤ N then behD n prog j else []) ++ (if j < N then aheD n prog j else [])
  | 0, j, _ => by
    cases j with
    | zero => simp [fullTo, behD]
    | succ j => simp [fullTo]
  | N + 1, j, h => by
    have ih := at_full N j (by omega)
    obtain ⟨d, hd⟩ : ∃ d, prog[N]? = some d := ⟨prog[N], by rw [List.getElem?_eq_getElem]⟩
    rw [fullTo_succ hd, List.filter_append, List.map_append, ih]
    have ea : ((around n N d).filter fun x => decide (x.1 = j)).map Prod.snd = (if N = j then aheD n prog N else []) ++ (if N + 1 = j then behD n prog (N + 1) else []) := by
      have e1 : aheD n prog N = if isStart d then (List.range n).map Deed.clean else [] := by unfold aheD; rw [hd]
      have e2 : behD n prog (N + 1) = if isStart d then Deed.wait :: (List.range n).map Deed.drop else [] := by rw [behD, hd]
      rw [e1, e2]
      unfold around
      cases hs : isStart d with
      | true =>
        simp only [if_true]
        rw [List.filter_append, List.map_append, at_ahead, at_behind]
      | false => simp
    rw [ea]
    by_cases h1 : j = N + 1
    · subst h1
      rw [if_neg (by omega), if_neg (by omega), if_neg (by omega), if_pos rfl, if_pos (Nat.le_refl _), if_neg (by omega)]; simp
    · by_cases h2 : j = N
      · subst h2
        rw [if_pos (Nat.le_refl _), if_neg (by omega), if_pos rfl, if_neg (by omega), if_pos (by omega), if_pos (by omega)]; simp
      · rw [if_neg (show ¬ N = j by omega), if_neg (show ¬ N + 1 = j by omega)]
        by_cases h3 : j < N
        · rw [if_pos (by omega), if_pos h3, if_pos (by omega), if_pos (by omega)]; simp
        · rw [if_neg (by omega), if_neg h3, if_neg (by omega), if_neg (by omega)]; simp
end
theorem full_len (B : Brd) : (full B).length ≤ (2 * (B.mem.length / 4) + 1) * (B.prog.filter isStart).length := by
  have := fullTo_len (n := B.mem.length / 4) (prog := B.prog) B.prog.length
  rw [List.take_length] at this
  exact this
theorem around_ok {B : Brd} {i : Nat} {d : Deed} (hi : i < B.prog.length) : ∀ x ∈ around (B.mem.length / 4) i d, FcOk B x := fun x hx => by
  unfold around at hx
  split at hx
  · rcases List.mem_append.mp hx with h | h
    · obtain ⟨l, hl, rfl⟩ := List.mem_map.mp h
      exact ⟨Nat.le_of_lt hi, .inr (.inl rfl), List.mem_range.mp hl⟩
    · rcases List.mem_cons.mp h with rfl | h
      · exact ⟨hi, .inl rfl, True.intro⟩
      · obtain ⟨l, hl, rfl⟩ := List.mem_map.mp h
        exact ⟨hi, .inr (.inr rfl), List.mem_range.mp hl⟩
  · cases hx
theorem fullTo_ok {B : Brd} : ∀ i, ∀ x ∈ fullTo (B.mem.length / 4) B.prog i, FcOk B x
  | 0 => fun x hx => by cases hx
  | i + 1 => fun x hx => by
    rw [fullTo] at hx
    rcases List.mem_append.mp hx with h | h
    · exact fullTo_ok i x h
    · split at h
      · rename_i d e
        exact around_ok (List.getElem?_eq_some_iff.mp e).1 x h
      · cases h
theorem full_ok {B : Brd} : ∀ x ∈ full B, FcOk B x := fullTo_ok _
end Vt
namespace Vt
open PySem PySem.Spec PyProof.Rows L2
theorem putTo_len {prog : List Deed} {fs : List Fc} : ∀ i, (putTo prog fs i).length ≤ i * (fs.length + 1)
  | 0 => Nat.zero_le _
  | i + 1 => by
    have ih := putTo_len (prog := prog) (fs := fs) i
    have h1 : ((fs.filter fun x => decide (x.1 = i)).map Prod.snd).length ≤ fs.length := by
      rw [List.length_map]; exact List.length_filter_le _ _
    have h2 : (prog[i]?.toList).length ≤ 1 := by cases prog[i]? <;> simp
    rw [putTo, List.length_append, List.length_append, Nat.succ_mul]
    omega
theorem pds_one {H : Hp} {vs : List V} {ds : List D} {i : Nat} (h : Pds H vs ds) : Pds H vs[i]?.toList ds[i]?.toList := by
  cases e : vs[i]? with
  | none =>
    have := h.len
    rw [List.getElem?_eq_none (by have := List.getElem?_eq_none_iff.mp e; omega)]; exact .nil
  | some v =>
    obtain ⟨d, h1, h2⟩ := h.get' e
    rw [h1]; exact .cons h2 .nil
section
variable {P : Program} {w : World} {K : PySem.W.Frag} {mg : Str → Option Value} {base : Heap}
abbrev st_put_in : Stmt := (topS 44)
abbrev nm_put_in : List Str := ["board", "fences", "memory", "orders", "program", "deeds", "at", "place", "fence"]
theorem sc_put_in : FnScope ["board", "fences", "memory", "orders", "program", "deeds", "at", "place", "fence"] ["board", "fences"] (defScope st_put_in) := ⟨rfl, rfl, rfl, by decide +kernel, rfl, by decide +kernel, by decide +kernel⟩
def spPutIn : Sp := fun vs H Q _ => ∃ (v : V) (B : Brd) (fl : Addr) (fv : List V) (fs : List Fc), vs = [v, .ref fl] ∧ Pd H v B.d ∧ H fl = some (.lst fv) ∧ Pds H fv (fs.map fcD) ∧ B.prog.length ≤ 100 ∧ fs.length ≤ 100 ∧ ∀ (H' : Hp) (u : V), Same H H' → Pd H' u (putIn B fs).d → Q u H'
set_option maxHeartbeats 0 in
theorem ok_putin {f : Addr} {fd : FuncData} (F : Fun K "put_in" "put_in" st_put_in f fd) (z_len : mg "len" = none) (z_range : mg "range" = none) (z_tuple : mg "tuple" = none) : FnOk P w K mg base CX0 1 f fd ["board", "fences"] spPutIn := by
  refine F.ok sc_put_in (fun vs H Q E h => ?_) (fun cdv A outer s H vs Q E hr h => ?_)
  · obtain ⟨v, B, fl, fv, fs, rfl, _⟩ := h
    rfl
  · obtain ⟨v, B, fl, fv, fs, rfl, hB, hfl, hfv, b1, b2, q⟩ := h
    obtain ⟨a, m, o, p, os, ps, rfl, ha, hm, ho, hos, hp, hps⟩ := Brd.of hB
    have pl : ps.length = B.prog.length := by rw [hps.len, List.length_map]
    have fvl : fv.length = fs.length := by rw [hfv.len, List.length_map]
    refine ⟨_, (pss_cons (ps_asg (pv 0) (pg_tup rfl (pgs_cons (pg_name (i := 2) sc_put_in.nd rfl (Or.inl rfl)) (pgs_cons (pg_name (i := 3) sc_put_in.nd rfl (Or.inl rfl)) (pgs_cons (pg_name (i := 4) sc_put_in.nd rfl (Or.inl rfl)) pgs_nil)))))
  (pss_cons (ps_set (i := 5) sc_put_in.nd rfl (Or.inl rfl) (pe_lst pa_nil))
  (pss_cons (ps_for PassesOwn.never rfl (pi_range1 (by rfl) z_range (pa_cons (pe_op op_add (pe_callB call_len_seq (by rfl) z_len (by decide +kernel) (pa_cons (pv 4) pa_nil)) pe_int) pa_nil)) (pg_name (i := 6) sc_put_in.nd rfl (Or.inr rfl))
  (pss_cons (ps_expr (pe_bm PySem.F.plainAttrs_list PySem.F.slot_list_extend PySem.F.type_list_extend mt_extend (pv 5) (pa_cons (pe_lc (own := [("place", 7), ("fence", 8)]) rfl sc_put_in.nd (pi_lt (pv 1)) (blkOk_by (own := [("place", 7), ("fence", 8)]) (N := nm_put_in) (sc := defScope (topS 44)) (by decide +kernel)) (fun _ _ _ _ _ => (pg_tupk K (n := 2) rfl (pgs_cons (pg_name (i := 7) sc_put_in.nd rfl (Or.inl rfl)) (pgs_cons (pg_name (i := 8) sc_put_in.nd rfl (Or.inl rfl)) pgs_nil)))) (fun _ _ _ _ _ => (pts_one (pt_cmpR op_eq (pv 7) (pv 6) (nomark _)))) (fun _ _ _ _ _ => (pv 8))) pa_nil)))
  (pss_one (ps_expr (pe_bm PySem.F.plainAttrs_list PySem.F.slot_list_extend PySem.F.type_list_extend mt_extendT (pv 5) (pa_cons (pe_slice sl_tupA (pv 4) (po_some (pv 6)) (po_some (pe_op op_add (pv 6) pe_int))) pa_nil))))))
  (pss_one (ps_ret (pe_tup (pa_cons (pv 2) (pa_cons (pv 3) (pa_cons (pe_callTy call_tuple_of (by rfl) z_tuple (by decide +kernel) (pa_cons (pv 5) pa_nil)) pa_nil))))))))), ?_⟩
    refine ⟨_, rfl, a, _, rfl, sqT_t ha, rfl, _, _, rfl, _, _, rfl, _, _, rfl, rfl, ?_⟩
    refine ⟨Nat.zero_le _, fun dl ndl => ?_⟩
    have s1 := same_new (o := .lst []) ndl
    refine ⟨_, rfl, p, _, rfl, .inr (sqT_t (s1 _ _ hp)), _, _, rfl, rfl, _, rfl, by omega, by omega, ?_⟩
    refine for_it (walk_range (lo := 0) (n := ((ps.length : Int) + 1).toNat)) (fun i σ H' => ∃ (dv : List V) (y : Option V), σ = [some (.ref a), some (.ref fl), some (.ref m), some (.ref o), some (.ref p), some (.ref dl), y, none, none] ∧ H' dl = some (.lst dv) ∧ Pds H' dv ((putTo B.prog fs i).map Deed.d) ∧ Same H H')
      ⟨[], _, rfl, upd_same, .nil, s1⟩ (fun _ _ _ _ _ => trivial) (fun i x σ H2' H2 hi hp hy => ?_) (fun σ H2 hp => ?_)
    · obtain ⟨dv, y, rfl, hdl, hdv, s2⟩ := hp
      obtain ⟨rfl, rfl⟩ := hy
      have dvl : dv.length = (putTo B.prog fs i).length := by rw [hdv.len, List.length_map]
      have pln := putTo_len (prog := B.prog) (fs := fs) i
      have ib : i ≤ 100 := by omega
      have pb : (putTo B.prog fs i).length ≤ 100 * 101 := Nat.le_trans pln (Nat.mul_le_mul ib (by omega))
      refine ⟨_, rfl, .inl ⟨rfl, _, sqL_l hdl⟩, _, rfl, fl, rfl, .inl ⟨_, sqL_l (s2 _ _ hfl), fun L1 nL1 => ?_⟩⟩
      refine lc_it (walk_list (xs := fv)) (fun j H' => ∃ ev : List V, H' L1 = some (.lst ev) ∧ Pds H' ev ((((fs.take j).filter fun x => decide (x.1 = i)).map Prod.snd).map Deed.d) ∧ Same H2 H')
        ⟨[], upd_same, .nil, same_new nL1⟩ (fun j H' _ hp => by obtain ⟨_, _, _, sm⟩ := hp; exact sqL_l (sm _ _ (s2 _ _ hfl))) (fun j x H3 H4 hj hp hy => ?_) (fun H3 hp => ?_)
      · obtain ⟨ev, hL1, hev, s3⟩ := hp
        obtain ⟨rfl, hx⟩ := hy
        obtain ⟨dx, hdx, hpd⟩ := hfv.get' hx
        rw [List.getElem?_map] at hdx
        obtain ⟨x0, hx0, rfl⟩ : ∃ x0, fs[j]? = some x0 ∧ fcD x0 = dx := by simpa using hdx
        obtain ⟨a1, da, rfl, h1, h2⟩ := Fc.of ((hpd.same s2).same s3)
        have tk : fs.take (j + 1) = fs.take j ++ [x0] := by rw [List.take_add_one, hx0]; rfl
        refine ⟨a1, _, rfl, sqT_t h1, rfl, _, _, rfl, _, _, rfl, rfl, ?_⟩
        have fl1 : (((fs.take (j + 1)).filter fun x => decide (x.1 = i)).map Prod.snd).map Deed.d = (((fs.take j).filter fun x => decide (x.1 = i)).map Prod.snd).map Deed.d ++ (if x0.1 = i then [x0.2.d] else []) := by
          rw [tk, List.filter_append, List.map_append, List.map_append]
          congr 1
          by_cases h : x0.1 = i
          · simp [h]
          · simp [h]
        have evl : ev.length ≤ 100 := by
          rw [hev.len, List.length_map, List.length_map]
          have := List.length_filter_le (fun x : Fc => decide (x.1 = i)) (fs.take j)
          have := List.length_take_le' j fs
          omega
        refine ⟨rfl, _, rfl, _, rfl, rfl, _, rfl, ite2 (fun e => ?_) (fun e => ?_)⟩
        · have ei : x0.1 = i := by
            have : (x0.1 : Int) = 0 + (i : Int) := by injection of_decide_eq_true e
            omega
          have st : But [L1] H4 (upd H4 L1 (.lst (ev ++ [.ref da]))) := But.set (by simp)
          refine ⟨_, rfl, _, hL1, fits (by omega), _, upd_same, ?_, But.new1 s3 nL1 st⟩
          rw [fl1, if_pos ei]
          refine (Pds.but st (fun c hc => ⟨ev, by rw [List.mem_singleton.mp hc]; exact hL1⟩) (noLs_map noL_deed _) hev).app (.cons (Deed.pd ?_) .nil)
          exact st _ _ (fun m => by rw [List.mem_singleton.mp m, hL1] at h2; cases h2) h2
        · have ei : ¬ x0.1 = i := fun z => e (decide_eq_true (show nV x0.1 = V.int (0 + (i : Int)) from by rw [z, Int.zero_add]; rfl))
          refine ⟨ev, hL1, ?_, s3⟩
          rw [fl1, if_neg ei, List.append_nil]; exact hev
      · obtain ⟨ev, hL1, hev, s3⟩ := hp
        rw [fvl, List.take_length] at hev
        have evl : ev.length ≤ 100 := by
          rw [hev.len, List.length_map, List.length_map]
          have := List.length_filter_le (fun x : Fc => decide (x.1 = i)) fs
          omega
        have hdl3 := s3 _ _ hdl
        have hd3 := hdv.same s3
        refine ⟨dl, L1, dv, ev, rfl, rfl, hdl3, hL1, Nat.le_of_lt (fits (by omega)), ?_⟩
        have st : But [dl] H3 (upd H3 dl (.lst (dv ++ ev))) := But.set (by simp)
        have ls : Lsts H3 [dl] := fun c hc => ⟨dv, by rw [List.mem_singleton.mp hc]; exact hdl3⟩
        have hd5 := (Pds.but st ls (noLs_map noL_deed _) hd3).app (Pds.but st ls (noLs_map noL_deed _) hev)
        have s5 := But.new1 (s2.trans s3) ndl st
        have hdl5 : (upd H3 dl (.lst (dv ++ ev))) dl = some (.lst (dv ++ ev)) := upd_same
        generalize upd H3 dl (.lst (dv ++ ev)) = H5 at st hd5 s5 hdl5
        refine ⟨_, rfl, .inl ⟨rfl, _, sqL_l hdl5⟩, _, rfl, _, rfl, _, rfl, _, rfl, _, _, rfl, rfl, _, rfl, ?_⟩
        refine sl_one (i := i) (j := 0 + (i : Int)) (k := 0 + (i : Int) + 1) (by omega) (by omega) (sqT_t (s5 _ _ hp)) fun b H6 s6 hb => ?_
        have hdl6 := s6 _ _ hdl5
        have l1 : (ps[i]?.toList).length ≤ 1 := by cases ps[i]? <;> simp
        refine ⟨dl, b, _, _, rfl, rfl, hdl6, hb, Nat.le_of_lt (fits (by rw [List.length_append]; omega)), ?_⟩
        have st6 : But [dl] H6 (upd H6 dl (.lst (dv ++ ev ++ ps[i]?.toList))) := But.set (by simp)
        have ls6 : Lsts H6 [dl] := fun c hc => ⟨dv ++ ev, by rw [List.mem_singleton.mp hc]; exact hdl6⟩
        have one : Pds H ps[i]?.toList (B.prog[i]?.toList.map Deed.d) := by
          have := pds_one (i := i) hps
          rw [List.getElem?_map] at this
          cases e : B.prog[i]? with
          | none => rw [e] at this; exact this
          | some d => rw [e] at this; exact this
        refine ⟨_, _, rfl, upd_same, ?_, But.new1 (s5.trans s6) ndl st6⟩
        rw [putTo, List.map_append, List.map_append, ← List.append_assoc]
        exact (Pds.but st6 ls6 (by rw [← List.map_append]; exact noLs_map noL_deed _) (hd5.same s6)).app (Pds.but st6 ls6 (noLs_map noL_deed _) ((one.same s5).same s6))
    · obtain ⟨dv, y, rfl, hdl, hdv, s2⟩ := hp
      refine ⟨_, rfl, _, rfl, _, rfl, dl, _, rfl, .inl ⟨sqL_l hdl, fun T nT => ?_⟩⟩
      have en : ((ps.length : Int) + 1).toNat = B.prog.length + 1 := by omega
      rw [en] at hdv
      have sT := same_new (o := .tup dv) nT
      refine ⟨by show 3 ≤ sizeLine; decide, fun W nW => ?_⟩
      have sW := same_new (o := .tup [.ref m, .ref o, .ref T]) nW
      have s3 := (s2.trans sT).trans sW
      refine q _ _ s3 (.tup upd_same (.cons (.tup (s3 _ _ hm) (pds_ns _)) (.cons (.tup (s3 _ _ ho) (hos.same s3)) (.cons (.tup (sW _ _ upd_same) ((hdv.same sT).same sW)) .nil))))
end
end Vt
namespace Vt
open PySem PySem.Spec PyProof.Rows L2
/-! ### a machine whose lines and memory agree with memory itself -/
def vw (s : TSt) : Option Nat := match s.held with
  | some x => some x
  | none => s.num
structure Coh (cells : Nat) (M : Mst) (pm : List Nat) : Prop where
  c1 : ∀ k, k < cells → vw (pj 0 k M) = some (pm.getD k 0)
  c2 : ∀ k, k < cells → M.touched (k / 4) = false → (pj 0 k M).held = none ∨ (pj 0 k M).held = (pj 0 k M).num
section
variable {cells : Nat} {M : Mst} {pm : List Nat}
theorem take_tou {l : Nat} : (M.take l).tou = M.tou := by unfold Mst.take; split <;> rfl
theorem touched_of {M' : Mst} {l : Nat} (h : M'.tou = M.tou) : M'.touched l = M.touched l := by unfold Mst.touched; rw [h]
theorem pj_take {k l : Nat} (ok : MOk0 cells M) (hk : k < cells) (hl : l < cells / 4) : pj 0 k (M.take l) = if M.holds l = false ∧ l = k / 4 then { pj 0 k M with held := (pj 0 k M).num } else pj 0 k M := by
  have h := take_pj (d := 0) ok hk hl
  unfold takeN at h
  cases hh : M.holds l with
  | true =>
    rw [hh, if_pos rfl, goS_nil] at h
    rw [if_neg (by simp)]
    exact (Option.some.inj h).symm
  | false =>
    rw [hh, if_neg (by simp), go_take] at h
    have h' := (Option.some.inj h).symm
    rw [h']
    by_cases e : l = k / 4
    · rw [if_pos e, if_pos ⟨rfl, e⟩]
    · rw [if_neg e, if_neg (fun z => e z.2)]
theorem Coh.tell (h : Coh cells M pm) {w : Str} {p n : Nat} : Coh cells (M.tell w p n) pm := ⟨h.c1, h.c2⟩
theorem Coh.take (h : Coh cells M pm) (ok : MOk0 cells M) {l : Nat} (hl : l < cells / 4) : Coh cells (M.take l) pm := by
  refine ⟨fun k hk => ?_, fun k hk ht => ?_⟩
  · rw [pj_take ok hk hl]
    split
    · rename_i e
      have c := h.c1 k hk
      have hn : (pj 0 k M).held = none := by
        unfold pj; dsimp only
        rw [← e.2, e.1]; rfl
      unfold vw at c ⊢
      rw [hn] at c
      dsimp only at c ⊢
      rw [c]
    · exact h.c1 k hk
  · rw [touched_of take_tou] at ht
    rw [pj_take ok hk hl]
    split
    · exact .inr rfl
    · exact h.c2 k hk ht
theorem Coh.readN (h : Coh cells M pm) (ok : MOk0 cells M) {c : Nat} (hc : c < cells) : M.readN c = pm.getD c 0 := by
  have h1 := (h.take ok (ok.line hc)).c1 c hc
  have hh := take_holds ok (ok.line hc)
  unfold vw pj at h1
  rw [hh] at h1
  dsimp only at h1
  rw [if_pos rfl] at h1
  exact Option.some.inj h1
theorem write0_tou {c n : Nat} : (M.write0 c n).tou = M.tou.set (c / 4) true := rfl
theorem tou_set {M' : Mst} {l j : Nat} {b : Bool} (h : M'.tou = M.tou.set l b) (hl : l < M.tou.length) : M'.touched j = if j = l then b else M.touched j := by
  unfold Mst.touched
  rw [h, List.getD_eq_getElem?_getD]
  by_cases e : j = l
  · subst e
    rw [if_pos rfl, List.getElem?_set_self hl]; rfl
  · rw [if_neg e, List.getElem?_set_ne (fun z => e z.symm), List.getD_eq_getElem?_getD]
theorem Coh.write (h : Coh cells M pm) (ok : MOk0 cells M) (hl : pm.length = cells) {c n : Nat} (hc : c < cells) : Coh cells (M.write c n) (pm.set c n) := by
  have h1 := h.take ok (ok.line hc)
  have ok1 := ok.take (ok.line hc)
  have hh := take_holds ok (ok.line hc)
  have tl : c / 4 < (M.take (c / 4)).tou.length := by rw [ok1.tou]; exact ok.line hc
  have key : ∀ k, k < cells → pj 0 k ((M.take (c / 4)).write0 c n) = if c = k then { pj 0 k (M.take (c / 4)) with held := some n } else pj 0 k (M.take (c / 4)) := fun k hk => by
    have := write0_pj (d := 0) (n := n) ok1 hk hc hh
    rw [go_write] at this
    exact (Option.some.inj this).symm
  show Coh cells (((M.take (c / 4)).write0 c n).tell "write" c n) (pm.set c n)
  refine Coh.tell ⟨fun k hk => ?_, fun k hk ht => ?_⟩
  · rw [key k hk]
    by_cases e : c = k
    · subst e
      rw [if_pos rfl]
      show some n = _
      rw [List.getD_eq_getElem?_getD, List.getElem?_set_self (by rw [hl]; exact hc)]; rfl
    · rw [if_neg e, h1.c1 k hk, List.getD_eq_getElem?_getD, List.getD_eq_getElem?_getD, List.getElem?_set_ne e]
  · rw [tou_set (M := M.take (c / 4)) (b := true) write0_tou tl] at ht
    split at ht
    · cases ht
    · rename_i ne
      rw [key k hk, if_neg (fun z => ne (by rw [z]))]
      exact h1.c2 k hk ht
theorem pj_clean {k l : Nat} (ok : MOk0 cells M) (hk : k < cells) : pj 0 k (M.clean l) = if M.touched l = true ∧ l = k / 4 then { pj 0 k M with num := (pj 0 k M).held } else pj 0 k M := by
  have h := clean_pj (d := 0) (l := l) ok hk
  unfold cleanN at h
  cases ht : M.touched l with
  | false =>
    rw [ht, if_neg (by simp), goS_nil] at h
    rw [if_neg (by simp)]
    exact (Option.some.inj h).symm
  | true =>
    rw [ht, if_pos rfl, go_clean] at h
    rw [(Option.some.inj h).symm]
    by_cases e : l = k / 4
    · rw [if_pos e, if_pos ⟨rfl, e⟩]
    · rw [if_neg e, if_neg (fun z => e z.2)]
theorem clean_touched {l j : Nat} (hl : l < M.tou.length) : (M.clean l).touched j = if j = l then false else M.touched j := by
  unfold Mst.clean
  split
  · exact tou_set (M := M) (b := false) rfl hl
  · rename_i h
    split
    · rename_i e
      rw [e]; simpa using h
    · rfl
theorem clean_out' {l j : Nat} (hl : ¬ l < M.tou.length) : (M.clean l).touched j = M.touched j ∧ M.touched l = false := by
  have : M.touched l = false := by
    unfold Mst.touched
    rw [List.getD_eq_getElem?_getD, List.getElem?_eq_none (by omega)]; rfl
  refine ⟨?_, this⟩
  unfold Mst.clean
  rw [if_neg (by rw [this]; decide)]
theorem Coh.clean (h : Coh cells M pm) (ok : MOk0 cells M) {l : Nat} : Coh cells (M.clean l) pm := by
  refine ⟨fun k hk => ?_, fun k hk ht => ?_⟩
  · rw [pj_clean ok hk]
    split
    · rename_i e
      have c := h.c1 k hk
      have hh := ok.th l e.1
      have hs : ∃ x, (pj 0 k M).held = some x := by
        unfold pj; dsimp only
        rw [← e.2, hh]; exact ⟨_, rfl⟩
      obtain ⟨x, hx⟩ := hs
      unfold vw at c ⊢
      dsimp only
      rw [hx] at c ⊢
      exact c
    · exact h.c1 k hk
  · rw [pj_clean ok hk]
    split
    · exact .inr rfl
    · rename_i ne
      refine h.c2 k hk ?_
      by_cases hl : l < M.tou.length
      · rw [clean_touched hl] at ht
        split at ht
        · rename_i e
          cases hq : M.touched (k / 4) with
          | false => rfl
          | true => exact absurd ⟨by rw [← e]; exact hq, e.symm⟩ ne
        · exact ht
      · rw [(clean_out' hl).1] at ht; exact ht
theorem Coh.finish (h : Coh cells M pm) (ok : MOk0 cells M) : ∀ k, k < cells → M.finish.mem.getD k 0 = pm.getD k 0 := by
  have k0 := h.clean ok (l := 0)
  have o0 := ok.clean (l := 0)
  have k1 := k0.clean o0 (l := 1)
  have o1 := o0.clean (l := 1)
  have k2 := k1.clean o1 (l := 2)
  have o2 := o1.clean (l := 2)
  have k3 := k2.clean o2 (l := 3)
  have o3 := o2.clean (l := 3)
  intro k hk
  have tt : ∀ (X : Mst) (l j : Nat), MOk0 cells X → j < cells / 4 → (X.clean l).touched j = if j = l then false else X.touched j := fun X l j okX hj => by
    by_cases hl : l < X.tou.length
    · exact clean_touched hl
    · rw [(clean_out' hl).1, if_neg (fun z => hl (by rw [okX.tou, ← z]; exact hj))]
  have hj := ok.line hk
  have lt4 : k / 4 < 4 := by have := ok.lines; omega
  have un : ((((M.clean 0).clean 1).clean 2).clean 3).touched (k / 4) = false := by
    rw [tt _ 3 _ o2 hj, tt _ 2 _ o1 hj, tt _ 1 _ o0 hj, tt _ 0 _ ok hj]
    have : k / 4 = 0 ∨ k / 4 = 1 ∨ k / 4 = 2 ∨ k / 4 = 3 := by omega
    rcases this with e | e | e | e <;> rw [e] <;> simp
  have c1 := k3.c1 k hk
  have c2 := k3.c2 k hk un
  show ((((M.clean 0).clean 1).clean 2).clean 3).mem.getD k 0 = _
  unfold vw at c1
  rcases c2 with c2 | c2
  · rw [c2] at c1
    exact Option.some.inj c1
  · rw [c2] at c1
    exact Option.some.inj c1
theorem coh_begin {B : Brd} {pace : List Bool} : Coh B.mem.length (Mst.begin B pace) B.mem := by
  refine ⟨fun k _ => ?_, fun k _ _ => .inl ?_⟩
  · unfold vw pj
    rw [begin_holds]; rfl
  · unfold pj
    rw [begin_holds]; rfl
end
end Vt
namespace Vt
open PySem PySem.Spec PyProof.Rows L2
/-! ### boards of which nothing is started or dropped -/
def calm : Deed → Bool
  | .start _ => false
  | .drop _ => false
  | _ => true
def plainTo (B : Brd) (i : Nat) : Pst := (B.prog.take i).foldl (pstep B.ords) ⟨B.mem, [], [], []⟩
def NoCar (M : Mst) : Prop := ∀ r ∈ M.rows, r.word ≠ ("fetch" : Str) ∧ r.word ≠ ("put" : Str) ∧ r.word ≠ ("bell" : Str) ∧ r.word ≠ ("start" : Str)
section
variable {B : Brd} {M : Mst} {i : Nat}
theorem plainTo_succ {d : Deed} (h : B.prog[i]? = some d) : plainTo B (i + 1) = pstep B.ords (plainTo B i) d := by
  unfold plainTo
  rw [List.take_add_one, h, Option.toList_some, List.foldl_append]; rfl
theorem plainTo_all : plainTo B B.prog.length = plain B := by unfold plainTo plain; rw [List.take_length]
theorem plainTo_mem : (plainTo B i).mem.length = B.mem.length := by
  have := plain_mem (B := ⟨B.mem, B.ords, B.prog.take i⟩)
  exact this
theorem reads_pre : ∃ rest, (plain B).reads = (plainTo B i).reads ++ rest := by
  have gen : ∀ (ds : List Deed) (s : Pst), ∃ rest, (ds.foldl (pstep B.ords) s).reads = s.reads ++ rest := by
    intro ds
    induction ds with
    | nil => intro s; exact ⟨[], by simp⟩
    | cons d r ih =>
      intro s
      obtain ⟨x, hx⟩ := ih (pstep B.ords s d)
      rw [List.foldl_cons, hx]
      cases d with
      | add c o => exact ⟨[(c, s.mem.getD c 0)] ++ ([(o, s.mem.getD o 0)] ++ x), by simp only [pstep, List.append_assoc]⟩
      | say c => exact ⟨[(c, s.mem.getD c 0)] ++ x, by simp only [pstep, List.append_assoc]⟩
      | _ => exact ⟨x, rfl⟩
  have e : plain B = (B.prog.drop i).foldl (pstep B.ords) (plainTo B i) := by
    unfold plain plainTo
    rw [← List.foldl_append, List.take_append_drop]
  rw [e]; exact gen _ _
theorem NoCar.tell (h : NoCar M) {w : Str} {p n : Nat} (hw : w ≠ ("fetch" : Str) ∧ w ≠ ("put" : Str) ∧ w ≠ ("bell" : Str) ∧ w ≠ ("start" : Str)) : NoCar (M.tell w p n) := fun r hr => by
  rcases List.mem_append.mp hr with hr | hr
  · exact h r hr
  · rw [List.mem_singleton.mp hr]; exact hw
theorem NoCar.of {M' : Mst} (h : NoCar M) (e : M'.rows = M.rows) : NoCar M' := fun r hr => h r (by rw [← e]; exact hr)
theorem NoCar.take (h : NoCar M) {l : Nat} : NoCar (M.take l) := by
  unfold Mst.take
  split
  · exact h
  · exact NoCar.tell (M := { M with held := M.held.set l (some ((M.mem.drop (4 * l)).take 4)) }) (h.of rfl) (by decide)
theorem NoCar.read (h : NoCar M) {c : Nat} : NoCar (M.read c) := NoCar.tell h.take (by decide)
theorem NoCar.write (h : NoCar M) {c n : Nat} : NoCar (M.write c n) := NoCar.tell (M := (M.take (c / 4)).write0 c n) (h.take.of rfl) (by decide)
theorem NoCar.clean (h : NoCar M) {l : Nat} : NoCar (M.clean l) := by
  unfold Mst.clean
  split
  · exact NoCar.tell (M := { M with mem := _, tou := _ }) (h.of rfl) (by decide)
  · exact h
/-- the machine, after so many deeds -/
structure Qt (B : Brd) (i : Nat) (M : Mst) : Prop where
  at_ : M.at_ = i
  le : i ≤ B.prog.length
  ok : MOk B.mem.length B.prog M
  left : M.left = []
  beats : M.beats = i
  said : saidOf M.rows = (plainTo B i).said
  found : (ws (plain B).reads (plain B).fet M).found = []
  nr : (ws (plain B).reads (plain B).fet M).nr = (plainTo B i).reads.length
  coh : Coh B.mem.length M (plainTo B i).mem
  nc : NoCar M
theorem qt_begin (ok : BrdOk B) (p : List Bool) : Qt B 0 (Mst.begin B p) :=
  ⟨rfl, Nat.zero_le _, begin_ok ok p, rfl, rfl, rfl, rfl, rfl, coh_begin, fun r hr => by cases hr⟩
theorem said_rd {c : Nat} : saidOf (M.read c).rows = saidOf M.rows := (said_tell (M := M.take (c / 4)) (by decide)).trans said_takeL
theorem due_next {c : Nat} {rest : List (Nat × Nat)} {s : List (Nat × Nat)} (e : (plain B).reads = s ++ rest) {x : Nat × Nat} {r' : List (Nat × Nat)} (h : rest = x :: r') : (plain B).reads.getD s.length (0, 0) = x := by
  rw [e, h, List.getD_eq_getElem?_getD, List.getElem?_append_right (Nat.le_refl _), Nat.sub_self]; rfl
theorem qt_step (ok : BrdOk B) (hc : ∀ d ∈ B.prog, calm d = true) (h : Qt B i M) (hi : i < B.prog.length) : Qt B (i + 1) (M.beat B.ords B.prog) := by
  have hd : B.prog[i]? = some B.prog[i] := List.getElem?_eq_getElem hi
  generalize B.prog[i] = d at hd
  have dm := List.mem_of_getElem? hd
  have dok := ok.prog d dm
  have dc := hc d dm
  have hno : M.over B.prog = false := by
    unfold Mst.over
    rw [h.at_, decide_eq_false (by omega)]; rfl
  obtain ⟨b1, b2⟩ := beat_ok h.ok hno ok.ords (brd_eight ok) ok.prog
  have hidle : M.idle B.prog = false := by
    unfold Mst.idle
    rw [h.at_, hd]
    dsimp only
    rw [h.left]; simp
  have hproc : M.proc B.ords B.prog = { M.deed B.ords d with at_ := M.at_ + 1 } := by
    unfold Mst.proc
    rw [hidle, if_neg (by simp), h.at_, hd]
  have hmv : mvOf B.ords d = [] := by cases d <;> first | rfl | cases dc
  have hleft : (M.deed B.ords d).left = [] := by rw [m_left, h.left, hmv]; rfl
  have huse : Mst.uses B.prog M (M.proc B.ords B.prog) = false := by
    unfold Mst.uses
    rw [hproc]
    show (_ && !(M.deed B.ords d).left.isEmpty && _) = false
    rw [hleft]; simp
  have hbeat : M.beat B.ords B.prog = { M.deed B.ords d with at_ := i + 1, beats := i + 1 } := by
    rw [beat_no huse, hproc]
    have : Mst.carry { M.deed B.ords d with at_ := M.at_ + 1 } = { M.deed B.ords d with at_ := M.at_ + 1 } := by
      unfold Mst.carry
      dsimp only
      rw [hleft]
    rw [this, h.at_, h.beats]
  have pm := plainTo_mem (B := B) (i := i)
  have ok0 := h.ok.toMOk0
  -- the deed itself
  have key : saidOf (M.deed B.ords d).rows = (plainTo B (i + 1)).said ∧ (ws (plain B).reads (plain B).fet (M.deed B.ords d)).found = [] ∧ (ws (plain B).reads (plain B).fet (M.deed B.ords d)).nr = (plainTo B (i + 1)).reads.length ∧ Coh B.mem.length (M.deed B.ords d) (plainTo B (i + 1)).mem ∧ NoCar (M.deed B.ords d) := by
    obtain ⟨rest, hrest⟩ := reads_pre (B := B) (i := i + 1)
    rw [plainTo_succ hd] at hrest ⊢
    have rd : ∀ (X : Mst) (c : Nat) (x : Nat) (s : List (Nat × Nat)) (rst : List (Nat × Nat)), (ws (plain B).reads (plain B).fet X).found = [] → (ws (plain B).reads (plain B).fet X).nr = s.length → (plain B).reads = s ++ (c, x) :: rst → X.readN c = x →
        (ws (plain B).reads (plain B).fet (X.read c)).found = [] ∧ (ws (plain B).reads (plain B).fet (X.read c)).nr = s.length + 1 := fun X c x s rst e1 e2 e3 e4 => by
      rw [ws_read, e1, e2, due_next (c := c) (rest := (c, x) :: rst) e3 rfl, if_pos e4]
      exact ⟨rfl, rfl⟩
    cases d with
    | set c n => exact ⟨said_write.trans h.said, by show (ws _ _ (M.write c n)).found = []; rw [ws_write]; exact h.found, by show (ws _ _ (M.write c n)).nr = _; rw [ws_write]; exact h.nr, h.coh.write ok0 pm dok.1, h.nc.write⟩
    | add c o =>
      have hr : (plain B).reads = (plainTo B i).reads ++ (c, (plainTo B i).mem.getD c 0) :: ((o, (plainTo B i).mem.getD o 0) :: rest) := by rw [hrest]; simp [pstep]
      have e1 := h.coh.readN ok0 dok.1
      obtain ⟨f1, n1⟩ := rd M c _ _ _ h.found h.nr hr e1
      have c1 : Coh B.mem.length (M.read c) (plainTo B i).mem := (h.coh.take ok0 (ok0.line dok.1)).tell
      have ok1 := ok0.read dok.1
      have e2 := c1.readN ok1 dok.2
      obtain ⟨f2, n2⟩ := rd (M.read c) o _ ((plainTo B i).reads ++ [(c, (plainTo B i).mem.getD c 0)]) rest f1 (by rw [n1, List.length_append]; rfl) (by rw [hr]; simp) e2
      have c2 : Coh B.mem.length ((M.read c).read o) (plainTo B i).mem := (c1.take ok1 (ok1.line dok.2)).tell
      have ok2 := ok1.read dok.2
      refine ⟨said_write.trans (said_rd.trans (said_rd.trans h.said)), ?_, ?_, ?_, h.nc.read.read.write⟩
      · show (ws _ _ (((M.read c).read o).write c _)).found = []
        rw [ws_write]; exact f2
      · show (ws _ _ (((M.read c).read o).write c _)).nr = _
        rw [ws_write, n2]
        simp [pstep]
      · show Coh _ (((M.read c).read o).write c ((M.readN c + (M.read c).readN o) % 10)) _
        rw [e1, e2]
        exact c2.write ok2 pm dok.1
    | say c =>
      have hr : (plain B).reads = (plainTo B i).reads ++ (c, (plainTo B i).mem.getD c 0) :: rest := by rw [hrest]; simp [pstep]
      have e1 := h.coh.readN ok0 dok
      obtain ⟨f1, n1⟩ := rd M c _ _ _ h.found h.nr hr e1
      have c1 : Coh B.mem.length (M.read c) (plainTo B i).mem := (h.coh.take ok0 (ok0.line dok)).tell
      refine ⟨?_, ?_, ?_, c1.tell, h.nc.read.tell (by decide)⟩
      · show saidOf ((M.read c).rows ++ [⟨(M.read c).beats, "say", c, M.readN c⟩]) = _
        rw [said_app, if_pos rfl, said_rd, h.said, e1]; rfl
      · show (ws _ _ ((M.read c).tell "say" c _)).found = []
        rw [ws_q (by decide) (by decide)]; exact f1
      · show (ws _ _ ((M.read c).tell "say" c _)).nr = _
        rw [ws_q (by decide) (by decide), n1]
        simp [pstep]
    | start k => cases dc
    | wait => exact ⟨h.said, h.found, h.nr, h.coh, h.nc⟩
    | clean l => exact ⟨said_clean.trans h.said, by show (ws _ _ (M.clean l)).found = []; rw [ws_clean]; exact h.found, by show (ws _ _ (M.clean l)).nr = _; rw [ws_clean]; exact h.nr, h.coh.clean ok0, h.nc.clean⟩
    | drop l => cases dc
  obtain ⟨k1, k2, k3, k4, k5⟩ := key
  rw [hbeat] at b1 ⊢
  exact ⟨rfl, hi, b1, hleft, rfl, k1, k2, k3, ⟨k4.c1, k4.c2⟩, k5⟩
theorem qt_run (ok : BrdOk B) (hc : ∀ d ∈ B.prog, calm d = true) : ∀ (f : Nat) (i : Nat) (M : Mst), Qt B i M → M.mu B.prog ≤ f → Qt B B.prog.length (Mst.run B.ords B.prog f M)
  | f, i, M, h, hf => by
    cases ho : M.over B.prog with
    | true =>
      rw [run_over ho]
      unfold Mst.over at ho
      have e := of_decide_eq_true (Bool.and_eq_true_iff.mp ho).1
      rw [← e, h.at_]; exact h
    | false =>
      obtain ⟨f', rfl, hrun⟩ := run_on (ords := B.ords) h.ok.at_ ho hf
      rw [hrun]
      have hi : i < B.prog.length := by
        rcases Nat.lt_or_ge i B.prog.length with z | z
        · exact z
        · exfalso
          unfold Mst.over at ho
          rw [h.at_, h.left, decide_eq_true (by have := h.le; omega)] at ho
          cases ho
      obtain ⟨_, b2⟩ := beat_ok h.ok ho ok.ords (brd_eight ok) ok.prog
      exact qt_run ok hc f' (i + 1) _ (qt_step ok hc h hi) (by omega)
structure Calm (B : Brd) (p : List Bool) : Prop where
  said : saidOf (gone B p).rows = (plain B).said
  mem : (gone B p).mem = (plain B).mem
  beats : (gone B p).beats = B.prog.length
  amiss : amissRows B p = []
  nc : NoCar (gone B p)
theorem finish_beats : M.finish.beats = M.beats := by
  show ((((M.clean 0).clean 1).clean 2).clean 3).beats = _
  rw [clean_rows.2.2.2.1, clean_rows.2.2.2.1, clean_rows.2.2.2.1, clean_rows.2.2.2.1]
theorem calm_gone (ok : BrdOk B) (hc : ∀ d ∈ B.prog, calm d = true) (p : List Bool) : Calm B p := by
  have h := qt_run ok hc 7000 0 _ (qt_begin ok p) (begin_mu ok p)
  have ef : gone B p = (Mst.run B.ords B.prog 7000 (Mst.begin B p)).finish := rfl
  have gk := gone_ok ok p
  generalize hR : Mst.run B.ords B.prog 7000 (Mst.begin B p) = R at *
  have hp := plainTo_all (B := B)
  have mm : ∀ k, k < B.mem.length → R.finish.mem.getD k 0 = (plain B).mem.getD k 0 := by rw [← hp]; exact h.coh.finish h.ok.toMOk0
  have ml : R.finish.mem.length = B.mem.length := by rw [← ef]; exact gk.1.mem
  refine ⟨?_, ?_, ?_, ?_, ?_⟩
  · rw [ef, said_finish, h.said, hp]
  · rw [ef]
    refine List.ext_getElem (by rw [ml, plain_mem]) (fun k h1 h2 => ?_)
    have := mm k (by omega)
    rw [List.getD_eq_getElem?_getD, List.getD_eq_getElem?_getD, List.getElem?_eq_getElem h1, List.getElem?_eq_getElem h2] at this
    exact this
  · rw [ef, finish_beats, h.beats]
  · rw [← amissOf_gone, ef]
    unfold amissOf
    rw [ws_finish, h.found, List.nil_append, endsTo_nil]
    exact mm
  · rw [ef]
    exact h.nc.clean.clean.clean.clean
theorem calm_sure (ok : BrdOk B) (hc : ∀ d ∈ B.prog, calm d = true) : paceAmiss B = none := by
  cases e : paceAmiss B with
  | none => rfl
  | some p => exact absurd (calm_gone ok hc p).amiss (pace_some ok e)
end
end Vt
namespace Vt
open PySem PySem.Spec PyProof.Rows L2
theorem none_same {H H' : Hp} (s : Same H H') {a : Addr} (e : H' a = none) : H a = none := by
  cases h : H a with
  | none => rfl
  | some o => rw [s _ _ h] at e; cases e
theorem nil_or_snoc {α : Type} (l : List α) : l = [] ∨ ∃ r x, l = r ++ [x] := by
  rcases List.eq_nil_or_concat l with h | ⟨r, x, h⟩
  · exact .inl h
  · exact .inr ⟨r, x, by rw [h, List.concat_eq_append]⟩
end Vt
namespace Vt
open PySem PySem.Spec PyProof.Rows L2
/-! ### the rows of fences that can be put in -/
def fencesOf (B : Brd) : List Deed := .wait :: (List.range (B.mem.length / 4)).flatMap fun l => [.clean l, .drop l]
def singlesOf (B : Brd) : List Fc := (List.range (B.prog.length + 1)).flatMap fun p => (fencesOf B).map fun d => (p, d)
def okAt (ch : List Fc) (p : Nat) : Bool := ch.isEmpty || decide ((ch.getLastD (0, .wait)).1 ≤ p)
def longer (B : Brd) (ch : List Fc) : List (List Fc) := ((singlesOf B).filter fun x => okAt ch x.1).map fun x => ch ++ [x]
def choicesOf (B : Brd) : Nat → List (List Fc)
  | 0 => [[]]
  | k + 1 => (choicesOf B k).flatMap (longer B)
section
variable {B : Brd}
theorem longer_eq {ch : List Fc} : longer B ch = (List.range (B.prog.length + 1)).flatMap fun p => if okAt ch p = true then (fencesOf B).map fun d => ch ++ [(p, d)] else [] := by
  unfold longer singlesOf
  generalize List.range (B.prog.length + 1) = r
  induction r with
  | nil => rfl
  | cons p r ih =>
    rw [List.flatMap_cons, List.filter_append, List.map_append, ih, List.flatMap_cons]
    congr 1
    generalize fencesOf B = ds
    cases h : okAt ch p with
    | true =>
      rw [if_pos rfl, List.filter_eq_self.mpr, List.map_map]
      · rfl
      · intro x hx
        obtain ⟨d, _, rfl⟩ := List.mem_map.mp hx
        exact h
    | false =>
      rw [if_neg (by decide), List.filter_eq_nil_iff.mpr]
      · rfl
      · intro x hx
        obtain ⟨d, _, rfl⟩ := List.mem_map.mp hx
        rw [h]; decide
/-- rising places, all of them fences that can be put in -/
structure ChOk (B : Brd) (k : Nat) (fs : List Fc) : Prop where
  len : fs.length = k
  mem : ∀ x ∈ fs, x.1 ≤ B.prog.length ∧ x.2 ∈ fencesOf B
  up : fs.Pairwise fun x y => x.1 ≤ y.1
theorem getLastD_snoc {α : Type} {l : List α} {x d : α} : (l ++ [x]).getLastD d = x := by simp
theorem snoc_up {fs : List Fc} {x : Fc} (h : fs.Pairwise fun x y => x.1 ≤ y.1) (o : okAt fs x.1 = true) : (fs ++ [x]).Pairwise fun x y => x.1 ≤ y.1 := by
  rw [List.pairwise_append]
  refine ⟨h, List.pairwise_singleton _ _, fun a ha b hb => ?_⟩
  rw [List.mem_singleton.mp hb]
  rcases (show fs = [] ∨ ∃ r y, fs = r ++ [y] from by
    rcases List.eq_nil_or_concat fs with h | ⟨r, y, h⟩
    · exact .inl h
    · exact .inr ⟨r, y, by rw [h, List.concat_eq_append]⟩) with rfl | ⟨r, y, rfl⟩
  · cases ha
  · have e : y.1 ≤ x.1 := by
      unfold okAt at o
      rw [getLastD_snoc] at o
      simpa using o
    rcases List.mem_append.mp ha with ha | ha
    · have := (List.pairwise_append.mp h).2.2 a ha y (by simp)
      exact Nat.le_trans this e
    · rw [List.mem_singleton.mp ha]; exact e
theorem choices_ok : ∀ {k : Nat} {fs : List Fc}, fs ∈ choicesOf B k → ChOk B k fs
  | 0, fs, h => by
    rw [choicesOf, List.mem_singleton] at h
    subst h
    exact ⟨rfl, (fun _ h => by cases h), .nil⟩
  | k + 1, fs, h => by
    rw [choicesOf] at h
    obtain ⟨ch, hc, h⟩ := List.mem_flatMap.mp h
    obtain ⟨x, hx, rfl⟩ := List.mem_map.mp h
    obtain ⟨hx, o⟩ := List.mem_filter.mp hx
    obtain ⟨p, hp, hx⟩ := List.mem_flatMap.mp hx
    obtain ⟨d, hd, rfl⟩ := List.mem_map.mp hx
    have ih := choices_ok hc
    refine ⟨by rw [List.length_append, ih.len]; rfl, fun x hx => ?_, snoc_up ih.up o⟩
    rcases List.mem_append.mp hx with h | h
    · exact ih.mem x h
    · rw [List.mem_singleton.mp h]
      exact ⟨Nat.lt_succ_iff.mp (List.mem_range.mp hp), hd⟩
theorem putTo_upto {prog : List Deed} {fs : List Fc} : ∀ i, (putTo prog fs i).length ≤ (prog.take i).length + (fs.filter fun x => decide (x.1 < i)).length
  | 0 => Nat.zero_le _
  | i + 1 => by
    have ih := putTo_upto (prog := prog) (fs := fs) i
    have e1 : (prog.take (i + 1)).length = (prog.take i).length + prog[i]?.toList.length := by rw [List.take_add_one, List.length_append]
    have e2 : ∀ fs : List Fc, (fs.filter fun x => decide (x.1 < i + 1)).length = (fs.filter fun x => decide (x.1 < i)).length + (fs.filter fun x => decide (x.1 = i)).length := by
      intro fs
      induction fs with
      | nil => rfl
      | cons x r ih =>
        simp only [List.filter_cons]
        rcases Nat.lt_trichotomy x.1 i with h | h | h
        · rw [if_pos (by simp; omega), if_pos (by simpa using h), if_neg (by simp; omega)]
          simp only [List.length_cons]; omega
        · rw [if_pos (by simp; omega), if_neg (by simp; omega), if_pos (by simpa using h)]
          simp only [List.length_cons]; omega
        · rw [if_neg (by simp; omega), if_neg (by simp; omega), if_neg (by simp; omega)]
          exact ih
    rw [putTo, List.length_append, List.length_append, List.length_map, e1, e2]
    omega
theorem putIn_len {fs : List Fc} : (putIn B fs).prog.length ≤ B.prog.length + fs.length := by
  have := putTo_upto (prog := B.prog) (fs := fs) (B.prog.length + 1)
  rw [List.take_of_length_le (by omega)] at this
  exact Nat.le_trans this (Nat.add_le_add_left (List.length_filter_le _ _) _)
theorem fence_not {d : Deed} (h : d ∈ fencesOf B) : isStart d = false ∧ DeedOk d B.ords.length B.mem.length := by
  unfold fencesOf at h
  rcases List.mem_cons.mp h with rfl | h
  · exact ⟨rfl, True.intro⟩
  · obtain ⟨l, hl, h⟩ := List.mem_flatMap.mp h
    have hl' := List.mem_range.mp hl
    simp only [List.mem_cons, List.not_mem_nil, or_false] at h
    rcases h with rfl | rfl
    · exact ⟨rfl, hl'⟩
    · exact ⟨rfl, hl'⟩
theorem putTo_deeds {prog : List Deed} {fs : List Fc} : ∀ i, ∀ d ∈ putTo prog fs i, d ∈ prog ∨ ∃ x ∈ fs, x.2 = d
  | 0 => fun d h => by cases h
  | i + 1 => fun d h => by
    rw [putTo] at h
    rcases List.mem_append.mp h with h | h
    · exact putTo_deeds i d h
    · rcases List.mem_append.mp h with h | h
      · obtain ⟨x, hx, rfl⟩ := List.mem_map.mp h
        exact .inr ⟨x, (List.mem_filter.mp hx).1, rfl⟩
      · left
        cases e : prog[i]? with
        | none => rw [e] at h; cases h
        | some y =>
          rw [e] at h
          rw [show d = y from by simpa using h]
          exact List.mem_of_getElem? e
theorem putTo_starts {prog : List Deed} {fs : List Fc} (h : ∀ x ∈ fs, isStart x.2 = false) : ∀ i, (putTo prog fs i).filter isStart = (prog.take i).filter isStart
  | 0 => rfl
  | i + 1 => by
    rw [putTo, List.filter_append, putTo_starts h i, List.filter_append, List.take_add_one, List.filter_append]
    congr 1
    rw [List.filter_eq_nil_iff.mpr, List.nil_append]
    intro d hd
    obtain ⟨x, hx, rfl⟩ := List.mem_map.mp hd
    rw [h x (List.mem_filter.mp hx).1]; decide
theorem putIn_ok (ok : BrdOk B) {k : Nat} {fs : List Fc} (c : ChOk B k fs) (h : B.prog.length + k ≤ 60) : BrdOk (putIn B fs) := by
  have l := putIn_len (B := B) (fs := fs)
  rw [c.len] at l
  refine ⟨ok.cells, ok.nums, ok.four, ok.ords, Nat.le_trans l h, fun d hd => ?_, ?_⟩
  · rcases putTo_deeds _ d hd with h | ⟨x, hx, rfl⟩
    · exact ok.prog d h
    · exact (fence_not (c.mem x hx).2).2
  · show ((putTo B.prog fs (B.prog.length + 1)).filter isStart).length ≤ 3
    rw [putTo_starts (fun x hx => (fence_not (c.mem x hx).2).1), List.take_of_length_le (by omega)]
    exact ok.starts
theorem fences_len : (fencesOf B).length = 1 + 2 * (B.mem.length / 4) := by
  have : ∀ n : Nat, ((List.range n).flatMap fun l => [Deed.clean l, Deed.drop l]).length = 2 * n := by
    intro n
    induction n with
    | zero => rfl
    | succ n ih => rw [List.range_succ, List.flatMap_append, List.length_append, ih]; simp; omega
  unfold fencesOf
  rw [List.length_cons, this]; omega
theorem flat_le {α β : Type} {f : α → List β} {b : Nat} : ∀ {l : List α}, (∀ x ∈ l, (f x).length ≤ b) → (l.flatMap f).length ≤ l.length * b
  | [], _ => Nat.zero_le _
  | x :: r, h => by
    rw [List.flatMap_cons, List.length_append, List.length_cons, Nat.add_mul, Nat.one_mul, Nat.add_comm]
    exact Nat.add_le_add (flat_le fun y hy => h y (List.mem_cons_of_mem _ hy)) (h x (by simp))
theorem singles_len (ok : BrdOk B) (h : B.prog.length ≤ 5) : (singlesOf B).length ≤ 54 := by
  have h1 : (fencesOf B).length ≤ 9 := by
    rw [fences_len]
    rcases ok.cells with e | e | e | e <;> rw [e] <;> decide
  have h2 : (singlesOf B).length ≤ (List.range (B.prog.length + 1)).length * 9 := flat_le fun p _ => by rw [List.length_map]; exact h1
  rw [List.length_range] at h2
  omega
theorem longer_len (ok : BrdOk B) (h : B.prog.length ≤ 5) {ch : List Fc} : (longer B ch).length ≤ 54 := by
  unfold longer
  rw [List.length_map]
  exact Nat.le_trans (List.length_filter_le _ _) (singles_len ok h)
theorem choices_len (ok : BrdOk B) (h : B.prog.length ≤ 5) : ∀ k, (choicesOf B k).length ≤ 54 ^ k
  | 0 => Nat.le_refl _
  | k + 1 => by
    rw [choicesOf, Nat.pow_succ]
    exact Nat.le_trans (flat_le fun ch _ => longer_len ok h) (Nat.mul_le_mul_right _ (choices_len ok h k))
theorem choices_few (ok : BrdOk B) (h : B.prog.length ≤ 5) {k : Nat} (hk : k ≤ 2) : (choicesOf B k).length ≤ 2916 :=
  Nat.le_trans (choices_len ok h k) (Nat.pow_le_pow_right (n := 54) (by decide) hk)
end
end Vt
namespace Vt
open PySem PySem.Spec PyProof.Rows L2
theorem pi_ltk {X : Cx} (K : PySem.W.Frag) {tg l : Expr} {tl : TE} (hp : PE X l tl) (h : X.K = K := by rfl) : PI X tg l (iLT K tl) := by
  subst h
  exact pi_lt hp
theorem pt_truthk {X : Cx} (K : PySem.W.Frag) {a : Expr} {ta : TE} (ha : PE X a ta) (e : ∀ (whole : Sem Value), PySem.isTrue a X.env whole = do
    let v ← whole
    standAt a.pos
    holding [v] (truthy v)) (h : X.K = K := by rfl) : PT X a fun σ H Q => ta σ H fun x H' => ∃ k, TruV K x H' k ∧ Q k H' := by
  subst h
  exact pt_truth ha e
/-- a loop's frame, whatever its body does with what is to come -/
theorem out_it {J : It} {n : Nat} {G : Hp → Prop} {Y : Nat → Hp → V → Hp → Prop} (wk : Walk J n G Y) {Bd : V → Hp → (Hp → Prop) → Prop} {Fin : Hp → Prop} {H0 : Hp} (Pv : Nat → Hp → Prop) (h0 : Pv 0 H0) (hG : ∀ i H, i ≤ n → Pv i H → G H)
    (st : ∀ i x H H', i < n → Pv i H → Y i H x H' → Bd x H' (Pv (i + 1))) (fin : ∀ H, Pv n H → Fin H) :
    ∃ W : Nat → Nat → Hp → Prop, (∃ m, W 0 m H0) ∧ ∀ (i m : Nat) (H : Hp), W i m H → J.stop i H ∧ Fin H ∨ J.go i H ∧ ∃ Nx : Hp → Prop, (∀ H', Nx H' → ∃ m', m' < m ∧ W (i + 1) m' H') ∧ ∀ x H', J.yld i H x H' → Bd x H' Nx := by
  refine ⟨fun j k H => j ≤ n ∧ k = n - j ∧ Pv j H, ⟨n, Nat.zero_le _, rfl, h0⟩, fun j k H ⟨hj, hk, hp⟩ => ?_⟩
  by_cases e : j = n
  · subst e
    exact .inl ⟨wk.stops H (hG _ H hj hp), fin H hp⟩
  · have lt : j < n := by omega
    exact .inr ⟨wk.goes j H lt (hG j H hj hp), Pv (j + 1), fun H' h => ⟨n - (j + 1), by omega, by omega, rfl, h⟩, fun x H' hy => st j x H H' lt hp (wk.yields j H x H' lt (hG j H hj hp) hy)⟩
/-- a row of fences at an address -/
def RowAt (H : Hp) (a : Addr) (fs : List Fc) : Prop := ∃ xs, H a = some (.lst xs) ∧ Pds H xs (fs.map fcD)
abbrev RowsAt (H : Hp) (as : List Addr) (fss : List (List Fc)) : Prop := Paired (fun a fs => RowAt H a fs) as fss
section
variable {H H' : Hp} {a : Addr} {fs : List Fc} {as : List Addr} {fss : List (List Fc)}
theorem RowAt.same (h : RowAt H a fs) (s : Same H H') : RowAt H' a fs := by
  obtain ⟨xs, e, p⟩ := h
  exact ⟨xs, s _ _ e, p.same s⟩
theorem RowAt.set (h : RowAt H a fs) {D : Addr} {ys zs : List V} (e : H D = some (.lst ys)) (n : a ≠ D) : RowAt (upd H D (.lst zs)) a fs := by
  obtain ⟨xs, ea, p⟩ := h
  exact ⟨xs, by rw [upd_ne n]; exact ea, Pds.tups (fun c us z => by rw [upd_ne (fun q => by rw [q, e] at z; cases z)]; exact z) (noLs_map noL_fc _) p⟩
theorem RowsAt.same : ∀ {as : List Addr} {fss : List (List Fc)}, RowsAt H as fss → Same H H' → RowsAt H' as fss
  | _, _, .nil, _ => .nil
  | _, _, .cons h t, s => .cons (h.same s) (RowsAt.same t s)
theorem RowsAt.set {D : Addr} {ys zs : List V} (e : H D = some (.lst ys)) : ∀ {as : List Addr} {fss : List (List Fc)}, RowsAt H as fss → D ∉ as → RowsAt (upd H D (.lst zs)) as fss
  | _, _, .nil, _ => .nil
  | _, _, .cons h t, n => .cons (h.set e (fun z => n (by rw [z]; simp))) (RowsAt.set e t (fun z => n (List.mem_cons_of_mem _ z)))
theorem RowsAt.app : ∀ {as bs : List Addr} {fss gss : List (List Fc)}, RowsAt H as fss → RowsAt H bs gss → RowsAt H (as ++ bs) (fss ++ gss)
  | _, _, _, _, .nil, k => k
  | _, _, _, _, .cons h t, k => .cons h (RowsAt.app t k)
theorem RowsAt.len : ∀ {as : List Addr} {fss : List (List Fc)}, RowsAt H as fss → as.length = fss.length
  | _, _, .nil => rfl
  | _, _, .cons _ t => by rw [List.length_cons, List.length_cons, RowsAt.len t]
theorem RowsAt.get : ∀ {as : List Addr} {fss : List (List Fc)} {i : Nat} {a : Addr}, RowsAt H as fss → as[i]? = some a → ∃ fs, fss[i]? = some fs ∧ RowAt H a fs
  | _, _, _, _, .nil, h => by simp at h
  | _, _, 0, _, .cons (b := b) h t, e => by
    simp only [List.getElem?_cons_zero, Option.some.injEq] at e
    subst e
    exact ⟨b, rfl, h⟩
  | _, _, i + 1, _, .cons h t, e => by
    obtain ⟨fs, e1, h1⟩ := RowsAt.get t (i := i) (by simpa using e)
    exact ⟨fs, by simpa using e1, h1⟩
theorem RowsAt.notFresh {p : Addr} (n : H p = none) : ∀ {as : List Addr} {fss : List (List Fc)}, RowsAt H as fss → p ∉ as
  | _, _, .nil, z => by cases z
  | _, _, .cons h t, z => by
    obtain ⟨xs, e, _⟩ := h
    rcases List.mem_cons.mp z with q | q
    · rw [← q, n] at e; cases e
    · exact RowsAt.notFresh n t q
end
end Vt
namespace Vt
open PySem PySem.Spec PyProof.Rows L2
/-- the fences of so many lines -/
def fenTo (n : Nat) : List Deed := .wait :: (List.range n).flatMap fun l => [.clean l, .drop l]
theorem fenTo_succ {n : Nat} : fenTo (n + 1) = fenTo n ++ [.clean n, .drop n] := by
  unfold fenTo
  rw [List.range_succ, List.flatMap_append, List.cons_append]; rfl
theorem fenTo_len {n : Nat} : (fenTo n).length = 1 + 2 * n := by
  induction n with
  | zero => rfl
  | succ n ih => rw [fenTo_succ, List.length_append, ih]; simp; omega
def sinTo (B : Brd) (i : Nat) : List Fc := (List.range i).flatMap fun p => (fencesOf B).map fun d => (p, d)
theorem sinTo_succ {B : Brd} {i : Nat} : sinTo B (i + 1) = sinTo B i ++ (fencesOf B).map fun d => (i, d) := by
  unfold sinTo
  rw [List.range_succ, List.flatMap_append]; simp
theorem sinTo_len {B : Brd} {i : Nat} : (sinTo B i).length = i * (fencesOf B).length := by
  induction i with
  | zero => simp [sinTo]
  | succ i ih => rw [sinTo_succ, List.length_append, ih, List.length_map, Nat.add_mul, Nat.one_mul]
theorem fences_nine {B : Brd} (ok : BrdOk B) : (fencesOf B).length ≤ 9 := by
  rw [fences_len]
  rcases ok.cells with e | e | e | e <;> rw [e] <;> decide
theorem nl_list {H : Hp} {p q : Addr} {xs : List V} {zs : List V} (h : H p = some (.lst xs)) (e : H q = some (.tup zs)) : q ≠ p := fun z => by rw [z, h] at e; cases e
section
variable {P : Program} {w : World} {K : PySem.W.Frag} {mg : Str → Option Value} {base : Heap}
abbrev st_single_fences : Stmt := (topS 46)
abbrev nm_single_fences : List Str := ["board", "memory", "orders", "program", "fences", "line", "place", "fence"]
theorem sc_single_fences : FnScope ["board", "memory", "orders", "program", "fences", "line", "place", "fence"] ["board"] (defScope st_single_fences) := ⟨rfl, rfl, rfl, by decide +kernel, rfl, by decide +kernel, by decide +kernel⟩
def spSingles : Sp := fun vs H Q _ => ∃ (v : V) (B : Brd), vs = [v] ∧ Pd H v B.d ∧ BrdOk B ∧ B.prog.length ≤ 5 ∧ ∀ (H' : Hp) (L : Addr) (xs : List V), Same H H' → H L = none → H' L = some (.lst xs) → Pds H' xs ((singlesOf B).map fcD) → Q (.ref L) H'
set_option maxHeartbeats 0 in
theorem ok_singles {f : Addr} {fd : FuncData} (F : Fun K "single_fences" "single_fences" st_single_fences f fd) (C : Consts K mg) (z_len : mg "len" = none) (z_range : mg "range" = none) : FnOk P w K mg base CX0 1 f fd ["board"] spSingles := by
  obtain ⟨tL, mc_LINE⟩ := C.line
  refine F.ok sc_single_fences (fun vs H Q E h => ?_) (fun cdv A outer s H vs Q E hr h => ?_)
  · obtain ⟨v, B, rfl, _⟩ := h
    rfl
  · obtain ⟨v, B, rfl, hB, ok, h5, q⟩ := h
    obtain ⟨a, m, o, p, os, ps, rfl, ha, hm, ho, hos, hp, hps⟩ := Brd.of hB
    have pl : ps.length = B.prog.length := by rw [hps.len, List.length_map]
    have f9 := fences_nine ok
    refine ⟨_, (pss_cons (ps_asg (pv 0) (pg_tup rfl (pgs_cons (pg_name (i := 1) sc_single_fences.nd rfl (Or.inl rfl)) (pgs_cons (pg_name (i := 2) sc_single_fences.nd rfl (Or.inl rfl)) (pgs_cons (pg_name (i := 3) sc_single_fences.nd rfl (Or.inl rfl)) pgs_nil)))))
  (pss_cons (ps_set (i := 4) sc_single_fences.nd rfl (Or.inr rfl) (pe_lst (pa_cons (pe_tup (pa_cons pe_str pa_nil)) pa_nil)))
  (pss_cons (ps_for PassesOwn.never rfl (pi_range1 (by rfl) z_range (pa_cons (pe_op op_fdiv (pe_callB call_len_seq (by rfl) z_len (by decide +kernel) (pa_cons (pv 1) pa_nil)) (pe_glob (v := .int 4) rfl mc_LINE ⟨_, rfl⟩)) pa_nil)) (pg_name (i := 5) sc_single_fences.nd rfl (Or.inl rfl))
  (pss_one (ps_expr (pe_bm PySem.F.plainAttrs_list PySem.F.slot_list_extend PySem.F.type_list_extend mt_extend (pv 4) (pa_cons (pe_lst (pa_cons (pe_tup (pa_cons pe_str (pa_cons (pv 5) pa_nil))) (pa_cons (pe_tup (pa_cons pe_str (pa_cons (pv 5) pa_nil))) pa_nil))) pa_nil)))))
  (pss_one (ps_ret (pe_lc2 (own := [("place", 6), ("fence", 7)]) (vs1 := [7]) rfl sc_single_fences.nd (pi_range1 (by rfl) z_range (pa_cons (pe_op op_add (pe_callB call_len_seq (by rfl) z_len (by decide +kernel) (pa_cons (pv 3) pa_nil)) pe_int) pa_nil)) (blkOk_by (own := [("place", 6), ("fence", 7)]) (N := nm_single_fences) (sc := defScope (topS 46)) (by decide +kernel)) (by decide) (fun _ _ _ _ _ => (pg_name (i := 6) sc_single_fences.nd rfl (Or.inl rfl))) (fun _ _ _ _ _ => pts_nil) (fun _ _ _ _ _ => (pi_ltk K (pv 4))) (fun _ _ _ _ _ => (pg_name (i := 7) sc_single_fences.nd rfl (Or.inl rfl))) (fun _ _ _ _ _ => pts_nil) (fun _ _ _ _ _ => (pe_tup (pa_cons (pv 6) (pa_cons (pv 7) pa_nil)))))))))), ?_⟩
    refine ⟨_, rfl, a, _, rfl, sqT_t ha, rfl, _, _, rfl, _, _, rfl, _, _, rfl, rfl, ?_⟩
    refine ⟨by show 1 ≤ sizeLine; decide, fun T1 nT1 => ⟨by show 1 ≤ sizeLine; decide, fun fl nfl => ?_⟩⟩
    have s1 := same_new (o := .tup [.str "wait"]) nT1
    have hT1 : (upd H T1 (.tup [.str "wait"])) T1 = some (.tup [.str "wait"]) := upd_same
    generalize upd H T1 (.tup [.str "wait"]) = H1 at s1 hT1 nfl
    have s2 := same_new (o := .lst [.ref T1]) nfl
    have hfl : (upd H1 fl (.lst [.ref T1])) fl = some (.lst [.ref T1]) := upd_same
    have hT2 := s2 _ _ hT1
    generalize upd H1 fl (.lst [.ref T1]) = H2 at s2 hfl hT2
    have s12 := s1.trans s2
    have nfl0 : H fl = none := none_same s1 nfl
    obtain ⟨n, hn⟩ : ∃ n, n = B.mem.length / 4 := ⟨_, rfl⟩
    have n4 : n ≤ 4 := by have := ok.cells; omega
    have en : (((B.mem.map nV).length : Nat) : Int) / 4 = ((n : Nat) : Int) := by rw [List.length_map, hn]; omega
    refine ⟨_, rfl, m, _, rfl, .inr (sqT_t (s12 _ _ hm)), _, _, rfl, rfl, ⟨by decide, by decide⟩, _, rfl, by omega, by omega, ?_⟩
    have fx : ∀ {p : Nat} {d : Deed}, (D.noL (d.d)) = true := fun {p d} => noL_deed _
    refine for_it (walk_range (lo := 0) (n := ((((B.mem.map nV).length : Nat) : Int) / 4).toNat)) (fun i σ H' => ∃ (ev : List V) (y : Option V), σ = [some (.ref a), some (.ref m), some (.ref o), some (.ref p), some (.ref fl), y, none, none] ∧ H' fl = some (.lst ev) ∧ Pds H' ev ((fenTo i).map Deed.d) ∧ Same H H')
      ⟨_, _, rfl, hfl, .cons (Deed.pd (d := .wait) hT2) .nil, s12⟩ (fun _ _ _ _ _ => trivial) (fun i x σ H3' H3 hi hp' hy => ?_) (fun σ H3 hp' => ?_)
    · obtain ⟨ev, y, rfl, hfl3, hev, s3⟩ := hp'
      obtain ⟨rfl, rfl⟩ := hy
      have il : i < n := by rw [en] at hi; omega
      have evl : ev.length ≤ 9 := by rw [hev.len, List.length_map, fenTo_len]; omega
      refine chgN (y := nV i) (congrArg V.int (Int.zero_add _)) ?_
      refine ⟨_, rfl, .inl ⟨rfl, _, sqL_l hfl3⟩, ?_⟩
      refine ⟨_, rfl, by show 2 ≤ sizeLine; decide, fun U1 u1 => ⟨_, rfl, by show 2 ≤ sizeLine; decide, fun U2 u2 => ⟨by show 2 ≤ sizeLine; decide, fun Lx nLx => ?_⟩⟩⟩
      have t1 := same_new (o := .tup [.str "clean", nV i]) u1
      have h1 : (upd H3 U1 (.tup [.str "clean", nV i])) U1 = some (.tup [.str "clean", nV i]) := upd_same
      generalize upd H3 U1 (.tup [.str "clean", nV i]) = H4 at t1 h1 u2 nLx
      have t2 := same_new (o := .tup [.str "drop", nV i]) u2
      have h2 : (upd H4 U2 (.tup [.str "drop", nV i])) U2 = some (.tup [.str "drop", nV i]) := upd_same
      generalize upd H4 U2 (.tup [.str "drop", nV i]) = H5 at t2 h2 nLx
      have t3 := same_new (o := .lst [.ref U1, .ref U2]) nLx
      have hLx : (upd H5 Lx (.lst [.ref U1, .ref U2])) Lx = some (.lst [.ref U1, .ref U2]) := upd_same
      generalize upd H5 Lx (.lst [.ref U1, .ref U2]) = H6 at t3 hLx
      have s36 := (t1.trans t2).trans t3
      have hfl6 := s36 _ _ hfl3
      have hev6 := hev.same s36
      have g1 := t3 _ _ (t2 _ _ h1)
      have g2 := t3 _ _ h2
      have st : But [fl] H6 (upd H6 fl (.lst (ev ++ [.ref U1, .ref U2]))) := But.set (by simp)
      have ls : Lsts H6 [fl] := fun c hc => ⟨ev, by rw [List.mem_singleton.mp hc]; exact hfl6⟩
      refine ⟨fl, Lx, ev, _, rfl, rfl, hfl6, hLx, Nat.le_of_lt (fits (by simp; omega)), ?_⟩
      refine ⟨_, _, rfl, upd_same, ?_, But.new1 (s3.trans s36) nfl0 st⟩
      rw [fenTo_succ, List.map_append]
      exact (Pds.but st ls (noLs_map noL_deed _) hev6).app (.cons (Pd.but st ls (noL_deed _) (Deed.pd (d := .clean i) g1)) (.cons (Pd.but st ls (noL_deed _) (Deed.pd (d := .drop i) g2)) .nil))
    · obtain ⟨ev, y, rfl, hfl3, hev, s3⟩ := hp'
      rw [en, show fenTo ((n : Nat) : Int).toNat = fencesOf B from by rw [Int.toNat_natCast, hn]; rfl] at hev
      have evl : ev.length ≤ 9 := by rw [hev.len, List.length_map]; exact f9
      refine ⟨_, rfl, p, _, rfl, .inr (sqT_t (s3 _ _ hp)), _, _, rfl, rfl, _, rfl, by omega, by omega, ?_⟩
      refine fun L1 nL1 => ?_
      have nL0 : H L1 = none := none_same s3 nL1
      refine out_it (walk_range (lo := 0) (n := ((ps.length : Int) + 1).toNat)) (fun i H' => ∃ xs : List V, H' L1 = some (.lst xs) ∧ Pds H' xs ((sinTo B i).map fcD) ∧ Same H3 H')
        ⟨[], upd_same, .nil, same_new nL1⟩ (fun _ _ _ _ => trivial) (fun i x H4' H4 hi hp' hy => ?_) (fun H4 hp' => ?_)
      · obtain ⟨xs, hL1, hxs, s4⟩ := hp'
        obtain ⟨rfl, rfl⟩ := hy
        refine chgN (y := nV i) (congrArg V.int (Int.zero_add _)) ?_
        refine ⟨rfl, ?_⟩
        have il : i ≤ 5 := by omega
        have hfl4 := s4 _ _ hfl3
        have hev4 := hev.same s4
        have nL1' : ∀ c xs, H4 c = some (.tup xs) → c ≠ L1 := fun c xs e z => by rw [z, hL1] at e; cases e
        have fL : fl ≠ L1 := fun z => by rw [z, nL1] at hfl3; cases hfl3
        refine ⟨_, rfl, fl, rfl, .inl ⟨_, sqL_l hfl4, ?_⟩⟩
        refine out_it (walk_list (xs := ev)) (fun j H' => ∃ xs : List V, H' L1 = some (.lst xs) ∧ Pds H' xs ((sinTo B i ++ ((fencesOf B).take j).map fun d => (i, d)).map fcD) ∧ Same H3 H')
          ⟨xs, hL1, by simpa using hxs, s4⟩ (fun j H' _ hp => by obtain ⟨_, _, _, sm⟩ := hp; exact sqL_l (sm _ _ hfl3)) (fun j x H5' H5 hj hp' hy => ?_) (fun H5 hp' => ?_)
        · obtain ⟨xs5, hL5, hx5, s5⟩ := hp'
          obtain ⟨rfl, hx⟩ := hy
          obtain ⟨dx, hdx, hpd⟩ := hev.get' hx
          rw [List.getElem?_map] at hdx
          obtain ⟨d0, hd0, rfl⟩ : ∃ d0, (fencesOf B)[j]? = some d0 ∧ d0.d = dx := by simpa using hdx
          obtain ⟨da, rfl, hda⟩ := Deed.of (hpd.same s5)
          have tk : (fencesOf B).take (j + 1) = (fencesOf B).take j ++ [d0] := by rw [List.take_add_one, hd0]; rfl
          have x5l : xs5.length ≤ 54 := by
            rw [hx5.len, List.length_map, List.length_append, List.length_map, sinTo_len]
            have h1 := List.length_take_le' j (fencesOf B)
            have h2 : i * (fencesOf B).length ≤ 5 * 9 := Nat.mul_le_mul il f9
            omega
          refine ⟨rfl, ?_⟩
          refine ⟨_, rfl, _, rfl, by show 2 ≤ sizeLine; decide, fun T nT => ?_⟩
          have sT := same_new (o := .tup [nV i, .ref da]) nT
          have hT : (upd H5 T (.tup [nV i, .ref da])) T = some (.tup [nV i, .ref da]) := upd_same
          generalize upd H5 T (.tup [nV i, .ref da]) = H6 at sT hT
          have hL6 := sT _ _ hL5
          have hda6 := sT _ _ hda
          have st : But [L1] H6 (upd H6 L1 (.lst (xs5 ++ [.ref T]))) := But.set (by simp)
          have ls : Lsts H6 [L1] := fun c hc => ⟨xs5, by rw [List.mem_singleton.mp hc]; exact hL6⟩
          refine ⟨xs5, hL6, fits (by omega), xs5 ++ [.ref T], upd_same, ?_, But.new1 (s5.trans sT) nL1 st⟩
          have e : sinTo B i ++ ((fencesOf B).take j ++ [d0]).map (fun d => (i, d)) = (sinTo B i ++ ((fencesOf B).take j).map fun d => (i, d)) ++ [(i, d0)] := by rw [List.map_append, List.append_assoc]; rfl
          rw [tk, e, List.map_append]
          exact (Pds.but st ls (noLs_map noL_fc _) (hx5.same sT)).app (.cons (Pd.but st ls (noL_fc _) (Fc.pd (x := (i, d0)) hT hda6)) .nil)
        · obtain ⟨xs5, hL5, hx5, s5⟩ := hp'
          have e : (fencesOf B).take ev.length = fencesOf B := List.take_of_length_le (by rw [hev.len, List.length_map]; exact Nat.le_refl _)
          rw [e, ← sinTo_succ] at hx5
          exact ⟨xs5, hL5, hx5, s5⟩
      · obtain ⟨xs, hL1, hxs, s4⟩ := hp'
        have e : ((ps.length : Int) + 1).toNat = B.prog.length + 1 := by omega
        rw [e] at hxs
        exact q H4 L1 xs (s3.trans s4) nL0 hL1 hxs
end
end Vt
namespace Vt
open PySem PySem.Spec PyProof.Rows L2
theorem at_last {α : Type} {xs : List α} {y : α} : atI (xs ++ [y]) (-1) = some y := by
  unfold atI
  have e : ixN (xs ++ [y]).length (-1) = some xs.length := by
    simp [ixN]
    try omega
  rw [e]
  simp
section
variable {P : Program} {w : World} {K : PySem.W.Frag} {mg : Str → Option Value} {base : Heap}
abbrev st_choices_of_fences : Stmt := (topS 45)
abbrev nm_choices_of_fences : List Str := ["board", "many", "singles", "choices", "step", "choice", "told"]
theorem sc_choices_of_fences : FnScope ["board", "many", "singles", "choices", "step", "choice", "told"] ["board", "many"] (defScope st_choices_of_fences) := ⟨rfl, rfl, rfl, by decide +kernel, rfl, by decide +kernel, by decide +kernel⟩
def spChoices : Sp := fun vs H Q _ => ∃ (v : V) (B : Brd) (k : Nat), vs = [v, nV k] ∧ Pd H v B.d ∧ BrdOk B ∧ B.prog.length ≤ 5 ∧ k ≤ 2 ∧ ∀ (H' : Hp) (L : Addr) (as : List Addr), Same H H' → H L = none → H' L = some (.lst (as.map V.ref)) → RowsAt H' as (choicesOf B k) → Q (.ref L) H'
set_option maxHeartbeats 0 in
theorem ok_choices {f : Addr} {fd : FuncData} (F : Fun K "choices_of_fences" "choices_of_fences" st_choices_of_fences f fd) (c_single_fences : Callee P w K mg base "single_fences" 1 1 spSingles) (z_range : mg "range" = none) : FnOk P w K mg base CX0 2 f fd ["board", "many"] spChoices := by
  refine F.ok sc_choices_of_fences (fun vs H Q E h => ?_) (fun cdv A outer s H vs Q E hr h => ?_)
  · obtain ⟨v, B, k, rfl, _⟩ := h
    rfl
  · obtain ⟨v, B, k, rfl, hB, ok, h5, hk, q⟩ := h
    refine ⟨_, (pss_cons (ps_set (i := 2) sc_choices_of_fences.nd rfl (Or.inr rfl) (pe_cal c_single_fences hr (by first | decide | exact Nat.le_refl _) (pa_cons (pv 0) pa_nil)))
  (pss_cons (ps_set (i := 3) sc_choices_of_fences.nd rfl (Or.inl rfl) (pe_lst (pa_cons (pe_lst pa_nil) pa_nil)))
  (pss_cons (ps_for PassesOwn.never rfl (pi_range1 (by rfl) z_range (pa_cons (pv 1) pa_nil)) (pg_name (i := 4) sc_choices_of_fences.nd rfl (Or.inl rfl))
  (pss_one (ps_setLc2 (i := 3) (own := [("choice", 5), ("told", 6)]) (vs1 := [6]) rfl sc_choices_of_fences.nd rfl rfl (sw_true rfl rfl rfl (by decide +kernel)) (pi_lt (pv 3)) (blkOk_by (own := [("choice", 5), ("told", 6)]) (N := nm_choices_of_fences) (sc := defScope (topS 45)) (by decide +kernel)) (by decide) (fun _ _ _ _ _ => (pg_name (i := 5) sc_choices_of_fences.nd rfl (Or.inl rfl))) (fun _ _ _ _ _ => pts_nil) (fun _ _ _ _ _ => (pi_ltk K (pv 2))) (fun _ _ _ _ _ => (pg_name (i := 6) sc_choices_of_fences.nd rfl (Or.inl rfl))) (fun _ _ _ _ _ => (pts_one (PW.pt (pw_or (pt_not (pt_truthk K (pv 5) (fun _ => rfl))) (pw_or1 (pt_cmpR op_le (pe_ix (ix_ltk K) (pe_ix (ix_ltk K) (pv 5) (pe_un un_neg pe_int) (fun _ _ => rfl)) pe_int (fun _ _ => rfl)) (pe_ix (ix_ltk K) (pv 6) pe_int (fun _ _ => rfl)) (nomark _))))))) (fun _ _ _ _ _ => (pe_op op_cat (pv 5) (pe_lst (pa_cons (pv 6) pa_nil)))))))
  (pss_one (ps_ret (pv 3)))))), ?_⟩
    refine ⟨_, rfl, v, B, rfl, hB, ok, h5, fun H1 S sx s1 nS hS hsx => ?_⟩
    refine ⟨Nat.zero_le _, fun L0 n0 => ⟨by show 1 ≤ sizeLine; decide, fun L1 n1 => ?_⟩⟩
    have t1 := same_new (o := .lst []) n0
    have h0 : (upd H1 L0 (.lst [])) L0 = some (.lst []) := upd_same
    generalize upd H1 L0 (.lst []) = H2 at t1 h0 n1
    have t2 := same_new (o := .lst [.ref L0]) n1
    have h1 : (upd H2 L1 (.lst [.ref L0])) L1 = some (.lst [.ref L0]) := upd_same
    have h0' := t2 _ _ h0
    generalize upd H2 L1 (.lst [.ref L0]) = H3 at t2 h1 h0'
    have s13 := t1.trans t2
    have nL1 : H L1 = none := none_same (s1.trans t1) n1
    refine ⟨_, rfl, (k : Int), rfl, by omega, by omega, ?_⟩
    refine for_it (walk_range (lo := 0) (n := ((k : Nat) : Int).toNat)) (fun i σ H' => ∃ (L : Addr) (as : List Addr) (y4 : Option V), σ = [some v, some (nV k), some (.ref S), some (.ref L), y4, none, none] ∧ H' L = some (.lst (as.map V.ref)) ∧ RowsAt H' as (choicesOf B i) ∧ Same H1 H' ∧ H L = none)
      ⟨L1, [L0], _, rfl, h1, .cons ⟨[], h0', .nil⟩ .nil, s13, nL1⟩ (fun _ _ _ _ _ => trivial) (fun i x σ H4' H4 hi hp hy => ?_) (fun σ H4 hp => ?_)
    · obtain ⟨L, as, y4, rfl, hL, has, s4, nL⟩ := hp
      obtain ⟨rfl, rfl⟩ := hy
      have ik : i < k := by simpa using hi
      have hS4 := s4 _ _ hS
      have hsx4 := hsx.same s4
      have cl := choices_few ok h5 (k := i) (by omega)
      have cl2 := choices_few ok h5 (k := i + 1) (by omega)
      have al := has.len
      refine ⟨_, rfl, L, rfl, .inl ⟨_, sqL_l hL, fun D nD => ?_⟩⟩
      have nD0 : H D = none := none_same (s1.trans s4) nD
      refine out_it (walk_list (xs := as.map V.ref)) (fun j H' => ∃ bs : List Addr, H' D = some (.lst (bs.map V.ref)) ∧ RowsAt H' bs (((choicesOf B i).take j).flatMap (longer B)) ∧ D ∉ bs ∧ Same H4 H')
        ⟨[], upd_same, .nil, (fun z => by cases z), same_new nD⟩ (fun j H' _ hp => by obtain ⟨_, _, _, _, sm⟩ := hp; exact sqL_l (sm _ _ hL)) (fun j x H5' H5 hj hp hy => ?_) (fun H5 hp => ?_)
      · obtain ⟨bs, hD, hbs, nDb, s5⟩ := hp
        obtain ⟨rfl, hx⟩ := hy
        rw [List.getElem?_map] at hx
        obtain ⟨a0, ha0, rfl⟩ : ∃ a0, as[j]? = some a0 ∧ V.ref a0 = x := by simpa using hx
        obtain ⟨ch, hch, hrow⟩ := has.get ha0
        have tk : (choicesOf B i).take (j + 1) = (choicesOf B i).take j ++ [ch] := by rw [List.take_add_one, hch]; rfl
        refine ⟨rfl, ?_⟩
        refine ⟨_, rfl, S, rfl, .inl ⟨_, sqL_l (s5 _ _ hS4), ?_⟩⟩
        refine out_it (walk_list (xs := sx)) (fun l H' => ∃ bs : List Addr, H' D = some (.lst (bs.map V.ref)) ∧ RowsAt H' bs (((choicesOf B i).take j).flatMap (longer B) ++ (((singlesOf B).take l).filter fun x => okAt ch x.1).map fun x => ch ++ [x]) ∧ D ∉ bs ∧ Same H4 H')
          ⟨bs, hD, by simpa using hbs, nDb, s5⟩ (fun l H' _ hp => by obtain ⟨_, _, _, _, sm⟩ := hp; exact sqL_l (sm _ _ hS4)) (fun l x H6' H6 hl hp hy => ?_) (fun H6 hp => ?_)
        · obtain ⟨cs, hD6, hcs, nDc, s6⟩ := hp
          obtain ⟨rfl, hx⟩ := hy
          obtain ⟨dx, hdx, hpd⟩ := hsx.get' hx
          rw [List.getElem?_map] at hdx
          obtain ⟨x0, hx0, rfl⟩ : ∃ x0, (singlesOf B)[l]? = some x0 ∧ fcD x0 = dx := by simpa using hdx
          have s16 := s4.trans s6
          obtain ⟨ta, da, rfl, hta, hda⟩ := Fc.of (hpd.same s16)
          obtain ⟨chx, hca, hchx⟩ := hrow.same s6
          have tl : (singlesOf B).take (l + 1) = (singlesOf B).take l ++ [x0] := by rw [List.take_add_one, hx0]; rfl
          refine ⟨rfl, ?_⟩
          refine ⟨_, rfl, ?_⟩
          have hxp := hpd.same s16
          have chl : chx.length = ch.length := by rw [hchx.len, List.length_map]
          have chn : ch.length = i := (choices_ok (List.mem_of_getElem? hch)).len
          have fl1 : (((choicesOf B i).take j).flatMap (longer B)).length ≤ 2916 * 54 := Nat.le_trans (flat_le fun c _ => longer_len ok h5) (Nat.mul_le_mul_right _ (Nat.le_trans (List.length_take_le' _ _) cl))
          have fl2 : (((singlesOf B).take l).filter fun x => okAt ch x.1).length ≤ 54 := Nat.le_trans (List.length_filter_le _ _) (Nat.le_trans (List.length_take_le' _ _) (singles_len ok h5))
          refine ⟨_, .inl ⟨chx, sqL_l hca, rfl⟩, ?_⟩
          rcases nil_or_snoc ch with hnil | ⟨r, y, hsn⟩
          · have e0 : chx = [] := List.eq_nil_of_length_eq_zero (by rw [chl, hnil]; rfl)
            refine iteT' (by rw [e0]; rfl) ?_
            refine iteT' rfl ?_
            have ok1 : okAt ch x0.1 = true := by rw [hnil]; rfl
            refine ⟨_, rfl, _, rfl, by show 1 ≤ sizeLine; decide, fun N nN => ?_⟩
            have sN := same_new (o := .lst [.ref ta]) nN
            have hN : (upd H6 N (.lst [.ref ta])) N = some (.lst [.ref ta]) := upd_same
            generalize upd H6 N (.lst [.ref ta]) = H7 at sN hN
            refine ⟨a0, N, _, _, rfl, rfl, sN _ _ hca, hN, Nat.le_of_lt (big (by rw [chl]; simp; omega)), fun R nR => ?_⟩
            have sR := same_new (o := .lst (chx ++ [.ref ta])) nR
            have hR : (upd H7 R (.lst (chx ++ [.ref ta]))) R = some (.lst (chx ++ [.ref ta])) := upd_same
            generalize upd H7 R (.lst (chx ++ [.ref ta])) = H8 at sR hR
            have s68 := sN.trans sR
            have hD8 := s68 _ _ hD6
            have RD : R ≠ D := fun z => by rw [z, sN _ _ hD6] at nR; cases nR
            have rowR : RowAt H8 R (ch ++ [x0]) := ⟨_, hR, by rw [List.map_append]; exact (hchx.same s68).app (.cons (hxp.same s68) .nil)⟩
            have nDc' : D ∉ cs ++ [R] := fun z => by
              rcases List.mem_append.mp z with z | z
              · exact nDc z
              · exact RD (List.mem_singleton.mp z).symm
            refine ⟨cs.map V.ref, hD8, big (by rw [List.length_map, hcs.len, List.length_append, List.length_map]; omega), cs ++ [R], ?_, ?_, nDc', ?_⟩
            · rw [upd_same, List.map_append]; rfl
            · rw [tl, List.filter_append, List.map_append, ← List.append_assoc, show ([x0].filter fun x => okAt ch x.1) = [x0] from by simp [ok1]]
              exact RowsAt.app (RowsAt.set hD8 (RowsAt.same hcs s68) nDc) (.cons (rowR.set hD8 RD) .nil)
            · exact fun c o e => by rw [upd_ne (ne_of_none e nD)]; exact s68 _ _ (s6 _ _ e)
          · have hne : chx ≠ [] := fun z => by rw [z, hsn] at chl; simp at chl
            refine iteF' (by cases chx with
              | nil => exact absurd rfl hne
              | cons _ _ => rfl) ?_
            rw [hsn, List.map_append] at hchx
            obtain ⟨xs1, vy, hcx, hvy⟩ : ∃ xs1 vy, chx = xs1 ++ [vy] ∧ Pd H6 vy (fcD y) := by
              rcases nil_or_snoc chx with z | ⟨xs1, vy, rfl⟩
              · exact absurd z hne
              · have := (Pds.split (a := r.map fcD) (b := [fcD y]) (xs := xs1) (ys := [vy]) (by
                  have := hchx.len
                  simp only [List.length_append, List.length_map, List.length_cons, List.length_nil] at this
                  rw [List.length_map]; omega) hchx).2
                cases this with
                | cons h1 _ => exact ⟨xs1, vy, rfl, h1⟩
            rw [← List.map_append, ← hsn] at hchx
            obtain ⟨ya, yd, rfl, hya, hyd⟩ := Fc.of hvy
            refine ⟨_, rfl, 1, rfl, a0, _, -1, .ref ya, rfl, rfl, sqA_l hca, by rw [hcx]; exact at_last, ya, _, 0, nV y.1, rfl, rfl, sqA_t hya, rfl, ?_⟩
            refine ⟨_, rfl, ta, _, 0, nV x0.1, rfl, rfl, sqA_t hta, rfl, ?_⟩
            refine ⟨_, _, rfl, rfl, _, rfl, ite2 (fun e => ?_) (fun e => ?_)⟩
            · have le : y.1 ≤ x0.1 := by
                have := of_decide_eq_true e
                omega
              have ok1 : okAt ch x0.1 = true := by unfold okAt; rw [hsn, getLastD_snoc]; simp [le]
              refine ⟨_, rfl, _, rfl, by show 1 ≤ sizeLine; decide, fun N nN => ?_⟩
              have sN := same_new (o := .lst [.ref ta]) nN
              have hN : (upd H6 N (.lst [.ref ta])) N = some (.lst [.ref ta]) := upd_same
              generalize upd H6 N (.lst [.ref ta]) = H7 at sN hN
              refine ⟨a0, N, _, _, rfl, rfl, sN _ _ hca, hN, Nat.le_of_lt (big (by rw [chl]; simp; omega)), fun R nR => ?_⟩
              have sR := same_new (o := .lst (chx ++ [.ref ta])) nR
              have hR : (upd H7 R (.lst (chx ++ [.ref ta]))) R = some (.lst (chx ++ [.ref ta])) := upd_same
              generalize upd H7 R (.lst (chx ++ [.ref ta])) = H8 at sR hR
              have s68 := sN.trans sR
              have hD8 := s68 _ _ hD6
              have RD : R ≠ D := fun z => by rw [z, sN _ _ hD6] at nR; cases nR
              have rowR : RowAt H8 R (ch ++ [x0]) := ⟨_, hR, by rw [List.map_append]; exact (hchx.same s68).app (.cons (hxp.same s68) .nil)⟩
              have nDc' : D ∉ cs ++ [R] := fun z => by
                rcases List.mem_append.mp z with z | z
                · exact nDc z
                · exact RD (List.mem_singleton.mp z).symm
              refine ⟨cs.map V.ref, hD8, big (by rw [List.length_map, hcs.len, List.length_append, List.length_map]; omega), cs ++ [R], ?_, ?_, nDc', ?_⟩
              · rw [upd_same, List.map_append]; rfl
              · rw [tl, List.filter_append, List.map_append, ← List.append_assoc, show ([x0].filter fun x => okAt ch x.1) = [x0] from by simp [ok1]]
                exact RowsAt.app (RowsAt.set hD8 (RowsAt.same hcs s68) nDc) (.cons (rowR.set hD8 RD) .nil)
              · exact fun c o e => by rw [upd_ne (ne_of_none e nD)]; exact s68 _ _ (s6 _ _ e)
            · have gt : okAt ch x0.1 = false := by
                unfold okAt
                rw [hsn, getLastD_snoc]
                have : ¬ y.1 ≤ x0.1 := fun z => e (decide_eq_true (by omega))
                simp [this]
              refine ⟨cs, hD6, ?_, nDc, s6⟩
              rw [tl, List.filter_append, show ([x0].filter fun x => okAt ch x.1) = [] from by simp [gt], List.append_nil]
              exact hcs
        · obtain ⟨cs, hD6, hcs, nDc, s6⟩ := hp
          refine ⟨cs, hD6, ?_, nDc, s6⟩
          rw [tk, List.flatMap_append, List.flatMap_cons, List.flatMap_nil, List.append_nil]
          have e : (singlesOf B).take sx.length = singlesOf B := List.take_of_length_le (by rw [hsx.len, List.length_map]; exact Nat.le_refl _)
          rw [e] at hcs
          exact hcs
      · obtain ⟨bs, hD, hbs, nDb, s5⟩ := hp
        rw [List.take_of_length_le (by rw [List.length_map]; omega)] at hbs
        exact ⟨D, bs, _, rfl, hD, hbs, s4.trans s5, nD0⟩
    · obtain ⟨L, as, y4, rfl, hL, has, s4, nL⟩ := hp
      have e : ((k : Nat) : Int).toNat = k := Int.toNat_natCast k
      rw [e] at has
      exact ⟨_, rfl, q H4 L as (s1.trans s4) nL hL has⟩
end
end Vt
namespace Vt
open PySem PySem.Spec PyProof.Rows L2
section
variable {P : Program} {w : World} {K : PySem.W.Frag} {mg : Str → Option Value} {base : Heap}
abbrev st_fewest : Stmt := (topS 43)
abbrev nm_fewest : List Str := ["board", "most", "many", "fences"]
theorem sc_fewest : FnScope ["board", "most", "many", "fences"] ["board", "most"] (defScope st_fewest) := ⟨rfl, rfl, rfl, by decide +kernel, rfl, by decide +kernel, by decide +kernel⟩
def spFewest : Sp := fun vs H Q _ => ∃ (v : V) (B : Brd) (most : Nat), vs = [v, nV most] ∧ Pd H v B.d ∧ BrdOk B ∧ B.prog.length ≤ 5 ∧ most ≤ 2 ∧
  (∀ H', Same H H' → (∀ k fs, k ≤ most → fs ∈ choicesOf B k → paceAmiss (putIn B fs) ≠ none) → Q .non H') ∧
  ∀ (H' : Hp) (L : Addr) (fs : List Fc) (k : Nat), Same H H' → RowAt H' L fs → k ≤ most → fs ∈ choicesOf B k → paceAmiss (putIn B fs) = none → (∀ m gs, m < k → gs ∈ choicesOf B m → paceAmiss (putIn B gs) ≠ none) → Q (.ref L) H'
set_option maxHeartbeats 0 in
theorem ok_fewest {f : Addr} {fd : FuncData} (F : Fun K "fewest" "fewest" st_fewest f fd) (e1 : ∃ t, mg "MOST_DEEDS_SHUT" = some (.int 5 t)) (e2 : ∃ t, mg "MOST_SHUTTING" = some (.int 2 t)) (c_require_board : Callee P w K mg base "require_board" 3 1 spReq) (c_choices_of_fences : Callee P w K mg base "choices_of_fences" 2 2 spChoices)
    (c_put_in : Callee P w K mg base "put_in" 1 2 spPutIn) (c_is_sure : Callee P w K mg base "is_sure" 9 1 spIsSure) (z_len : mg "len" = none) (z_range : mg "range" = none) : FnOk P w K mg base CX0 10 f fd ["board", "most"] spFewest := by
  obtain ⟨tD, mc_MOST_DEEDS_SHUT⟩ := e1
  obtain ⟨tM, mc_MOST_SHUTTING⟩ := e2
  refine F.ok sc_fewest (fun vs H Q E h => ?_) (fun cdv A outer s H vs Q E hr h => ?_)
  · obtain ⟨v, B, most, rfl, _⟩ := h
    rfl
  · obtain ⟨v, B, most, rfl, hB, ok, h5, hm, q0, q1⟩ := h
    refine ⟨_, (pss_cons (ps_expr (pe_cal c_require_board hr (by first | decide | exact Nat.le_refl _) (pa_cons (pv 0) pa_nil)))
  (pss_cons (ps_if (PW.pt (pw_or (pt_cmpR op_gt (pe_callB call_len_seq (by rfl) z_len (by decide +kernel) (pa_cons (pe_ix ix_lt (pv 0) pe_int (fun _ _ => rfl)) pa_nil)) (pe_glob (v := .int 5) rfl mc_MOST_DEEDS_SHUT ⟨_, rfl⟩) (nomark _)) (pw_or1 (pt_not (pt_chain op_le op_le pe_int (pv 1) (pe_glob (v := .int 2) rfl mc_MOST_SHUTTING ⟨_, rfl⟩)))))) (pss_one ps_never) pss_nil)
  (pss_cons (ps_for PassesOwn.never rfl (pi_range1 (by rfl) z_range (pa_cons (pe_op op_add (pv 1) pe_int) pa_nil)) (pg_name (i := 2) sc_fewest.nd rfl (Or.inl rfl))
  (pss_one (ps_for PassesOwn.never rfl (pi_lt (pe_cal c_choices_of_fences hr (by first | decide | exact Nat.le_refl _) (pa_cons (pv 0) (pa_cons (pv 2) pa_nil)))) (pg_name (i := 3) sc_fewest.nd rfl (Or.inl rfl))
  (pss_one (ps_if (pt_val (pe_cal c_is_sure hr (by first | decide | exact Nat.le_refl _) (pa_cons (pe_cal c_put_in hr (by first | decide | exact Nat.le_refl _) (pa_cons (pv 0) (pa_cons (pv 3) pa_nil))) pa_nil))) (pss_one (ps_ret (pv 3))) pss_nil)))))
  (pss_one (ps_ret pe_non))))), ?_⟩
    refine ⟨_, rfl, v, B, rfl, hB, ok, fun H1 s1 => ?_⟩
    have hB1 := hB.same s1
    obtain ⟨a, m, o, p, os, ps, ev, ha, hm', ho, hos, hp, hps⟩ := Brd.of hB1
    have pl : ps.length = B.prog.length := by rw [hps.len, List.length_map]
    refine ⟨_, rfl, a, _, 2, .ref p, ev, rfl, sqA_t ha, rfl, p, ps, rfl, .inr (sqT_t hp), ?_⟩
    refine ⟨_, _, rfl, rfl, _, rfl, iteF' (by rw [pl]; simp; omega) ?_⟩
    refine ⟨_, rfl, _, _, rfl, rfl, ?_⟩
    refine ⟨_, rfl, iteT' (decide_eq_true (by omega)) ⟨_, _, rfl, rfl, _, rfl, iteF' (by simp; omega) ?_⟩⟩
    refine ⟨_, rfl, _, _, rfl, rfl, _, rfl, by omega, by omega, ?_⟩
    refine for_it (walk_range (lo := 0) (n := ((most : Int) + 1).toNat)) (fun i σ H' => ∃ (y2 y3 : Option V), σ = [some v, some (nV most), y2, y3] ∧ Same H H' ∧ ∀ k fs, k < i → fs ∈ choicesOf B k → paceAmiss (putIn B fs) ≠ none)
      ⟨_, _, rfl, s1, fun k fs h => absurd h (Nat.not_lt_zero _)⟩ (fun _ _ _ _ _ => trivial) (fun i x σ H2' H2 hi hp' hy => ?_) (fun σ H2 hp' => ?_)
    · obtain ⟨y2, y3, rfl, s2, hno⟩ := hp'
      obtain ⟨rfl, rfl⟩ := hy
      have im : i ≤ most := by omega
      refine chgN (y := nV i) (congrArg V.int (Int.zero_add _)) ?_
      refine ⟨_, rfl, _, rfl, v, B, i, rfl, hB.same s2, ok, h5, by omega, fun H3 L as s3 nL hL has => ?_⟩
      refine ⟨L, rfl, .inl ⟨_, sqL_l hL, ?_⟩⟩
      refine for_it (walk_list (xs := as.map V.ref)) (fun j σ H' => ∃ (y3 : Option V), σ = [some v, some (nV most), some (nV i), y3] ∧ Same H3 H' ∧ ∀ fs ∈ (choicesOf B i).take j, paceAmiss (putIn B fs) ≠ none)
        ⟨_, rfl, Same.refl _, fun fs h => by cases h⟩ (fun j σ H' _ hp' => by obtain ⟨_, _, sm, _⟩ := hp'; exact sqL_l (sm _ _ hL)) (fun j x σ H4' H4 hj hp' hy => ?_) (fun σ H4 hp' => ?_)
      · obtain ⟨y3, rfl, s4, hnj⟩ := hp'
        obtain ⟨rfl, hx⟩ := hy
        rw [List.getElem?_map] at hx
        obtain ⟨a0, ha0, rfl⟩ : ∃ a0, as[j]? = some a0 ∧ V.ref a0 = x := by simpa using hx
        obtain ⟨ch, hch, hrow⟩ := has.get ha0
        have cok := choices_ok (List.mem_of_getElem? hch)
        have hrow4 := hrow.same s4
        obtain ⟨chx, hca, hchx⟩ := hrow.same s4
        have s24 := s3.trans s4
        have tk : (choicesOf B i).take (j + 1) = (choicesOf B i).take j ++ [ch] := by rw [List.take_add_one, hch]; rfl
        have pok := putIn_ok ok cok (by omega)
        refine ⟨_, rfl, _, rfl, v, B, a0, chx, ch, rfl, (hB.same s2).same s24, hca, hchx, by omega, by rw [cok.len]; omega, fun H5 u s5 hu => ?_⟩
        refine ⟨u, putIn B ch, rfl, hu, pok, fun H6 s6 => ?_⟩
        have sF : Same H H6 := (s2.trans s24).trans (s5.trans s6)
        cases ep : paceAmiss (putIn B ch) with
        | none =>
          refine ⟨_, rfl, iteT' (decide_eq_true rfl) ⟨_, rfl, ?_⟩⟩
          exact q1 H6 a0 ch i sF (hrow4.same (s5.trans s6)) im (List.mem_of_getElem? hch) ep hno
        | some p =>
          refine ⟨_, rfl, iteF' (by simp) ?_⟩
          refine ⟨_, rfl, s4.trans (s5.trans s6), fun fs hf => ?_⟩
          rw [tk] at hf
          rcases List.mem_append.mp hf with hf | hf
          · exact hnj fs hf
          · rw [List.mem_singleton.mp hf, ep]
            exact fun z => by cases z
      · obtain ⟨y3, rfl, s4, hnj⟩ := hp'
        rw [List.take_of_length_le (by rw [List.length_map, has.len]; exact Nat.le_refl _)] at hnj
        refine ⟨_, _, rfl, (s2.trans s3).trans s4, fun k fs hk hf => ?_⟩
        by_cases e : k < i
        · exact hno k fs e hf
        · rw [show k = i by omega] at hf
          exact hnj fs hf
    · obtain ⟨y2, y3, rfl, s2, hno⟩ := hp'
      exact q0 H2 s2 fun k fs hk hf => hno k fs (by omega) hf
end
end Vt
namespace Vt
open PySem PySem.Spec PyProof.Rows L2 L2H
/-- a def called while one exception is handled: as FnH, for that one alone -/
structure FnP (P : Program) (w : World) (K : PySem.W.Frag) (mg : Str → Option Value) (base : Heap) (k : Nat) (f : Addr) (fd : FuncData) (ps : List Str) (p : Addr × Obj) (sp : Sp) : Prop where
  len : ∀ (vs : List V) (H : Hp) (Q : VK) (E : XK), sp vs H Q E → vs.length = ps.length
  run : ∀ (A : Around) (outer : List Env) (s : Shared) (H : Hp) (args : Args) (us : List Value) (vs : List V) (Q : VK) (E : XK), RoomH k A → Hot1 A p → PinOk outer H s p → Env0 P w K mg base A outer s H → BindsTo s fd args (ps.zip us) → Vals vs us → sp vs H Q E →
    codeAny (model P w) A (Code.call (Value.ref f) args) (CR CX0 outer P w H s Q E) s
theorem fn_ofP {P : Program} {w : World} {K : PySem.W.Frag} {mg : Str → Option Value} {base : Heap} {k : Nat} {f : Addr} {name qual : Str} {params : Arguments} {body : List Stmt} {scope : PySem.Scope} {dV kV doc pm cdv ct oc : Value} {an od : Option Addr} {osl : Array (Option Value)} {N ps : List Str} {sp : Sp} {p : Addr × Obj}
    (lk : K.lookup f = some ⟨oc, od, .func (PySem.W.fnOf name qual params body scope dV kV doc pm an cdv ct), osl⟩) (hcd : PySem.W.codeIn K cdv qual = true) (S : FnScope N ps scope) (len : ∀ (vs : List V) (H : Hp) (Q : VK) (E : XK), sp vs H Q E → vs.length = ps.length)
    (hbody : ∀ (A : Around) (outer : List Env) (s : Shared) (H : Hp) (vs : List V) (Q : VK) (E : XK), Hot1 A p → RoomH k (A.deeper (envOfC qual scope s.heap.objs.size f cdv)) → sp vs H Q E →
      ∃ t, PSs (cxH CX0 P w K mg base N qual scope f cdv A outer s H E p) body t ∧ t { nx := fun _ H' => Q .non H', rt := Q } (L2.start N vs) H) :
    FnP P w K mg base (k + 1) f (PySem.W.fnOf name qual params body scope dV kV doc pm an cdv ct) ps p sp := by
  refine ⟨len, fun A outer s H args us vs Q E hr hot pk e0 hb r hsp => ?_⟩
  have hl := len _ _ _ _ hsp
  have KX : K.In s.heap := e0.mod.kin.keeps fun b o e => (e0.bs b o e).1
  have lim : s.heap.NoLimit := e0.mod.nolimit.keeps fun b o e => (e0.bs b o e).1
  obtain ⟨t, hps, ht⟩ := hbody A outer s H vs Q E hot (hr.deeper _) hsp
  refine Att.call_fn KX lim lk hcd hr.depth hb (List.all_eq_true.mpr fun y hy => ?_) (fun s1 inc => ?_) S.co S.gen S.kind
  · rcases S.par y.1 (List.of_mem_zip hy).1 with h | h <;> rw [h] <;> rfl
  · have I := inv_startH (CX := CX0) (E := E) S pk e0 hl r inc
    have fin0 : ∀ {σ' : L2.St} {H' : Hp} {v : V} {u : Value} {s' : Shared}, Inv (cxH CX0 P w K mg base N qual scope f cdv A outer s H E p) [] σ' H' s' → RelV v u → Q v H' → CE outer P w H s Q u s' :=
      fun {σ' H' v u s'} J rv q => ⟨v, H', J.os, J.bare, J.base, J.hok, rv, q⟩
    refine wpAny_mono (hps.run [] s1 _ H _ I ht) (fun fl s' hs => ?_) (fun e s' h => h)
    cases fl with
    | ret u =>
      obtain ⟨v, σ', H', J, rv, q⟩ := hs
      exact fin0 J rv q
    | next =>
      obtain ⟨σ', H', J, q⟩ := hs
      exact fin0 (v := V.non) (u := Value.none) J rfl q
    | brk =>
      obtain ⟨_, _, _, q⟩ := hs
      exact False.elim q
    | cont =>
      obtain ⟨_, _, _, q⟩ := hs
      exact False.elim q
theorem run_fnP {X : Cx} {k : Nat} {f : Addr} {fd : FuncData} {ps : List Str} {sp : Sp} {p : Addr × Obj} {pins : List (Addr × Obj)} {σ : L2.St} {H : Hp} {s : Shared} {Q : VK} {us : List Value} {vs : List V} (F : FnP X.prog X.w X.K X.mg X.base k f fd ps p sp) (hr : RoomH k X.A) (hot : Hot1 X.A p) (hp : p ∈ X.pn) (b : Binds X.K fd ps []) (I : Inv X pins σ H s) (rv : Vals vs us) (q : sp vs H Q E0) :
    wpAny (model X.prog X.w) X.A (call (.ref f) us) (EP X pins σ Q) X.xe s := by
  obtain ⟨g1, g2, g3, g4, g5⟩ := I.pin p (List.mem_append.mpr (.inl hp))
  have hl : us.length = ps.length := by rw [← rv.length]; exact F.len _ _ _ _ q
  refine wpAny_call (codeAny_mono (F.run X.A X.stack s H ⟨us, []⟩ us vs Q E0 hr hot ⟨g1, g2, ?_, g5⟩ I.env0 (by
    have := b s us I.kIn (by rw [List.append_nil]; exact hl)
    rw [List.append_nil] at this; exact this) rv q) fun r s' hq => ?_)
  · rcases I.ok.stk with e | ⟨e, ef⟩
    · rw [e]; exact g4
    · rw [e]
      intro m
      have m' : p.1 ∈ X.env.locals :: frs X.outer := by
        have z : frs (X.env :: X.outer) = X.env.locals :: frs X.outer := by
          show List.filterMap (fun x => x.frame) (X.env :: X.outer) = _
          rw [List.filterMap_cons, ef]; rfl
        rw [← z]; exact m
      rcases List.mem_cons.mp m' with h | h
      · exact g3 h
      · exact g4 h
  · cases r with
    | error e => exact (show False from hq).elim
    | ok fl =>
      cases fl with
      | ret u => exact I.after hq
      | next => exact False.elim hq
      | brk => exact False.elim hq
      | cont => exact False.elim hq
/-- f(e, ..), f such a def -/
theorem pe_callP {X : Cx} {k : Nat} {f : Addr} {fd : FuncData} {ps : List Str} {sp : Sp} {p : Addr × Obj} {x : Str} {q pos : Pos} {e : Expr} {es : List Expr} {t : TA} (F : FnP X.prog X.w X.K X.mg X.base k f fd ps p sp) (hr : RoomH k X.A) (hot : Hot1 X.A p) (hp : p ∈ X.pn) (hg : Gl X x) (hm : X.mg x = some (.ref f)) (hk : PySem.W.keepIn X.K (.ref f) = true) (b : Binds X.K fd ps []) (ha : L2.PA X (e :: es) t)
    (hd : (x == ("__debug__" : Str)) = false := by decide) (he : starEach (e :: es) X.env = (false, eval e X.env) :: starEach es X.env := by rfl) (hpl : (backTo pos (starEach es X.env)).any (·.1) = false := by rfl) :
    PE X (.Call (.Name x q) (e :: es) [] pos) (tCall sp [] E0 t) := by
  refine ⟨fun pins s σ H Q I h => wpAny_Call_NameR ?_⟩
  refine thn ((pe_glob (v := .ref f) (pos := q) hg hm rfl hd).run pins s σ H (fun v H' => v = .ref f ∧ H' = H) I ⟨rfl, rfl⟩) fun u s1 ⟨v, H1, I1, rv, ev, eH⟩ => ?_
  subst ev eH
  cases (show u = Value.ref f from rv)
  refine PySem.W.callWith_K I1.kIn hk (thn (ha.run pos pins s1 σ _ _ I1 h) fun ws s2 ⟨vs2, H2, I2, r2, q2⟩ => ⟨I2.kIn, ?_⟩) he hpl
  have q3 : sp vs2 H2 Q E0 := by
    have q4 : sp (vs2 ++ []) H2 Q E0 := q2
    rw [List.append_nil] at q4; exact q4
  exact run_fnP F hr hot hp b I2 r2 q3
end Vt
namespace Vt
open PySem PySem.Spec PyProof.Rows L2 L2H
/-- a def that runs while a is handled stands as in the suite of a -/
theorem ok_suite {Y : Cx} {a : Addr} (hA : Y.A.mark (some (.ref a)) = Y.A) (h : Y.Ok) : (Y.suite a Y.pn).Ok :=
  ⟨h.mod, h.kind, h.glob, h.blt, h.above, h.inj, h.has, h.cab, (fun z => by cases z), by show (Y.A.mark (some (.ref a))).frames = _; rw [hA]; exact h.frames, h.stk, h.exf, h.bs, h.bsz, h.noex, h.exfs, h.funs, h.frf⟩
theorem inv_suite {Y : Cx} {a : Addr} {pins : List (Addr × Obj)} {σ : L2.St} {H : Hp} {s : Shared} (hA : Y.A.mark (some (.ref a)) = Y.A) (I : Inv Y pins σ H s) : Inv (Y.suite a Y.pn) pins σ H s :=
  ⟨ok_suite hA I.ok, I.os, I.bare, I.base, I.loc, I.cell, I.free, I.freeC, I.pin, I.hok, I.len⟩
theorem suite_inv {Y : Cx} {a : Addr} {pins : List (Addr × Obj)} {σ : L2.St} {H : Hp} {s : Shared} (h : Y.Ok) (I : Inv (Y.suite a Y.pn) pins σ H s) : Inv Y pins σ H s :=
  ⟨h, I.os, I.bare, I.base, I.loc, I.cell, I.free, I.freeC, I.pin, I.hok, I.len⟩
theorem callr_suite {Y : Cx} {a : Addr} {v : Value} {r : List V → Hp → VK → Prop} (hA : Y.A.mark (some (.ref a)) = Y.A) (h : CallR (Y.suite a Y.pn) v r) : CallR Y v r := by
  intro pins s σ H xs us Q I rv hr
  have w := h pins s σ H xs us Q (inv_suite hA I) rv hr
  have w' : wpAny (model Y.prog Y.w) (Y.A.mark (some (.ref a))) (call v us) (EP (Y.suite a Y.pn) pins σ Q) (fun _ _ => False) s := w
  rw [hA] at w'
  exact wpAny_mono w' (fun u s' ⟨x, H', J, q1, q2⟩ => ⟨x, H', suite_inv I.ok J, q1, q2⟩) fun _ _ z => z.elim
/-- isinstance of the exception, in such a def -/
theorem call_isP {Y : Cx} {a D : Addr} {oe : Obj} (hA : Y.A.mark (some (.ref a)) = Y.A) (hpn : Y.pn = [(a, oe)]) (C : ExcC Y.K D) (hz : Zc (.ref D) none oe) (hf : ∃ vs, oe.data = .fields vs) : CallR Y (.builtin "isinstance") (rIsE Y.K D a) := by
  refine callr_suite hA ?_
  rw [hpn]
  exact call_isE C hz hf
theorem mark_same {A : Around} {v : Value} (h : A.handled = some v) : A.mark (some v) = A := by
  unfold Around.mark
  cases A
  simp only at h
  subst h
  rfl
theorem mark_hot {A : Around} {p : Addr × Obj} {env : Env} (h : Hot1 A p) : (A.deeper env).mark (some (.ref p.1)) = A.deeper env := mark_same h.1
end Vt
namespace Vt
open PySem PySem.Spec PyProof.Rows L2
/-! ### defs that may raise, their calls -/
structure CalleeN (P : Program) (w : World) (K : PySem.W.Frag) (mg : Str → Option Value) (base : Heap) (x : Str) (k : Nat) (n : Nat) (sp : Sp) : Prop where
  ex : ∃ (f : Addr) (fd : FuncData) (ps : List Str), FnOk P w K mg base (L2N.CX P w) k f fd ps sp ∧ mg x = some (.ref f) ∧ PySem.W.keepIn K (.ref f) = true ∧ Binds K fd ps []
theorem pe_calN {X : Cx} {W : WX} {x : Str} {k j n : Nat} {sp : Sp} {p pos : Pos} {e : Expr} {es : List Expr} {t : TA} (C : CalleeN X.prog X.w X.K X.mg X.base x k n sp) (hr : Room j X.A) (hk : k ≤ j) (tk : L2N.Takes X W) (ha : L2.PA X (e :: es) t) (hg : Gl X x := by rfl)
    (hdb : (x == ("__debug__" : Str)) = false := by decide) (he : starEach (e :: es) X.env = (false, eval e X.env) :: starEach es X.env := by rfl) (hpl : (backTo pos (starEach es X.env)).any (·.1) = false := by rfl) :
    PE X (.Call (.Name x p) (e :: es) [] pos) (tCallS sp (WE W) t) := by
  have ⟨f, fd, ps, F, hm, hkp, hb⟩ := C.ex
  exact pe_callS F (hr.mono hk) hg hm hkp hb (fun σ => L2N.passAt tk σ) ha hdb he hpl
theorem takesN0 {X : Cx} : L2N.Takes X (fun _ _ _ _ => False) := fun _ _ x => by
  obtain ⟨_, _, _, _, _, _, _, _, _, _, _, _, _, _, _, _, z⟩ := x
  exact z.elim
theorem okN {P : Program} {w : World} {K : PySem.W.Frag} {mg : Str → Option Value} {base : Heap} {x qual : Str} {st : Stmt} {f : Addr} {fd : FuncData} {N ps : List Str} {k : Nat} {sp : Sp} (F : Fun K x qual st f fd) (S : FnScope N ps (defScope st)) (len : ∀ (vs : List V) (H : Hp) (Q : VK) (E : XK), sp vs H Q E → vs.length = ps.length)
    (hbody : ∀ (cdv : Value) (A : Around) (outer : List Env) (s : Shared) (H : Hp) (vs : List V) (Q : VK) (E : XK), Room k (A.deeper (envOfC qual (defScope st) s.heap.objs.size f cdv)) → sp vs H Q E →
      ∃ t, PSs (cxOf (L2N.CX P w) P w K mg base N qual (defScope st) f cdv A outer s H E) (defBody st) t ∧ t { nx := fun _ H' => Q .non H', rt := Q } (L2.start N vs) H) : FnOk P w K mg base (L2N.CX P w) (k + 1) f fd ps sp := by
  obtain ⟨oc, od, kV, doc, pm, an, cdv, ct, osl, rfl, lk, hcd⟩ := F.ex
  exact fn_of lk hcd S len fun A outer s H vs Q E hr hsp => hbody cdv A outer s H vs Q E hr hsp
/-! ### a def that is called while an exception is handled, of what it knows of that one -/
structure CalleeP (P : Program) (w : World) (K : PySem.W.Frag) (mg : Str → Option Value) (base : Heap) (x : Str) (k : Nat) (sp : Value → Option Addr → Addr → Sp) : Prop where
  ex : ∃ (f : Addr) (fd : FuncData) (ps : List Str), mg x = some (.ref f) ∧ PySem.W.keepIn K (.ref f) = true ∧ Binds K fd ps [] ∧
    ∀ (p : Addr × Obj) (cls : Value) (d : Option Addr), L2N.Zn cls d p.2 → (∃ vs, p.2.data = .fields vs) → FnP P w K mg base k f fd ps p (sp cls d p.1)
theorem pe_calP {X : Cx} {sp : Value → Option Addr → Addr → Sp} {a : Addr} {oe : Obj} {cls : Value} {d : Option Addr} {x : Str} {k j : Nat} {p pos : Pos} {e : Expr} {es : List Expr} {t : TA} (C : CalleeP X.prog X.w X.K X.mg X.base x k sp)
    (hr : L2H.RoomH j X.A) (hk : k ≤ j) (hh : X.A.handled = some (.ref a)) (hp : (a, oe) ∈ X.pn) (hz : L2N.Zn cls d oe) (hf : ∃ vs, oe.data = .fields vs) (ha : L2.PA X (e :: es) t) (hg : Gl X x := by rfl)
    (hdb : (x == ("__debug__" : Str)) = false := by decide) (he : starEach (e :: es) X.env = (false, eval e X.env) :: starEach es X.env := by rfl) (hpl : (backTo pos (starEach es X.env)).any (·.1) = false := by rfl) :
    PE X (.Call (.Name x p) (e :: es) [] pos) (tCall (sp cls d a) [] E0 t) := by
  have ⟨f, fd, ps, hm, hkp, hb, F⟩ := C.ex
  obtain ⟨vs, hv⟩ := hf
  exact pe_callP (F (a, oe) cls d hz ⟨vs, hv⟩) (hr.mono hk) ⟨hh, vs, hv, hz.2.2 vs hv⟩ hp hg hm hkp hb ha hdb he hpl
/-! ### how often a flat value stands in a list -/
def rCntF (K : PySem.W.Frag) : V → List V → Hp → VK → Prop := fun x xs H Q => ∃ (p : Addr) (ys : List V) (y : V), x = .ref p ∧ xs = [y] ∧ SqL K H p ys ∧ flatV y = true ∧ ys.all flatV = true ∧ Q (.int (ys.countP (fun z => eqV z y) : Nat)) H
theorem count_eqU {y : V} : ∀ {ys : List V} {us : List Value}, Vals ys us → ys.all flatV = true → us.countP (eqU y) = ys.countP (fun z => eqV z y)
  | _, _, .nil, _ => rfl
  | z :: ys, u :: us, .cons r t, f => by
    rw [List.all_cons, Bool.and_eq_true] at f
    rw [List.countP_cons, List.countP_cons, count_eqU t f.2, eqU_of r f.1]
theorem mt_countF {X : Cx} : MtR X "list.count" (rCntF X.K) := by
  intro pins s σ H x xs v us Q I rx rxs h
  obtain ⟨p, ys, y, rfl, rfl, hs, fy, fys, q⟩ := h
  cases rx
  obtain ⟨uy, rfl, ry⟩ := rxs.one
  obtain ⟨its, rv, ⟨⟨cls, dd, data, sl⟩, n, ho, hc, hdn, hd⟩, hlen⟩ := I.list hs
  simp only at hc hd
  subst hc hd
  refine call_meets PySem.F.slot_list_count ⟨_, ho, rfl⟩ PySem.F.entry_list_count (PySem.F.args_list_count_2 _ _)
    (SeqAt.list_countAt p its.toArray n dd sl uy (eqU y)) ⟨ho, fun u' hu' => mem_eqAt ry fy rv fys u' (by simpa using hu'), ?_⟩
  have ec : its.toArray.toList.countP (eqU y) = ys.countP (fun z => eqV z y) := count_eqU rv fys
  refine ⟨.int (ys.countP (fun z => eqV z y) : Nat), H, I.tok _, ⟨s.toks, ?_⟩, q⟩
  show Value.int ((its.toArray.toList.countP (eqU y) : Nat) : Int) s.toks = Value.int ((ys.countP (fun z => eqV z y) : Nat) : Int) s.toks
  rw [ec]
end Vt
namespace Vt
open PySem PySem.Spec PyProof.Rows L2 L2H
/-! ### the asker's _law_class -/
/-- the five classes at their places -/
structure Clss (mg : Str → Option Value) (C : Nat → Addr) : Prop where
  g0 : mg "BadBoard" = some (.ref (C 0))
  g1 : mg "BadFence" = some (.ref (C 1))
  g2 : mg "NotSure" = some (.ref (C 2))
  g3 : mg "BadCount" = some (.ref (C 3))
  g4 : mg "BadText" = some (.ref (C 4))
/-- a class that isinstance knows: the j-th one -/
structure IsCls (K : PySem.W.Frag) (C : Nat → Addr) (j : Nat) : Prop where
  exc : ExcC K (C j)
  is0 : PySem.W.kitOne K (.ref (C j)) (.ref (C 0)) = some (decide (j = 0))
  is1 : PySem.W.kitOne K (.ref (C j)) (.ref (C 1)) = some (decide (j = 1))
  is2 : PySem.W.kitOne K (.ref (C j)) (.ref (C 2)) = some (decide (j = 2))
  is3 : PySem.W.kitOne K (.ref (C j)) (.ref (C 3)) = some (decide (j = 3))
  is4 : PySem.W.kitOne K (.ref (C j)) (.ref (C 4)) = some (decide (j = 4))
  isV : PySem.W.kitOne K (.ref (C j)) (.type "ValueError") = some true
def clsWords : List Str := ["BadBoard", "BadFence", "NotSure", "BadCount", "BadText"]
def clsBools (j : Nat) : List V := [.bl (decide (j = 0)), .bl (decide (j = 1)), .bl (decide (j = 2)), .bl (decide (j = 3)), .bl (decide (j = 4))]
section
variable {P : Program} {w : World} {K : PySem.W.Frag} {mg : Str → Option Value} {base : Heap}
abbrev st_law_class : Stmt := (topS 50)
abbrev nm_law_class : List Str := ["_law_e", "_law_kinds", "_law_words"]
theorem sc_law_class : FnScope ["_law_e", "_law_kinds", "_law_words"] ["_law_e"] (defScope st_law_class) := ⟨rfl, rfl, rfl, by decide +kernel, rfl, by decide +kernel, by decide +kernel⟩
/-- the handled exception is of the j-th class, and has no dict -/
def spClass (K : PySem.W.Frag) (C : Nat → Addr) (cls : Value) (d : Option Addr) (a : Addr) : Sp := fun vs H Q _ => ∃ (j : Nat) (z : Str), IsCls K C j ∧ clsWords[j]? = some z ∧ cls = .ref (C j) ∧ d = none ∧ vs = [.ref a] ∧ ∀ (H' : Hp), Same H H' → Q (.str z) H'
theorem bools_one : ∀ j : Nat, j < 5 → (clsBools j).all flatV = true ∧ (clsBools j).countP (fun z => eqV z (.bl true)) = 1 ∧ (clsBools j)[j]? = some (.bl true) ∧ ∀ (m : Nat) (z' : V), m < j → (clsBools j)[m]? = some z' → eqV z' (.bl true) = false := by
  intro j hj
  refine ⟨rfl, ?_, ?_, fun m z' hm hz => ?_⟩
  · rcases (show j = 0 ∨ j = 1 ∨ j = 2 ∨ j = 3 ∨ j = 4 by omega) with rfl | rfl | rfl | rfl | rfl <;> decide +kernel
  · rcases (show j = 0 ∨ j = 1 ∨ j = 2 ∨ j = 3 ∨ j = 4 by omega) with rfl | rfl | rfl | rfl | rfl <;> rfl
  · have : ∃ i, z' = .bl (decide (j = i)) ∧ i = m := by
      rcases (show m = 0 ∨ m = 1 ∨ m = 2 ∨ m = 3 by omega) with rfl | rfl | rfl | rfl <;> exact ⟨_, (Option.some.inj hz).symm, rfl⟩
    obtain ⟨i, rfl, rfl⟩ := this
    rw [decide_eq_false (by omega)]
    rfl
set_option maxHeartbeats 0 in
theorem ok_class {f : Addr} {C : Nat → Addr} (G : Clss mg C) {oc : Value} {od : Option Addr} {kV doc pm cdv ct : Value} {an : Option Addr} {osl : Array (Option Value)} (lk : K.lookup f = some ⟨oc, od, .func (PySem.W.fnOf "_law_class" "_law_class" (defArgs st_law_class) (defBody st_law_class) (defScope st_law_class) .none kV doc pm an cdv ct), osl⟩)
    (hcd : PySem.W.codeIn K cdv "_law_class" = true) (z_isinstance : mg "isinstance" = none) (z_VE : mg "ValueError" = none) (p : Addr × Obj) (cls : Value) (d : Option Addr) (hz : L2N.Zn cls d p.2) (hf : ∃ vs, p.2.data = .fields vs) :
    FnP P w K mg base 1 f (PySem.W.fnOf "_law_class" "_law_class" (defArgs st_law_class) (defBody st_law_class) (defScope st_law_class) .none kV doc pm an cdv ct) ["_law_e"] p (spClass K C cls d p.1) := by
  refine fn_ofP lk hcd sc_law_class (fun vs H Q E h => ?_) (fun A outer s H vs Q E hot hr h => ?_)
  · obtain ⟨j, z, _, _, _, _, rfl, _⟩ := h
    rfl
  · obtain ⟨j, z, hc, hw, rfl, rfl, rfl, q⟩ := h
    have hj : j < 5 := by
      have := (List.getElem?_eq_some_iff.mp hw).1
      exact this
    obtain ⟨b1, b2, b3, b4⟩ := bools_one j hj
    have hA := mark_hot (env := envOfC "_law_class" (defScope st_law_class) s.heap.objs.size f cdv) hot
    have cI : CallR (cxH CX0 P w K mg base ["_law_e", "_law_kinds", "_law_words"] "_law_class" (defScope st_law_class) f cdv A outer s H E p) (.builtin "isinstance") (rIsE K (C j) p.1) := call_isP hA rfl hc.exc ⟨hz.1, hz.2.1⟩ hf
    refine ⟨_, (pss_cons (ps_set (i := 1) sc_law_class.nd rfl (Or.inl rfl) (pe_lst (pa_cons (pe_callB cI (by rfl) z_isinstance (by decide +kernel) (pa_cons (pv 0) (pa_cons (pe_glob (v := .ref _) rfl G.g0 rfl) pa_nil)))
        (pa_cons (pe_callB cI (by rfl) z_isinstance (by decide +kernel) (pa_cons (pv 0) (pa_cons (pe_glob (v := .ref _) rfl G.g1 rfl) pa_nil)))
        (pa_cons (pe_callB cI (by rfl) z_isinstance (by decide +kernel) (pa_cons (pv 0) (pa_cons (pe_glob (v := .ref _) rfl G.g2 rfl) pa_nil)))
        (pa_cons (pe_callB cI (by rfl) z_isinstance (by decide +kernel) (pa_cons (pv 0) (pa_cons (pe_glob (v := .ref _) rfl G.g3 rfl) pa_nil))) pa_nil))))))
      (pss_cons (ps_expr (pe_bm PySem.F.plainAttrs_list PySem.F.slot_list_append PySem.F.type_list_append mt_append (pv 1) (pa_cons (pe_callB cI (by rfl) z_isinstance (by decide +kernel) (pa_cons (pv 0) (pa_cons (pe_glob (v := .ref _) rfl G.g4 rfl) pa_nil))) pa_nil)))
      (pss_cons (ps_set (i := 2) sc_law_class.nd rfl (Or.inl rfl) (pe_lst (pa_cons pe_str (pa_cons pe_str (pa_cons pe_str (pa_cons pe_str (pa_cons pe_str pa_nil)))))))
      (pss_one (ps_ret (pe_ifExp (PW.pt (pw_and (pt_cmpR op_eq (pe_bm PySem.F.plainAttrs_list PySem.F.slot_list_count PySem.F.type_list_count mt_countF (pv 1) (pa_cons pe_bl pa_nil)) pe_int (nomark _)) (pw_and1 (pt_val (pe_callB cI (by rfl) z_isinstance (by decide +kernel) (pa_cons (pv 0) (pa_cons (pe_bltn (v := .ty "ValueError") rfl z_VE (by decide +kernel) rfl) pa_nil)))))))
        (pe_ix ix_lt (pv 2) (pe_bm PySem.F.plainAttrs_list PySem.F.slot_list_index PySem.F.type_list_index mt_index (pv 1) (pa_cons pe_bl pa_nil)) (fun _ _ => rfl)) pe_str)))))), ?_⟩
    refine ⟨_, rfl, _, .ref (C 0), _, rfl, (fun u h => h), hc.is0, ?_⟩
    refine ⟨_, rfl, _, .ref (C 1), _, rfl, (fun u h => h), hc.is1, ?_⟩
    refine ⟨_, rfl, _, .ref (C 2), _, rfl, (fun u h => h), hc.is2, ?_⟩
    refine ⟨_, rfl, _, .ref (C 3), _, rfl, (fun u h => h), hc.is3, ?_⟩
    refine ⟨by show 4 ≤ sizeLine; decide, fun L nL => ?_⟩
    refine ⟨_, rfl, .inl ⟨rfl, _, sqL_l upd_same⟩, ?_⟩
    refine ⟨_, rfl, _, .ref (C 4), _, rfl, (fun u h => h), hc.is4, ?_⟩
    refine ⟨L, [.bl (decide (j = 0)), .bl (decide (j = 1)), .bl (decide (j = 2)), .bl (decide (j = 3))], _, rfl, rfl, upd_same, by show 4 < sizeLine; decide, ?_⟩
    refine ⟨by show 5 ≤ sizeLine; decide, fun M nM => ?_⟩
    have nLM : L ≠ M := fun z => by
      rw [← z, upd_same] at nM
      cases nM
    have hL : ∀ {H0 : Hp} {o : HO}, upd (upd H0 L (.lst (clsBools j))) M o L = some (.lst (clsBools j)) := fun {H0 o} => by rw [upd_ne nLM, upd_same]
    refine ⟨_, rfl, .inl ⟨rfl, _, sqL_l hL⟩, ?_⟩
    refine ⟨L, clsBools j, .bl true, rfl, rfl, sqL_l hL, rfl, b1, ?_⟩
    rw [b2]
    refine ⟨rfl, _, rfl, Eq.mpr (if_pos (decide_eq_true rfl)) ?_⟩
    refine ⟨_, rfl, _, .type "ValueError", _, rfl, (fun u h => h), hc.isV, _, rfl, Eq.mpr (if_pos rfl) ?_⟩
    refine ⟨_, rfl, _, rfl, .inl ⟨rfl, _, sqL_l hL⟩, ?_⟩
    refine ⟨L, clsBools j, .bl true, j, .bl true, rfl, rfl, sqL_l hL, rfl, b1, b3, rfl, b4, ?_⟩
    refine ⟨M, clsWords.map V.str, (j : Nat), .str z, rfl, rfl, sqA_l upd_same, ?_, ?_⟩
    · exact atI_nat (by rw [List.getElem?_map, hw]; rfl)
    · refine q _ fun b o e => ?_
      have n1 : b ≠ L := ne_of_none e nL
      have n2 : b ≠ M := fun z => by
        rw [← z, upd_ne n1, upd_ne n1, e] at nM
        cases nM
      rw [upd_ne n2, upd_ne n1, upd_ne n1]
      exact e
end
end Vt
namespace Vt
open PySem PySem.Spec PyProof.Rows L2
/-! ### a draw below a great number -/
def spTakeF : Sp := fun vs H Q _ => ∃ (b l : Addr) (m : Int), vs = [.ref b, .int m] ∧ Box H b l ∧ 0 < m ∧ m.natAbs < 2 ^ 200 ∧ ∀ H' r, Box H' b l → But [b, l] H H' → 0 ≤ r → r < m → Q (.int r) H'
section
variable {P : Program} {w : World} {K : PySem.W.Frag} {mg : Str → Option Value} {base : Heap}
theorem ok_takeF {f : Addr} {fd : FuncData} (F : Fun K "_law_take" "_law_take" st_law_take f fd) : FnOk P w K mg base CX0 1 f fd ["_law_box", "_law_many"] spTakeF := by
  refine F.ok sc_law_take (fun vs H Q E h => ?_) (fun cdv A outer s H vs Q E hr h => ?_)
  · obtain ⟨b, l, m, rfl, _⟩ := h
    rfl
  · obtain ⟨b, l, m, rfl, hB, m0, m1, q⟩ := h
    have hne := hB.ne
    obtain ⟨ns, sd, hb, hl, s0, s1, hlen⟩ := hB
    refine ⟨_, (pss_cons (ps_if (pt_cmpR (op_eqD hr.units) (pe_ix ix_lt (pv 0) pe_int (fun _ _ => rfl)) (pe_lst pa_nil) (nomark _)) (pss_cons (ps_asg (pe_op op_mod (pe_op op_mul (pe_ix ix_lt (pv 0) pe_int (fun _ _ => rfl)) pe_int) pe_int) (pg_sub (pv 0) pe_int set_list))
  (pss_one (ps_ret (pe_op op_mod (pe_op op_fdiv (pe_ix ix_lt (pv 0) pe_int (fun _ _ => rfl)) pe_int) (pv 1))))) pss_nil)
  (pss_cons (ps_set (i := 2) sc_law_take.nd rfl (Or.inl rfl) (pe_ix ix_lt (pe_ix ix_lt (pv 0) pe_int (fun _ _ => rfl)) pe_int (fun _ _ => rfl)))
  (pss_cons (ps_asg (pe_op op_fdivW (pv 2) (pv 1)) (pg_sub (pe_ix ix_lt (pv 0) pe_int (fun _ _ => rfl)) pe_int set_list))
  (pss_cut (ps_if (PW.pt (pw_or (pt_cmpR op_eq (pe_ix ix_lt (pe_ix ix_lt (pv 0) pe_int (fun _ _ => rfl)) pe_int (fun _ _ => rfl)) pe_int (nomark _)) (pw_or1 (pt_cmpR op_eq (pe_ix ix_lt (pe_ix ix_lt (pv 0) pe_int (fun _ _ => rfl)) pe_int (fun _ _ => rfl)) (pe_un un_neg pe_int) (nomark _))))) (pss_one (ps_expr (pe_bm PySem.F.plainAttrs_list PySem.F.slot_list_pop PySem.F.type_list_pop mt_popAt (pe_ix ix_lt (pv 0) pe_int (fun _ _ => rfl)) (pa_cons pe_int pa_nil)))) pss_nil)
  (pss_one (ps_ret (pe_op op_mod (pv 2) (pv 1)))))))), ?_⟩
    -- if box[0] == []
    refine ⟨_, rfl, b, _, 0, .ref l, rfl, rfl, sqA_l hb, rfl, ?_⟩
    refine ⟨Nat.zero_le _, fun p np => ?_⟩
    have sm : Same H (upd H p (.lst [])) := same_new np
    refine ⟨.list (ns.map PyData.int), .list [], .lst (sqL_l (sm _ _ hl)) (dpInts ns), .lst (sqL_l upd_same) .nil, shapedInts ns, rfl, _, rfl, ?_⟩
    have hb1 := sm _ _ hb
    have hl1 := sm _ _ hl
    have nbp : b ≠ p := ne_of_none hb np
    have nlp : l ≠ p := ne_of_none hl np
    cases ns with
    | nil =>
      refine iteT ?_
      -- box[1] = box[1] * 48271 % 2147483647
      refine ⟨_, rfl, b, _, 1, .int sd, rfl, rfl, sqA_l hb1, rfl, ?_⟩
      refine ⟨_, _, rfl, rfl, .inl ⟨by omega, by omega⟩, _, _, rfl, rfl, (by show (0 : Int) < 2147483647; decide), ?_⟩
      refine ⟨_, rfl, b, _, 1, 1, rfl, rfl, hb1, rfl, ?_⟩
      -- return box[1] // 7 % many
      refine ⟨_, rfl, b, _, 1, .int (sd * 48271 % 2147483647), rfl, rfl, sqA_l upd_same, rfl, ?_⟩
      refine ⟨_, _, rfl, rfl, ⟨by decide, by decide⟩, _, rfl, _, _, rfl, rfl, m0, ?_⟩
      have e0 : 0 ≤ sd * 48271 % 2147483647 := Int.emod_nonneg _ (by decide)
      have e1 : sd * 48271 % 2147483647 < 2147483647 := Int.emod_lt_of_pos _ (by decide)
      refine q _ _ ⟨[], _, upd_same, ?_, e0, e1, hlen⟩ ?_ ?_ ?_
      · rw [upd_ne hne.symm]; exact hl1
      · exact (Same.but sm).trans (But.set (by simp))
      · exact Int.emod_nonneg _ (by omega)
      · exact Int.emod_lt_of_pos _ m0
    | cons n r =>
      refine iteF ?_
      -- number = box[0][0]
      refine ⟨_, rfl, b, _, 0, .ref l, rfl, rfl, sqA_l hb1, rfl, l, _, 0, .int n, rfl, rfl, sqA_l hl1, at0, ?_⟩
      -- box[0][0] = number // many
      refine ⟨_, rfl, _, rfl, _, _, rfl, rfl, wide_div m0 (b := 200) (by omega) (by decide) (by decide), ?_⟩
      refine ⟨_, rfl, b, _, 0, .ref l, rfl, rfl, sqA_l hb1, rfl, l, _, 0, 0, rfl, rfl, hl1, ixN_of rfl (by simp), ?_⟩
      have nlb : l ≠ b := hne.symm
      have hb2 : (upd (upd H p (.lst [])) l (.lst ((V.int (n / m)) :: r.map V.int))) b = some (.lst [.ref l, .int sd]) := by
        rw [upd_ne hne]; exact hb1
      have bt : But [b, l] H (upd (upd H p (.lst [])) l (.lst ((V.int (n / m)) :: r.map V.int))) := (Same.but sm).trans (But.set (by simp))
      -- if box[0][0] == 0 or box[0][0] == -1
      have hr1 : r.length ≤ 63 := by simp at hlen; omega
      refine ⟨fun σ' H' => σ' = [some (.ref b), some (.int m), some (.int n)] ∧ Box H' b l ∧ But [b, l] H H', ?_, fun σ' H' hM => ?_⟩
      · have pop : ∀ D : Ends, D.nx = (fun σ' H' => σ' = [some (.ref b), some (.int m), some (.int n)] ∧ Box H' b l ∧ But [b, l] H H') →
            tDrop (tBM K "list" rPopAt (tOp (rIxLT K) (tVar 0) (tC (.int 0))) (tCons (tC (.int 0)) tNil)) D [some (.ref b), some (.int m), some (.int n)] (upd (upd H p (.lst [])) l (.lst ((V.int (n / m)) :: r.map V.int))) := fun D hD => by
          refine ⟨_, rfl, b, _, 0, .ref l, rfl, rfl, sqA_l hb2, rfl, .inl ⟨rfl, _, sqL_l upd_same⟩, ?_⟩
          refine ⟨l, _, 0, 0, .int (n / m), rfl, rfl, upd_same, by decide, by decide, seqIx_of rfl (by simp), rfl, ?_⟩
          rw [hD]
          refine ⟨rfl, ⟨r, sd, ?_, ?_, s0, s1, hr1⟩, bt.trans (But.set (by simp))⟩
          · rw [upd_ne hne]; exact hb2
          · rw [upd_same]; rfl
        refine ⟨_, rfl, b, _, 0, .ref l, rfl, rfl, sqA_l hb2, rfl, l, _, 0, .int (n / m), rfl, rfl, sqA_l upd_same, at0, rfl, _, rfl, ite2 (fun e => ?_) (fun e => ?_)⟩
        · exact iteT (pop _ rfl)
        · refine ⟨_, rfl, b, _, 0, .ref l, rfl, rfl, sqA_l hb2, rfl, l, _, 0, .int (n / m), rfl, rfl, sqA_l upd_same, at0, 1, rfl, rfl, _, rfl, ite2 (fun e => ?_) (fun e => ?_)⟩
          · exact pop _ rfl
          · exact ⟨rfl, ⟨n / m :: r, sd, hb2, upd_same, s0, s1, hlen⟩, bt⟩
      · obtain ⟨rfl, h1, h2⟩ := hM
        refine ⟨_, rfl, _, rfl, _, _, rfl, rfl, m0, ?_⟩
        exact q _ _ h1 h2 (Int.emod_nonneg _ (by omega)) (Int.emod_lt_of_pos _ m0)
end
end Vt
namespace Vt
open PySem PySem.Spec PyProof.Rows L2
/-- a class that can be raised with a text -/
structure RaisesC (K : PySem.W.Frag) (mg : Str → Option Value) (x : Str) (C : Addr) : Prop where
  q : PySem.W.excIn K C [.type "ValueError", .type "Exception", .type "BaseException", .type "object"] "ValueError.__new__" = true
  g : mg x = some (.ref C)
  k : PySem.W.keepIn K (.ref C) = true
  b : PySem.W.subIn K (.ref C) (.type "BaseException") = some true
  t : PySem.W.typeIn K (.ref C) = some (.type "type")
theorem putTo_nil {prog : List Deed} : ∀ n : Nat, putTo prog [] n = prog.take n
  | 0 => rfl
  | n + 1 => by
    rw [putTo, putTo_nil n, List.take_add_one]
    rfl
theorem putIn_nil {B : Brd} : putIn B [] = B := by
  unfold putIn
  rw [putTo_nil, List.take_of_length_le (by omega)]
section
variable {P : Program} {w : World} {K : PySem.W.Frag} {mg : Str → Option Value} {base : Heap}
def spFewestN (C : Addr) : Sp := fun vs H Q E => ∃ (v : V) (B : Brd) (most : Int), vs = [v, .int most] ∧ Pd H v B.d ∧ BrdOk B ∧
  ((5 < B.prog.length ∨ most < 0 ∨ 2 < most) → ∀ H', Same H H' → E (.ref C) none H') ∧
  (B.prog.length ≤ 5 → 0 ≤ most → most ≤ 2 → paceAmiss B = none ∧ ∀ (H' : Hp) (L : Addr), Same H H' → RowAt H' L [] → Q (.ref L) H')
set_option maxHeartbeats 0 in
theorem ok_fewestN {f C : Addr} {fd : FuncData} (F : Fun K "fewest" "fewest" st_fewest f fd) (hB : RaisesC K mg "BadCount" C) (e1 : ∃ t, mg "MOST_DEEDS_SHUT" = some (.int 5 t)) (e2 : ∃ t, mg "MOST_SHUTTING" = some (.int 2 t)) (c_require_board : Callee P w K mg base "require_board" 3 1 spReq) (c_choices_of_fences : Callee P w K mg base "choices_of_fences" 2 2 spChoices)
    (c_put_in : Callee P w K mg base "put_in" 1 2 spPutIn) (c_is_sure : Callee P w K mg base "is_sure" 9 1 spIsSure) (z_len : mg "len" = none) (z_range : mg "range" = none) : FnOk P w K mg base (L2N.CX P w) 10 f fd ["board", "most"] (spFewestN C) := by
  obtain ⟨tD, mc_MOST_DEEDS_SHUT⟩ := e1
  obtain ⟨tM, mc_MOST_SHUTTING⟩ := e2
  refine okN F sc_fewest (fun vs H Q E h => ?_) (fun cdv A outer s H vs Q E hr h => ?_)
  · obtain ⟨v, B, most, rfl, _⟩ := h
    rfl
  · obtain ⟨v, B, most, rfl, hB', ok, q0, q1⟩ := h
    refine ⟨_, (pss_cons (ps_expr (pe_cal c_require_board hr (by first | decide | exact Nat.le_refl _) (pa_cons (pv 0) pa_nil)))
  (pss_cons (ps_if (PW.pt (pw_or (pt_cmpR op_gt (pe_callB call_len_seq (by rfl) z_len (by decide +kernel) (pa_cons (pe_ix ix_lt (pv 0) pe_int (fun _ _ => rfl)) pa_nil)) (pe_glob (v := .int 5) rfl mc_MOST_DEEDS_SHUT ⟨_, rfl⟩) (nomark _)) (pw_or1 (pt_not (pt_chain op_le op_le pe_int (pv 1) (pe_glob (v := .int 2) rfl mc_MOST_SHUTTING ⟨_, rfl⟩)))))) (pss_one (L2N.ps_raise rfl (L2N.takes_of rfl rfl rfl rfl) (L2N.pmk_own PySem.F.excBase_ValueError hB.q hB.g hB.k (raises_own hB.b hB.t) rfl))) pss_nil)
  (PSs.nox (pss_cons (ps_for PassesOwn.never rfl (pi_range1 (by rfl) z_range (pa_cons (pe_op op_add (pv 1) pe_int) pa_nil)) (pg_name (i := 2) sc_fewest.nd rfl (Or.inl rfl))
  (pss_one (ps_for PassesOwn.never rfl (pi_lt (pe_cal c_choices_of_fences hr (by first | decide | exact Nat.le_refl _) (pa_cons (pv 0) (pa_cons (pv 2) pa_nil)))) (pg_name (i := 3) sc_fewest.nd rfl (Or.inl rfl))
  (pss_one (ps_if (pt_val (pe_cal c_is_sure hr (by first | decide | exact Nat.le_refl _) (pa_cons (pe_cal c_put_in hr (by first | decide | exact Nat.le_refl _) (pa_cons (pv 0) (pa_cons (pv 3) pa_nil))) pa_nil))) (pss_one (ps_ret (pv 3))) pss_nil)))))
  (pss_one (ps_ret pe_non)))))), ?_⟩
    refine ⟨_, rfl, v, B, rfl, hB', ok, fun H1 s1 => ?_⟩
    have hB1 := hB'.same s1
    obtain ⟨a, m, o, p, os, ps, ev, ha, hm', ho, hos, hp, hps⟩ := Brd.of hB1
    have pl : ps.length = B.prog.length := by rw [hps.len, List.length_map]
    refine ⟨_, rfl, a, _, 2, .ref p, ev, rfl, sqA_t ha, rfl, p, ps, rfl, .inr (sqT_t hp), ?_⟩
    by_cases h5 : 5 < B.prog.length
    · refine ⟨_, _, rfl, rfl, _, rfl, iteT' (by rw [pl]; simp; omega) ?_⟩
      exact q0 (.inl h5) H1 s1
    refine ⟨_, _, rfl, rfl, _, rfl, iteF' (by rw [pl]; simp; omega) ?_⟩
    refine ⟨_, rfl, _, _, rfl, rfl, ?_⟩
    by_cases h0 : 0 ≤ most
    · refine ⟨_, rfl, iteT' (decide_eq_true h0) ?_⟩
      by_cases h2 : most ≤ 2
      · refine ⟨_, _, rfl, rfl, _, rfl, iteF' (by simp; omega) ?_⟩
        obtain ⟨sure, q2⟩ := q1 (by omega) h0 h2
        refine ⟨_, rfl, _, _, rfl, rfl, _, rfl, by omega, by omega, ?_⟩
        refine for_it (walk_range (lo := 0) (n := (most + 1).toNat)) (fun i σ H' => i = 0 ∧ ∃ (y2 y3 : Option V), σ = [some v, some (.int most), y2, y3] ∧ Same H H')
          ⟨rfl, _, _, rfl, s1⟩ (fun _ _ _ _ _ => trivial) (fun i x σ H2' H2 hi hp' hy => ?_) (fun σ H2 hp' => ?_)
        · obtain ⟨rfl, y2, y3, rfl, s2⟩ := hp'
          obtain ⟨rfl, rfl⟩ := hy
          refine chgN (y := nV 0) (congrArg V.int (Int.zero_add _)) ?_
          refine ⟨_, rfl, _, rfl, v, B, 0, rfl, hB'.same s2, ok, by omega, by omega, fun H3 L as s3 nL hL has => ?_⟩
          refine ⟨L, rfl, .inl ⟨_, sqL_l hL, ?_⟩⟩
          have al : as.length = 1 := has.len
          refine for_it (walk_list (xs := as.map V.ref)) (fun j σ H' => j = 0 ∧ ∃ (y3 : Option V), σ = [some v, some (.int most), some (nV 0), y3] ∧ Same H3 H')
            ⟨rfl, _, rfl, Same.refl _⟩ (fun j σ H' _ hp' => by obtain ⟨_, _, _, sm⟩ := hp'; exact sqL_l (sm _ _ hL)) (fun j x σ H4' H4 hj hp' hy => ?_) (fun σ H4 hp' => ?_)
          · obtain ⟨rfl, y3, rfl, s4⟩ := hp'
            obtain ⟨rfl, hx⟩ := hy
            rw [List.getElem?_map] at hx
            obtain ⟨a0, ha0, rfl⟩ : ∃ a0, as[0]? = some a0 ∧ V.ref a0 = x := by simpa using hx
            obtain ⟨ch, hch, hrow⟩ := has.get ha0
            have ech : ch = [] := by
              have : (choicesOf B 0)[0]? = some [] := rfl
              rw [this] at hch
              exact (Option.some.inj hch).symm
            subst ech
            have hrow4 := hrow.same s4
            obtain ⟨chx, hca, hchx⟩ := hrow.same s4
            have s24 := s3.trans s4
            refine ⟨_, rfl, _, rfl, v, B, a0, chx, [], rfl, (hB'.same s2).same s24, hca, hchx, by omega, by decide, fun H5 u s5 hu => ?_⟩
            rw [putIn_nil] at hu
            refine ⟨u, B, rfl, hu, ok, fun H6 s6 => ?_⟩
            have sF : Same H H6 := (s2.trans s24).trans (s5.trans s6)
            refine ⟨_, rfl, iteT' (decide_eq_true sure) ⟨_, rfl, ?_⟩⟩
            exact q2 H6 a0 sF (hrow4.same (s5.trans s6))
          · obtain ⟨z, _⟩ := hp'
            rw [List.length_map, al] at z
            cases z
        · obtain ⟨z, _⟩ := hp'
          exfalso
          omega
      · refine ⟨_, _, rfl, rfl, _, rfl, iteT' (by simp; omega) ?_⟩
        exact q0 (.inr (.inr (by omega))) H1 s1
    · refine ⟨_, rfl, iteF' (decide_eq_false h0) ?_⟩
      refine ⟨_, rfl, iteT' rfl ?_⟩
      exact q0 (.inr (.inl (by omega))) H1 s1
end
end Vt
namespace Vt
open PySem PySem.Spec PyProof.Rows L2
section
variable {P : Program} {w : World} {K : PySem.W.Frag} {mg : Str → Option Value} {base : Heap}
abbrev st_law_told : Stmt := (topS 54)
abbrev nm_law_told : List Str := ["_law_board_here", "_law_most", "_law_e"]
theorem sc_law_told : FnScope ["_law_board_here", "_law_most", "_law_e"] ["_law_board_here", "_law_most"] (defScope st_law_told) := ⟨rfl, rfl, rfl, by decide +kernel, rfl, by decide +kernel, by decide +kernel⟩
def spTold : Sp := fun vs H Q _ => ∃ (v : V) (B : Brd) (most : Int), vs = [v, .int most] ∧ Pd H v B.d ∧ BrdOk B ∧
  ((5 < B.prog.length ∨ most < 0 ∨ 2 < most) → ∀ H', Same H H' → Q (.str "BadCount") H') ∧
  (B.prog.length ≤ 5 → 0 ≤ most → most ≤ 2 → paceAmiss B = none ∧ ∀ (H' : Hp) (L : Addr), Same H H' → RowAt H' L [] → Q (.ref L) H')
set_option maxHeartbeats 0 in
theorem ok_told {f CE : Addr} {C : Nat → Addr} {fd : FuncData} (F : Fun K "_law_told" "_law_told" st_law_told f fd) (hE : mg "CarrierError" = some (.ref CE)) (hx : PySem.W.exmOne K (.ref (C 3)) (.ref CE) = some true) (hc : IsCls K C 3)
    (c_fewest : CalleeN P w K mg base "fewest" 10 2 (spFewestN (C 3))) (c_class : CalleeP P w K mg base "_law_class" 1 (spClass K C)) : FnOk P w K mg base CX0 11 f fd ["_law_board_here", "_law_most"] spTold := by
  refine F.ok sc_law_told (fun vs H Q E h => ?_) (fun cdv A outer s H vs Q E hr h => ?_)
  · obtain ⟨v, B, most, rfl, _⟩ := h
    rfl
  · obtain ⟨v, B, most, rfl, hB, ok, q0, q1⟩ := h
    refine ⟨_, (pss_one (L2N.ps_try_as (i := 2) rfl rfl sc_law_told.nd rfl rfl ⟨rfl, by decide, .inl hE⟩ takesN0
      (fun W pn xe tk _ => pss_one (ps_ret (pe_calN c_fewest hr (by first | decide | exact Nat.le_refl _) tk (pa_cons (pv 0) (pa_cons (pv 1) pa_nil)))))
      (fun a oe cls d pn hz hf => pss_one (ps_ret (pe_calP (j := 10) c_class ⟨hr.dp, hr.un⟩ (by decide) rfl List.mem_cons_self hz hf (pa_cons (pv 2) pa_nil)))))), ?_⟩
    refine ⟨_, rfl, _, rfl, v, B, most, rfl, hB, ok, fun hbad H' s' => ?_, fun h5 h0 h2 => ?_⟩
    · refine ⟨true, hx, fun _ a ha => ?_, fun q => nomatch q⟩
      refine ⟨_, rfl, 3, "BadCount", hc, rfl, rfl, rfl, rfl, fun H2 s2 => ?_⟩
      exact q0 hbad H2 (s'.trans s2)
    · obtain ⟨sure, q2⟩ := q1 h5 h0 h2
      exact ⟨sure, fun H' L s' hL => q2 H' L s' hL⟩
end
end Vt
namespace Vt
open PySem PySem.Spec PyProof.Rows L2
theorem calleeN_mk {P : Program} {w : World} {K : PySem.W.Frag} {mg : Str → Option Value} {base h : Heap} {x : Str} {st : Stmt} {k n : Nat} {sp : Sp} {ps : List Str} (X : K.In h) (G : h.Ns mainGlobals mg) (hf : ∃ f, Found K x st f)
    (ok : ∀ (f : Addr) (fd : FuncData), Fun K x x st f fd → FnOk P w K mg base (L2N.CX P w) k f fd ps sp)
    (hb : ∀ (kV doc pm : Value) (an : Option Addr) (cdv ct : Value) (us : List Value), us.length = ps.length → bindArgs (PySem.W.fnOf x x (defArgs st) (defBody st) (defScope st) .none kV doc pm an cdv ct) ⟨us, []⟩ = pure (ps.zip us)) : CalleeN P w K mg base x k n sp := by
  obtain ⟨f, oc, od, kV, doc, pm, an, cdv, ct, osl, a, l, c, kp⟩ := hf
  have F := fun_mk (st := st) l c kp
  exact ⟨f, _, ps, ok f _ F, PySem.W.mg_of X G a, kp, F.binds hb⟩
theorem calleeP_mk {P : Program} {w : World} {K : PySem.W.Frag} {mg : Str → Option Value} {base h : Heap} {x : Str} {st : Stmt} {k : Nat} {sp : Value → Option Addr → Addr → Sp} {ps : List Str} (X : K.In h) (G : h.Ns mainGlobals mg) (hf : ∃ f, Found K x st f)
    (ok : ∀ {f : Addr} {oc : Value} {od : Option Addr} {kV doc pm cdv ct : Value} {an : Option Addr} {osl : Array (Option Value)}, K.lookup f = some ⟨oc, od, .func (PySem.W.fnOf x x (defArgs st) (defBody st) (defScope st) .none kV doc pm an cdv ct), osl⟩ → PySem.W.codeIn K cdv x = true →
      ∀ (p : Addr × Obj) (cls : Value) (d : Option Addr), L2N.Zn cls d p.2 → (∃ vs, p.2.data = .fields vs) → FnP P w K mg base k f (PySem.W.fnOf x x (defArgs st) (defBody st) (defScope st) .none kV doc pm an cdv ct) ps p (sp cls d p.1))
    (hb : ∀ (kV doc pm : Value) (an : Option Addr) (cdv ct : Value) (us : List Value), us.length = ps.length → bindArgs (PySem.W.fnOf x x (defArgs st) (defBody st) (defScope st) .none kV doc pm an cdv ct) ⟨us, []⟩ = pure (ps.zip us)) : CalleeP P w K mg base x k sp := by
  obtain ⟨f, oc, od, kV, doc, pm, an, cdv, ct, osl, a, l, c, kp⟩ := hf
  have F := fun_mk (st := st) l c kp
  exact ⟨f, _, ps, PySem.W.mg_of X G a, kp, F.binds hb, fun p cls d hz hv => ok l c p cls d hz hv⟩
/-- the five classes' addresses by place -/
def five (E0 E1 E2 E3 E4 : Addr) : Nat → Addr
  | 0 => E0
  | 1 => E1
  | 2 => E2
  | 3 => E3
  | _ => E4
end Vt
namespace Vt
open PySem PySem.Spec PyProof.Rows L2
theorem rd_catT {K : PySem.W.Frag} {H : Hp} {a b : Addr} {xs ys : List V} {Q : VK} (ha : H a = some (.tup xs)) (hb : H b = some (.tup ys)) (hl : xs.length + ys.length ≤ sizeLine) (q : ∀ (H' : Hp) (p : Addr), Same H H' → H' p = some (.tup (xs ++ ys)) → Q (.ref p) H') : rCatA K (.ref a) (.ref b) H Q :=
  ⟨a, b, xs, ys, rfl, rfl, sqT_t ha, sqT_t hb, hl, fun e => q H b (Same.refl _) (by rw [e]; exact hb), fun _ e => q H a (Same.refl _) (by rw [e, List.append_nil]; exact ha), fun _ _ p np => q _ p (same_new np) upd_same⟩
def words13 : List Str := ["set", "say", "add", "wait", "clean"]
theorem calm13 {d : Deed} (h : d.word ∈ words13 ∨ d.word = "say") : calm d = true := by
  cases d with
  | start k =>
    exfalso
    rcases h with h | h
    · exact absurd h (by show ¬ ("start" : Str) ∈ words13; decide)
    · exact absurd h (by show ¬ ("start" : Str) = "say"; decide)
  | drop k =>
    exfalso
    rcases h with h | h
    · exact absurd h (by show ¬ ("drop" : Str) ∈ words13; decide)
    · exact absurd h (by show ¬ ("drop" : Str) = "say"; decide)
  | _ => rfl
theorem calm_nostart {ds : List Deed} (h : ∀ d ∈ ds, calm d = true) : ds.filter isStart = [] := by
  refine List.filter_eq_nil_iff.mpr fun d hd => ?_
  have := h d hd
  cases d <;> simp_all [calm, isStart]
/-- a board with other calm deeds -/
def Brd.with (B : Brd) (ds : List Deed) : Brd := ⟨B.mem, B.ords, ds⟩
theorem with_ok {B : Brd} (ok : BrdOk B) {ds : List Deed} (h60 : ds.length ≤ 60) (hd : ∀ d ∈ ds, DeedOk d B.ords.length B.mem.length) (hc : ∀ d ∈ ds, calm d = true) : BrdOk (B.with ds) :=
  ⟨ok.cells, ok.nums, ok.four, ok.ords, h60, hd, by show (ds.filter isStart).length ≤ 3; rw [calm_nostart hc]; decide⟩
theorem Pds.fore {H : Hp} : ∀ {vs : List V} {ds : List D} (n : Nat), Pds H vs ds → Pds H (vs.take n) (ds.take n)
  | _, _, 0, _ => .nil
  | _, _, n + 1, .nil => by rw [List.take_nil, List.take_nil]; exact .nil
  | _, _, n + 1, .cons h t => .cons h (Pds.fore n t)
theorem sl_fore {K : PySem.W.Frag} {H : Hp} {a : Addr} {xs : List V} {n : Nat} {k : Int} {Q : VK} (hk : k = (n : Int)) (ha : H a = some (.tup xs)) (q : ∀ (b : Addr) (H' : Hp), Same H H' → H' b = some (.tup (xs.take n)) → Q (.ref b) H') : rSlA K (.ref a) none (some k) H Q := by
  subst hk
  refine ⟨a, xs, rfl, sqT_t ha, fun h => ?_, fun h p np => ?_⟩
  · have h2 := h.2
    rw [HT.sIx_nat] at h2
    exact q a H (Same.refl _) (by rw [List.take_of_length_le (by omega)]; exact ha)
  · refine q p _ (same_new np) ?_
    rw [upd_same, cutV, HT.sIx_none, HT.sIx_nat, List.drop_zero, Nat.sub_zero]
    have : xs.take (min n xs.length) = xs.take n := by
      rw [← List.take_take, List.take_of_length_le (Nat.le_refl _)]
    rw [this]
section
variable {P : Program} {w : World} {K : PySem.W.Frag} {mg : Str → Option Value} {base : Heap}
abbrev st_law : Stmt := (topS 55)
abbrev nm_law : List Str := ["_law_script", "_law_box", "_law_board_here", "_law_far", "_law_most", "_law_long", "_law_few"]
theorem sc_law : FnScope ["_law_script", "_law_box", "_law_board_here", "_law_far", "_law_most", "_law_long", "_law_few"] ["_law_script"] (defScope st_law) := ⟨rfl, rfl, rfl, by decide +kernel, rfl, by decide +kernel, by decide +kernel⟩
def spLaw (K : PySem.W.Frag) : Sp := fun vs H Q _ => ∃ (a : Addr) (ns : List Int), vs = [.ref a] ∧ SqL K H a (ns.map V.int) ∧ ns.length ≤ 63 ∧ ∀ H', Q (.bl true) H'
set_option maxHeartbeats 0 in
theorem ok_law {f : Addr} {fd : FuncData} (F : Fun K "law" "law" st_law f fd) (c_law_begun : Callee P w K mg base "_law_begun" 1 1 (spBegun K)) (c_law_board : Callee P w K mg base "_law_board" 3 4 spBoard) (c_law_take : Callee P w K mg base "_law_take" 1 2 spTake) (c_law_takeF : Callee P w K mg base "_law_take" 1 2 spTakeF)
    (c_law_told : Callee P w K mg base "_law_told" 11 2 spTold) (z_range : mg "range" = none) : FnOk P w K mg base CX0 12 f fd ["_law_script"] (spLaw K) := by
  refine F.ok sc_law (fun vs H Q E h => ?_) (fun cdv A outer s H vs Q E hr h => ?_)
  · obtain ⟨a, ns, rfl, _⟩ := h
    rfl
  · obtain ⟨a, ns, rfl, hS, hlen, q⟩ := h
    refine ⟨_, (pss_cons (ps_set (i := 1) sc_law.nd rfl (Or.inl rfl) (pe_cal c_law_begun hr (by first | decide | exact Nat.le_refl _) (pa_cons (pv 0) pa_nil)))
  (pss_cons (ps_set (i := 2) sc_law.nd rfl (Or.inl rfl) (pe_cal c_law_board hr (by first | decide | exact Nat.le_refl _) (pa_cons (pv 1) (pa_cons pe_int (pa_cons pe_int (pa_cons (pe_lst (pa_cons pe_str (pa_cons pe_str (pa_cons pe_str (pa_cons pe_str (pa_cons pe_str pa_nil)))))) pa_nil))))))
  (pss_cons (ps_set (i := 3) sc_law.nd rfl (Or.inl rfl) (pe_cal c_law_takeF hr (by first | decide | exact Nat.le_refl _) (pa_cons (pv 1) (pa_cons (pe_op op_pow pe_int pe_int) pa_nil))))
  (pss_cons (ps_for PassesOwn.never rfl (pi_lt (pe_lst (pa_cons (pe_un un_neg pe_int) (pa_cons pe_int (pa_cons (pe_op op_add pe_int (pv 3)) (pa_cons (pe_op op_sub (pe_un un_neg pe_int) (pv 3)) pa_nil)))))) (pg_name (i := 4) sc_law.nd rfl (Or.inl rfl))
  (pss_one (ps_if (pt_cmpR op_ne (pe_cal c_law_told hr (by first | decide | exact Nat.le_refl _) (pa_cons (pv 2) (pa_cons (pv 4) pa_nil))) pe_str (nomark _)) (pss_one (ps_ret pe_bl)) pss_nil)))
  (pss_cons (ps_set (i := 5) sc_law.nd rfl (Or.inl rfl) (pe_tup (pa_cons (pe_ix ix_lt (pv 2) pe_int (fun _ _ => rfl)) (pa_cons (pe_ix ix_lt (pv 2) pe_int (fun _ _ => rfl)) (pa_cons (pe_slice sl_tupA (pe_op op_catA (pe_ix ix_lt (pv 2) pe_int (fun _ _ => rfl)) (pe_op op_repT (pe_tup (pa_cons (pe_tup (pa_cons pe_str (pa_cons pe_int pa_nil))) pa_nil)) pe_int)) po_none (po_some (pe_op op_add pe_int (pe_cal c_law_take hr (by first | decide | exact Nat.le_refl _) (pa_cons (pv 1) (pa_cons pe_int pa_nil)))))) pa_nil)))))
  (pss_cons (ps_for PassesOwn.never rfl (pi_range1 (by rfl) z_range (pa_cons pe_int pa_nil)) (pg_name (i := 4) sc_law.nd rfl (Or.inl rfl))
  (pss_cons (ps_if (pt_cmpR op_ne (pe_cal c_law_told hr (by first | decide | exact Nat.le_refl _) (pa_cons (pv 5) (pa_cons (pv 4) pa_nil))) pe_str (nomark _)) (pss_one (ps_ret pe_bl)) pss_nil)
  (pss_cons (ps_set (i := 6) sc_law.nd rfl (Or.inl rfl) (pe_tup (pa_cons (pe_ix ix_lt (pv 2) pe_int (fun _ _ => rfl)) (pa_cons (pe_ix ix_lt (pv 2) pe_int (fun _ _ => rfl)) (pa_cons (pe_slice sl_tupA (pe_ix ix_lt (pv 2) pe_int (fun _ _ => rfl)) po_none (po_some pe_int)) pa_nil)))))
  (pss_one (ps_if (pt_cmpR (op_neD hr.units) (pe_cal c_law_told hr (by first | decide | exact Nat.le_refl _) (pa_cons (pv 6) (pa_cons (pv 4) pa_nil))) (pe_lst pa_nil) (nomark _)) (pss_one (ps_ret pe_bl)) pss_nil)))))
  (pss_one (ps_ret pe_bl)))))))), ?_⟩
    refine ⟨_, rfl, a, ns, rfl, hS, hlen, fun H1 b l hB1 sm1 => ?_⟩
    refine ⟨_, rfl, by show 5 ≤ sizeLine; decide, fun KL nKL => ?_⟩
    have hB2 := hB1.same (same_new (o := .lst (words13.map V.str)) nKL)
    have hKL : (upd H1 KL (.lst (words13.map V.str))) KL = some (.lst (words13.map V.str)) := upd_same
    refine ⟨b, l, KL, 4, 9, words13, rfl, hB2, by decide, by decide, by decide, hKL, by decide, by decide, by decide, fun H3 v B hB3 bt3 hv3 ok m16 d9 _ hwd => ?_⟩
    have hc : ∀ d ∈ B.prog, calm d = true := fun d hd => calm13 (hwd d hd)
    -- far
    refine ⟨_, rfl, _, _, rfl, rfl, ⟨by decide, by decide, by decide⟩, ?_⟩
    refine ⟨b, l, _, rfl, hB3, by decide +kernel, by decide +kernel, fun H4 far hB4 bt4 f0 f1 => ?_⟩
    have hv4 := Pd.but bt4 hB3.lsts (noL_brd B) hv3
    -- for most in [-1, 3, 3 + far, -2 - far]
    refine ⟨_, rfl, _, rfl, _, _, rfl, rfl, _, rfl, _, rfl, _, _, rfl, rfl, by show 4 ≤ sizeLine; decide, fun ML nML => ?_⟩
    have sML := same_new (o := .lst [.int (-1), .int 3, .int (3 + far), .int (-2 - far)]) nML
    have hML : (upd H4 ML (.lst [.int (-1), .int 3, .int (3 + far), .int (-2 - far)])) ML = some (.lst [.int (-1), .int 3, .int (3 + far), .int (-2 - far)]) := upd_same
    have hB5 := hB4.same sML
    have hv5 := hv4.same sML
    generalize upd H4 ML (.lst [.int (-1), .int 3, .int (3 + far), .int (-2 - far)]) = H5 at hML hB5 hv5
    have ms : ∀ x ∈ [V.int (-1), V.int 3, V.int (3 + far), V.int (-2 - far)], ∃ m : Int, x = .int m ∧ (m < 0 ∨ 2 < m) := by
      intro x hx
      simp only [List.mem_cons, List.not_mem_nil, or_false] at hx
      rcases hx with rfl | rfl | rfl | rfl
      · exact ⟨_, rfl, .inl (by decide)⟩
      · exact ⟨_, rfl, .inr (by decide)⟩
      · exact ⟨_, rfl, .inr (by omega)⟩
      · exact ⟨_, rfl, .inl (by omega)⟩
    refine ⟨ML, rfl, .inl ⟨_, sqL_l hML, ?_⟩⟩
    refine for_it (walk_list (xs := [V.int (-1), V.int 3, V.int (3 + far), V.int (-2 - far)])) (fun i σ H' => ∃ y : Option V, σ = [some (.ref a), some (.ref b), some v, some (.int far), y, none, none] ∧ Same H5 H')
      ⟨_, rfl, Same.refl _⟩ (fun i σ H' _ hp' => by obtain ⟨_, _, sm⟩ := hp'; exact sqL_l (sm _ _ hML)) (fun i x σ H6' H6 hi hp' hy => ?_) (fun σ H6 hp' => ?_)
    · obtain ⟨y, rfl, s6⟩ := hp'
      obtain ⟨rfl, hx⟩ := hy
      obtain ⟨m, rfl, hm⟩ := ms x (List.mem_of_getElem? hx)
      refine ⟨_, rfl, _, rfl, v, B, m, rfl, hv5.same s6, ok, fun _ H7 s7 => ?_, fun _ h0 h2 => by omega⟩
      refine ⟨rfl, _, rfl, iteF' (by simp) ?_⟩
      exact ⟨_, rfl, s6.trans s7⟩
    obtain ⟨y, rfl, s6⟩ := hp'
    have hB6 := hB5.same s6
    have hv6 := hv5.same s6
    obtain ⟨av, m, o, p, os, ps, ev, ha, hmm, ho, hos, hp, hps⟩ := Brd.of hv6
    subst ev
    have pl : ps.length = B.prog.length := by rw [hps.len, List.length_map]
    have p60 := ok.sixty
    -- long
    refine ⟨_, rfl, av, _, 0, .ref m, rfl, rfl, sqA_t ha, rfl, ?_⟩
    refine ⟨_, rfl, av, _, 1, .ref o, rfl, rfl, sqA_t ha, rfl, ?_⟩
    refine ⟨_, rfl, av, _, 2, .ref p, rfl, rfl, sqA_t ha, rfl, ?_⟩
    refine ⟨by show 2 ≤ sizeLine; decide, fun T1 nT1 => ?_⟩
    have sT1 := same_new (o := .tup [.str "say", .int 0]) nT1
    have hT1 : (upd H6 T1 (.tup [.str "say", .int 0])) T1 = some (.tup [.str "say", .int 0]) := upd_same
    generalize upd H6 T1 (.tup [.str "say", .int 0]) = H7 at sT1 hT1
    refine ⟨by show 1 ≤ sizeLine; decide, fun T2 nT2 => ?_⟩
    have sT2 := same_new (o := .tup [.ref T1]) nT2
    have hT2 : (upd H7 T2 (.tup [.ref T1])) T2 = some (.tup [.ref T1]) := upd_same
    generalize upd H7 T2 (.tup [.ref T1]) = H8 at sT2 hT2
    refine ⟨T2, 6, [.ref T1], rfl, rfl, sqT_t hT2, by simp, by decide, by decide, by simp, fun T3 nT3 => ?_⟩
    have sT3 := same_new (o := .tup [.ref T1, .ref T1, .ref T1, .ref T1, .ref T1, .ref T1]) nT3
    have hT3 : (upd H8 T3 (.tup [.ref T1, .ref T1, .ref T1, .ref T1, .ref T1, .ref T1])) T3 = some (.tup [.ref T1, .ref T1, .ref T1, .ref T1, .ref T1, .ref T1]) := upd_same
    show rCatA K (.ref p) (.ref T3) (upd H8 T3 (.tup [.ref T1, .ref T1, .ref T1, .ref T1, .ref T1, .ref T1])) _
    generalize upd H8 T3 (.tup [.ref T1, .ref T1, .ref T1, .ref T1, .ref T1, .ref T1]) = H9 at sT3 hT3
    have s69 := sT1.trans (sT2.trans sT3)
    refine rd_catT (s69 _ _ hp) hT3 (Nat.le_of_lt (big (by show ps.length + 6 ≤ 1000000; omega))) fun H10 p10 s10 hp10 => ?_
    have s610 := s69.trans s10
    have hB10 := hB6.same s610
    have six : Pds H10 [.ref T1, .ref T1, .ref T1, .ref T1, .ref T1, .ref T1] ((List.replicate 6 (Deed.say 0)).map Deed.d) := by
      have one : Pd H10 (.ref T1) (Deed.say 0).d := .tup (s10 _ _ (sT3 _ _ (sT2 _ _ hT1))) (.cons (.str _) (.cons (.int _) .nil))
      exact .cons one (.cons one (.cons one (.cons one (.cons one (.cons one .nil)))))
    have hall : Pds H10 (ps ++ [.ref T1, .ref T1, .ref T1, .ref T1, .ref T1, .ref T1]) ((B.prog ++ List.replicate 6 (Deed.say 0)).map Deed.d) := by
      rw [List.map_append]
      exact (hps.same s610).app six
    refine ⟨_, rfl, b, l, 3, 3, rfl, rfl, hB10, by decide, by decide, fun H11 r hB11 bt11 hr3 => ⟨_, _, rfl, rfl, _, rfl, ?_⟩⟩
    have hv11 := Pd.but bt11 hB10.lsts (noL_brd B) (hv6.same s610)
    have hall11 := Pds.but bt11 hB10.lsts (noLs_map noL_deed _) hall
    have hp11 := But.tup bt11 hB10.lsts hp10
    refine sl_fore (n := 6 + r) (by omega) hp11 fun p12 H12 s12 hp12 => ?_
    refine ⟨by show 3 ≤ sizeLine; decide, fun W nW => ?_⟩
    have sW := same_new (o := .tup [.ref m, .ref o, .ref p12]) nW
    have hW : (upd H12 W (.tup [.ref m, .ref o, .ref p12])) W = some (.tup [.ref m, .ref o, .ref p12]) := upd_same
    have s1113 := s12.trans sW
    generalize upd H12 W (.tup [.ref m, .ref o, .ref p12]) = H13 at sW hW s1113
    have hm11 := But.tup bt11 hB10.lsts (s610 _ _ hmm)
    have ho11 := But.tup bt11 hB10.lsts (s610 _ _ ho)
    have hos11 := Pds.but bt11 hB10.lsts (noLs_map noL_ord _) (hos.same s610)
    have hv13 := hv11.same s1113
    -- the long board
    have hlong : Pd H13 (.ref W) (B.with ((B.prog ++ List.replicate 6 (Deed.say 0)).take (6 + r))).d := by
      refine .tup hW (.cons (.tup (s1113 _ _ hm11) (pds_ns _)) (.cons (.tup (s1113 _ _ ho11) (hos11.same s1113)) (.cons (.tup (sW _ _ hp12) ?_) .nil)))
      show Pds H13 _ (((B.prog ++ List.replicate 6 (Deed.say 0)).take (6 + r)).map Deed.d)
      rw [List.map_take]
      exact Pds.fore _ (hall11.same s1113)
    have c0 : 0 < B.mem.length := by have := ok.cells; omega
    have lsix : 6 ≤ ((B.prog ++ List.replicate 6 (Deed.say 0)).take (6 + r)).length := by
      rw [List.length_take, List.length_append, List.length_replicate]; omega
    have ok2 : BrdOk (B.with ((B.prog ++ List.replicate 6 (Deed.say 0)).take (6 + r))) := by
      refine with_ok ok ?_ (fun d hd => ?_) (fun d hd => ?_)
      · rw [List.length_take, List.length_append, List.length_replicate]; omega
      · rcases List.mem_append.mp (List.mem_of_mem_take hd) with h | h
        · exact ok.prog d h
        · rw [List.eq_of_mem_replicate h]; exact c0
      · rcases List.mem_append.mp (List.mem_of_mem_take hd) with h | h
        · exact hc d h
        · rw [List.eq_of_mem_replicate h]; rfl
    have ok3 : BrdOk (B.with (B.prog.take 5)) := with_ok ok (by rw [List.length_take]; omega) (fun d hd => ok.prog d (List.mem_of_mem_take hd)) (fun d hd => hc d (List.mem_of_mem_take hd))
    refine ⟨_, rfl, by decide, by decide, ?_⟩
    refine for_it (walk_range (lo := 0) (n := 3)) (fun i σ H' => ∃ (y4 y6 : Option V), σ = [some (.ref a), some (.ref b), some (.ref av), some (.int far), y4, some (.ref W), y6] ∧ Same H13 H')
      ⟨_, _, rfl, Same.refl _⟩ (fun _ _ _ _ _ => trivial) (fun i x σ H14' H14 hi hp' hy => ?_) (fun σ H14 hp' => ?_)
    · obtain ⟨y4, y6, rfl, s14⟩ := hp'
      obtain ⟨rfl, rfl⟩ := hy
      refine chgN (y := nV i) (congrArg V.int (Int.zero_add _)) ?_
      refine ⟨_, rfl, _, rfl, .ref W, _, (i : Nat), rfl, hlong.same s14, ok2, fun _ H15 s15 => ?_, fun h _ _ => ?_⟩
      · refine ⟨rfl, _, rfl, iteF' (by simp) ?_⟩
        have s15' := s14.trans s15
        have hv15 := hv13.same s15'
        obtain ⟨av2, m2, o2, p2, os2, ps2, ev2, ha2, hm2, ho2, hos2, hp2, hps2⟩ := Brd.of hv15
        cases ev2
        refine ⟨_, rfl, av, _, 0, .ref m2, rfl, rfl, sqA_t ha2, rfl, ?_⟩
        refine ⟨_, rfl, av, _, 1, .ref o2, rfl, rfl, sqA_t ha2, rfl, ?_⟩
        refine ⟨_, rfl, av, _, 2, .ref p2, rfl, rfl, sqA_t ha2, rfl, ?_⟩
        refine ⟨_, rfl, ?_⟩
        refine sl_fore (n := 5) rfl hp2 fun p16 H16 s16 hp16 => ?_
        refine ⟨by show 3 ≤ sizeLine; decide, fun U nU => ?_⟩
        have sU := same_new (o := .tup [.ref m2, .ref o2, .ref p16]) nU
        have hU : (upd H16 U (.tup [.ref m2, .ref o2, .ref p16])) U = some (.tup [.ref m2, .ref o2, .ref p16]) := upd_same
        have s17 := s16.trans sU
        generalize upd H16 U (.tup [.ref m2, .ref o2, .ref p16]) = H17 at sU hU s17
        have hfew : Pd H17 (.ref U) (B.with (B.prog.take 5)).d := by
          refine .tup hU (.cons (.tup (s17 _ _ hm2) (pds_ns _)) (.cons (.tup (s17 _ _ ho2) (hos2.same s17)) (.cons (.tup (sU _ _ hp16) ?_) .nil)))
          show Pds H17 _ ((B.prog.take 5).map Deed.d)
          rw [List.map_take]
          exact Pds.fore _ (hps2.same s17)
        refine ⟨_, rfl, _, rfl, .ref U, _, (i : Nat), rfl, hfew, ok3, fun h _ _ => ?_, fun _ _ _ => ⟨calm_sure ok3 (fun d hd => hc d (List.mem_of_mem_take hd)), fun H18 L s18 hL => ?_⟩⟩
        · exfalso
          rcases h with h | h | h
          · have h : 5 < (B.prog.take 5).length := h
            rw [List.length_take] at h; omega
          · omega
          · omega
        · obtain ⟨xs, hL, hxs⟩ := hL
          cases hxs
          refine ⟨Nat.zero_le _, fun E0 nE0 => ?_⟩
          have sE := same_new (o := .lst []) nE0
          refine ⟨.list [], .list [], .lst (sqL_l (sE _ _ hL)) .nil, .lst (sqL_l upd_same) .nil, rfl, rfl, _, rfl, iteF' rfl ?_⟩
          exact ⟨_, _, rfl, s15'.trans (s17.trans (s18.trans sE))⟩
      · exfalso
        have h : ((B.prog ++ List.replicate 6 (Deed.say 0)).take (6 + r)).length ≤ 5 := h
        omega
    · obtain ⟨y4, y6, rfl, s14⟩ := hp'
      exact q _
end
end Vt
namespace Vt
open PySem PySem.Spec PyProof.Rows L2
set_option maxHeartbeats 0 in
theorem all_mk {l : PySem.W.OpenLaw} {w : World} {K : PySem.W.Frag} {h : Heap} {mg : Str → Option Value} {fa dd msz CW CS CT E0 E1 E2 E3 E4 CE : Addr} {t1 t2 t3 t4 t5 t6 : Tok} (X : K.In h) (G : h.Ns mainGlobals mg) (hfa : mg "law" = some (.ref fa))
    (h_first_wrong_cell : ∃ f, Found K "first_wrong_cell" st_first_wrong_cell f) (h_first_wrong_order : ∃ f, Found K "first_wrong_order" st_first_wrong_order f) (h_order_can_be : ∃ f, Found K "order_can_be" st_order_can_be f) (h_counts_of_things : ∃ f, Found K "counts_of_things" st_counts_of_things f) (h_first_wrong_deed : ∃ f, Found K "first_wrong_deed" st_first_wrong_deed f) (h_deed_can_be : ∃ f, Found K "deed_can_be" st_deed_can_be f) (h_require_board : ∃ f, Found K "require_board" st_require_board f) (h_put_in : ∃ f, Found K "put_in" st_put_in f) (h_single_fences : ∃ f, Found K "single_fences" st_single_fences f) (h_choices_of_fences : ∃ f, Found K "choices_of_fences" st_choices_of_fences f) (h_moves_told : ∃ f, Found K "moves_told" st_moves_told f) (h_moved_at_once : ∃ f, Found K "moved_at_once" st_moved_at_once f) (h_plain_run : ∃ f, Found K "plain_run" st_plain_run f) (h_steps_at : ∃ f, Found K "steps_at" st_steps_at f) (h_moves_at : ∃ f, Found K "moves_at" st_moves_at f) (h_after_steps : ∃ f, Found K "after_steps" st_after_steps f) (h_pace_amiss : ∃ f, Found K "pace_amiss" st_pace_amiss f) (h_is_sure : ∃ f, Found K "is_sure" st_is_sure f) (h_fewest : ∃ f, Found K "fewest" st_fewest f) (h_law_begun : ∃ f, Found K "_law_begun" st_law_begun f) (h_law_take : ∃ f, Found K "_law_take" st_law_take f) (h_law_order : ∃ f, Found K "_law_order" st_law_order f) (h_law_deed : ∃ f, Found K "_law_deed" st_law_deed f) (h_law_board : ∃ f, Found K "_law_board" st_law_board f) (h_law_class : ∃ f, Found K "_law_class" st_law_class f) (h_law_told : ∃ f, Found K "_law_told" st_law_told f) (h_law : ∃ f, Found K "law" st_law f)
    (gW : PySem.W.nsIn K mainGlobals "Walk" = some (some (.ref CW))) (kW1 : PySem.W.plainGet K CW Str.empty = true) (kW2 : PySem.W.hasDictIn K CW = true) (kW3 : PySem.W.plainOver K CW = true) (kW4 : PySem.W.findIn K (.ref CW) "__setattr__" = some (some (.builtin "object.__setattr__"))) (kW5 : PySem.W.makesIn K CW = true) (kW6 : PySem.W.keepIn K (.ref CW) = true)
    (nW_memory : PySem.W.findIn K (.ref CW) "memory" = some none) (nW_orders : PySem.W.findIn K (.ref CW) "orders" = some none) (nW_program : PySem.W.findIn K (.ref CW) "program" = some none) (nW_deeds_done : PySem.W.findIn K (.ref CW) "deeds_done" = some none) (nW_held : PySem.W.findIn K (.ref CW) "held" = some none) (nW_touched : PySem.W.findIn K (.ref CW) "touched" = some none) (nW_left : PySem.W.findIn K (.ref CW) "left" = some none) (nW_beats : PySem.W.findIn K (.ref CW) "beats" = some none) (nW_rows : PySem.W.findIn K (.ref CW) "rows" = some none) (nW_said : PySem.W.findIn K (.ref CW) "said" = some none) (nW_due : PySem.W.findIn K (.ref CW) "due" = some none) (nW_readings : PySem.W.findIn K (.ref CW) "readings" = some none)
    (h_W_tell : ∃ f, FoundM K CW "tell" "Machine.tell" st_Machine_tell f) (h_W_line_of : ∃ f, FoundM K CW "line_of" "Machine.line_of" st_Machine_line_of f) (h_W_read_cell : ∃ f, FoundM K CW "read_cell" "Walk.read_cell" st_Walk_read_cell f) (h_W_write_cell : ∃ f, FoundM K CW "write_cell" "Machine.write_cell" st_Machine_write_cell f) (h_W_clean_line : ∃ f, FoundM K CW "clean_line" "Machine.clean_line" st_Machine_clean_line f) (h_W_drop_line : ∃ f, FoundM K CW "drop_line" "Machine.drop_line" st_Machine_drop_line f) (h_W_clean_all : ∃ f, FoundM K CW "clean_all" "Machine.clean_all" st_Machine_clean_all f) (h_W_do_deed : ∃ f, FoundM K CW "do_deed" "Machine.do_deed" st_Machine_do_deed f) (h_W_steps_from : ∃ f, FoundM K CW "steps_from" "Walk.steps_from" st_Walk_steps_from f) (h_W_steps_of : ∃ f, FoundM K CW "steps_of" "Walk.steps_of" st_Walk_steps_of f) (h_W_steps_at_the_end : ∃ f, FoundM K CW "steps_at_the_end" "Walk.steps_at_the_end" st_Walk_steps_at_the_end f)
    (h_W_init : ∃ f cda cc, FoundS K CW CW "__init__" "Walk.__init__" st_Walk___init__ f cda cc ∧ CodeAt l.prog K cda) (h_W_b : ∃ f, FoundB K CW CW "__init__" "Machine.__init__" st_Machine___init__ f)
    (top : (l.prog.main.scope.names.lookup ("super" : Str)).isSome = false) (any : PySem.W.nsIn K cStatics "thirdparty.any" = some none) (z_super : PySem.W.nsIn K mainGlobals "super" = some none)
    (gS : PySem.W.nsIn K mainGlobals "Script" = some (some (.ref CS))) (kS1 : PySem.W.plainGet K CS Str.empty = true) (kS2 : PySem.W.hasDictIn K CS = true) (kS3 : PySem.W.plainOver K CS = true) (kS4 : PySem.W.findIn K (.ref CS) "__setattr__" = some (some (.builtin "object.__setattr__"))) (kS5 : PySem.W.makesIn K CS = true) (kS6 : PySem.W.keepIn K (.ref CS) = true)
    (nS_first : PySem.W.findIn K (.ref CS) "first" = some none) (nS_last : PySem.W.findIn K (.ref CS) "last" = some none) (nS_waits : PySem.W.findIn K (.ref CS) "waits" = some none) (nS_deeds : PySem.W.findIn K (.ref CS) "deeds" = some none) (nS_told : PySem.W.findIn K (.ref CS) "told" = some none) (nS_end : PySem.W.findIn K (.ref CS) "end" = some none) (nS_moves : PySem.W.findIn K (.ref CS) "moves" = some none)
    (h_S___init__ : ∃ f, FoundM K CS "__init__" "Script.__init__" st_Script___init__ f)
    (gT : PySem.W.nsIn K mainGlobals "Track" = some (some (.ref CT))) (kT1 : PySem.W.plainGet K CT Str.empty = true) (kT2 : PySem.W.hasDictIn K CT = true) (kT3 : PySem.W.plainOver K CT = true) (kT4 : PySem.W.findIn K (.ref CT) "__setattr__" = some (some (.builtin "object.__setattr__"))) (kT5 : PySem.W.makesIn K CT = true) (kT6 : PySem.W.keepIn K (.ref CT) = true)
    (nT_start : PySem.W.findIn K (.ref CT) "start" = some none) (nT_last : PySem.W.findIn K (.ref CT) "last" = some none) (nT_waits : PySem.W.findIn K (.ref CT) "waits" = some none) (nT_told : PySem.W.findIn K (.ref CT) "told" = some none) (nT_deeds : PySem.W.findIn K (.ref CT) "deeds" = some none) (nT_end : PySem.W.findIn K (.ref CT) "end" = some none) (nT_moves : PySem.W.findIn K (.ref CT) "moves" = some none) (nT_move_count : PySem.W.findIn K (.ref CT) "move_count" = some none)
    (h_T_after_moves : ∃ f, FoundM K CT "after_moves" "Track.after_moves" st_Track_after_moves f) (h_T_ways_on : ∃ f, FoundM K CT "ways_on" "Track.ways_on" st_Track_ways_on f) (h_T_ends_well : ∃ f, FoundM K CT "ends_well" "Track.ends_well" st_Track_ends_well f) (h_T_pace_found : ∃ f, FoundM K CT "pace_found" "Track.pace_found" st_Track_pace_found f) (h_T___init__ : ∃ f, FoundM K CT "__init__" "Track.__init__" st_Track___init__ f)
    (gE0 : PySem.W.nsIn K mainGlobals "BadBoard" = some (some (.ref E0))) (gE1 : PySem.W.nsIn K mainGlobals "BadFence" = some (some (.ref E1))) (gE2 : PySem.W.nsIn K mainGlobals "NotSure" = some (some (.ref E2))) (gE3 : PySem.W.nsIn K mainGlobals "BadCount" = some (some (.ref E3))) (gE4 : PySem.W.nsIn K mainGlobals "BadText" = some (some (.ref E4))) (gCE : PySem.W.nsIn K mainGlobals "CarrierError" = some (some (.ref CE))) (b1 : PySem.W.excIn K E3 [.type "ValueError", .type "Exception", .type "BaseException", .type "object"] "ValueError.__new__" = true) (b2 : PySem.W.keepIn K (.ref E3) = true) (b3 : PySem.W.subIn K (.ref E3) (.type "BaseException") = some true) (b4 : PySem.W.typeIn K (.ref E3) = some (.type "type")) (x1 : PySem.W.findIn K (.ref E3) "__getattribute__" = some (some (.builtin "BaseException.__getattribute__"))) (x2 : PySem.W.findIn K (.ref E3) "__getattr__" = some none) (x4 : PySem.W.hasDictIn K E3 = true) (x5 : PySem.W.findIn K (.ref E3) "__class__" = some (some (.builtin "object.__class__"))) (x6 : PySem.W.specialIn K (.builtin "object.__class__") "__get__" = some (some (.builtin "getset_descriptor.__get__"))) (x7 : PySem.W.takesIn K (.builtin "object.__class__") = some true) (x8 : PySem.W.mroIn K E3 (.type "object") = some true) (i0 : PySem.W.kitOne K (.ref E3) (.ref E0) = some false) (i1 : PySem.W.kitOne K (.ref E3) (.ref E1) = some false) (i2 : PySem.W.kitOne K (.ref E3) (.ref E2) = some false) (i3 : PySem.W.kitOne K (.ref E3) (.ref E3) = some true) (i4 : PySem.W.kitOne K (.ref E3) (.ref E4) = some false) (iV : PySem.W.kitOne K (.ref E3) (.type "ValueError") = some true) (xm : PySem.W.exmOne K (.ref E3) (.ref CE) = some true)
    (g1 : PySem.W.nsIn K mainGlobals "LINE" = some (some (.int 4 t1))) (g2 : PySem.W.nsIn K mainGlobals "NUMBERS" = some (some (.int 10 t2))) (g3 : PySem.W.nsIn K mainGlobals "MOST_ORDERS" = some (some (.int 4 t3))) (g4 : PySem.W.nsIn K mainGlobals "MOST_MOVED" = some (some (.int 8 t4))) (g5 : PySem.W.nsIn K mainGlobals "MOST_DEEDS" = some (some (.int 60 t5))) (g6 : PySem.W.nsIn K mainGlobals "MOST_STARTS" = some (some (.int 3 t6)))
    (g7 : PySem.W.nsIn K mainGlobals "MEMORY_SIZES" = some (some (.ref msz))) (g8 : KTup K msz [.int 4, .int 8, .int 12, .int 16]) (g9 : PySem.W.nsIn K mainGlobals "DEEDS" = some (some (.ref dd))) (Kd : mg "DEEDS" = some (.ref dd) → Kinds K w mg dd)
    {tx0 : Tok} (x_MOST_DEEDS_SHUT : PySem.W.nsIn K mainGlobals "MOST_DEEDS_SHUT" = some (some (.int 5 tx0))) {tx1 : Tok} (x_MOST_SHUTTING : PySem.W.nsIn K mainGlobals "MOST_SHUTTING" = some (some (.int 2 tx1)))
    (z_len : PySem.W.nsIn K mainGlobals "len" = some none) (z_enumerate : PySem.W.nsIn K mainGlobals "enumerate" = some none) (z_all : PySem.W.nsIn K mainGlobals "all" = some none) (z_zip : PySem.W.nsIn K mainGlobals "zip" = some none) (z_range : PySem.W.nsIn K mainGlobals "range" = some none) (z_list : PySem.W.nsIn K mainGlobals "list" = some none) (z_tuple : PySem.W.nsIn K mainGlobals "tuple" = some none) (z_int : PySem.W.nsIn K mainGlobals "int" = some none) (z_min : PySem.W.nsIn K mainGlobals "min" = some none) (z_bool : PySem.W.nsIn K mainGlobals "bool" = some none) (z_str : PySem.W.nsIn K mainGlobals "str" = some none) (z_isinstance : PySem.W.nsIn K mainGlobals "isinstance" = some none) (z_set : PySem.W.nsIn K mainGlobals "set" = some none) (z_sorted : PySem.W.nsIn K mainGlobals "sorted" = some none) (z_dict : PySem.W.nsIn K mainGlobals "dict" = some none) (z_ValueError : PySem.W.nsIn K mainGlobals "ValueError" = some none) :
    ∃ fd : FuncData, (∀ (s : Shared) (v : Value), BindsTo s fd ⟨[v], []⟩ [("_law_script", v)]) ∧ ∀ base : Heap, K.In base → base.Ns mainGlobals mg → FnOk l.prog w K mg base CX0 12 fa fd ["_law_script"] (spLaw K) := by
  have n := fun {x : Str} (z : PySem.W.nsIn K mainGlobals x = some none) => PySem.W.mg_none_of X G z
  have Kd' := Kd (PySem.W.mg_of X G g9)
  have C_ : Consts K mg := ⟨⟨_, PySem.W.mg_of X G g1⟩, ⟨_, PySem.W.mg_of X G g2⟩, ⟨_, PySem.W.mg_of X G g3⟩, ⟨_, PySem.W.mg_of X G g4⟩, ⟨_, PySem.W.mg_of X G g5⟩, ⟨_, PySem.W.mg_of X G g6⟩, ⟨_, PySem.W.mg_of X G g7, g8⟩⟩
  obtain ⟨f, oc, od, kV, doc, pm, an, cdv, ct, osl, la, ll, lc, lk⟩ := h_law
  have e := hfa.symm.trans (PySem.W.mg_of X G la)
  cases e
  refine ⟨PySem.W.fnOf "law" "law" (defArgs st_law) (defBody st_law) (defScope st_law) .none kV doc pm an cdv ct, fun s v => .of_eq rfl, fun base _ _ => ?_⟩
  have e_MOST_DEEDS_SHUT : ∃ t, mg "MOST_DEEDS_SHUT" = some (.int 5 t) := ⟨_, PySem.W.mg_of X G x_MOST_DEEDS_SHUT⟩
  have e_MOST_SHUTTING : ∃ t, mg "MOST_SHUTTING" = some (.int 2 t) := ⟨_, PySem.W.mg_of X G x_MOST_SHUTTING⟩
  have gFive : Clss mg (five E0 E1 E2 E3 E4) := ⟨PySem.W.mg_of X G gE0, PySem.W.mg_of X G gE1, PySem.W.mg_of X G gE2, PySem.W.mg_of X G gE3, PySem.W.mg_of X G gE4⟩
  have rBC : RaisesC K mg "BadCount" E3 := ⟨b1, PySem.W.mg_of X G gE3, b2, b3, b4⟩
  have is3 : IsCls K (five E0 E1 E2 E3 E4) 3 := ⟨⟨x1, x2, b3, x4, x5, x6, x7, x8⟩, i0, i1, i2, i3, i4, iV⟩
  have c_take : Callee l.prog w K mg base "_law_take" 1 2 spTake := callee_mk X G h_law_take (fun f fd F => ok_take F) (fun _ _ _ _ _ _ us hl => match us, hl with | [_, _], _ => rfl)
  have c_order : Callee l.prog w K mg base "_law_order" 2 4 spOrder := callee_mk X G h_law_order (fun f fd F => ok_order F c_take (n z_min)) (fun _ _ _ _ _ _ us hl => match us, hl with | [_, _, _, _], _ => rfl)
  have c_deed : Callee l.prog w K mg base "_law_deed" 2 4 spDeed := callee_mk X G h_law_deed (fun f fd F => ok_deed F c_take (n z_len) (n z_int)) (fun _ _ _ _ _ _ us hl => match us, hl with | [_, _, _, _], _ => rfl)
  have c_board : Callee l.prog w K mg base "_law_board" 3 4 spBoard := callee_mk X G h_law_board (fun f fd F => ok_board F c_take c_order c_deed (n z_len) (n z_tuple) (n z_range)) (fun _ _ _ _ _ _ us hl => match us, hl with | [_, _, _, _], _ => rfl)
  have c_begun : Callee l.prog w K mg base "_law_begun" 1 1 (spBegun K) := callee_mk X G h_law_begun (fun f fd F => ok_begun F (n z_len) (n z_int) (n z_list)) (fun _ _ _ _ _ _ us hl => match us, hl with | [_], _ => rfl)
  have c_fwc : Callee l.prog w K mg base "first_wrong_cell" 1 1 spFwCell := callee_mk X G h_first_wrong_cell (fun f fd F => ok_fwcell F C_ (n z_len) (n z_enumerate)) (fun _ _ _ _ _ _ us hl => match us, hl with | [_], _ => rfl)
  have c_oc : Callee l.prog w K mg base "order_can_be" 1 4 spOrdCan := callee_mk X G h_order_can_be (fun f fd F => ok_ordcan F C_) (fun _ _ _ _ _ _ us hl => match us, hl with | [_, _, _, _], _ => rfl)
  have c_fwo : Callee l.prog w K mg base "first_wrong_order" 2 2 spFwOrd := callee_mk X G h_first_wrong_order (fun f fd F => ok_fword F C_ c_oc (n z_len) (n z_enumerate)) (fun _ _ _ _ _ _ us hl => match us, hl with | [_, _], _ => rfl)
  have c_dc : Callee l.prog w K mg base "deed_can_be" 1 2 (spDeedCan K w dd) := callee_mk X G h_deed_can_be (fun f fd F => ok_deedcan F Kd' (n z_len) (n z_all) (n z_zip)) (fun _ _ _ _ _ _ us hl => match us, hl with | [_, _], _ => rfl)
  have c_counts : Callee l.prog w K mg base "counts_of_things" 1 2 spCounts := callee_mk X G h_counts_of_things (fun f fd F => ok_counts F C_) (fun _ _ _ _ _ _ us hl => match us, hl with | [_, _], _ => rfl)
  have c_fwd : Callee l.prog w K mg base "first_wrong_deed" 2 3 (spFwDeed K w dd) := callee_mk X G h_first_wrong_deed (fun f fd F => ok_fwdeed F C_ c_dc c_counts (n z_enumerate)) (fun _ _ _ _ _ _ us hl => match us, hl with | [_, _, _], _ => rfl)
  have c_req : Callee l.prog w K mg base "require_board" 3 1 spReq := callee_mk X G h_require_board (fun f fd F => ok_req F c_fwc c_fwo c_fwd (n z_len)) (fun _ _ _ _ _ _ us hl => match us, hl with | [_], _ => rfl)
  have c_moves : Callee l.prog w K mg base "moves_told" 1 2 spMoves := callee_mk X G h_moves_told (fun f fd F => ok_moves F (n z_range)) (fun _ _ _ _ _ _ us hl => match us, hl with | [_, _], _ => rfl)
  have c_once : Callee l.prog w K mg base "moved_at_once" 2 3 spOnce := callee_mk X G h_moved_at_once (fun f fd F => ok_once F c_moves) (fun _ _ _ _ _ _ us hl => match us, hl with | [_, _, _], _ => rfl)
  have c_prun : Callee l.prog w K mg base "plain_run" 4 1 spRun := callee_mk X G h_plain_run (fun f fd F => ok_run F C_ c_req c_once (n z_list)) (fun _ _ _ _ _ _ us hl => match us, hl with | [_], _ => rfl)
  have c_steps_at : Callee l.prog w K mg base "steps_at" 1 2 spStepsAt := callee_mk X G h_steps_at (fun f fd F => ok_stepsat F C_) (fun _ _ _ _ _ _ us hl => match us, hl with | [_, _], _ => rfl)
  have c_moves_at : Callee l.prog w K mg base "moves_at" 1 2 spMovesAt := callee_mk X G h_moves_at (fun f fd F => ok_movesat F (n z_enumerate)) (fun _ _ _ _ _ _ us hl => match us, hl with | [_, _], _ => rfl)
  have c_after_steps : Callee l.prog w K mg base "after_steps" 1 2 spAfterSteps := callee_mk X G h_after_steps (fun f fd F => ok_aftersteps F) (fun _ _ _ _ _ _ us hl => match us, hl with | [_, _], _ => rfl)
  have c_put_in : Callee l.prog w K mg base "put_in" 1 2 spPutIn := callee_mk X G h_put_in (fun f fd F => ok_putin F (n z_len) (n z_range) (n z_tuple)) (fun _ _ _ _ _ _ us hl => match us, hl with | [_, _], _ => rfl)
  have c_singles : Callee l.prog w K mg base "single_fences" 1 1 spSingles := callee_mk X G h_single_fences (fun f fd F => ok_singles F C_ (n z_len) (n z_range)) (fun _ _ _ _ _ _ us hl => match us, hl with | [_], _ => rfl)
  have c_choices : Callee l.prog w K mg base "choices_of_fences" 2 2 spChoices := callee_mk X G h_choices_of_fences (fun f fd F => ok_choices F c_singles (n z_range)) (fun _ _ _ _ _ _ us hl => match us, hl with | [_, _], _ => rfl)
  have c_takeF : Callee l.prog w K mg base "_law_take" 1 2 spTakeF := callee_mk X G h_law_take (fun f fd F => ok_takeF F) (fun _ _ _ _ _ _ us hl => match us, hl with | [_, _], _ => rfl)
  have c_class : CalleeP l.prog w K mg base "_law_class" 1 (spClass K (five E0 E1 E2 E3 E4)) := calleeP_mk X G h_law_class (fun lk hcd p cls d hz hf => ok_class gFive lk hcd (n z_isinstance) (n z_ValueError) p cls d hz hf) (fun _ _ _ _ _ _ us hl => match us, hl with | [_], _ => rfl)
  have clW : Cls K CW := ⟨kW1, kW2, kW3, kW4⟩
  have mW : MC K CW := ⟨clW, List.forall_mem_cons.mpr ⟨nW_memory, List.forall_mem_cons.mpr ⟨nW_orders, List.forall_mem_cons.mpr ⟨nW_program, List.forall_mem_cons.mpr ⟨nW_deeds_done, List.forall_mem_cons.mpr ⟨nW_held, List.forall_mem_cons.mpr ⟨nW_touched, List.forall_mem_cons.mpr ⟨nW_left, List.forall_mem_cons.mpr ⟨nW_beats, List.forall_mem_cons.mpr ⟨nW_rows, List.forall_mem_cons.mpr ⟨nW_said, fun _ h => by cases h⟩⟩⟩⟩⟩⟩⟩⟩⟩⟩⟩
  have mcW : MCW K CW := { toMC := mW, nd := nW_due, nr := nW_readings }
  have scS : SC' K CS := ⟨⟨kS1, kS2, kS3, kS4⟩, List.forall_mem_cons.mpr ⟨nS_first, List.forall_mem_cons.mpr ⟨nS_last, List.forall_mem_cons.mpr ⟨nS_waits, List.forall_mem_cons.mpr ⟨nS_deeds, List.forall_mem_cons.mpr ⟨nS_told, List.forall_mem_cons.mpr ⟨nS_end, List.forall_mem_cons.mpr ⟨nS_moves, fun _ h => by cases h⟩⟩⟩⟩⟩⟩⟩⟩
  have tcT : TC K CT := ⟨⟨kT1, kT2, kT3, kT4⟩, List.forall_mem_cons.mpr ⟨nT_start, List.forall_mem_cons.mpr ⟨nT_last, List.forall_mem_cons.mpr ⟨nT_waits, List.forall_mem_cons.mpr ⟨nT_told, List.forall_mem_cons.mpr ⟨nT_deeds, List.forall_mem_cons.mpr ⟨nT_end, List.forall_mem_cons.mpr ⟨nT_moves, List.forall_mem_cons.mpr ⟨nT_move_count, fun _ h => by cases h⟩⟩⟩⟩⟩⟩⟩⟩⟩
  have w_tell : MCallee l.prog w K mg base CW "tell" 1 (spTell CW) := mcallee_mk clW h_W_tell (fun f fd F => ok_tell F mW) (fun _ _ _ _ _ _ us hl => match us, hl with | [_, _, _, _], _ => rfl)
  have w_line_of : MCallee l.prog w K mg base CW "line_of" 2 (spLineOf CW) := mcallee_mk clW h_W_line_of (fun f fd F => ok_lineof F mW C_ w_tell) (fun _ _ _ _ _ _ us hl => match us, hl with | [_, _], _ => rfl)
  have w_read_cell : MCallee l.prog w K mg base CW "read_cell" 3 (spWRead CW) := mcallee_mk clW h_W_read_cell (fun f fd F => ok_wread F mcW w_tell w_line_of) (fun _ _ _ _ _ _ us hl => match us, hl with | [_, _], _ => rfl)
  have w_write_cell : MCallee l.prog w K mg base CW "write_cell" 3 (spWriteCell CW) := mcallee_mk clW h_W_write_cell (fun f fd F => ok_writecell F mW C_ w_tell w_line_of) (fun _ _ _ _ _ _ us hl => match us, hl with | [_, _, _], _ => rfl)
  have w_clean_line : MCallee l.prog w K mg base CW "clean_line" 2 (spCleanLine CW) := mcallee_mk clW h_W_clean_line (fun f fd F => ok_cleanline F mW C_ w_tell) (fun _ _ _ _ _ _ us hl => match us, hl with | [_, _], _ => rfl)
  have w_drop_line : MCallee l.prog w K mg base CW "drop_line" 2 (spDropLine CW) := mcallee_mk clW h_W_drop_line (fun f fd F => ok_dropline F mW w_tell) (fun _ _ _ _ _ _ us hl => match us, hl with | [_, _], _ => rfl)
  have w_clean_all : MCallee l.prog w K mg base CW "clean_all" 3 (spCleanAll CW) := mcallee_mk clW h_W_clean_all (fun f fd F => ok_cleanall F mW w_clean_line (n z_len) (n z_range)) (fun _ _ _ _ _ _ us hl => match us, hl with | [_], _ => rfl)
  have w_do_deed : MCallee l.prog w K mg base CW "do_deed" 4 (spWDeed CW) := mcallee_mk clW h_W_do_deed (fun f fd F => ok_wdodeed F mcW C_ w_tell w_read_cell w_write_cell w_clean_line w_drop_line c_moves) (fun _ _ _ _ _ _ us hl => match us, hl with | [_, _], _ => rfl)
  have w_steps_from : MCallee l.prog w K mg base CW "steps_from" 1 (spStepsFrom CW) := mcallee_mk clW h_W_steps_from (fun f fd F => ok_stepsfrom F mcW) (fun _ _ _ _ _ _ us hl => match us, hl with | [_, _], _ => rfl)
  have w_steps_of : MCallee l.prog w K mg base CW "steps_of" 5 (spStepsOf CW) := mcallee_mk clW h_W_steps_of (fun f fd F => ok_stepsof F mcW w_do_deed w_steps_from (n z_len)) (fun _ _ _ _ _ _ us hl => match us, hl with | [_, _], _ => rfl)
  have w_steps_at_the_end : MCallee l.prog w K mg base CW "steps_at_the_end" 4 (spStepsEnd CW) := mcallee_mk clW h_W_steps_at_the_end (fun f fd F => ok_stepsend F mcW w_clean_all w_steps_from (n z_len)) (fun _ _ _ _ _ _ us hl => match us, hl with | [_], _ => rfl)
  obtain ⟨fW, cdaW, ccW, hFW, hCW⟩ := h_W_init
  have k_Walk : Maker l.prog w K mg base "Walk" CW 2 (spWInit CW) := walk_maker (PySem.W.mg_of X G gW) kW5 kW6 mcW hFW hCW top (n z_super) any h_W_b (fun f fd F => ok_init F mW C_ (n z_list) (n z_len)) (fun _ _ _ _ _ _ us hl => match us, hl with | [_, _], _ => rfl)
  have k_Script : Maker l.prog w K mg base "Script" CS 6 (spSInit CS) := maker_mk (PySem.W.mg_of X G gS) kS5 kS6 h_S___init__ (fun f fd F => ok_sinit F scS mcW c_prun k_Walk w_steps_of w_steps_at_the_end (n z_list) (n z_len) (n z_zip)) (fun _ _ _ _ _ _ us hl => match us, hl with | [_, _], _ => rfl)
  have t_after_moves : MCallee l.prog w K mg base CT "after_moves" 1 (spAfterMoves CT) := mcallee_mk tcT.cl h_T_after_moves (fun f fd F => ok_aftermoves F tcT) (fun _ _ _ _ _ _ us hl => match us, hl with | [_, _, _], _ => rfl)
  have t_ways_on : MCallee l.prog w K mg base CT "ways_on" 2 (spWaysOn CT) := mcallee_mk tcT.cl h_T_ways_on (fun f fd F => ok_wayson F tcT t_after_moves c_after_steps) (fun _ _ _ _ _ _ us hl => match us, hl with | [_, _, _], _ => rfl)
  have t_ends_well : MCallee l.prog w K mg base CT "ends_well" 2 (spEndsWell CT) := mcallee_mk tcT.cl h_T_ends_well (fun f fd F => ok_endswell F tcT t_after_moves c_after_steps) (fun _ _ _ _ _ _ us hl => match us, hl with | [_, _], _ => rfl)
  have t_pace_found : MCallee l.prog w K mg base CT "pace_found" 3 (spPaceFound CT) := mcallee_mk tcT.cl h_T_pace_found (fun f fd F => ok_pacefound F tcT t_ways_on t_ends_well (n z_len) (n z_range)) (fun _ _ _ _ _ _ us hl => match us, hl with | [_], _ => rfl)
  have k_Track : Maker l.prog w K mg base "Track" CT 2 (spTInit CT CS) := maker_mk (PySem.W.mg_of X G gT) kT5 kT6 h_T___init__ (fun f fd F => ok_tinit F tcT scS c_steps_at c_moves_at (n z_len)) (fun _ _ _ _ _ _ us hl => match us, hl with | [_, _, _], _ => rfl)
  have c_pace_amiss : Callee l.prog w K mg base "pace_amiss" 8 1 spPaceAmiss := callee_mk X G h_pace_amiss (fun f fd F => ok_paceamiss F scS k_Script k_Track t_pace_found (n z_len) (n z_range)) (fun _ _ _ _ _ _ us hl => match us, hl with | [_], _ => rfl)
  have c_is_sure : Callee l.prog w K mg base "is_sure" 9 1 spIsSure := callee_mk X G h_is_sure (fun f fd F => ok_issure F c_pace_amiss) (fun _ _ _ _ _ _ us hl => match us, hl with | [_], _ => rfl)
  have c_fewest : CalleeN l.prog w K mg base "fewest" 10 2 (spFewestN E3) := calleeN_mk X G h_fewest (fun f fd F => ok_fewestN F rBC e_MOST_DEEDS_SHUT e_MOST_SHUTTING c_req c_choices c_put_in c_is_sure (n z_len) (n z_range)) (fun _ _ _ _ _ _ us hl => match us, hl with | [_, _], _ => rfl)
  have c_ltold : Callee l.prog w K mg base "_law_told" 11 2 spTold := callee_mk X G h_law_told (fun f fd F => ok_told (C := five E0 E1 E2 E3 E4) F (PySem.W.mg_of X G gCE) xm is3 c_fewest c_class) (fun _ _ _ _ _ _ us hl => match us, hl with | [_, _], _ => rfl)
  exact ok_law (fun_mk (st := st_law) ll lc lk) c_begun c_board c_take c_takeF c_ltold (n z_range)
end Vt
open PySem PySem.W PyProof.Rows
set_option maxHeartbeats 0 in
theorem PySem.Challenge.cw_blockcarrier_k13_counts_refused_holds : PySem.Challenge.rw_blockcarrier_k13_counts_refused.Holds := by
  w_on; o_law; k_head; (case hw => w_witness2)
  k_fill
  refine L2.walk_of (l := PySem.Challenge.rw_blockcarrier_k13_counts_refused) (n := 63) (k := 12) (x := "_law_script") (CX := fun _ => L2.CX0) (sp := fun w => Vt.spLaw _) rfl (by decide) rfl ⟨rfl, by decide, by decide⟩ (fun w h Y => PySem.W.kIn_of Y) ?F (fun _ _ a ns hl _ hS => ⟨a, ns, rfl, hS, hl, fun _ => rfl⟩) (fun _ _ _ _ _ h => h)
  case F =>
    intro w mg fa h KX G hmg
    refine' Vt.all_mk KX G hmg ?h_first_wrong_cell ?h_first_wrong_order ?h_order_can_be ?h_counts_of_things ?h_first_wrong_deed ?h_deed_can_be ?h_require_board ?h_put_in ?h_single_fences ?h_choices_of_fences ?h_moves_told ?h_moved_at_once ?h_plain_run ?h_steps_at ?h_moves_at ?h_after_steps ?h_pace_amiss ?h_is_sure ?h_fewest ?h_law_begun ?h_law_take ?h_law_order ?h_law_deed ?h_law_board ?h_law_class ?h_law_told ?h_law ?gW ?kW1 ?kW2 ?kW3 ?kW4 ?kW5 ?kW6 ?nW_memory ?nW_orders ?nW_program ?nW_deeds_done ?nW_held ?nW_touched ?nW_left ?nW_beats ?nW_rows ?nW_said ?nW_due ?nW_readings ?h_W_tell ?h_W_line_of ?h_W_read_cell ?h_W_write_cell ?h_W_clean_line ?h_W_drop_line ?h_W_clean_all ?h_W_do_deed ?h_W_steps_from ?h_W_steps_of ?h_W_steps_at_the_end ?h_W_init ?h_W_b ?top ?any ?z_super ?gS ?kS1 ?kS2 ?kS3 ?kS4 ?kS5 ?kS6 ?nS_first ?nS_last ?nS_waits ?nS_deeds ?nS_told ?nS_end ?nS_moves ?h_S___init__ ?gT ?kT1 ?kT2 ?kT3 ?kT4 ?kT5 ?kT6 ?nT_start ?nT_last ?nT_waits ?nT_told ?nT_deeds ?nT_end ?nT_moves ?nT_move_count ?h_T_after_moves ?h_T_ways_on ?h_T_ends_well ?h_T_pace_found ?h_T___init__ ?gE0 ?gE1 ?gE2 ?gE3 ?gE4 ?gCE ?b1 ?b2 ?b3 ?b4 ?x1 ?x2 ?x4 ?x5 ?x6 ?x7 ?x8 ?i0 ?i1 ?i2 ?i3 ?i4 ?iV ?xm ?g1 ?g2 ?g3 ?g4 ?g5 ?g6 ?g7 ?g8 ?g9 ?g10 ?x_MOST_DEEDS_SHUT ?x_MOST_SHUTTING ?z_len ?z_enumerate ?z_all ?z_zip ?z_range ?z_list ?z_tuple ?z_int ?z_min ?z_bool ?z_str ?z_isinstance ?z_set ?z_sorted ?z_dict ?z_ValueError
    (case h_first_wrong_cell => (refine' Vt.found_mk ?a ?l ?c ?k; (case a => k_is); (case l => k_is); (case c => k_is); (case k => k_is)))
    (case h_first_wrong_order => (refine' Vt.found_mk ?a ?l ?c ?k; (case a => k_is); (case l => k_is); (case c => k_is); (case k => k_is)))
    (case h_order_can_be => (refine' Vt.found_mk ?a ?l ?c ?k; (case a => k_is); (case l => k_is); (case c => k_is); (case k => k_is)))
    (case h_counts_of_things => (refine' Vt.found_mk ?a ?l ?c ?k; (case a => k_is); (case l => k_is); (case c => k_is); (case k => k_is)))
    (case h_first_wrong_deed => (refine' Vt.found_mk ?a ?l ?c ?k; (case a => k_is); (case l => k_is); (case c => k_is); (case k => k_is)))
    (case h_deed_can_be => (refine' Vt.found_mk ?a ?l ?c ?k; (case a => k_is); (case l => k_is); (case c => k_is); (case k => k_is)))
    (case h_require_board => (refine' Vt.found_mk ?a ?l ?c ?k; (case a => k_is); (case l => k_is); (case c => k_is); (case k => k_is)))
    (case h_put_in => (refine' Vt.found_mk ?a ?l ?c ?k; (case a => k_is); (case l => k_is); (case c => k_is); (case k => k_is)))
    (case h_single_fences => (refine' Vt.found_mk ?a ?l ?c ?k; (case a => k_is); (case l => k_is); (case c => k_is); (case k => k_is)))
    (case h_choices_of_fences => (refine' Vt.found_mk ?a ?l ?c ?k; (case a => k_is); (case l => k_is); (case c => k_is); (case k => k_is)))
    (case h_moves_told => (refine' Vt.found_mk ?a ?l ?c ?k; (case a => k_is); (case l => k_is); (case c => k_is); (case k => k_is)))
    (case h_moved_at_once => (refine' Vt.found_mk ?a ?l ?c ?k; (case a => k_is); (case l => k_is); (case c => k_is); (case k => k_is)))
    (case h_plain_run => (refine' Vt.found_mk ?a ?l ?c ?k; (case a => k_is); (case l => k_is); (case c => k_is); (case k => k_is)))
    (case h_steps_at => (refine' Vt.found_mk ?a ?l ?c ?k; (case a => k_is); (case l => k_is); (case c => k_is); (case k => k_is)))
    (case h_moves_at => (refine' Vt.found_mk ?a ?l ?c ?k; (case a => k_is); (case l => k_is); (case c => k_is); (case k => k_is)))
    (case h_after_steps => (refine' Vt.found_mk ?a ?l ?c ?k; (case a => k_is); (case l => k_is); (case c => k_is); (case k => k_is)))
    (case h_pace_amiss => (refine' Vt.found_mk ?a ?l ?c ?k; (case a => k_is); (case l => k_is); (case c => k_is); (case k => k_is)))
    (case h_is_sure => (refine' Vt.found_mk ?a ?l ?c ?k; (case a => k_is); (case l => k_is); (case c => k_is); (case k => k_is)))
    (case h_fewest => (refine' Vt.found_mk ?a ?l ?c ?k; (case a => k_is); (case l => k_is); (case c => k_is); (case k => k_is)))
    (case h_law_begun => (refine' Vt.found_mk ?a ?l ?c ?k; (case a => k_is); (case l => k_is); (case c => k_is); (case k => k_is)))
    (case h_law_take => (refine' Vt.found_mk ?a ?l ?c ?k; (case a => k_is); (case l => k_is); (case c => k_is); (case k => k_is)))
    (case h_law_order => (refine' Vt.found_mk ?a ?l ?c ?k; (case a => k_is); (case l => k_is); (case c => k_is); (case k => k_is)))
    (case h_law_deed => (refine' Vt.found_mk ?a ?l ?c ?k; (case a => k_is); (case l => k_is); (case c => k_is); (case k => k_is)))
    (case h_law_board => (refine' Vt.found_mk ?a ?l ?c ?k; (case a => k_is); (case l => k_is); (case c => k_is); (case k => k_is)))
    (case h_law_class => (refine' Vt.found_mk ?a ?l ?c ?k; (case a => k_is); (case l => k_is); (case c => k_is); (case k => k_is)))
    (case h_law_told => (refine' Vt.found_mk ?a ?l ?c ?k; (case a => k_is); (case l => k_is); (case c => k_is); (case k => k_is)))
    (case h_law => (refine' Vt.found_mk ?a ?l ?c ?k; (case a => k_is); (case l => k_is); (case c => k_is); (case k => k_is)))
    (case gW => k_is); (case kW1 => k_is); (case kW2 => k_is); (case kW3 => k_is); (case kW4 => k_is); (case kW5 => k_is); (case kW6 => k_is); (case nW_memory => k_is); (case nW_orders => k_is); (case nW_program => k_is); (case nW_deeds_done => k_is); (case nW_held => k_is); (case nW_touched => k_is); (case nW_left => k_is); (case nW_beats => k_is); (case nW_rows => k_is); (case nW_said => k_is); (case nW_due => k_is); (case nW_readings => k_is)
    (case gS => k_is); (case kS1 => k_is); (case kS2 => k_is); (case kS3 => k_is); (case kS4 => k_is); (case kS5 => k_is); (case kS6 => k_is); (case nS_first => k_is); (case nS_last => k_is); (case nS_waits => k_is); (case nS_deeds => k_is); (case nS_told => k_is); (case nS_end => k_is); (case nS_moves => k_is)
    (case gT => k_is); (case kT1 => k_is); (case kT2 => k_is); (case kT3 => k_is); (case kT4 => k_is); (case kT5 => k_is); (case kT6 => k_is); (case nT_start => k_is); (case nT_last => k_is); (case nT_waits => k_is); (case nT_told => k_is); (case nT_deeds => k_is); (case nT_end => k_is); (case nT_moves => k_is); (case nT_move_count => k_is)
    (case h_W_tell => (refine' Vt.foundm_mk ?a ?l ?c ?k ?i; (case a => k_is); (case l => k_is); (case c => k_is); (case k => k_is); (case i => k_is)))
    (case h_W_line_of => (refine' Vt.foundm_mk ?a ?l ?c ?k ?i; (case a => k_is); (case l => k_is); (case c => k_is); (case k => k_is); (case i => k_is)))
    (case h_W_read_cell => (refine' Vt.foundm_mk ?a ?l ?c ?k ?i; (case a => k_is); (case l => k_is); (case c => k_is); (case k => k_is); (case i => k_is)))
    (case h_W_write_cell => (refine' Vt.foundm_mk ?a ?l ?c ?k ?i; (case a => k_is); (case l => k_is); (case c => k_is); (case k => k_is); (case i => k_is)))
    (case h_W_clean_line => (refine' Vt.foundm_mk ?a ?l ?c ?k ?i; (case a => k_is); (case l => k_is); (case c => k_is); (case k => k_is); (case i => k_is)))
    (case h_W_drop_line => (refine' Vt.foundm_mk ?a ?l ?c ?k ?i; (case a => k_is); (case l => k_is); (case c => k_is); (case k => k_is); (case i => k_is)))
    (case h_W_clean_all => (refine' Vt.foundm_mk ?a ?l ?c ?k ?i; (case a => k_is); (case l => k_is); (case c => k_is); (case k => k_is); (case i => k_is)))
    (case h_W_do_deed => (refine' Vt.foundm_mk ?a ?l ?c ?k ?i; (case a => k_is); (case l => k_is); (case c => k_is); (case k => k_is); (case i => k_is)))
    (case h_W_steps_from => (refine' Vt.foundm_mk ?a ?l ?c ?k ?i; (case a => k_is); (case l => k_is); (case c => k_is); (case k => k_is); (case i => k_is)))
    (case h_W_steps_of => (refine' Vt.foundm_mk ?a ?l ?c ?k ?i; (case a => k_is); (case l => k_is); (case c => k_is); (case k => k_is); (case i => k_is)))
    (case h_W_steps_at_the_end => (refine' Vt.foundm_mk ?a ?l ?c ?k ?i; (case a => k_is); (case l => k_is); (case c => k_is); (case k => k_is); (case i => k_is)))
    (case h_S___init__ => (refine' Vt.foundm_mk ?a ?l ?c ?k ?i; (case a => k_is); (case l => k_is); (case c => k_is); (case k => k_is); (case i => k_is)))
    (case h_T_after_moves => (refine' Vt.foundm_mk ?a ?l ?c ?k ?i; (case a => k_is); (case l => k_is); (case c => k_is); (case k => k_is); (case i => k_is)))
    (case h_T_ways_on => (refine' Vt.foundm_mk ?a ?l ?c ?k ?i; (case a => k_is); (case l => k_is); (case c => k_is); (case k => k_is); (case i => k_is)))
    (case h_T_ends_well => (refine' Vt.foundm_mk ?a ?l ?c ?k ?i; (case a => k_is); (case l => k_is); (case c => k_is); (case k => k_is); (case i => k_is)))
    (case h_T_pace_found => (refine' Vt.foundm_mk ?a ?l ?c ?k ?i; (case a => k_is); (case l => k_is); (case c => k_is); (case k => k_is); (case i => k_is)))
    (case h_T___init__ => (refine' Vt.foundm_mk ?a ?l ?c ?k ?i; (case a => k_is); (case l => k_is); (case c => k_is); (case k => k_is); (case i => k_is)))
    (case h_W_init => (refine' Vt.founds_mk ?a ?l ?c ?i ?l2 ?d ?l3 ?v2 ?fe; (case a => k_is); (case l => k_is); (case c => k_is); (case i => k_is); (case l2 => k_is); (case d => k_is); (case l3 => k_is); (case v2 => rfl); (case fe => rfl)))
    (case h_W_b => (refine' Vt.foundb_mk ?a ?l ?c ?k ?t ?i ?u; (case a => ks_is); (case l => k_is); (case c => k_is); (case k => k_is); (case t => k_is); (case i => k_is); (case u => k_is)))
    (case top => rfl); (case any => k_is); (case z_super => k_is)
    (case gE0 => k_is); (case gE1 => k_is); (case gE2 => k_is); (case gE3 => k_is); (case gE4 => k_is); (case gCE => k_is); (case b1 => k_exc); (case b2 => k_is); (case b3 => k_is); (case b4 => k_is); (case x1 => k_is); (case x2 => k_is); (case x4 => k_is); (case x5 => k_is); (case x6 => k_is); (case x7 => k_is); (case x8 => k_is); (case i0 => kit_is); (case i1 => kit_is); (case i2 => kit_is); (case i3 => kit_is); (case i4 => kit_is); (case iV => kit_is); (case xm => kts_exm)
    (case g1 => k_is); (case g2 => k_is); (case g3 => k_is); (case g4 => k_is); (case g5 => k_is); (case g6 => k_is); (case g7 => k_is)
    (case x_MOST_DEEDS_SHUT => k_is); (case x_MOST_SHUTTING => k_is)
    (case z_len => k_is); (case z_enumerate => k_is); (case z_all => k_is); (case z_zip => k_is); (case z_range => k_is); (case z_list => k_is); (case z_tuple => k_is); (case z_int => k_is); (case z_min => k_is); (case z_bool => k_is); (case z_str => k_is); (case z_isinstance => k_is); (case z_set => k_is); (case z_sorted => k_is); (case z_dict => k_is); (case z_ValueError => k_is)
    case g8 => exact Vt.ktup_mk (by k_is) (by decide) (.cons ⟨_, rfl⟩ (.cons ⟨_, rfl⟩ (.cons ⟨_, rfl⟩ (.cons ⟨_, rfl⟩ .nil))))
    case g9 => k_is
    case g10 =>
      intro m
      refine' Vt.kinds_mk m ?low ?l ?kl ?a1 ?a2 ?a3 ?a4 ?a5 ?a6 ?a7 ?t1 ?t2 ?t3 ?t4 ?t5 ?t6 ?t7
      (case low => decide)
      (case l => k_is)
      (case a1 => k_is); (case a2 => k_is); (case a3 => k_is); (case a4 => k_is); (case a5 => k_is); (case a6 => k_is); (case a7 => k_is)
      (case t1 => exact Vt.ktup_mk (by k_is) (by decide) (.cons ⟨_, rfl⟩ (.cons ⟨_, rfl⟩ .nil)))
      (case t2 => exact Vt.ktup_mk (by k_is) (by decide) (.cons ⟨_, rfl⟩ (.cons ⟨_, rfl⟩ .nil)))
      (case t3 => exact Vt.ktup_mk (by k_is) (by decide) (.cons ⟨_, rfl⟩ .nil))
      (case t4 => exact Vt.ktup_mk (by k_is) (by decide) (.cons ⟨_, rfl⟩ .nil))
      (case t5 => exact Vt.ktup_mk (by k_is) (by decide) .nil)
      (case t6 => exact Vt.ktup_mk (by k_is) (by decide) (.cons ⟨_, rfl⟩ .nil))
      (case t7 => exact Vt.ktup_mk (by k_is) (by decide) (.cons ⟨_, rfl⟩ .nil))
      case kl => exact ⟨⟨_, _, rfl, rfl⟩, ⟨_, _, rfl, rfl⟩, ⟨_, _, rfl, rfl⟩, ⟨_, _, rfl, rfl⟩, ⟨_, _, rfl, rfl⟩, ⟨_, _, rfl, rfl⟩, ⟨_, _, rfl, rfl⟩, trivial⟩
