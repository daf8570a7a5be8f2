import PyProof.Rows.All
import Wide.All
import OpenK.AllK
import Wide.FinOn
import HandS.ForMost
import HandS.IsInst
import HandS.Zip
import HandS.Walk
import HandS.WrittenGet
import HandS.TupAny
import HandS.SetFor
import KE.GoesNew
import KE.KUnpackStar
import PySem.Challenge.RW_blockcarrier_k10_fences_put_in
import KE.KDictKeyed
import KE.KDictDisplayH
import KE.KDictWalk
import HandS.ClsMeth
import HandS.Nested
import KE.KSuper
import KE.KExcSuper
import HandS.HotCalls
import HandS.ExcIs
import HandS.ExcCtx
import HandS.WordsExc
import HandS.Wide
import HandS.TupMul
import HandS.ExcInit
import HandS.FStr
import HandS.ExcField
import KE.KExcIs
import HandS.Lambda
import HandS.EndTab
import KE.KDflt
import HandS.EndOwn
import KE.RegKIsAll
import KE.RegKTryMore
set_option Elab.async false
set_option linter.all false
set_option maxRecDepth 100000
namespace Vt
open PySem PySem.Spec PyProof.Rows L2
def topS (i : Nat) : Stmt := PySem.Challenge.pw_blockcarrier_k10_fences_put_in.main.body.getD i (.Pass ⟨0, 0, 0, 0⟩)
end Vt
namespace Vt
open PySem PySem.Spec PyProof.Rows L2
/-! ### calls of own defs by what they promise -/
structure Callee (P : Program) (w : World) (K : PySem.W.Frag) (mg : Str → Option Value) (base : Heap) (x : Str) (k : Nat) (n : Nat) (sp : Sp) : Prop where
  ex : ∃ (f : Addr) (fd : FuncData) (ps : List Str), FnOk P w K mg base CX0 k f fd ps sp ∧ mg x = some (.ref f) ∧ PySem.W.keepIn K (.ref f) = true ∧ Binds K fd ps []
section
variable {X : Cx} {x : Str} {k j n : Nat} {sp : Sp} {p pos : Pos} {e : Expr} {es : List Expr} {t : TA}
theorem pe_cal (C : Callee X.prog X.w X.K X.mg X.base x k n sp) (hr : Room j X.A) (hk : k ≤ j) (ha : PA X (e :: es) t) (hg : Gl X x := by rfl)
    (hdb : (x == ("__debug__" : Str)) = false := by decide) (he : starEach (e :: es) X.env = (false, eval e X.env) :: starEach es X.env := by rfl) (hpl : (backTo pos (starEach es X.env)).any (·.1) = false := by rfl) :
    PE X (.Call (.Name x p) (e :: es) [] pos) (tCall sp [] E0 t) := by
  have ⟨f, fd, ps, F, hm, hkp, hb⟩ := C.ex
  exact pe_call F (hr.mono hk) hg hm hkp hb .nil pass0 ha hdb he hpl
theorem pe_cal0 (C : Callee X.prog X.w X.K X.mg X.base x k n sp) (hr : Room j X.A) (hk : k ≤ j) (hg : Gl X x := by rfl)
    (hdb : (x == ("__debug__" : Str)) = false := by decide) : PE X (.Call (.Name x p) [] [] pos) (tCall sp [] E0 tNil) := by
  have ⟨f, fd, ps, F, hm, hkp, hb⟩ := C.ex
  exact pe_call0 F (hr.mono hk) hg hm hkp hb .nil pass0 hdb
end
/-- a statement, then the rest, with a word between them -/
def tCut (t u : TS) : TS := fun D σ H => ∃ Mid : L2.St → Hp → Prop, t { D with nx := Mid } σ H ∧ ∀ σ' H', Mid σ' H' → u D σ' H'
theorem pss_cut {X : Cx} {st : Stmt} {rest : List Stmt} {t u : TS} (h1 : PS X st t) (h2 : PSs X rest u) : PSs X (st :: rest) (tCut t u) := by
  refine ⟨fun pins s σ H D I h => ?_⟩
  obtain ⟨Mid, hm, hu⟩ := h
  refine wpAny_execs_cons (thn (h1.run pins s σ H { D with nx := Mid } I hm) fun f s1 q => ?_)
  cases f with
  | next =>
    obtain ⟨σ', H', I', q⟩ := q
    exact h2.run pins s1 σ' H' D I' (hu σ' H' q)
  | ret v => exact q
  | brk => exact q
  | cont => exact q
/-! ### lists or tuples -/
def SqA (K : PySem.W.Frag) (H : Hp) (a : Addr) (xs : List V) : Prop := SqL K H a xs ∨ SqT K H a xs
def rIxLT (K : PySem.W.Frag) : R2 := fun x y H Q => ∃ p xs i v, x = .ref p ∧ y = .int i ∧ SqA K H p xs ∧ atI xs i = some v ∧ Q v H
section
variable {X : Cx} {tg l : Expr} {tl : TE}
theorem ix_lt : IxR X (rIxLT X.K) := by
  intro value slice pins s σ H x y v u Q I rx ry h hs
  obtain ⟨p, xs, i, z, ex, ey, hq | hq, he, q⟩ := h
  · exact ix_list value slice pins s σ H x y v u Q I rx ry ⟨p, xs, i, z, ex, ey, hq, he, q⟩ hs
  · exact ix_tup value slice pins s σ H x y v u Q I rx ry ⟨p, xs, i, z, ex, ey, hq, he, q⟩ hs
theorem ix_ltk (K : PySem.W.Frag) (h : X.K = K := by rfl) : IxR X (rIxLT K) := by
  subst h
  exact ix_lt
def iLT (K : PySem.W.Frag) (tl : TE) : TI := fun σ H R => tl σ H fun x H1 => ∃ a, x = .ref a ∧ ((∃ xs, SqL K H1 a xs ∧ R (Itl K a) H1) ∨ ∃ xs, SqT K H1 a xs ∧ R (Itt K a) H1)
theorem pi_lt (hl : PE X l tl) : PI X tg l (iLT X.K tl) := by
  refine ⟨fun pins s σ H R I h => ?_⟩
  refine thn (hl.run pins s σ H _ I h) fun v s1 ⟨x, H1, I1, r1, q1⟩ => ?_
  obtain ⟨a, e, q⟩ := q1
  subst e
  cases r1
  rcases q with ⟨xs, hq, q⟩ | ⟨xs, hq, q⟩
  · obtain ⟨its, rv, p, hz⟩ := I1.list hq
    refine wpAny_pyIter_list p.isList ?_
    refine ⟨s1.heap.objs.size, [s1.heap.objs.size], _, _, H1, rfl, I1.kept (t' := s1.toks) fun b o e => Heap.get?_push_of_some _ e, turn_list a _, ⟨_, Heap.get?_push_size _ rfl, rfl, rfl⟩, fun b hb => ?_, q⟩
    have e : b = s1.heap.objs.size := by simpa using hb
    subst e
    exact I1.fpOk (Nat.le_refl _) (I1.hok.fresh (Nat.le_refl _))
  · obtain ⟨its, rv, p, hz⟩ := I1.tuple hq
    refine wpAny_pyIter_tuple (show s1.heap.IsTuple a its.toArray from p) ?_
    refine ⟨s1.heap.objs.size, [s1.heap.objs.size], _, _, H1, rfl, I1.kept (t' := s1.toks) fun b o e => Heap.get?_push_of_some _ e, turn_tuple a _, ⟨_, Heap.get?_push_size _ rfl, rfl, rfl⟩, fun b hb => ?_, q⟩
    have e : b = s1.heap.objs.size := by simpa using hb
    subst e
    exact I1.fpOk (Nat.le_refl _) (I1.hok.fresh (Nat.le_refl _))
end
theorem pg_tupk {X : Cx} (K : PySem.W.Frag) {es : List Expr} {k n : Nat} {pos : Pos} {t : TGs} (hc : X.calm = true) (h : PGs X es t) (hK : X.K = K := by rfl)
    (hn : (assignEach es X.env).length = n := by rfl) (hst : (assignEach es X.env).findIdx? (·.1) = none := by rfl) : PG X (.Tuple es k pos) (gTup K n t) := by
  subst hK
  exact pg_tup hc h hn hst
/-! ### enumerate(tuple) -/
theorem meets_enumT {v : Value} {o : Obj} {H : Heap → Prop} (B : Begins v o H) :
    Meets (Builtin.«enumerate.__new__» ⟨[.type "enumerate", v], []⟩) (fun _ R s => H s.heap ∧
      R (.ok (.ret (.ref (s.heap.push o).objs.size))) { s with heap := (s.heap.push o).push { cls := .type "enumerate", data := .fields #[.none, .bool false, .ref s.heap.objs.size, rawInt 0, .none, .none] } }) :=
  .of_wp fun prog w A R s h => by
    obtain ⟨hp, g, d, tk, os⟩ := s; obtain ⟨h1, h⟩ := h
    have hsub := sub_enumerate
    have q1 : ∀ {A E Q}, Q (.ref (Shared.heap ⟨hp, g, d, tk, os⟩).objs.size) ⟨hp.push o, g, d, tk, os⟩ → wpAny (model prog w) A (pyIter v) Q E ⟨hp, g, d, tk, os⟩ := fun {A E Q} q => B.iter prog w A E _ Q h1 q
    wp_walk using q1
    refine wpAny_stack_any fun st => wpAny_pure ?_
    split
    · rename_i c _ _ _ _ _
      cases (c == Value.type "enumerate")
      · wp_walk using q1
        exact ⟨_, rfl, h⟩
      · wp_walk using q1
        exact ⟨_, rfl, h⟩
    · wp_walk using q1
      exact ⟨_, rfl, h⟩
section
variable {prog : Program} {w : World} {A : Around} {E : Value → Shared → Prop} {s : Shared}
theorem call_enumB {v : Value} {o : Obj} {H : Heap → Prop} {Q : Value → Shared → Prop} (B : Begins v o H) (h1 : H s.heap)
    (h : ∀ h', IsEnum h' (s.heap.objs.size + 1) s.heap.objs.size 0 .none → h'.get? s.heap.objs.size = some o → h'.objs.size = s.heap.objs.size + 2 →
      (∀ b o, s.heap.get? b = some o → h'.get? b = some o) → Q (.ref (s.heap.objs.size + 1)) { s with heap := h' }) :
    wpAny (model prog w) A (call (.type "enumerate") [v]) Q E s := by
  refine callType_new F.called_enumerate (by decide) (F.typeCall_enumerate_1 _) (F.newCall_enumerate_1 _) (fun obj => F.args_object_init_2 obj _) F.entry_enumerate_new
    (meets_enumT B) ⟨h1, ?_⟩
  have hz : (s.heap.push o).objs.size = s.heap.objs.size + 1 := Heap.size_push ..
  show _ ∧ _
  rw [hz]
  have he : IsEnum ((s.heap.push o).push { cls := .type "enumerate", data := .fields #[.none, .bool false, .ref s.heap.objs.size, rawInt 0, .none, .none] }) (s.heap.objs.size + 1) s.heap.objs.size 0 .none := by
    have := Heap.get?_push_size (s.heap.push o) (o := { cls := .type "enumerate", data := .fields #[.none, .bool false, .ref s.heap.objs.size, rawInt 0, .none, .none] }) rfl
    rw [hz] at this; exact this
  refine ⟨⟨_, he, rfl⟩, h _ he (Heap.get?_push_of_some _ (Heap.get?_push_size _ B.free)) (by rw [Heap.size_push, hz]) fun b o x => Heap.get?_push_of_some _ (Heap.get?_push_of_some _ x)⟩
end
def Ien (K : PySem.W.Frag) (a : Addr) : It :=
  ⟨fun i H => ∃ (xs : List V) (x : V), SqT K H a xs ∧ xs[i]? = some x, fun i H v H' => ∃ T x, v = .ref T ∧ H T = none ∧ H' = upd H T (.tup [.int (i : Nat), x]) ∧ ∀ xs, SqT K H a xs → xs[i]? = some x, fun i H => ∃ xs : List V, SqT K H a xs ∧ xs.length = i⟩
theorem turn_enumT {P : Program} {w : World} {K : PySem.W.Frag} {elts : List Expr} {kk : Nat} {tpos : Pos} (a e it : Addr) :
    Turn P w K (.Tuple elts kk tpos) (Ien K a) [e, it] e (fun i h => (∃ old, IsEnum h e it (0 + (i : Int)) old) ∧ h.IsTupleIter it a i ∧ e ≠ it ∧ a ≠ it) where
  mem := by simp
  obj := fun i h st b hb => by
    obtain ⟨⟨old, he⟩, ⟨o, ho, hc, hd⟩, _⟩ := st
    have e' : b = e ∨ b = it := by simpa using hb
    rcases e' with z | z
    · rw [z]; exact ⟨_, he, fun v q => nomatch q⟩
    · rw [z]; exact ⟨o, ho, fun v q => by rw [hd] at q; cases q⟩
  keep := fun i h h' st k => let ⟨⟨old, he⟩, hi, hne, ha⟩ := st; ⟨⟨old, k e (by simp) _ he⟩, hi.at fun o q => k it (by simp) o q, hne, ha⟩
  item := by
    intro X hP hw hK hc i pins s σ H E I hf st hg
    subst hP hw hK
    obtain ⟨⟨old, he⟩, hit, hne, hat⟩ := st
    obtain ⟨xs, x, hq, hx⟩ := hg
    obtain ⟨its, rv, p, hz⟩ := I.tuple hq
    obtain ⟨u, hu, ru⟩ := rv.get hx
    have hel : e < s.heap.objs.size := Heap.lt_size he
    have hil : it < s.heap.objs.size := by obtain ⟨_, q, _⟩ := hit; exact Heap.lt_size q
    have hae : e ≠ a := fun z => by
      obtain ⟨o, ho, hc, _⟩ := p
      rw [← z, show s.heap.get? e = some _ from he] at ho
      cases ho
      exact absurd (show Value.type "enumerate" = Value.type "tuple" from hc) (by simp)
    have hsz : i < its.toArray.size := by
      have := (List.getElem?_eq_some_iff.mp hu).1
      simpa using this
    refine thn ((GoesN.enumFrom (elts := elts) (x1 := kk) (pos := tpos) 0 (Draws.tuple (prog := X.prog) (w := X.w) (A := X.A.in1) (I.ok.hd hc) it a hat its.toArray) e hne (by simp; exact ⟨hne, hae⟩) (by simp)).goes i s
      (fun v s2 => ∃ x H', Inv X pins σ H' s2 ∧ RelV x v ∧ (Ien X.K a).yld i H x H' ∧ ((∃ old, IsEnum s2.heap e it (0 + ((i + 1 : Nat) : Int)) old) ∧ s2.heap.IsTupleIter it a ((i + 1 : Nat) : Nat) ∧ e ≠ it ∧ a ≠ it) ∧ ∀ b ∈ [e, it], H' b = none) E hsz ⟨⟨old, he⟩, hit, p⟩ fun v h' tk hY st' hk htk => ?_) fun r s1 h1 => h1
    obtain ⟨T, t, y, ev, hT, hy, hTt⟩ := hY
    obtain ⟨he', hit', p'⟩ := st'
    subst ev
    have ey : y = u := by
      have e1 : its.toArray[i]? = some u := by simpa using hu
      rw [e1] at hy; exact (Option.some.inj hy).symm
    subst ey
    obtain ⟨oT, hoT, hcT, hdT⟩ := hTt
    have new : ObjOk X.prog X.w (upd H T (.tup [.int (i : Nat), x])) h' T (.tup [.int (i : Nat), x]) :=
      ⟨by show 2 ≤ sizeLine; decide, [.int (0 + (i : Int)) t, y], .cons ⟨t, by rw [Int.zero_add]⟩ (.cons ru .nil), ⟨oT, hoT, hcT, hdT⟩⟩
    have I1 : Inv X pins σ (upd H T (.tup [.int (i : Nat), x])) { s with heap := h', toks := tk } :=
      I.turnedNew (ch := [e, it]) (fun b ob hb q => hk b ob hb q) hf hT new
    refine ⟨.ref T, _, I1, rfl, ⟨_, x, rfl, I.hok.fresh hT, rfl, fun ys hy => by rw [I.tuple_inj hy hq]; exact hx⟩, ⟨he', hit', hne, hat⟩, fun b hb => ?_⟩
    have hb' : b < s.heap.objs.size := by
      have e' : b = e ∨ b = it := by simpa using hb
      rcases e' with z | z
      · rw [z]; exact hel
      · rw [z]; exact hil
    rw [upd_ne (Nat.ne_of_lt (Nat.lt_of_lt_of_le hb' hT))]
    exact (hf b hb).1
  done := by
    intro X hP hw hK hc i pins s σ H E I hf st hg
    subst hP hw hK
    obtain ⟨⟨old, he⟩, hit, hne, hat⟩ := st
    obtain ⟨xs, hq, hx⟩ := hg
    obtain ⟨its, rv, p, hz⟩ := I.tuple hq
    have hl := rv.length
    have hae : e ≠ a := fun z => by
      obtain ⟨o, ho, hc, _⟩ := p
      rw [← z, show s.heap.get? e = some _ from he] at ho
      cases ho
      exact absurd (show Value.type "enumerate" = Value.type "tuple" from hc) (by simp)
    have hsz : i = its.toArray.size := by simp; omega
    refine (GoesN.enumFrom (elts := elts) (x1 := kk) (pos := tpos) 0 (Draws.tuple (prog := X.prog) (w := X.w) (A := X.A.in1) (I.ok.hd hc) it a hat its.toArray) e hne (by simp; exact ⟨hne, hae⟩) (by simp)).stops s
      (fun s2 => Inv X pins σ H s2) E (by rw [← hsz]; exact ⟨⟨old, he⟩, hit, p⟩) fun h' tk hk htk => ?_
    exact I.turnedL (ch := [e, it]) (fun b ob hb q => hk b ob hb q) hf
  self := fun A i s Q E st h => let ⟨⟨_, he⟩, _⟩ := st; wpAny_pyIter_enum he h
def iEnT (K : PySem.W.Frag) (ta : TA) : TI := fun σ H R => ta σ H fun vs H1 => ∃ a, vs = [.ref a] ∧ ((∃ xs, SqL K H1 a xs ∧ R (Ite K a) H1) ∨ ∃ xs, SqT K H1 a xs ∧ R (Ien K a) H1)
theorem pi_enumT {X : Cx} {e : Expr} {ta : TA} {p pos tpos : Pos} {elts : List Expr} {kk : Nat} (hg : Gl X "enumerate") (hm : X.mg "enumerate" = none) (ha : PA X [e] ta) (hs : starEach [e] X.env = [(false, eval e X.env)] := by rfl) :
    PI X (.Tuple elts kk tpos) (.Call (.Name "enumerate" p) [e] [] pos) (iEnT X.K ta) := by
  refine ⟨fun pins s σ H R I h => ?_⟩
  refine Call_ (ld_blt I hg hm boot_enumerate (PyProof.Rows.callWith_type1 (thn (ha.run pos pins s σ H _ I h) fun us s1 ⟨vs, H1, I1, r1, q1⟩ => ?_) hs rfl))
  obtain ⟨a, ex, q⟩ := q1
  subst ex
  cases r1 with
  | cons r rr =>
    cases rr
    cases r
    have fp : ∀ b ∈ [s1.heap.objs.size + 1, s1.heap.objs.size], FpOk X pins H1 b := fun b hb => by
      have e' : b = s1.heap.objs.size + 1 ∨ b = s1.heap.objs.size := by simpa using hb
      have hle : s1.heap.objs.size ≤ b := by
        rcases e' with z | z
        · rw [z]; exact Nat.le_add_right _ _
        · rw [z]; exact Nat.le_refl _
      exact I1.fpOk hle (I1.hok.fresh hle)
    rcases q with ⟨xs, hq, q⟩ | ⟨xs, hq, q⟩
    · obtain ⟨its, rv, p', hz⟩ := I1.list hq
      refine call_enumerate_list p'.isList fun h' he hit hsz hk => wpAny_pyIter_enum he ?_
      have I2 : Inv X pins σ H1 { s1 with heap := h' } := I1.kept (t' := s1.toks) hk
      exact ⟨s1.heap.objs.size + 1, [s1.heap.objs.size + 1, s1.heap.objs.size], _, _, H1, rfl, I2, turn_enum a (s1.heap.objs.size + 1) s1.heap.objs.size, ⟨⟨.none, he⟩, hit, Nat.succ_ne_self _⟩, fp, q⟩
    · obtain ⟨its, rv, p', hz⟩ := I1.tuple hq
      have la : a < s1.heap.objs.size := p'.lt
      refine call_enumB (begins_tuple a its.toArray) p' fun h' he hit hsz hk => wpAny_pyIter_enum he ?_
      have I2 : Inv X pins σ H1 { s1 with heap := h' } := I1.kept (t' := s1.toks) hk
      exact ⟨s1.heap.objs.size + 1, [s1.heap.objs.size + 1, s1.heap.objs.size], _, _, H1, rfl, I2, turn_enumT a (s1.heap.objs.size + 1) s1.heap.objs.size, ⟨⟨.none, he⟩, ⟨_, hit, rfl, rfl⟩, Nat.succ_ne_self _, Nat.ne_of_lt la⟩, fp, q⟩
/-- the loop over enumerate(tuple) -/
theorem walk_enumT {K : PySem.W.Frag} {a : Addr} {xs : List V} : Walk (Ien K a) xs.length (fun H => SqT K H a xs) (YPair (fun i => some (.int (i : Nat))) (fun i => xs[i]?)) := by
  refine ⟨fun i _ hi q => ⟨xs, xs[i], q, by simp [hi]⟩, fun _ q => ⟨xs, q, rfl⟩, fun i H v H' _ q y => ?_⟩
  obtain ⟨T, x, h1, h2, h3, h4⟩ := y
  exact ⟨T, .int (i : Nat), x, h1, h2, h3, rfl, h4 xs q⟩
/-! ### zip(list, tuple) -/
def Izm (K : PySem.W.Frag) (a b : Addr) : It :=
  ⟨fun i H => ∃ (xs ys : List V) (x y : V), SqL K H a xs ∧ SqT K H b ys ∧ xs[i]? = some x ∧ ys[i]? = some y,
    fun i H v H' => ∃ T x y, v = .ref T ∧ H T = none ∧ H' = upd H T (.tup [x, y]) ∧ (∀ xs, SqL K H a xs → xs[i]? = some x) ∧ ∀ ys, SqT K H b ys → ys[i]? = some y,
    fun i H => ∃ xs ys : List V, SqL K H a xs ∧ SqT K H b ys ∧ min xs.length ys.length = i⟩
theorem turn_zipM {P : Program} {w : World} {K : PySem.W.Frag} {elts : List Expr} {kk : Nat} {tpos : Pos} {a b z TI TO i1 i2 : Addr} (S : ZipSep2 z TI TO i1 i2 [i1, a] [i2, b]) (h1a : a ≠ i1) (h2b : b ≠ i2) :
    Turn P w K (.Tuple elts kk tpos) (Izm K a b) [z, TI, TO, i1, i2] z (fun i h => IsZip h z TI TO .none ∧ IsTupOf2 h TI (.ref i1) (.ref i2) ∧ (∃ x y, IsTupOf2 h TO x y) ∧ h.IsListIter i1 a i ∧ h.IsTupleIter i2 b i) where
  mem := by simp
  obj := fun i h st c hc => by
    obtain ⟨hz, hTI, ⟨x, y, hTO⟩, ⟨o1, e1, _, d1⟩, ⟨o2, e2, _, d2⟩⟩ := st
    have e' : c = z ∨ c = TI ∨ c = TO ∨ c = i1 ∨ c = i2 := by simpa using hc
    rcases e' with q | q | q | q | q
    · rw [q]; exact ⟨_, hz, fun v q => nomatch q⟩
    · rw [q]; exact ⟨_, hTI, fun v q => nomatch q⟩
    · rw [q]; exact ⟨_, hTO, fun v q => nomatch q⟩
    · rw [q]; exact ⟨o1, e1, fun v q => by rw [d1] at q; cases q⟩
    · rw [q]; exact ⟨o2, e2, fun v q => by rw [d2] at q; cases q⟩
  keep := fun i h h' st k => by
    obtain ⟨hz, hTI, ⟨x, y, hTO⟩, h1, h2⟩ := st
    exact ⟨k z (by simp) _ hz, k TI (by simp) _ hTI, ⟨x, y, k TO (by simp) _ hTO⟩, h1.at fun o q => k i1 (by simp) o q, h2.at fun o q => k i2 (by simp) o q⟩
  item := by
    intro X hP hw hK hc i pins s σ H E I hf st hg
    subst hP hw hK
    obtain ⟨hz, hTI, hTO, h1, h2⟩ := st
    obtain ⟨xs, ys, x, y, hqx, hqy, hx, hy⟩ := hg
    obtain ⟨its, rv, p, _⟩ := I.list hqx
    obtain ⟨its2, rv2, p2, _⟩ := I.tuple hqy
    obtain ⟨u, hu, ru⟩ := rv.get hx
    obtain ⟨u2, hu2, ru2⟩ := rv2.get hy
    have n1 : i < its.toArray.size := by have := (List.getElem?_eq_some_iff.mp hu).1; simpa using this
    have n2 : i < its2.toArray.size := by have := (List.getElem?_eq_some_iff.mp hu2).1; simpa using this
    refine thn ((GoesN.zip2 (elts := elts) (x1 := kk) (pos := tpos) S (Draws.list (prog := X.prog) (w := X.w) (A := X.A.in1) (I.ok.hd hc) i1 a h1a its.toArray) (Draws.tuple (prog := X.prog) (w := X.w) (A := X.A.in1) (I.ok.hd hc) i2 b h2b its2.toArray)).goes i s
      (fun v s2 => ∃ x H', Inv X pins σ H' s2 ∧ RelV x v ∧ (Izm X.K a b).yld i H x H' ∧ (IsZip s2.heap z TI TO .none ∧ IsTupOf2 s2.heap TI (.ref i1) (.ref i2) ∧ (∃ x y, IsTupOf2 s2.heap TO x y) ∧ s2.heap.IsListIter i1 a ((i + 1 : Nat) : Nat) ∧ s2.heap.IsTupleIter i2 b ((i + 1 : Nat) : Nat)) ∧ ∀ b ∈ [z, TI, TO, i1, i2], H' b = none) E (by rw [Nat.lt_min]; exact ⟨n1, n2⟩)
      ⟨hz, hTI, hTO, ⟨h1, p.isList⟩, ⟨h2, p2⟩⟩ fun v h' tk hY st' hk htk => ?_) fun r s1 h1 => h1
    obtain ⟨T, v1, v2, ev, hT, hv1, hv2, hTt⟩ := hY
    obtain ⟨hz', hTI', hTO', ⟨h1', _⟩, ⟨h2', _⟩⟩ := st'
    subst ev
    have e1 : v1 = u := by
      have e1 : its.toArray[i]? = some u := by simpa using hu
      rw [e1] at hv1; exact (Option.some.inj hv1).symm
    have e2 : v2 = u2 := by
      have e1 : its2.toArray[i]? = some u2 := by simpa using hu2
      rw [e1] at hv2; exact (Option.some.inj hv2).symm
    subst e1 e2
    obtain ⟨oT, hoT, hcT, hdT⟩ := hTt
    have new : ObjOk X.prog X.w (upd H T (.tup [x, y])) h' T (.tup [x, y]) :=
      ⟨by show 2 ≤ sizeLine; decide, [v1, v2], .cons ru (.cons ru2 .nil), ⟨oT, hoT, hcT, hdT⟩⟩
    have I1 : Inv X pins σ (upd H T (.tup [x, y])) { s with heap := h', toks := tk } :=
      I.turnedNew (ch := [z, TI, TO, i1, i2]) (fun c ob hb q => hk c ob (fun m => hb (by simp only [List.mem_cons, List.not_mem_nil, or_false] at m ⊢; rcases m with h | h | h | h <;> simp [h])) q) hf hT new
    refine ⟨.ref T, _, I1, rfl, ⟨_, x, y, rfl, I.hok.fresh hT, rfl, fun ys hy => by rw [I.list_inj hy hqx]; exact hx, fun ys hy' => by rw [I.tuple_inj hy' hqy]; exact hy⟩, ⟨hz', hTI', hTO', h1', h2'⟩, fun c hb => ?_⟩
    have hn := (hf c hb).1
    have hb' : c < s.heap.objs.size := by
      obtain ⟨x0, y0, hTO0⟩ := hTO
      obtain ⟨o1, e1, _⟩ := h1
      obtain ⟨o2, e2, _⟩ := h2
      have e' : c = z ∨ c = TI ∨ c = TO ∨ c = i1 ∨ c = i2 := by simpa using hb
      rcases e' with q | q | q | q | q
      · rw [q]; exact Heap.lt_size hz
      · rw [q]; exact Heap.lt_size hTI
      · rw [q]; exact Heap.lt_size hTO0
      · rw [q]; exact Heap.lt_size e1
      · rw [q]; exact Heap.lt_size e2
    rw [upd_ne (Nat.ne_of_lt (Nat.lt_of_lt_of_le hb' hT))]
    exact hn
  done := by
    intro X hP hw hK hc i pins s σ H E I hf st hg
    subst hP hw hK
    obtain ⟨hz, hTI, hTO, h1, h2⟩ := st
    obtain ⟨xs, ys, hqx, hqy, hi⟩ := hg
    obtain ⟨its, rv, p, _⟩ := I.list hqx
    obtain ⟨its2, rv2, p2, _⟩ := I.tuple hqy
    have l1 := rv.length
    have l2 := rv2.length
    have hsz : i = min its.toArray.size its2.toArray.size := by simp; omega
    refine (GoesN.zip2 (elts := elts) (x1 := kk) (pos := tpos) S (Draws.list (prog := X.prog) (w := X.w) (A := X.A.in1) (I.ok.hd hc) i1 a h1a its.toArray) (Draws.tuple (prog := X.prog) (w := X.w) (A := X.A.in1) (I.ok.hd hc) i2 b h2b its2.toArray)).stops s
      (fun s2 => Inv X pins σ H s2) E (by rw [← hsz]; exact ⟨hz, hTI, hTO, ⟨h1, p.isList⟩, ⟨h2, p2⟩⟩) fun h' tk hk htk => ?_
    exact I.turnedL (ch := [z, TI, TO, i1, i2]) (fun c ob hb q => hk c ob (fun m => hb (by simp only [List.mem_cons, List.not_mem_nil, or_false] at m ⊢; rcases m with h | h | h | h <;> simp [h])) q) hf
  self := fun A i s Q E st h => wpAny_pyIter_zip st.1 h
theorem walk_zipM {K : PySem.W.Frag} {a b : Addr} {xs ys : List V} {n : Nat} (hn : n = min xs.length ys.length) : Walk (Izm K a b) n (fun H => SqL K H a xs ∧ SqT K H b ys) (YPair (fun i => xs[i]?) (fun i => ys[i]?)) := by
  subst hn
  refine ⟨fun i _ hi q => ?_, fun _ q => ⟨xs, ys, q.1, q.2, rfl⟩, fun i H v H' _ q y => ?_⟩
  · have h1 : i < xs.length := by omega
    have h2 : i < ys.length := by omega
    exact ⟨xs, ys, xs[i], ys[i], q.1, q.2, by simp [h1], by simp [h2]⟩
  · obtain ⟨T, x, z, h1, h2, h3, h4, h5⟩ := y
    exact ⟨T, x, z, h1, h2, h3, h4 xs q.1, h5 ys q.2⟩
def iZipM (K : PySem.W.Frag) (ta : TA) : TI := fun σ H R => ta σ H fun vs H1 => ∃ a b xs ys, vs = [.ref a, .ref b] ∧ SqL K H1 a xs ∧ SqT K H1 b ys ∧ R (Izm K a b) H1
theorem pi_zipM {X : Cx} {e e2 : Expr} {ta : TA} {p pos tpos : Pos} {elts : List Expr} {kk : Nat} (hg : Gl X "zip") (hm : X.mg "zip" = none) (ha : PA X [e, e2] ta)
    (hs : starEach [e, e2] X.env = (false, eval e X.env) :: starEach [e2] X.env := by rfl) (hpl : (backTo pos (starEach [e2] X.env)).any (·.1) = false := by rfl) :
    PI X (.Tuple elts kk tpos) (.Call (.Name "zip" p) [e, e2] [] pos) (iZipM X.K ta) := by
  refine ⟨fun pins s σ H R I h => ?_⟩
  refine Call_ (ld_blt I hg hm PyProof.Rows.boot_zip (PyProof.Rows.callWith_type1 (thn (ha.run pos pins s σ H _ I h) fun us s1 ⟨vs, H1, I1, r1, q1⟩ => ?_) hs hpl))
  obtain ⟨a, b, xs, ys, ex, hqx, hqy, q⟩ := q1
  subst ex
  cases r1 with
  | cons r rr =>
    cases rr with
    | cons r' rr =>
      cases rr
      cases r
      cases r'
      obtain ⟨its, rv, p1, _⟩ := I1.list hqx
      obtain ⟨its2, rv2, p2, _⟩ := I1.tuple hqy
      have la : a < s1.heap.objs.size := p1.lt
      have lb : b < s1.heap.objs.size := p2.lt
      refine zip_begins2 (begins_list a its.toArray) (begins_tuple b its2.toArray) p1.isList p2 fun h' hz hTI hTO h1 h2 hsz hk => wpAny_pyIter_zip hz ?_
      have I2 : Inv X pins σ H1 { s1 with heap := h' } := I1.kept (t' := s1.toks) hk
      refine ⟨s1.heap.objs.size + 4, [s1.heap.objs.size + 4, s1.heap.objs.size + 2, s1.heap.objs.size + 3, s1.heap.objs.size, s1.heap.objs.size + 1], _, _, H1, rfl, I2, turn_zipM (zip_sep2 (fun c hc => by rw [List.mem_singleton.mp hc]; exact la) (fun c hc => by rw [List.mem_singleton.mp hc]; exact lb)) (Nat.ne_of_lt la) (Nat.ne_of_lt (Nat.lt_succ_of_lt lb)), ⟨hz, hTI, ⟨_, _, hTO⟩, ⟨_, h1, rfl, rfl⟩, ⟨_, h2, rfl, rfl⟩⟩, fun c hcm => ?_, q⟩
      have e' : c = s1.heap.objs.size + 4 ∨ c = s1.heap.objs.size + 2 ∨ c = s1.heap.objs.size + 3 ∨ c = s1.heap.objs.size ∨ c = s1.heap.objs.size + 1 := by simpa using hcm
      have hle : s1.heap.objs.size ≤ c := by
        rcases e' with z | z | z | z | z
        · rw [z]; exact Nat.le_add_right _ _
        · rw [z]; exact Nat.le_add_right _ _
        · rw [z]; exact Nat.le_add_right _ _
        · rw [z]; exact Nat.le_refl _
        · rw [z]; exact Nat.le_add_right _ _
      exact I1.fpOk hle (I1.hok.fresh hle)
end Vt
namespace Vt
open PySem PySem.Spec PyProof.Rows L2
/-! ### xs[lo:hi] = another list -/
def gSlSet (to : TE) (tl th : TO) : TG := fun v σ H Q => to σ H fun o H1 => tl σ H1 fun l H2 => th σ H2 fun u H3 => ∃ (a b : Addr) (xs ys : List V) (lo hi : Nat), o = .ref a ∧ v = .ref b ∧ l = some (lo : Int) ∧ u = some (hi : Int) ∧ H3 a = some (.lst xs) ∧ H3 b = some (.lst ys) ∧ a ≠ b ∧
  lo ≤ hi ∧ hi ≤ xs.length ∧ xs.length + ys.length ≤ sizeLine ∧ Q σ (upd H3 a (.lst (xs.take lo ++ ys ++ xs.drop hi)))
section
variable {X : Cx} {pos p2 : Pos} {o : Expr} {lo hi : Option Expr} {to : TE} {tl th : TO}
theorem pg_slset (ho : PE X o to) (hl : PO X lo tl) (hu : PO X hi th)
    (ha : ∀ v, assign (.Subscript o (.Slice lo hi none p2) pos) X.env v = (do
      let ov ← holding [v] (eval o X.env)
      let iv ← holding [v, ov] (eval (.Slice lo hi none p2) X.env)
      standAt pos
      holding [v, ov, iv] (setItem ov iv v)
      release [iv, v, ov] []) := by intro _; rfl) : PG X (.Subscript o (.Slice lo hi none p2) pos) (gSlSet to tl th) := by
  refine ⟨fun pins s σ H v u Q I r h => ?_⟩
  rw [ha]
  refine wpAny_bind (wpAny_holding (thn (ho.run pins s σ H _ I h) fun ov s1 ⟨x, H1, I1, r1, q1⟩ => ?_))
  refine wpAny_bind (wpAny_holding ?_)
  refine wpAny_Slice (thn (hl.run pins s1 σ H1 _ I1 q1) fun vl s2 ⟨l, H2, I2, pl, q2⟩ => thn (hu.run pins s2 σ H2 _ I2 q2) fun vu s3 ⟨w, H3, I3, pu, a, b, xs, ys, lo', hi', e1, e2, e3, e4, hx, hy, ne, l1, l2, hz, q⟩ => ?_)
  rw [evalPart_none]
  refine wpAny_pure ?_
  subst e1 e2 e3 e4
  obtain rfl : ov = Value.ref a := r1
  obtain rfl : u = Value.ref b := r
  have I4 : Inv X pins σ H3 { s3 with heap := s3.heap.push { cls := .type "slice", data := .fields #[vl, vu, .none] } } := I3.kept (t' := s3.toks) fun b ob q => Heap.get?_push_of_some _ q
  have ra : RelV (.int (lo' : Int)) vl := by cases pl; exact ⟨_, rfl⟩
  have rc : RelV (.int (hi' : Int)) vu := by cases pu; exact ⟨_, rfl⟩
  refine wpAny_bind (wpAny_standAt (wpAny_bind (wpAny_holding (set_slice (a := (lo' : Int)) (c := (hi' : Int)) I4 hx hy ne (Heap.IsSliceOf.new ..) ra rc (by omega) (by omega) (by omega) hz fun s' I' => ?_))))
  exact wpAny_release ⟨σ, _, I', by simpa using q⟩
end
end Vt
namespace Vt
open PySem PySem.Spec PyProof.Rows L2
/-! ### methods of an own class, and its making, by what they promise -/
structure MCallee (P : Program) (w : World) (K : PySem.W.Frag) (mg : Str → Option Value) (base : Heap) (C : Addr) (m : Str) (k : Nat) (sp : Sp) : Prop where
  ex : ∃ (f : Addr) (fd : FuncData) (ps : List Str), Cls K C ∧ Meth K C m f ∧ FnOk P w K mg base CX0 k f fd ps sp ∧ Binds K fd ps []
structure Maker (P : Program) (w : World) (K : PySem.W.Frag) (mg : Str → Option Value) (base : Heap) (x : Str) (C : Addr) (k : Nat) (sp : Sp) : Prop where
  ex : ∃ (f : Addr) (fd : FuncData) (ps : List Str), Mk K C f ∧ FnOk P w K mg base CX0 k f fd ps sp ∧ mg x = some (.ref C) ∧ Binds K fd ps []
section
variable {X : Cx} {x m : Str} {k j : Nat} {C : Addr} {sp : Sp} {p pos apos : Pos} {e o : Expr} {es : List Expr} {ta : TE} {t : TA}
theorem pe_mcal {pl : Sem Bool} (c : MCallee X.prog X.w X.K X.mg X.base C m k sp) (hr : Room j X.A) (hk : k ≤ j) (he : PE X o ta) (ha : PA X (e :: es) t)
    (hst : starEach (e :: es) X.env = (false, eval e X.env) :: starEach es X.env := by rfl) (hpl : (backTo pos (starEach es X.env)).any (·.1) = false := by rfl)
    (ht : eval (.Call (.Attribute o m apos) (e :: es) [] pos) X.env = (do
      let ov ← eval o X.env
      standAt apos.atName
      let (f, first) ← holding [ov] (getMethod ov m pl)
      callWith pos f first (backTo pos (starEach (e :: es) X.env)) (backToKw pos (keywordEach [] X.env))) := by rfl) :
    PE X (.Call (.Attribute o m apos) (e :: es) [] pos) (tMeth C m sp [] E0 ta t) := by
  obtain ⟨f, fd, ps, hc, hm, F, b⟩ := c.ex
  exact pe_meth (pl := pl) he hc hm F (hr.mono hk) b .nil pass0 ha hst hpl ht
theorem pe_mcal0 {pl : Sem Bool} (c : MCallee X.prog X.w X.K X.mg X.base C m k sp) (hr : Room j X.A) (hk : k ≤ j) (he : PE X o ta)
    (ht : eval (.Call (.Attribute o m apos) [] [] pos) X.env = (do
      let ov ← eval o X.env
      standAt apos.atName
      let (f, first) ← holding [ov] (getMethod ov m pl)
      callWith pos f first (backTo pos (starEach [] X.env)) (backToKw pos (keywordEach [] X.env))) := by rfl) :
    PE X (.Call (.Attribute o m apos) [] [] pos) (tMeth C m sp [] E0 ta tNil) := by
  obtain ⟨f, fd, ps, hc, hm, F, b⟩ := c.ex
  exact pe_meth0 (pl := pl) he hc hm F (hr.mono hk) b .nil pass0 ht
theorem pe_mkc (c : Maker X.prog X.w X.K X.mg X.base x C k sp) (hr : Room j X.A) (hk : k + 1 ≤ j) (ha : PA X (e :: es) t) (hg : Gl X x := by rfl)
    (hdb : (x == ("__debug__" : Str)) = false := by decide) (he : starEach (e :: es) X.env = (false, eval e X.env) :: starEach es X.env := by rfl) (hpl : (backTo pos (starEach es X.env)).any (·.1) = false := by rfl) :
    PE X (.Call (.Name x p) (e :: es) [] pos) (tMake C sp [] E0 t) := by
  obtain ⟨f, fd, ps, M, F, hm, b⟩ := c.ex
  exact pe_make M F (hr.mono hk) hg hm b .nil pass0 ha hdb he hpl
end
end Vt
namespace Vt
open PySem PySem.Spec PyProof.Rows L2
/-! ### match over tuples that begin with a text -/
def capPats : List (Str × Pos) → List Pattern
  | [] => []
  | (x, p) :: r => .MatchAs none (some x) p :: capPats r
theorem capPats_length : ∀ cs : List (Str × Pos), (capPats cs).length = cs.length
  | [] => rfl
  | _ :: r => by rw [capPats, List.length_cons, List.length_cons, capPats_length r]
theorem capPats_star : ∀ cs : List (Str × Pos), (capPats cs).findIdx? (·.isStar) = none
  | [] => rfl
  | _ :: r => by rw [capPats, List.findIdx?_cons, capPats_star r]; rfl
theorem each_caps {M : Model} {A : Around} {E : Value → Shared → Prop} {env : Env} : ∀ (cs : List (Str × Pos)) (us : List Value) (s : Shared) (Q : Option (List (Str × Value)) → Shared → Prop), us.length = cs.length → Q (some ((cs.map (·.1)).zip us)) s →
    wpAny M A (matchEach (capPats cs) env us) Q E s
  | [], us, s, Q, hl, h => by
    cases us with
    | nil => exact wpAny_matchEach_nil h
    | cons u r => simp at hl
  | (x, p) :: r, us, s, Q, hl, h => by
    cases us with
    | nil => simp at hl
    | cons u us =>
      refine wpAny_matchEach_cons (p := .MatchAs none (some x) p) (wpAny_matchPattern_Capture ?_)
      refine each_caps r us s _ (by simpa using hl) ?_
      exact h
def bindAll : L2.St → List Nat → List V → L2.St
  | σ, i :: is, x :: xs => bindAll (σ.set i (some x)) is xs
  | σ, _, _ => σ
/-- how the caught names stand in their places -/
inductive Slots (X : Cx) : List (Str × Pos) → List Nat → Prop
  | nil : Slots X [] []
  | cons {x : Str} {p : Pos} {i : Nat} {cs : List (Str × Pos)} {is : List Nat} : X.N[i]? = some x → X.env.scope.names.lookup x = some .local → Slots X cs is → Slots X ((x, p) :: cs) (i :: is)
theorem store_caps {X : Cx} {pins : List (Addr × Obj)} {H : Hp} (hN : X.N.Nodup) : ∀ {cs : List (Str × Pos)} {is : List Nat} (_ : Slots X cs is) (xs : List V) (us : List Value) (σ : L2.St) (s : Shared) (Q : Unit → Shared → Prop), Inv X pins σ H s → Vals xs us → xs.length = cs.length →
    (∀ s', Inv X pins (bindAll σ is xs) H s' → Q () s') → wpAny (model X.prog X.w) X.A (assignInOrder ((((cs.map (·.1)).zip us).map fun (n, _) => bindName X.env n)) (((cs.map (·.1)).zip us).map (·.2))) Q X.xe s
  | _, _, .nil, xs, us, σ, s, Q, I, r, hl, h => by
    cases r with
    | nil => exact wpAny_assignInOrder_none (h s I)
    | cons r1 rr => simp at hl
  | _, _, .cons (x := x) hi hx sl, xs, us, σ, s, Q, I, r, hl, h => by
    cases r with
    | nil => simp at hl
    | cons r1 rr =>
      refine wpAny_assignInOrder_more (wpAny_bindName (store_ok I hN hi (.inl hx) r1 (fun s' I' => ?_) (.inr hx)))
      exact store_caps hN sl _ _ _ s' Q I' rr (by simpa using hl) h
structure PCases (X : Cx) (cs : List MatchCase) (t : V → TS) : Prop where
  run : ∀ (first : Bool) (pins : List (Addr × Obj)) (s : Shared) (σ : L2.St) (H : Hp) (D : Ends) (v : V) (u : Value), Inv X pins σ H s → RelV v u → t v D σ H → wpAny (model X.prog X.w) X.A (matchCases cs X.env u first) (SP X pins D) X.xe s
def tCaseNil : V → TS := fun _ D σ H => D.nx σ H
theorem pc_nil {X : Cx} : PCases X [] tCaseNil := ⟨fun _ _ s σ H D _ _ I _ h => wpAny_matchCases_nil ⟨σ, H, I, h⟩⟩
def tCase (K : PySem.W.Frag) (wd : Str) (is : List Nat) (tb : TS) (tr : V → TS) : V → TS := fun v D σ H => ∃ a z xs, v = .ref a ∧ SqT K H a (.str z :: xs) ∧
  ((z = wd ∧ xs.length = is.length ∧ tb D (bindAll σ is xs) H) ∨ (¬ (z = wd ∧ xs.length = is.length) ∧ tr v D σ H))
theorem str_eq_iff {a b : Str} : (a.cps.toList == b.cps.toList) = decide (a = b) := by
  by_cases e : a = b
  · subst e; simp
  · have h : ¬ a.cps.toList = b.cps.toList := fun q => e (by
      cases a; cases b
      simp only [Str.mk.injEq]
      exact Array.toList_inj.mp q)
    rw [decide_eq_false e]
    exact beq_eq_false_iff_ne.mpr h
theorem pc_case {X : Cx} {wd : Str} {j : Nat} {p1 p2 p3 : Pos} {cs : List (Str × Pos)} {is : List Nat} {body : List Stmt} {rest : List MatchCase} {tb : TS} {tr : V → TS} (hc : X.calm = true) (hN : X.N.Nodup) (sl : Slots X cs is) (hl : cs.length = is.length) (hb : PSs X body tb) (hr : PCases X rest tr) :
    PCases X (⟨.MatchSequence (.MatchValue (.Constant (.str wd) j p1) p2 :: capPats cs) p3, none, body⟩ :: rest) (tCase X.K wd is tb tr) := by
  refine ⟨fun first pins s σ H D v u I rv h => ?_⟩
  obtain ⟨a, z, xs, ev, hq, h⟩ := h
  subst ev
  cases rv
  obtain ⟨its, rvs, ht, hz⟩ := I.tuple hq
  have hlen : its.length = xs.length + 1 := by rw [← rvs.length]; rfl
  have hsz : its.toArray.size = xs.length + 1 := by simp [hlen]
  have hfit : (its.toArray.size : Int) < 2 ^ 63 := by
    have : (sizeLine : Int) < 2 ^ 63 := by decide
    have h2 : xs.length + 1 ≤ sizeLine := by simpa using hz
    rw [hsz]; omega
  have hpl : (Pattern.MatchValue (.Constant (.str wd) j p1) p2 :: capPats cs).length = is.length + 1 := by rw [List.length_cons, capPats_length, hl]
  have hstar : (Pattern.MatchValue (.Constant (.str wd) j p1) p2 :: capPats cs).findIdx? (·.isStar) = none := by
    rw [List.findIdx?_cons, capPats_star]; rfl
  have hwild : ((Pattern.MatchValue (.Constant (.str wd) j p1) p2 :: capPats cs).all fun p => p.isWildcard || (p.isStar && p.names.isEmpty)) = false := by
    rw [List.all_cons]; rfl
  have miss : ∀ tk, ¬ (z = wd ∧ xs.length = is.length) → wpAny (model X.prog X.w) X.A (matchCases rest X.env (.ref a) false) (SP X pins D) X.xe { s with toks := tk } := fun tk hn => by
    rcases h with ⟨e1, e2, _⟩ | ⟨_, q⟩
    · exact absurd ⟨e1, e2⟩ hn
    · exact hr.run false pins _ σ H D (.ref a) _ (I.tok tk) rfl q
  refine wpAny_matchCases_cons ?_
  by_cases hn : xs.length = is.length
  · refine matchSeq_tuple_hit ht hfit (by rw [hsz, hpl, hn]) ?_ hstar hwild
    have en : (Pattern.MatchValue (.Constant (.str wd) j p1) p2 :: capPats cs).length = its.toArray.size := by rw [hpl, hsz, hn]
    rw [en]
    refine unpackItems_tuple (s := { s with toks := s.toks + 1 + 1 }) (I.ok.hd hc) ht fun h' hx => ?_
    have hk : ∀ b o, s.heap.get? b = some o → h'.get? b = some o := fun b o e => hx b o (Nat.ne_of_lt (Heap.lt_size e)) e
    have I1 : Inv X pins σ H { s with heap := h', toks := s.toks + 1 + 1 } := I.kept hk
    cases rvs with
    | cons r0 rr =>
      rename_i u0 us
      obtain ⟨t0, rfl⟩ := r0
      refine wpAny_matchEach_cons (p := .MatchValue (.Constant (.str wd) j p1) p2) (wpAny_matchPattern_Value ?_)
      refine Calls.Constant_str ?_
      refine PyProof.Rows.eq_str ?_
      rw [show (z == wd) = decide (z = wd) from rfl]
      refine wpAny_truthy_bool ?_
      by_cases e : z = wd
      · rw [decide_eq_true e]
        have hul : us.length = cs.length := by
          have := rr.length
          omega
        refine each_caps cs us _ _ hul ?_
        simp only [List.nil_append]
        refine store_caps hN sl xs us σ _ _ (I1.tok _) rr (by omega) fun s' I' => ?_
        rcases h with ⟨_, _, q⟩ | ⟨q, _⟩
        · exact hb.run pins s' _ H D I' q
        · exact absurd ⟨e, hn⟩ q
      · rw [decide_eq_false e]
        have q := hr.run false pins
        rcases h with ⟨e1, _, _⟩ | ⟨_, q⟩
        · exact absurd e1 e
        · exact hr.run false pins _ σ H D (.ref a) _ (I1.tok _) rfl q
  · refine matchSeq_tuple_miss ht hfit (by rw [hsz, hpl]; omega) ?_ hstar hwild
    exact miss _ fun q => hn q.2
def tMatch (te : TE) (t : V → TS) : TS := fun D σ H => te σ H fun v H1 => t v D σ H1
theorem ps_match {X : Cx} {e : Expr} {cs : List MatchCase} {pos : Pos} {te : TE} {t : V → TS} (he : PE X e te) (hc : PCases X cs t) : PS X (.Match e cs pos) (tMatch te t) := by
  refine ⟨fun pins s σ H D I h => ?_⟩
  exact wpAny_Match (thn (he.run pins s σ H _ I h) fun u s1 ⟨v, H1, I1, r, q⟩ => hc.run true pins s1 σ H1 D v u I1 r q)
section
variable {X : Cx} {wd x0 x1 x2 : Str} {j : Nat} {p1 p2 p3 q0 q1 q2 : Pos} {body : List Stmt} {rest : List MatchCase} {tb : TS} {tr : V → TS}
theorem pc_seq0 (hN : X.N.Nodup) (hb : PSs X body tb) (hr : PCases X rest tr) (hc : X.calm = true := by rfl) :
    PCases X (⟨.MatchSequence [.MatchValue (.Constant (.str wd) j p1) p2] p3, none, body⟩ :: rest) (tCase X.K wd [] tb tr) := pc_case (cs := []) hc hN .nil rfl hb hr
theorem pc_seq1 {i0 : Nat} (hN : X.N.Nodup) (hb : PSs X body tb) (hr : PCases X rest tr) (hc : X.calm = true := by rfl) (h0 : X.N[i0]? = some x0 := by rfl) (l0 : X.env.scope.names.lookup x0 = some .local := by rfl) :
    PCases X (⟨.MatchSequence [.MatchValue (.Constant (.str wd) j p1) p2, .MatchAs none (some x0) q0] p3, none, body⟩ :: rest) (tCase X.K wd [i0] tb tr) :=
  pc_case (cs := [(x0, q0)]) hc hN (.cons h0 l0 .nil) rfl hb hr
theorem pc_seq2 {i0 i1 : Nat} (hN : X.N.Nodup) (hb : PSs X body tb) (hr : PCases X rest tr) (hc : X.calm = true := by rfl) (h0 : X.N[i0]? = some x0 := by rfl) (l0 : X.env.scope.names.lookup x0 = some .local := by rfl) (h1 : X.N[i1]? = some x1 := by rfl) (l1 : X.env.scope.names.lookup x1 = some .local := by rfl) :
    PCases X (⟨.MatchSequence [.MatchValue (.Constant (.str wd) j p1) p2, .MatchAs none (some x0) q0, .MatchAs none (some x1) q1] p3, none, body⟩ :: rest) (tCase X.K wd [i0, i1] tb tr) :=
  pc_case (cs := [(x0, q0), (x1, q1)]) hc hN (.cons h0 l0 (.cons h1 l1 .nil)) rfl hb hr
end
end Vt
namespace Vt
open PySem PySem.Spec PyProof.Rows L2
/-! ### word, *numbers = tuple -/
section
variable {prog : Program} {w : World} {A : Around} {E : Value → Shared → Prop} {s : Shared} {env : Env}
theorem star_tuple {l : Addr} {items : Array Value} {n i : Nat} {first mids lasts : List Value} {Q : List Value → Shared → Prop} (hl : IsTup s.heap l items) (hh : A.handled = none) (hi : i < n) (hn : n ≤ items.size + 1) (hz : items.size ≤ 16384)
    (h1 : items.toList.take i = first) (h2 : (items.toList.drop i).take (items.size + 1 - n) = mids) (h3 : (items.toList.drop i).drop (items.size + 1 - n) = lasts)
    (h : ∀ (h₂ : Heap) (tk : Nat), (∀ b o, s.heap.get? b = some o → h₂.get? b = some o) → Q (first ++ [.ref h₂.objs.size] ++ lasts) { s with heap := h₂.push { cls := .type "list", data := .seq mids.toArray }, toks := tk }) : wpAny (model prog w) A (unpackItems (.ref l) n (some i)) Q E s := by
  subst h1 h2 h3
  have hlt : l ≠ s.heap.objs.size := by obtain ⟨o, ho, _⟩ := hl; exact Nat.ne_of_lt (Heap.lt_size ho)
  have hll : l < s.heap.objs.size := by obtain ⟨o, ho, _⟩ := hl; exact Heap.lt_size ho
  unfold unpackItems
  refine wpAny_bind ?_
  unfold notIterableAtAll
  refine wpAny_bind (wpAny_specialOf hl.typeIs slot_tuple_iter.lookup ?_)
  refine wpAny_pure ?_
  simp only [Bool.false_eq_true, if_false]
  refine wpAny_bind (wpAny_holding (iter_tuple hl ?_))
  refine wpAny_bind (wpAny_holding (draw_tuple hlt i 0 _ _ ⟨_, Heap.get?_push_size _ rfl, rfl, rfl⟩ (hl.push _) (by omega) fun h₁ hit₁ hs₁ => ?_))
  have hl₁ : IsTup h₁ l items := (hl.push _).extBut hs₁.extBut hlt
  rw [Nat.zero_add] at hit₁
  have hit₁' := hit₁
  obtain ⟨oi, hoi, _⟩ := hit₁'
  have hl₁' := hl₁
  obtain ⟨ol, hol, _⟩ := hl₁'
  rw [List.drop_zero]
  have hfl : (items.toList.take i).length = i := by rw [List.length_take, Array.length_toList]; omega
  rw [if_neg (show ¬ ((items.toList.take i).length < i) by rw [hfl]; omega)]
  refine wpAny_bind (wpAny_holding (PySem.W.kun_collect (s := { s with heap := h₁ }) (T := "tuple_iterator") (.inr (.inr (.inr rfl))) (Walks.tuple (A := A.in1) hh s.heap.objs.size l hlt items) (fun j u st => st.1.typeIs) (k := i) (by omega) ⟨hit₁, hl₁⟩ (Heap.lt_size hoi) (Heap.lt_size hol) (fun h₂ tk hk => ?_) (by rw [sizeLine_eq]; omega)))
  have hrl : (items.toList.drop i).length = items.size - i := by rw [List.length_drop, Array.length_toList]
  have hmid : (items.toList.drop i).length - (n - 1 - i) = items.size + 1 - n := by rw [hrl]; omega
  show wpAny _ _ (if (items.toList.drop i).length < n - 1 - i then _ else _) _ _ _
  rw [if_neg (by rw [hrl]; omega)]
  show wpAny _ _ (newList ((items.toList.drop i).take ((items.toList.drop i).length - (n - 1 - i))) >>= fun d => pure (items.toList.take i ++ [d] ++ (items.toList.drop i).drop ((items.toList.drop i).length - (n - 1 - i)))) _ _ _
  rw [hmid]
  have he : Heap.ExtBut s.heap.objs.size s.heap h₂ := fun b o hb e => hk b o hb (hs₁.extBut b o hb (Heap.get?_push_of_some _ e))
  exact wpAny_bind (wpAny_newList (s := { s with heap := h₂, toks := tk }) (wpAny_pure (h h₂ tk fun b o e => he b o (Nat.ne_of_lt (Heap.lt_size e)) e)) (by rw [List.length_take, hrl, sizeLine_eq]; omega))
end
def gStar (K : PySem.W.Frag) (i j : Nat) : TG := fun v σ H Q => ∃ a x xs, v = .ref a ∧ SqT K H a (x :: xs) ∧ xs.length ≤ 1000 ∧ ∀ p, H p = none → Q ((σ.set i (some x)).set j (some (.ref p))) (upd H p (.lst xs))
theorem pg_star {X : Cx} {i j : Nat} {x y : Str} {px py ps pos : Pos} {k : Nat} (hc : X.calm = true) (hN : X.N.Nodup) (hi : X.N[i]? = some x) (hj : X.N[j]? = some y) (hx : X.env.scope.names.lookup x = some .local) (hy : X.env.scope.names.lookup y = some .local) :
    PG X (.Tuple [.Name x px, .Starred (.Name y py) ps] k pos) (gStar X.K i j) := by
  refine ⟨fun pins s σ H v u Q I r h => ?_⟩
  obtain ⟨a, z, xs, ev, hq, hl, h⟩ := h
  subst ev
  cases r
  obtain ⟨its, rvs, ht, hz⟩ := I.tuple hq
  have hlen : its.length = xs.length + 1 := by rw [← rvs.length]; rfl
  cases rvs with
  | cons r0 rr =>
    rename_i u0 us
    have hus : us.length = xs.length := rr.length.symm
    rw [assign_Tuple]
    refine wpAny_bind (wpAny_standAt ?_)
    unfold unpack
    have e1 : (assignEach [.Name x px, .Starred (.Name y py) ps] X.env).length = 2 := rfl
    have e2 : (assignEach [.Name x px, .Starred (.Name y py) ps] X.env).findIdx? (·.1) = some 1 := rfl
    rw [e1, e2]
    refine wpAny_bind (wpAny_holding (star_tuple (first := [u0]) (mids := us) (lasts := []) ht (I.ok.hd hc) (by decide) (by simp) (by simp; omega) rfl (by simp) (by simp) fun h₂ tk hk => ?_))
    have I2 : Inv X pins σ H { s with heap := h₂, toks := tk } := I.kept hk
    have hn : H h₂.objs.size = none := I2.hok.fresh (Nat.le_refl _)
    have hz2 : xs.length ≤ sizeLine := Nat.le_trans hl (by decide)
    have I1 : Inv X pins σ (upd H h₂.objs.size (.lst xs)) { s with heap := h₂.push { cls := .type "list", data := .seq us.toArray }, toks := tk } :=
      I2.laid (t' := tk) (fun b u e => Heap.get?_push_of_some _ e) (Nat.le_refl _) ⟨hz2, us, 0, rr, Heap.get?_push_size _ rfl⟩
    show wpAny _ _ (assignInOrder [assign (.Name x px) X.env, assign (.Name y py) X.env] [u0, .ref h₂.objs.size]) _ _ _
    refine assignInOrder_cons (thn ((pg_name (pos := px) hN hi (.inl hx) (.inr hx)).run pins _ σ _ z u0 (fun σ1 H1 => σ1 = σ.set i (some z) ∧ H1 = upd H h₂.objs.size (.lst xs)) I1 r0 ⟨rfl, rfl⟩) fun _ s1 ⟨σ1, H1, I3, e3, e4⟩ => ?_)
    subst e3 e4
    refine assignInOrder_cons (thn ((pg_name (pos := py) hN hj (.inl hy) (.inr hy)).run pins _ _ _ (.ref h₂.objs.size) _ Q I3 rfl (h _ hn)) fun _ s2 q => ?_)
    exact wpAny_assignInOrder_none q
end Vt
namespace Vt
open PySem PySem.Spec PyProof.Rows L2
/-! ### d.get(x), d a written dict of text keys -/
def tKGet (K : PySem.W.Frag) (w : World) (td ty : TE) : TE := fun σ H Q => td σ H fun x H1 => ∃ a, x = .ref a ∧ (a == sysModules) = false ∧ (∃ es n, K.lookup a = some ⟨.type "dict", none, .dict es n, #[]⟩ ∧ PySem.W.KeysLit w.params es.toList) ∧
  ty σ H1 fun y H2 => ∃ z, y = .str z ∧ ((∃ v, KDct K w a z v ∧ Q v H2) ∨ (KMiss K w a z ∧ Q .non H2))
section
variable {X : Cx} {o e : Expr} {apos cpos : Pos} {td ty : TE}
theorem pe_kget (ho : PE X o td) (he : PE X e ty) (m : M1 X o "get" apos e cpos) : PE X (.Call (.Attribute o "get" apos) [e] [] cpos) (tKGet X.K X.w td ty) := by
  refine ⟨fun pins s σ H Q I h => ?_⟩
  refine wpAny_Call_method m.base m.few m.line PySem.F.plainAttrs_dict PySem.F.slot_dict_get PySem.F.type_dict_get (thn (ho.run pins s σ H _ I h) fun u s1 ⟨x, H1, I1, rx, a, ex, hs, ⟨es, n, hl, hk⟩, q1⟩ => ?_)
  subst ex
  obtain rfl : u = Value.ref a := rx
  have hm := PySem.W.mapOf_K (prog := X.prog) (w := X.w) I1.kIn hl hk
  refine ⟨hm.typeIs, fun b q => ⟨_, I1.kIn _ _ (by cases q; exact hl), rfl⟩, ?_⟩
  rw [m.trees]
  refine Calls.callWith_builtin rfl (Calls.evalArgs_plain (Calls.spliced_cons (thn (he.run pins s1 σ H1 _ I1 q1) fun iv s2 ⟨y, H2, I2, ry, z, ey, q2⟩ => Calls.spliced_nil ?_)))
  subst ey
  obtain ⟨t, rfl⟩ := (show ∃ t, iv = Value.str z t from ry)
  have hm2 := PySem.W.mapOf_K (prog := X.prog) (w := X.w) I2.kIn hl hk
  refine call_meetsIn PySem.F.slot_dict_get hm2.typeIs PySem.F.entry_dict_get (PySem.F.args_dict_get_2 _ _) (meets_dict_get (strKind X.prog X.w) a (strKind_is X.prog X.w z t) hs) ⟨_, hm2, ?_⟩
  rcases q2 with ⟨v, ⟨es', n', u0, hl', hk', e', ru⟩, q2⟩ | ⟨⟨es', n', hl', hk', _, e'⟩, q2⟩
  · rw [hl] at hl'
    cases hl'
    exact ⟨v, H2, I2.tok _, by rw [PySem.W.find_K hl e']; exact ru, q2⟩
  · rw [hl] at hl'
    cases hl'
    exact ⟨.non, H2, I2.tok _, by rw [PySem.W.find_K hl e']; rfl, q2⟩
end
end Vt
namespace Vt
open PySem PySem.Spec PyProof.Rows L2
/-! ### the heap's small words -/
theorem sqA_l {K : PySem.W.Frag} {H : Hp} {a : Addr} {xs : List V} (h : H a = some (.lst xs)) : SqA K H a xs := .inl (.inl (.inl h))
theorem sqA_t {K : PySem.W.Frag} {H : Hp} {a : Addr} {xs : List V} (h : H a = some (.tup xs)) : SqA K H a xs := .inr (.inl (.inl h))
theorem sqL_l {K : PySem.W.Frag} {H : Hp} {a : Addr} {xs : List V} (h : H a = some (.lst xs)) : SqL K H a xs := .inl (.inl h)
theorem sqT_t {K : PySem.W.Frag} {H : Hp} {a : Addr} {xs : List V} (h : H a = some (.tup xs)) : SqT K H a xs := .inl (.inl h)
theorem same_new {H : Hp} {p : Addr} {o : HO} (h : H p = none) : Same H (upd H p o) := fun b x e => by
  rw [upd_ne (ne_of_none e h)]
  exact e
theorem Same.sqT {K : PySem.W.Frag} {H H' : Hp} {a : Addr} {xs : List V} (e : Same H H') (h : SqT K H a xs) : SqT K H' a xs := by
  rcases h with (h | ⟨o, h⟩) | h
  · exact .inl (.inl (e _ _ h))
  · exact .inl (.inr ⟨o, e _ _ h⟩)
  · exact .inr h
/-- all that was tracked stands but for these -/
def But (B : List Addr) (H H' : Hp) : Prop := ∀ c o, c ∉ B → H c = some o → H' c = some o
theorem But.refl {B : List Addr} {H : Hp} : But B H H := fun _ _ _ h => h
theorem But.trans {B : List Addr} {H H1 H2 : Hp} (a : But B H H1) (b : But B H1 H2) : But B H H2 := fun c o n h => b c o n (a c o n h)
theorem Same.but {B : List Addr} {H H' : Hp} (a : Same H H') : But B H H' := fun c o _ h => a c o h
theorem But.set {B : List Addr} {H : Hp} {p : Addr} {o : HO} (h : p ∈ B) : But B H (upd H p o) := fun c u n e => by
  rw [upd_ne (fun q => n (by rw [q]; exact h))]; exact e
theorem But.same {H H' : Hp} (a : But [] H H') : Same H H' := fun c o h => a c o (by simp) h
theorem But.mono {B B' : List Addr} {H H' : Hp} (a : But B H H') (h : ∀ b ∈ B, b ∈ B') : But B' H H' := fun c o n e => a c o (fun m => n (h c m)) e
/-- these stand for lists -/
def Lsts (H : Hp) (B : List Addr) : Prop := ∀ b ∈ B, ∃ xs, H b = some (.lst xs)
theorem But.sqT {K : PySem.W.Frag} {B : List Addr} {H H' : Hp} {a : Addr} {xs : List V} (e : But B H H') (l : Lsts H B) (h : SqT K H a xs) : SqT K H' a xs := by
  rcases h with (h | ⟨o, h⟩) | h
  · exact .inl (.inl (e _ _ (fun m => by obtain ⟨ys, q⟩ := l _ m; rw [q] at h; cases h) h))
  · exact .inl (.inr ⟨o, e _ _ (fun m => by obtain ⟨ys, q⟩ := l _ m; rw [q] at h; cases h) h⟩)
  · exact .inr h
theorem fits {n : Nat} (h : n ≤ 16000) : n < sizeLine := Nat.lt_of_le_of_lt h (by decide)
theorem fits' {n : Nat} (h : n ≤ 16000) : n ≤ sizeLine := Nat.le_of_lt (fits h)
theorem at0 {α : Type} {x : α} {r : List α} : atI (x :: r) 0 = some x := atI_nat (j := 0) rfl
theorem ixN_of {n : Nat} {i : Int} {j : Nat} (h : i = (j : Int)) (hj : j < n) : ixN n i = some j := by
  subst h
  unfold ixN
  rw [if_pos (by omega), if_pos (by omega)]
  rfl
theorem seqIx_of {n : Nat} {i : Int} {j : Nat} (h : i = (j : Int)) (hj : j < n) : seqIndex? i n = some j := (ixN_seq (ixN_of h hj)).1
/-! ### the asker's box of draws -/
def Box (H : Hp) (b l : Addr) : Prop := ∃ (ns : List Int) (s : Int), H b = some (.lst [.ref l, .int s]) ∧ H l = some (.lst (ns.map V.int)) ∧ 0 ≤ s ∧ s < 2147483647 ∧ ns.length ≤ 63
theorem Box.ne {H : Hp} {b l : Addr} (h : Box H b l) : b ≠ l := by
  obtain ⟨ns, s, h1, h2, _⟩ := h
  refine ne_of h1 h2 fun e => ?_
  cases ns with
  | nil => cases e
  | cons x r => cases e
theorem Box.lsts {H : Hp} {b l : Addr} (h : Box H b l) : Lsts H [b, l] := by
  obtain ⟨ns, s, h1, h2, _⟩ := h
  intro c hc
  rcases List.mem_cons.mp hc with rfl | hc
  · exact ⟨_, h1⟩
  · rw [List.mem_singleton.mp hc]; exact ⟨_, h2⟩
theorem Box.same {H H' : Hp} {b l : Addr} (e : Same H H') (h : Box H b l) : Box H' b l := by
  obtain ⟨ns, s, h1, h2, h3⟩ := h
  exact ⟨ns, s, e _ _ h1, e _ _ h2, h3⟩
theorem dpInts {K : PySem.W.Frag} {H : Hp} : ∀ ns : List Int, DpAll K H (ns.map V.int) (ns.map PyData.int)
  | [] => .nil
  | n :: r => .cons (.int n) (dpInts r)
theorem shapedInts (ns : List Int) : SeqAt.shaped (.list (ns.map PyData.int)) = true := by
  have h1 : ∀ ns : List Int, PyData.canLayAll0 (ns.map PyData.int) = true := by
    intro ns
    induction ns with
    | nil => simp [PyData.canLayAll0]
    | cons n r ih => simp [PyData.canLayAll0, PyData.canLay0, ih]
  have h2 : ∀ ns : List Int, PyData.depthAll (ns.map PyData.int) ≤ 1 := by
    intro ns
    induction ns with
    | nil => simp [PyData.depthAll]
    | cons n r ih => simp [PyData.depthAll, PyData.depth]; omega
  have a := h1 ns
  have b := h2 ns
  simp [SeqAt.shaped, PyData.canLay0, PyData.depth, a]
  omega
def nV (n : Nat) : V := .int (n : Int)
theorem chgN {i : Nat} {x y : V} {σ : L2.St} {H : Hp} {Q : L2.St → Hp → Prop} (e : x = y) (h : gName i y σ H Q) : gName i x σ H Q := by rw [e]; exact h
def spTake0 : Sp := fun vs H Q _ => ∃ (b l : Addr) (m : Int), vs = [.ref b, .int m] ∧ Box H b l ∧ 0 < m ∧ m < 1000000 ∧ ∀ H' r, Box H' b l → But [b, l] H H' → 0 ≤ r → r < m → Q (.int r) H'
section
variable {P : Program} {w : World} {K : PySem.W.Frag} {mg : Str → Option Value} {base : Heap}
abbrev st_law_take : Stmt := (topS 50)
abbrev nm_law_take : List Str := ["_law_box", "_law_many", "_law_number"]
theorem sc_law_take : FnScope ["_law_box", "_law_many", "_law_number"] ["_law_box", "_law_many"] (defScope st_law_take) := ⟨rfl, rfl, rfl, by decide +kernel, rfl, by decide +kernel, by decide +kernel⟩
theorem ok_take0 {f : Addr} {fd : FuncData} (F : Fun K "_law_take" "_law_take" st_law_take f fd) : FnOk P w K mg base CX0 1 f fd ["_law_box", "_law_many"] spTake0 := by
  refine F.ok sc_law_take (fun vs H Q E h => ?_) (fun cdv A outer s H vs Q E hr h => ?_)
  · obtain ⟨b, l, m, rfl, _⟩ := h
    rfl
  · obtain ⟨b, l, m, rfl, hB, m0, m1, q⟩ := h
    have hne := hB.ne
    obtain ⟨ns, sd, hb, hl, s0, s1, hlen⟩ := hB
    refine ⟨_, (pss_cons (ps_if (pt_cmpR (op_eqD hr.units) (pe_ix ix_lt (pv 0) pe_int (fun _ _ => rfl)) (pe_lst pa_nil) (nomark _)) (pss_cons (ps_asg (pe_op op_mod (pe_op op_mul (pe_ix ix_lt (pv 0) pe_int (fun _ _ => rfl)) pe_int) pe_int) (pg_sub (pv 0) pe_int set_list))
  (pss_one (ps_ret (pe_op op_mod (pe_op op_fdiv (pe_ix ix_lt (pv 0) pe_int (fun _ _ => rfl)) pe_int) (pv 1))))) pss_nil)
  (pss_cons (ps_set (i := 2) sc_law_take.nd rfl (Or.inl rfl) (pe_ix ix_lt (pe_ix ix_lt (pv 0) pe_int (fun _ _ => rfl)) pe_int (fun _ _ => rfl)))
  (pss_cons (ps_asg (pe_op op_fdiv (pv 2) (pv 1)) (pg_sub (pe_ix ix_lt (pv 0) pe_int (fun _ _ => rfl)) pe_int set_list))
  (pss_cut (ps_if (PW.pt (pw_or (pt_cmpR op_eq (pe_ix ix_lt (pe_ix ix_lt (pv 0) pe_int (fun _ _ => rfl)) pe_int (fun _ _ => rfl)) pe_int (nomark _)) (pw_or1 (pt_cmpR op_eq (pe_ix ix_lt (pe_ix ix_lt (pv 0) pe_int (fun _ _ => rfl)) pe_int (fun _ _ => rfl)) (pe_un un_neg pe_int) (nomark _))))) (pss_one (ps_expr (pe_bm PySem.F.plainAttrs_list PySem.F.slot_list_pop PySem.F.type_list_pop mt_popAt (pe_ix ix_lt (pv 0) pe_int (fun _ _ => rfl)) (pa_cons pe_int pa_nil)))) pss_nil)
  (pss_one (ps_ret (pe_op op_mod (pv 2) (pv 1)))))))), ?_⟩
    -- if box[0] == []
    refine ⟨_, rfl, b, _, 0, .ref l, rfl, rfl, sqA_l hb, rfl, ?_⟩
    refine ⟨Nat.zero_le _, fun p np => ?_⟩
    have sm : Same H (upd H p (.lst [])) := same_new np
    refine ⟨.list (ns.map PyData.int), .list [], .lst (sqL_l (sm _ _ hl)) (dpInts ns), .lst (sqL_l upd_same) .nil, shapedInts ns, rfl, _, rfl, ?_⟩
    have hb1 := sm _ _ hb
    have hl1 := sm _ _ hl
    have nbp : b ≠ p := ne_of_none hb np
    have nlp : l ≠ p := ne_of_none hl np
    cases ns with
    | nil =>
      refine iteT ?_
      -- box[1] = box[1] * 48271 % 2147483647
      refine ⟨_, rfl, b, _, 1, .int sd, rfl, rfl, sqA_l hb1, rfl, ?_⟩
      refine ⟨_, _, rfl, rfl, .inl ⟨by omega, by omega⟩, _, _, rfl, rfl, (by show (0 : Int) < 2147483647; decide), ?_⟩
      refine ⟨_, rfl, b, _, 1, 1, rfl, rfl, hb1, rfl, ?_⟩
      -- return box[1] // 7 % many
      refine ⟨_, rfl, b, _, 1, .int (sd * 48271 % 2147483647), rfl, rfl, sqA_l upd_same, rfl, ?_⟩
      refine ⟨_, _, rfl, rfl, ⟨by decide, by decide⟩, _, rfl, _, _, rfl, rfl, m0, ?_⟩
      have e0 : 0 ≤ sd * 48271 % 2147483647 := Int.emod_nonneg _ (by decide)
      have e1 : sd * 48271 % 2147483647 < 2147483647 := Int.emod_lt_of_pos _ (by decide)
      refine q _ _ ⟨[], _, upd_same, ?_, e0, e1, hlen⟩ ?_ ?_ ?_
      · rw [upd_ne hne.symm]; exact hl1
      · exact (Same.but sm).trans (But.set (by simp))
      · exact Int.emod_nonneg _ (by omega)
      · exact Int.emod_lt_of_pos _ m0
    | cons n r =>
      refine iteF ?_
      -- number = box[0][0]
      refine ⟨_, rfl, b, _, 0, .ref l, rfl, rfl, sqA_l hb1, rfl, l, _, 0, .int n, rfl, rfl, sqA_l hl1, at0, ?_⟩
      -- box[0][0] = number // many
      refine ⟨_, rfl, _, rfl, _, _, rfl, rfl, ⟨m0, by omega⟩, ?_⟩
      refine ⟨_, rfl, b, _, 0, .ref l, rfl, rfl, sqA_l hb1, rfl, l, _, 0, 0, rfl, rfl, hl1, ixN_of rfl (by simp), ?_⟩
      have nlb : l ≠ b := hne.symm
      have hb2 : (upd (upd H p (.lst [])) l (.lst ((V.int (n / m)) :: r.map V.int))) b = some (.lst [.ref l, .int sd]) := by
        rw [upd_ne hne]; exact hb1
      have bt : But [b, l] H (upd (upd H p (.lst [])) l (.lst ((V.int (n / m)) :: r.map V.int))) := (Same.but sm).trans (But.set (by simp))
      -- if box[0][0] == 0 or box[0][0] == -1
      have hr1 : r.length ≤ 63 := by simp at hlen; omega
      refine ⟨fun σ' H' => σ' = [some (.ref b), some (.int m), some (.int n)] ∧ Box H' b l ∧ But [b, l] H H', ?_, fun σ' H' hM => ?_⟩
      · have pop : ∀ D : Ends, D.nx = (fun σ' H' => σ' = [some (.ref b), some (.int m), some (.int n)] ∧ Box H' b l ∧ But [b, l] H H') →
            tDrop (tBM K "list" rPopAt (tOp (rIxLT K) (tVar 0) (tC (.int 0))) (tCons (tC (.int 0)) tNil)) D [some (.ref b), some (.int m), some (.int n)] (upd (upd H p (.lst [])) l (.lst ((V.int (n / m)) :: r.map V.int))) := fun D hD => by
          refine ⟨_, rfl, b, _, 0, .ref l, rfl, rfl, sqA_l hb2, rfl, .inl ⟨rfl, _, sqL_l upd_same⟩, ?_⟩
          refine ⟨l, _, 0, 0, .int (n / m), rfl, rfl, upd_same, by decide, by decide, seqIx_of rfl (by simp), rfl, ?_⟩
          rw [hD]
          refine ⟨rfl, ⟨r, sd, ?_, ?_, s0, s1, hr1⟩, bt.trans (But.set (by simp))⟩
          · rw [upd_ne hne]; exact hb2
          · rw [upd_same]; rfl
        refine ⟨_, rfl, b, _, 0, .ref l, rfl, rfl, sqA_l hb2, rfl, l, _, 0, .int (n / m), rfl, rfl, sqA_l upd_same, at0, rfl, _, rfl, ite2 (fun e => ?_) (fun e => ?_)⟩
        · exact iteT (pop _ rfl)
        · refine ⟨_, rfl, b, _, 0, .ref l, rfl, rfl, sqA_l hb2, rfl, l, _, 0, .int (n / m), rfl, rfl, sqA_l upd_same, at0, 1, rfl, rfl, _, rfl, ite2 (fun e => ?_) (fun e => ?_)⟩
          · exact pop _ rfl
          · exact ⟨rfl, ⟨n / m :: r, sd, hb2, upd_same, s0, s1, hlen⟩, bt⟩
      · obtain ⟨rfl, h1, h2⟩ := hM
        refine ⟨_, rfl, _, rfl, _, _, rfl, rfl, m0, ?_⟩
        exact q _ _ h1 h2 (Int.emod_nonneg _ (by omega)) (Int.emod_lt_of_pos _ m0)
/-- a draw below many -/
def spTake : Sp := fun vs H Q _ => ∃ (b l : Addr) (e : Int) (m : Nat), vs = [.ref b, .int e] ∧ e = (m : Int) ∧ Box H b l ∧ 0 < m ∧ m < 1000000 ∧ ∀ (H' : Hp) (r : Nat), Box H' b l → But [b, l] H H' → r < m → Q (nV r) H'
theorem ok_take {f : Addr} {fd : FuncData} (F : Fun K "_law_take" "_law_take" st_law_take f fd) : FnOk P w K mg base CX0 1 f fd ["_law_box", "_law_many"] spTake :=
  (ok_take0 F).imp fun vs H Q E h => by
    obtain ⟨b, l, e, m, rfl, rfl, hB, m0, m1, q⟩ := h
    refine ⟨b, l, m, rfl, hB, by omega, by omega, fun H' r hB' bt r0 r1 => ?_⟩
    obtain ⟨k, rfl⟩ := Int.eq_ofNat_of_zero_le r0
    exact q H' k hB' bt (by omega)
end
end Vt
namespace Vt
open PySem PySem.Spec PyProof.Rows L2
/-! ### data in the heap: ints, texts, None, bools, tuples and lists of them -/
inductive D where
  | non | bl (b : Bool) | int (i : Int) | str (x : Str) | tup (ds : List D) | lst (ds : List D)
mutual
inductive Pd (H : Hp) : V → D → Prop
  | non : Pd H .non .non
  | bl (b : Bool) : Pd H (.bl b) (.bl b)
  | int (i : Int) : Pd H (.int i) (.int i)
  | str (x : Str) : Pd H (.str x) (.str x)
  | tup {a : Addr} {xs : List V} {ds : List D} : H a = some (.tup xs) → Pds H xs ds → Pd H (.ref a) (.tup ds)
  | lst {a : Addr} {xs : List V} {ds : List D} : H a = some (.lst xs) → Pds H xs ds → Pd H (.ref a) (.lst ds)
inductive Pds (H : Hp) : List V → List D → Prop
  | nil : Pds H [] []
  | cons {v : V} {vs : List V} {d : D} {ds : List D} : Pd H v d → Pds H vs ds → Pds H (v :: vs) (d :: ds)
end
mutual
def D.noL : D → Bool
  | .lst _ => false
  | .tup ds => noLs ds
  | _ => true
def noLs : List D → Bool
  | [] => true
  | d :: ds => d.noL && noLs ds
end
mutual
def D.dep : D → Nat
  | .lst ds => deps ds + 1
  | .tup ds => deps ds + 1
  | _ => 0
def deps : List D → Nat
  | [] => 0
  | d :: ds => max d.dep (deps ds)
end
section
variable {H H' : Hp}
mutual
theorem Pd.same (s : Same H H') : ∀ {d : D} {v : V}, Pd H v d → Pd H' v d
  | .non, _, .non => .non
  | .bl _, _, .bl b => .bl b
  | .int _, _, .int b => .int b
  | .str _, _, .str b => .str b
  | .tup _, _, .tup h hs => .tup (s _ _ h) (Pds.same s hs)
  | .lst _, _, .lst h hs => .lst (s _ _ h) (Pds.same s hs)
theorem Pds.same (s : Same H H') : ∀ {ds : List D} {vs : List V}, Pds H vs ds → Pds H' vs ds
  | [], _, .nil => .nil
  | _ :: _, _, .cons h hs => .cons (Pd.same s h) (Pds.same s hs)
end
mutual
theorem Pd.but {B : List Addr} (s : But B H H') (l : Lsts H B) : ∀ {d : D} {v : V}, d.noL = true → Pd H v d → Pd H' v d
  | .non, _, _, .non => .non
  | .bl _, _, _, .bl b => .bl b
  | .int _, _, _, .int b => .int b
  | .str _, _, _, .str b => .str b
  | .tup ds, _, n, .tup h hs => .tup (s _ _ (fun m => by obtain ⟨ys, q⟩ := l _ m; rw [q] at h; cases h) h) (Pds.but s l (by rw [D.noL] at n; exact n) hs)
  | .lst ds, _, n, .lst h hs => by rw [D.noL] at n; cases n
theorem Pds.but {B : List Addr} (s : But B H H') (l : Lsts H B) : ∀ {ds : List D} {vs : List V}, noLs ds = true → Pds H vs ds → Pds H' vs ds
  | [], _, _, .nil => .nil
  | d :: ds, _, n, .cons h hs => by
    rw [noLs, Bool.and_eq_true] at n
    exact .cons (Pd.but s l n.1 h) (Pds.but s l n.2 hs)
end
theorem Pds.len : ∀ {ds : List D} {vs : List V}, Pds H vs ds → vs.length = ds.length
  | _, _, .nil => rfl
  | _, _, .cons _ hs => by rw [List.length_cons, List.length_cons, Pds.len hs]
theorem Pds.get : ∀ {ds : List D} {vs : List V} {i : Nat} {d : D}, Pds H vs ds → ds[i]? = some d → ∃ v, vs[i]? = some v ∧ Pd H v d
  | _, _, _, _, .nil, e => by simp at e
  | _, _, 0, _, .cons h _, e => by
    simp only [List.getElem?_cons_zero, Option.some.injEq] at e
    subst e; exact ⟨_, rfl, h⟩
  | _, _, i + 1, _, .cons _ hs, e => by
    obtain ⟨v, h1, h2⟩ := Pds.get (i := i) hs (by simpa using e)
    exact ⟨v, by simpa using h1, h2⟩
theorem Pds.get' : ∀ {ds : List D} {vs : List V} {i : Nat} {v : V}, Pds H vs ds → vs[i]? = some v → ∃ d, ds[i]? = some d ∧ Pd H v d
  | _, _, _, _, .nil, e => by simp at e
  | _, _, 0, _, .cons h _, e => by
    simp only [List.getElem?_cons_zero, Option.some.injEq] at e
    subst e; exact ⟨_, rfl, h⟩
  | _, _, i + 1, _, .cons _ hs, e => by
    obtain ⟨v, h1, h2⟩ := Pds.get' (i := i) hs (by simpa using e)
    exact ⟨v, by simpa using h1, h2⟩
theorem Pds.app : ∀ {ds es : List D} {vs us : List V}, Pds H vs ds → Pds H us es → Pds H (vs ++ us) (ds ++ es)
  | _, _, _, _, .nil, k => k
  | _, _, _, _, .cons h hs, k => .cons h (Pds.app hs k)
theorem Pds.ints : ∀ {ns : List Int} {vs : List V}, Pds H vs (ns.map D.int) → vs = ns.map V.int
  | [], _, .nil => rfl
  | n :: r, _, .cons (.int _) hs => by rw [List.map_cons, Pds.ints hs]
theorem Pds.ofInts : ∀ ns : List Int, Pds H (ns.map V.int) (ns.map D.int)
  | [] => .nil
  | n :: r => .cons (.int n) (Pds.ofInts r)
end
theorem deps_get : ∀ {ds : List D} {i : Nat} {d : D}, ds[i]? = some d → d.dep ≤ deps ds
  | [], _, _, e => by simp at e
  | x :: r, 0, d, e => by
    simp only [List.getElem?_cons_zero, Option.some.injEq] at e
    subst e; rw [deps]; omega
  | x :: r, i + 1, d, e => by
    have := deps_get (ds := r) (i := i) (d := d) (by simpa using e)
    rw [deps]; omega
/-! ### boards -/
structure Ord where
  src : Nat
  goal : Nat
  many : Nat
  later : Option Nat
inductive Deed where
  | set (c n : Nat) | add (c o : Nat) | say (c : Nat) | start (o : Nat) | wait | clean (l : Nat) | drop (l : Nat)
  deriving DecidableEq
structure Brd where
  mem : List Nat
  ords : List Ord
  prog : List Deed
def nD (n : Nat) : D := .int (n : Int)
def oV : Option Nat → V
  | none => .non
  | some k => nV k
def oD : Option Nat → D
  | none => .non
  | some k => nD k
def Ord.vs (o : Ord) : List V := [nV o.src, nV o.goal, nV o.many, oV o.later]
def Ord.d (o : Ord) : D := .tup [nD o.src, nD o.goal, nD o.many, oD o.later]
def Deed.word : Deed → Str
  | .set _ _ => "set" | .add _ _ => "add" | .say _ => "say" | .start _ => "start" | .wait => "wait" | .clean _ => "clean" | .drop _ => "drop"
def Deed.args : Deed → List Nat
  | .set c n => [c, n] | .add c o => [c, o] | .say c => [c] | .start o => [o] | .wait => [] | .clean l => [l] | .drop l => [l]
def Deed.vs (d : Deed) : List V := .str d.word :: d.args.map nV
def Deed.d (d : Deed) : D := .tup (.str d.word :: d.args.map nD)
def nsD (ns : List Nat) : D := .tup (ns.map nD)
def Brd.d (B : Brd) : D := .tup [nsD B.mem, .tup (B.ords.map Ord.d), .tup (B.prog.map Deed.d)]
theorem pd_o {H : Hp} : ∀ o : Option Nat, Pd H (oV o) (oD o)
  | none => .non
  | some k => .int k
theorem pds_ns {H : Hp} : ∀ ns : List Nat, Pds H (ns.map nV) (ns.map nD)
  | [] => .nil
  | n :: r => .cons (.int n) (pds_ns r)
theorem pds_ns' {H : Hp} : ∀ {ns : List Nat} {vs : List V}, Pds H vs (ns.map nD) → vs = ns.map nV
  | [], _, .nil => rfl
  | n :: r, _, .cons h hs => by
    cases h
    rw [List.map_cons, pds_ns' hs]; rfl
theorem Ord.pd {H : Hp} {o : Ord} {a : Addr} (h : H a = some (.tup o.vs)) : Pd H (.ref a) o.d := .tup h (.cons (.int _) (.cons (.int _) (.cons (.int _) (.cons (pd_o _) .nil))))
theorem Ord.of {H : Hp} {o : Ord} {v : V} (h : Pd H v o.d) : ∃ a, v = .ref a ∧ H a = some (.tup o.vs) := by
  obtain ⟨s, g, m, l⟩ := o
  cases h with
  | tup h hs =>
    cases hs with
    | cons h1 hs => cases h1; cases hs with
      | cons h2 hs => cases h2; cases hs with
        | cons h3 hs => cases h3; cases hs with
          | cons h4 hs =>
            cases hs
            refine ⟨_, rfl, ?_⟩
            cases l with
            | none => cases h4; exact h
            | some k => cases h4; exact h
theorem Deed.pd {H : Hp} {d : Deed} {a : Addr} (h : H a = some (.tup d.vs)) : Pd H (.ref a) d.d := .tup h (.cons (.str _) (pds_ns _))
theorem Deed.of {H : Hp} {d : Deed} {v : V} (h : Pd H v d.d) : ∃ a, v = .ref a ∧ H a = some (.tup d.vs) := by
  cases h with
  | tup h hs =>
    cases hs with
    | cons h1 hs =>
      cases h1
      rw [pds_ns' hs] at h
      exact ⟨_, rfl, h⟩
theorem Brd.of {H : Hp} {B : Brd} {v : V} (h : Pd H v B.d) : ∃ a m o p os ps, v = .ref a ∧ H a = some (.tup [.ref m, .ref o, .ref p]) ∧ H m = some (.tup (B.mem.map nV)) ∧ H o = some (.tup os) ∧ Pds H os (B.ords.map Ord.d) ∧ H p = some (.tup ps) ∧ Pds H ps (B.prog.map Deed.d) := by
  obtain ⟨mem, ords, prog⟩ := B
  cases h with
  | tup h hs =>
    cases hs with
    | cons h1 hs => cases h1 with
      | tup e1 k1 => cases hs with
        | cons h2 hs => cases h2 with
          | tup e2 k2 => cases hs with
            | cons h3 hs => cases h3 with
              | tup e3 k3 =>
                cases hs
                rw [pds_ns' k1] at e1
                exact ⟨_, _, _, _, _, _, rfl, h, e1, e2, k2, e3, k3⟩
theorem noL_ns : ∀ ns : List Nat, noLs (ns.map nD) = true
  | [] => by rw [List.map_nil, noLs]
  | n :: r => by rw [List.map_cons, noLs, noL_ns r]; rfl
theorem noL_ord (o : Ord) : o.d.noL = true := by
  obtain ⟨s, g, m, l⟩ := o
  cases l <;> simp [Ord.d, D.noL, noLs, nD, oD]
theorem noL_deed (d : Deed) : d.d.noL = true := by
  simp only [Deed.d, D.noL, noLs, Bool.true_and]
  exact noL_ns _
theorem noLs_map {α : Type} {f : α → D} (h : ∀ x, (f x).noL = true) : ∀ xs : List α, noLs (xs.map f) = true
  | [] => by rw [List.map_nil, noLs]
  | x :: r => by rw [List.map_cons, noLs, h x, noLs_map h r]; rfl
theorem noL_brd (B : Brd) : B.d.noL = true := by
  simp only [Brd.d, nsD, D.noL, noLs, Bool.and_true, Bool.and_eq_true]
  exact ⟨noL_ns _, noLs_map noL_ord _, noLs_map noL_deed _⟩
/-- what can be -/
structure OrdOk (o : Ord) (at_ count cells : Nat) : Prop where
  one : 1 ≤ o.many
  eight : o.many ≤ 8
  src : o.src + o.many ≤ cells
  goal : o.goal + o.many ≤ cells
  later : ∀ k, o.later = some k → at_ < k ∧ k < count
def DeedOk (d : Deed) (count cells : Nat) : Prop := match d with
  | .set c n => c < cells ∧ n < 10
  | .add c o => c < cells ∧ o < cells
  | .say c => c < cells
  | .start o => o < count
  | .wait => True
  | .clean l => l < cells / 4
  | .drop l => l < cells / 4
def isStart : Deed → Bool
  | .start _ => true
  | _ => false
structure BrdOk (B : Brd) : Prop where
  cells : B.mem.length = 4 ∨ B.mem.length = 8 ∨ B.mem.length = 12 ∨ B.mem.length = 16
  nums : ∀ n ∈ B.mem, n < 10
  four : B.ords.length ≤ 4
  ords : ∀ (i : Nat) (o : Ord), B.ords[i]? = some o → OrdOk o i B.ords.length B.mem.length
  sixty : B.prog.length ≤ 60
  prog : ∀ d ∈ B.prog, DeedOk d B.ords.length B.mem.length
  starts : (B.prog.filter isStart).length ≤ 3
end Vt
namespace Vt
open PySem PySem.Spec PyProof.Rows L2
/-- a list grows by a new tuple -/
theorem grow {H3 : Hp} {p T : Addr} {xs : List V} {ds : List D} {d : D} {vs : List V} (hx : H3 p = some (.lst xs)) (hp : Pds H3 xs ds) (n : noLs ds = true) (nT : H3 T = none) (hd : ∀ (H : Hp) (a : Addr), H a = some (.tup vs) → Pd H (.ref a) d) :
    (upd H3 T (.tup vs)) p = some (.lst xs) ∧ Pds (upd (upd H3 T (.tup vs)) p (.lst (xs ++ [.ref T]))) (xs ++ [.ref T]) (ds ++ [d]) ∧ But [p] H3 (upd (upd H3 T (.tup vs)) p (.lst (xs ++ [.ref T]))) := by
  have s3 : Same H3 (upd H3 T (.tup vs)) := same_new nT
  have hx4 := s3 _ _ hx
  have pT : T ≠ p := (ne_of_none hx nT).symm
  have ls : Lsts (upd H3 T (.tup vs)) [p] := fun c hc => ⟨xs, by rw [List.mem_singleton.mp hc]; exact hx4⟩
  have sB : But [p] (upd H3 T (.tup vs)) (upd (upd H3 T (.tup vs)) p (.lst (xs ++ [.ref T]))) := But.set (by simp)
  exact ⟨hx4, (Pds.but sB ls n (hp.same s3)).app (.cons (hd _ _ (by rw [upd_ne pT, upd_same])) .nil), (Same.but s3).trans sB⟩
theorem But.pds1 {H H' : Hp} {p : Addr} {xs ys : List V} {ds : List D} (b : But [p] H H') (hx : H p = some (.lst ys)) (n : noLs ds = true) (h : Pds H xs ds) : Pds H' xs ds :=
  Pds.but b (fun c hc => ⟨ys, by rw [List.mem_singleton.mp hc]; exact hx⟩) n h
theorem But.at1 {H H' : Hp} {p q : Addr} {o : HO} (b : But [p] H H') (h : H q = some o) (ne : q ≠ p) : H' q = some o := b q o (by simp [ne]) h
theorem But.new1 {H0 H H' : Hp} {p : Addr} (s : Same H0 H) (np : H0 p = none) (b : But [p] H H') : Same H0 H' := fun c o h => b c o (by simp [ne_of_none h np]) (s c o h)
theorem set_map {mem : List Nat} {c n : Nat} {v : V} (e : v = nV n) : (mem.map nV).set c v = (mem.set c n).map nV := by rw [e, List.map_set]
theorem nat_at {mem : List Nat} {c : Nat} (h : c < mem.length) : (mem.map nV)[c]? = some (nV (mem.getD c 0)) := by
  rw [List.getElem?_map, List.getElem?_eq_getElem h, List.getD_eq_getElem?_getD, List.getElem?_eq_getElem h]; rfl
end Vt
namespace Vt
open PySem PySem.Spec PyProof.Rows L2
/-! ### readings in short -/
section
variable {K : PySem.W.Frag} {σ : L2.St} {H : Hp} {a : Addr}
/-- t[0] == "x", t a deed -/
theorem rd_word {i : Nat} {d : Deed} {x : Str} {R : Bool → Hp → Prop} (hσ : σ[i]? = some (some (.ref a))) (h : H a = some (.tup d.vs)) (hr : R (decide (d.word = x)) H) : tTest (tOp rEq (tOp (rIxLT K) (tVar i) (tC (.int 0))) (tC (.str x))) σ H R := by
  refine ⟨_, hσ, a, _, 0, .str d.word, rfl, rfl, sqA_t h, at0, rfl, _, rfl, ?_⟩
  rw [show decide (V.str d.word = V.str x) = decide (d.word = x) by
    by_cases e : d.word = x
    · rw [e, decide_eq_true rfl, decide_eq_true rfl]
    · rw [decide_eq_false e, decide_eq_false (fun z => e (by injection z))]]
  exact hr
/-- t[0] in ("x", "y") -/
theorem rd_in {i : Nat} {d : Deed} {x y : Str} {R : Bool → Hp → Prop} (hσ : σ[i]? = some (some (.ref a))) (h : H a = some (.tup d.vs)) (hr : ∀ T, H T = none → R (decide (d.word = x) || decide (d.word = y)) (upd H T (.tup [.str x, .str y]))) :
    tTest (tOp (rIn K false) (tOp (rIxLT K) (tVar i) (tC (.int 0))) (tTup (tCons (tC (.str x)) (tCons (tC (.str y)) tNil)))) σ H R := by
  refine ⟨_, hσ, a, _, 0, .str d.word, rfl, rfl, sqA_t h, at0, by show 2 ≤ sizeLine; decide, fun T nT => ⟨T, _, rfl, .inr (sqT_t upd_same), rfl, rfl, _, rfl, ?_⟩⟩
  have e : (if false = true then !inV (.str d.word) [.str x, .str y] else inV (.str d.word) [.str x, .str y]) = (decide (d.word = x) || decide (d.word = y)) := by
    rw [if_neg (by decide)]
    show (eqV (.str x) (.str d.word) || (eqV (.str y) (.str d.word) || false)) = _
    rw [Bool.or_false, show ∀ z : Str, eqV (.str z) (.str d.word) = decide (d.word = z) from fun z => by
      show decide (z = d.word) = decide (d.word = z)
      exact decide_eq_decide.mpr eq_comm]
    rw [show eqV (.str y) (.str d.word) = decide (d.word = y) from by
      show decide (y = d.word) = decide (d.word = y)
      exact decide_eq_decide.mpr eq_comm]
  rw [e]
  exact hr T nT
end
theorem But.tup {B : List Addr} {H H' : Hp} {t : Addr} {xs : List V} (b : But B H H') (l : Lsts H B) (h : H t = some (.tup xs)) : H' t = some (.tup xs) :=
  b _ _ (fun m => by obtain ⟨ys, q⟩ := l _ m; rw [q] at h; cases h) h
end Vt
namespace Vt
open PySem PySem.Spec PyProof.Rows L2
section
variable {P : Program} {w : World} {K : PySem.W.Frag} {mg : Str → Option Value} {base : Heap}
/-! ### the box begun -/
abbrev st_law_begun : Stmt := (topS 49)
abbrev nm_law_begun : List Str := ["_law_script", "_law_stirred", "_law_cell"]
theorem sc_law_begun : FnScope ["_law_script", "_law_stirred", "_law_cell"] ["_law_script"] (defScope st_law_begun) := ⟨rfl, rfl, rfl, by decide +kernel, rfl, by decide +kernel, by decide +kernel⟩
def spBegun (K : PySem.W.Frag) : Sp := fun vs H Q _ => ∃ (a : Addr) (ns : List Int), vs = [.ref a] ∧ SqL K H a (ns.map V.int) ∧ ns.length ≤ 63 ∧ ∀ (H' : Hp) (b l : Addr), Box H' b l → Same H H' → Q (.ref b) H'
theorem ok_begun {f : Addr} {fd : FuncData} (F : Fun K "_law_begun" "_law_begun" st_law_begun f fd) (z_len : mg "len" = none) (z_int : mg "int" = none) (z_list : mg "list" = none) : FnOk P w K mg base CX0 1 f fd ["_law_script"] (spBegun K) := by
  refine F.ok sc_law_begun (fun vs H Q E h => ?_) (fun cdv A outer s H vs Q E hr h => ?_)
  · obtain ⟨a, ns, rfl, _⟩ := h
    rfl
  · obtain ⟨a, ns, rfl, hS, hlen, q⟩ := h
    refine ⟨_, (pss_cons (ps_set (i := 1) sc_law_begun.nd rfl (Or.inl rfl) pe_int)
  (pss_cons (ps_for PassesOwn.never rfl (pi_lt (pv 0)) (pg_name (i := 2) sc_law_begun.nd rfl (Or.inl rfl))
  (pss_one (ps_set (i := 1) sc_law_begun.nd rfl (Or.inl rfl) (pe_op op_mod (pe_op op_add (pe_op op_add (pe_op op_mul (pv 1) pe_int) (pe_op op_mul (pv 2) pe_int)) pe_int) pe_int))))
  (pss_one (ps_ret (pe_lst (pa_cons (pe_callTy call_list_of (by rfl) z_list (by decide +kernel) (pa_cons (pv 0) pa_nil)) (pa_cons (pe_op op_mul (pv 1) (pe_callTy call_int1 (by rfl) z_int (by decide +kernel) (pa_cons (pe_cmpR op_gt (pe_callB call_len_seq (by rfl) z_len (by decide +kernel) (pa_cons (pv 0) pa_nil)) pe_int (nomark _)) pa_nil))) pa_nil))))))), ?_⟩
    refine ⟨_, rfl, a, rfl, .inl ⟨_, hS, ?_⟩⟩
    refine for_it (walk_list (xs := ns.map V.int)) (fun i σ H' => ∃ (sd : Int) (x : Option V), σ = [some (.ref a), some (.int sd), x] ∧ H' = H ∧ 0 ≤ sd ∧ sd < 2147483647)
      ⟨0, none, rfl, rfl, by decide, by decide⟩ (fun i σ H' _ hp => by obtain ⟨_, _, _, rfl, _⟩ := hp; exact hS) (fun i x σ H1 H2 hi hp hy => ?_) (fun σ H1 hp => ?_)
    · obtain ⟨sd, x0, rfl, rfl, s0, s1⟩ := hp
      obtain ⟨rfl, hx⟩ := hy
      obtain ⟨n, hn, rfl⟩ : ∃ n, ns[i]? = some n ∧ V.int n = x := by rw [List.getElem?_map] at hx; simpa using hx
      refine ⟨_, rfl, _, _, rfl, rfl, .inl ⟨by omega, by omega⟩, _, rfl, _, _, rfl, rfl, .inr ⟨by decide, by decide⟩, _, _, rfl, rfl, _, _, rfl, rfl, _, _, rfl, rfl, (by show (0 : Int) < 2147483647; decide), ?_⟩
      exact ⟨_, _, rfl, rfl, Int.emod_nonneg _ (by decide), Int.emod_lt_of_pos _ (by decide)⟩
    · obtain ⟨sd, x0, rfl, rfl, s0, s1⟩ := hp
      refine ⟨.ref a, rfl, a, _, rfl, .inl hS, fun l nl => ?_⟩
      have sm : Same H1 (upd H1 l (.lst (ns.map V.int))) := same_new nl
      refine ⟨_, rfl, .ref a, rfl, a, _, rfl, .inl (sm.seq hS), _, _, rfl, rfl, .inr ⟨_, rfl, ?_⟩⟩
      refine ⟨_, _, rfl, rfl, .inl ⟨by omega, by omega⟩, by show 2 ≤ sizeLine; decide, fun b nb => ?_⟩
      refine q _ b l ⟨ns, _, upd_same, ?_, ?_, ?_, hlen⟩ (sm.trans (same_new nb))
      · rw [upd_ne (ne_of_none upd_same nb), upd_same]
      · split <;> omega
      · split <;> omega
/-! ### an order -/
abbrev st_law_order : Stmt := (topS 53)
abbrev nm_law_order : List Str := ["_law_box", "_law_cells", "_law_number", "_law_many", "_law_count", "_law_later"]
theorem sc_law_order : FnScope ["_law_box", "_law_cells", "_law_number", "_law_many", "_law_count", "_law_later"] ["_law_box", "_law_cells", "_law_number", "_law_many"] (defScope st_law_order) := ⟨rfl, rfl, rfl, by decide +kernel, rfl, by decide +kernel, by decide +kernel⟩
def spOrder : Sp := fun vs H Q _ => ∃ (b l : Addr) (cells at_ cnt : Nat), vs = [.ref b, nV cells, nV at_, nV cnt] ∧ Box H b l ∧ 1 ≤ cells ∧ cells ≤ 16 ∧ at_ < cnt ∧ cnt ≤ 4 ∧
  ∀ (H' : Hp) (a : Addr) (o : Ord), Box H' b l → But [b, l] H H' → H' a = some (.tup o.vs) → OrdOk o at_ cnt cells → Q (.ref a) H'
theorem ok_order {f : Addr} {fd : FuncData} (F : Fun K "_law_order" "_law_order" st_law_order f fd) (c_law_take : Callee P w K mg base "_law_take" 1 2 spTake) (z_min : mg "min" = none) :
    FnOk P w K mg base CX0 2 f fd ["_law_box", "_law_cells", "_law_number", "_law_many"] spOrder := by
  refine F.ok sc_law_order (fun vs H Q E h => ?_) (fun cdv A outer s H vs Q E hr h => ?_)
  · obtain ⟨b, l, cells, at_, cnt, rfl, _⟩ := h
    rfl
  · obtain ⟨b, l, cells, at_, cnt, rfl, hB, c1, c16, hat, h4, q⟩ := h
    refine ⟨_, (pss_cons (ps_set (i := 4) sc_law_order.nd rfl (Or.inl rfl) (pe_op op_add pe_int (pe_cal c_law_take hr (by first | decide | exact Nat.le_refl _) (pa_cons (pv 0) (pa_cons (pe_callB (call_min2 rfl) (by rfl) z_min (by decide +kernel) (pa_cons pe_int (pa_cons (pv 1) pa_nil))) pa_nil)))))
  (pss_cons (ps_set (i := 5) sc_law_order.nd rfl (Or.inl rfl) pe_non)
  (pss_cut (ps_if (PW.pt (pw_and (pt_cmpR op_lt (pe_op op_add (pv 2) pe_int) (pv 3) (nomark _)) (pw_and1 (pt_cmpR op_eq (pe_cal c_law_take hr (by first | decide | exact Nat.le_refl _) (pa_cons (pv 0) (pa_cons pe_int pa_nil))) pe_int (nomark _))))) (pss_one (ps_set (i := 5) sc_law_order.nd rfl (Or.inl rfl) (pe_op op_add (pe_op op_add (pv 2) pe_int) (pe_cal c_law_take hr (by first | decide | exact Nat.le_refl _) (pa_cons (pv 0) (pa_cons (pe_op op_sub (pe_op op_sub (pv 3) (pv 2)) pe_int) pa_nil)))))) pss_nil)
  (pss_one (ps_ret (pe_tup (pa_cons (pe_cal c_law_take hr (by first | decide | exact Nat.le_refl _) (pa_cons (pv 0) (pa_cons (pe_op op_add (pe_op op_sub (pv 1) (pv 4)) pe_int) pa_nil))) (pa_cons (pe_cal c_law_take hr (by first | decide | exact Nat.le_refl _) (pa_cons (pv 0) (pa_cons (pe_op op_add (pe_op op_sub (pv 1) (pv 4)) pe_int) pa_nil))) (pa_cons (pv 4) (pa_cons (pv 5) pa_nil)))))))))), ?_⟩
    -- count = 1 + take(box, min(8, cells))
    refine ⟨_, rfl, _, rfl, 8, cells, rfl, b, l, _, min 8 cells, rfl, (by split <;> omega), hB, by omega, by omega, fun H1 r hB1 bt1 hr1 => ?_⟩
    refine ⟨_, _, rfl, rfl, ?_⟩
    -- later
    refine ⟨fun σ' H' => ∃ lt : Option Nat, σ' = [some (.ref b), some (nV cells), some (nV at_), some (nV cnt), some (.int (1 + (r : Int))), some (oV lt)] ∧ Box H' b l ∧ But [b, l] H H' ∧ ∀ k, lt = some k → at_ < k ∧ k < cnt, ?_, fun σ' H' hM => ?_⟩
    · refine ⟨_, rfl, _, _, rfl, rfl, _, rfl, _, _, rfl, rfl, _, rfl, ite2 (fun e => ?_) (fun e => iteF ⟨none, rfl, hB1, bt1, fun k z => nomatch z⟩)⟩
      have e' : at_ + 1 < cnt := by have := of_decide_eq_true e; omega
      refine ⟨_, rfl, b, l, _, 2, rfl, rfl, hB1, by decide, by decide, fun H2 r2 hB2 bt2 hr2 => ?_⟩
      refine ⟨rfl, _, rfl, ite2 (fun e2 => ?_) (fun e2 => ⟨none, rfl, hB2, bt1.trans bt2, fun k z => nomatch z⟩)⟩
      refine ⟨_, rfl, _, _, rfl, rfl, _, rfl, _, rfl, _, rfl, _, _, rfl, rfl, _, _, rfl, rfl, b, l, _, cnt - at_ - 1, rfl, by omega, hB2, by omega, by omega, fun H3 r3 hB3 bt3 hr3 => ?_⟩
      refine ⟨_, _, rfl, rfl, some (at_ + 1 + r3), ?_, hB3, (bt1.trans bt2).trans bt3, fun k z => by cases z; omega⟩
      show _ = [some (.ref b), some (nV cells), some (nV at_), some (nV cnt), some (.int (1 + (r : Int))), some (nV (at_ + 1 + r3))]
      rw [show nV (at_ + 1 + r3) = .int ((at_ : Int) + 1 + (r3 : Int)) by simp [nV]]
      rfl
    · obtain ⟨lt, rfl, hB2, bt2, hlt⟩ := hM
      -- return (take(..), take(..), count, later)
      refine ⟨_, rfl, _, rfl, _, rfl, _, _, rfl, rfl, _, _, rfl, rfl, b, l, _, cells - (1 + r) + 1, rfl, by omega, hB2, by omega, by omega, fun H3 r3 hB3 bt3 hr3 => ?_⟩
      refine ⟨_, rfl, _, rfl, _, rfl, _, _, rfl, rfl, _, _, rfl, rfl, b, l, _, cells - (1 + r) + 1, rfl, by omega, hB3, by omega, by omega, fun H4 r4 hB4 bt4 hr4 => ?_⟩
      refine ⟨_, rfl, _, rfl, by show 4 ≤ sizeLine; decide, fun p np => ?_⟩
      have sm := same_new (o := .tup [nV r3, nV r4, .int (1 + (r : Int)), oV lt]) np
      refine q _ p ⟨r3, r4, 1 + r, lt⟩ (hB4.same sm) (((bt2.trans bt3).trans bt4).trans (Same.but sm)) ?_ ⟨?_, ?_, ?_, ?_, hlt⟩
      · rw [upd_same]
        show _ = some (HO.tup [nV r3, nV r4, nV (1 + r), oV lt])
        rw [show nV (1 + r) = .int (1 + (r : Int)) by simp [nV]]
      all_goals (dsimp only; omega)
end
end Vt
namespace Vt
open PySem PySem.Spec PyProof.Rows L2
theorem But.newset {B : List Addr} {H H' : Hp} {p : Addr} {o : HO} (n : H p = none) (h : But B H H') : But B H (upd H' p o) := fun c u m e => by
  rw [upd_ne (ne_of_none e n)]; exact h c u m e
theorem But.box {H : Hp} {b l p : Addr} {o : HO} (h : Box H b l) (n1 : p ≠ b) (n2 : p ≠ l) : Box (upd H p o) b l := by
  obtain ⟨ns, s, h1, h2, h3⟩ := h
  exact ⟨ns, s, by rw [upd_ne n1.symm]; exact h1, by rw [upd_ne n2.symm]; exact h2, h3⟩
def allWords : List Str := ["set", "add", "say", "start", "wait", "clean", "drop"]
section
variable {P : Program} {w : World} {K : PySem.W.Frag} {mg : Str → Option Value} {base : Heap}
abbrev st_law_deed : Stmt := (topS 54)
abbrev nm_law_deed : List Str := ["_law_box", "_law_cells", "_law_orders", "_law_kinds_here", "_law_word", "_law_cell"]
theorem sc_law_deed : FnScope ["_law_box", "_law_cells", "_law_orders", "_law_kinds_here", "_law_word", "_law_cell"] ["_law_box", "_law_cells", "_law_orders", "_law_kinds_here"] (defScope st_law_deed) := ⟨rfl, rfl, rfl, by decide +kernel, rfl, by decide +kernel, by decide +kernel⟩
def spDeed : Sp := fun vs H Q _ => ∃ (b l kl : Addr) (cells cnt : Nat) (ws : List Str), vs = [.ref b, nV cells, nV cnt, .ref kl] ∧ Box H b l ∧ 4 ≤ cells ∧ cells ≤ 16 ∧ 1 ≤ cnt ∧ cnt ≤ 4 ∧
  H kl = some (.lst (ws.map V.str)) ∧ ws ≠ [] ∧ ws.length ≤ 100 ∧ (∀ x ∈ ws, x ∈ allWords) ∧
  ∀ (H' : Hp) (a : Addr) (d : Deed), Box H' b l → But [b, l] H H' → H' a = some (.tup d.vs) → DeedOk d cnt cells → d.word ∈ ws → Q (.ref a) H'
theorem ok_deed {f : Addr} {fd : FuncData} (F : Fun K "_law_deed" "_law_deed" st_law_deed f fd) (c_law_take : Callee P w K mg base "_law_take" 1 2 spTake) (z_len : mg "len" = none) (z_int : mg "int" = none) :
    FnOk P w K mg base CX0 2 f fd ["_law_box", "_law_cells", "_law_orders", "_law_kinds_here"] spDeed := by
  refine F.ok sc_law_deed (fun vs H Q E h => ?_) (fun cdv A outer s H vs Q E hr h => ?_)
  · obtain ⟨b, l, kl, cells, cnt, ws, rfl, _⟩ := h
    rfl
  · obtain ⟨b, l, kl, cells, cnt, ws, rfl, hB, c4, c16, n1, n4, hk, hne, hlen, hws, q⟩ := h
    have hpos : 0 < ws.length := List.length_pos_iff.mpr hne
    have kb : kl ≠ b := by
      obtain ⟨ns, sd, e1, _⟩ := hB
      refine ne_of hk e1 fun z => ?_
      cases ws with
      | nil => exact hne rfl
      | cons x r => cases z
    have kl' : kl ≠ l := by
      obtain ⟨ns, sd, _, e2, _⟩ := hB
      refine ne_of hk e2 fun z => ?_
      cases ws with
      | nil => exact hne rfl
      | cons x r => cases ns with
        | nil => cases z
        | cons y t => cases z
    refine ⟨_, (pss_cons (ps_set (i := 4) sc_law_deed.nd rfl (Or.inl rfl) (pe_ix ix_lt (pv 3) (pe_cal c_law_take hr (by first | decide | exact Nat.le_refl _) (pa_cons (pv 0) (pa_cons (pe_callB call_len_seq (by rfl) z_len (by decide +kernel) (pa_cons (pv 3) pa_nil)) pa_nil))) (fun _ _ => rfl)))
  (pss_cons (ps_if (pt_cmpR op_eq (pv 4) pe_str (nomark _)) (pss_one (ps_ret (pe_tup (pa_cons (pv 4) pa_nil)))) pss_nil)
  (pss_cons (ps_if (pt_cmpR op_in_seq (pv 4) (pe_tup (pa_cons pe_str (pa_cons pe_str pa_nil))) (by rfl)) (pss_one (ps_ret (pe_tup (pa_cons (pv 4) (pa_cons (pe_cal c_law_take hr (by first | decide | exact Nat.le_refl _) (pa_cons (pv 0) (pa_cons (pe_op op_fdiv (pv 1) pe_int) pa_nil))) pa_nil))))) pss_nil)
  (pss_cons (ps_if (pt_cmpR op_eq (pv 4) pe_str (nomark _)) (pss_one (ps_ret (pe_tup (pa_cons (pv 4) (pa_cons (pe_cal c_law_take hr (by first | decide | exact Nat.le_refl _) (pa_cons (pv 0) (pa_cons (pv 2) pa_nil))) pa_nil))))) pss_nil)
  (pss_cons (ps_set (i := 5) sc_law_deed.nd rfl (Or.inl rfl) (pe_cal c_law_take hr (by first | decide | exact Nat.le_refl _) (pa_cons (pv 0) (pa_cons (pv 1) pa_nil))))
  (pss_cons (ps_if (pt_cmpR op_eq (pv 4) pe_str (nomark _)) (pss_one (ps_ret (pe_tup (pa_cons (pv 4) (pa_cons (pv 5) pa_nil))))) pss_nil)
  (pss_one (ps_ret (pe_tup (pa_cons (pv 4) (pa_cons (pv 5) (pa_cons (pe_cal c_law_take hr (by first | decide | exact Nat.le_refl _) (pa_cons (pv 0) (pa_cons (pe_ix ix_lt (pe_lst (pa_cons pe_int (pa_cons (pv 1) pa_nil))) (pe_callTy call_int1 (by rfl) z_int (by decide +kernel) (pa_cons (pe_cmpR op_eq (pv 4) pe_str (nomark _)) pa_nil)) (fun _ _ => rfl)) pa_nil))) pa_nil)))))))))))), ?_⟩
    refine ⟨_, rfl, _, rfl, _, rfl, _, _, rfl, .inl (sqL_l hk), b, l, _, ws.length, rfl, by simp, hB, hpos, by omega, fun H1 r hB1 bt1 hr1 => ?_⟩
    have hk1 : H1 kl = some (.lst (ws.map V.str)) := bt1 _ _ (by simp [kb, kl']) hk
    have hx : (ws.map V.str)[r]? = some (.str ws[r]) := by rw [List.getElem?_map, List.getElem?_eq_getElem hr1]; rfl
    have hmem : ws[r] ∈ ws := List.getElem_mem hr1
    have hall := hws _ hmem
    generalize ws[r] = wd at hx hmem hall
    refine ⟨kl, _, (r : Int), .str wd, rfl, rfl, sqA_l hk1, atI_nat hx, ?_⟩
    -- if word == "wait"
    refine ⟨_, rfl, rfl, _, rfl, ite2 (fun e => ?_) (fun e1 => ?_)⟩
    · cases of_decide_eq_true e
      refine ⟨_, rfl, by show 1 ≤ sizeLine; decide, fun p np => ?_⟩
      exact q _ p .wait (hB1.same (same_new np)) (bt1.trans (Same.but (same_new np))) upd_same trivial hmem
    -- if word in ("clean", "drop")
    refine ⟨_, rfl, by show 2 ≤ sizeLine; decide, fun p np => ?_⟩
    have hB2 := hB1.same (same_new (o := .tup [.str "clean", .str "drop"]) np)
    have bt2 := bt1.trans (Same.but (same_new (o := .tup [.str "clean", .str "drop"]) np))
    refine ⟨p, _, rfl, .inr (sqT_t upd_same), rfl, rfl, _, rfl, ite2 (fun e => ?_) (fun e2 => ?_)⟩
    · refine ⟨_, rfl, _, rfl, _, rfl, _, _, rfl, rfl, ⟨by decide, by decide⟩, b, l, _, cells / 4, rfl, by simp, hB2, by omega, by omega, fun H3 r3 hB3 bt3 hr3 => ?_⟩
      refine ⟨by show 2 ≤ sizeLine; decide, fun p2 np2 => ?_⟩
      have e' : (Str.ofString "clean") = wd ∨ (Str.ofString "drop") = wd := by
        simp only [inV, eqV, List.any_cons, List.any_nil, Bool.or_false, Bool.or_eq_true] at e
        simpa using e
      rcases e' with rfl | rfl
      · exact q _ p2 (.clean r3) (hB3.same (same_new np2)) ((bt2.trans bt3).trans (Same.but (same_new np2))) upd_same hr3 hmem
      · exact q _ p2 (.drop r3) (hB3.same (same_new np2)) ((bt2.trans bt3).trans (Same.but (same_new np2))) upd_same hr3 hmem
    -- if word == "start"
    refine ⟨_, rfl, rfl, _, rfl, ite2 (fun e => ?_) (fun e3 => ?_)⟩
    · cases of_decide_eq_true e
      refine ⟨_, rfl, _, rfl, _, rfl, b, l, _, cnt, rfl, rfl, hB2, by omega, by omega, fun H3 r3 hB3 bt3 hr3 => ?_⟩
      refine ⟨by show 2 ≤ sizeLine; decide, fun p2 np2 => ?_⟩
      exact q _ p2 (.start r3) (hB3.same (same_new np2)) ((bt2.trans bt3).trans (Same.but (same_new np2))) upd_same hr3 hmem
    refine ⟨_, rfl, _, rfl, b, l, _, cells, rfl, rfl, hB2, by omega, by omega, fun H3 r3 hB3 bt3 hr3 => ?_⟩
    -- if word == "say"
    refine ⟨_, rfl, rfl, _, rfl, ite2 (fun e => ?_) (fun e4 => ?_)⟩
    · cases of_decide_eq_true e
      refine ⟨_, rfl, _, rfl, by show 2 ≤ sizeLine; decide, fun p2 np2 => ?_⟩
      exact q _ p2 (.say r3) (hB3.same (same_new np2)) ((bt2.trans bt3).trans (Same.but (same_new np2))) upd_same hr3 hmem
    have hsa : wd = "set" ∨ wd = "add" := by
      have f1 : ¬ wd = "wait" := fun z => e1 (by rw [z]; exact decide_eq_true rfl)
      have f3 : ¬ wd = "start" := fun z => e3 (by rw [z]; exact decide_eq_true rfl)
      have f4 : ¬ wd = "say" := fun z => e4 (by rw [z]; exact decide_eq_true rfl)
      have f2 : ¬ (wd = "clean" ∨ wd = "drop") := fun z => e2 (by rcases z with rfl | rfl <;> decide)
      simp only [allWords, List.mem_cons, List.not_mem_nil, or_false] at hall
      rcases hall with h | h | h | h | h | h | h
      · exact .inl h
      · exact .inr h
      · exact absurd h f4
      · exact absurd h f3
      · exact absurd h f1
      · exact absurd (.inl h) f2
      · exact absurd (.inr h) f2
    refine ⟨_, rfl, _, rfl, _, rfl, _, rfl, by show 2 ≤ sizeLine; decide, fun p2 np2 => ?_⟩
    have hB4 := hB3.same (same_new (o := .lst [.int 10, nV cells]) np2)
    have bt4 := (bt2.trans bt3).trans (Same.but (same_new (o := .lst [.int 10, nV cells]) np2))
    refine ⟨_, rfl, rfl, .inr ⟨_, rfl, ?_⟩⟩
    rcases hsa with rfl | rfl
    · refine ⟨p2, [.int 10, nV cells], 0, .int 10, rfl, (by decide), sqA_l upd_same, rfl, b, l, _, 10, rfl, rfl, hB4, by decide, by decide, fun H5 r5 hB5 bt5 hr5 => ?_⟩
      refine ⟨by show 3 ≤ sizeLine; decide, fun p3 np3 => ?_⟩
      exact q _ p3 (.set r3 r5) (hB5.same (same_new np3)) ((bt4.trans bt5).trans (Same.but (same_new np3))) upd_same ⟨hr3, hr5⟩ hmem
    · refine ⟨p2, [.int 10, nV cells], 1, nV cells, rfl, (by decide), sqA_l upd_same, rfl, b, l, _, cells, rfl, rfl, hB4, by omega, by omega, fun H5 r5 hB5 bt5 hr5 => ?_⟩
      refine ⟨by show 3 ≤ sizeLine; decide, fun p3 np3 => ?_⟩
      exact q _ p3 (.add r3 r5) (hB5.same (same_new np3)) ((bt4.trans bt5).trans (Same.but (same_new np3))) upd_same ⟨hr3, hr5⟩ hmem
end
end Vt
namespace Vt
open PySem PySem.Spec PyProof.Rows L2
theorem nV_add (a b : Nat) : (V.int ((a : Int) + (b : Int))) = nV (a + b) := by simp [nV]
theorem filter_app {α : Type} (p : α → Bool) (xs : List α) (x : α) : ((xs ++ [x]).filter p).length = (xs.filter p).length + (if p x then 1 else 0) := by
  rw [List.filter_append, List.length_append]
  congr 1
  cases h : p x <;> simp [h]
theorem word_start (d : Deed) : (d.word = "start") ↔ isStart d = true := by
  cases d <;> simp [Deed.word, isStart] <;> decide
section
variable {P : Program} {w : World} {K : PySem.W.Frag} {mg : Str → Option Value} {base : Heap}
abbrev st_law_board : Stmt := (topS 55)
abbrev nm_law_board : List Str := ["_law_box", "_law_lines", "_law_deeds", "_law_kinds_here", "_law_cells", "_law_memory", "_law_cell", "_law_many", "_law_orders", "_law_number", "_law_program", "_law_turn", "_law_deed_here", "_law_one"]
theorem sc_law_board : FnScope ["_law_box", "_law_lines", "_law_deeds", "_law_kinds_here", "_law_cells", "_law_memory", "_law_cell", "_law_many", "_law_orders", "_law_number", "_law_program", "_law_turn", "_law_deed_here", "_law_one"] ["_law_box", "_law_lines", "_law_deeds", "_law_kinds_here"] (defScope st_law_board) := ⟨rfl, rfl, rfl, by decide +kernel, rfl, by decide +kernel, by decide +kernel⟩
def spBoard : Sp := fun vs H Q _ => ∃ (b l kl : Addr) (lines deeds : Nat) (ws : List Str), vs = [.ref b, nV lines, nV deeds, .ref kl] ∧ Box H b l ∧ 1 ≤ lines ∧ lines ≤ 4 ∧ deeds ≤ 60 ∧
  H kl = some (.lst (ws.map V.str)) ∧ ws ≠ [] ∧ ws.length ≤ 100 ∧ (∀ x ∈ ws, x ∈ allWords) ∧
  ∀ (H' : Hp) (v : V) (B : Brd), Box H' b l → But [b, l] H H' → Pd H' v B.d → BrdOk B → B.mem.length ≤ 4 * lines → B.prog.length ≤ deeds → 1 ≤ B.ords.length → (∀ d ∈ B.prog, d.word ∈ ws ∨ d.word = "say") → Q v H'
theorem ok_board {f : Addr} {fd : FuncData} (F : Fun K "_law_board" "_law_board" st_law_board f fd) (c_law_take : Callee P w K mg base "_law_take" 1 2 spTake) (c_law_order : Callee P w K mg base "_law_order" 2 4 spOrder) (c_law_deed : Callee P w K mg base "_law_deed" 2 4 spDeed)
    (z_len : mg "len" = none) (z_tuple : mg "tuple" = none) (z_range : mg "range" = none) : FnOk P w K mg base CX0 3 f fd ["_law_box", "_law_lines", "_law_deeds", "_law_kinds_here"] spBoard := by
  refine F.ok sc_law_board (fun vs H Q E h => ?_) (fun cdv A outer s H vs Q E hr h => ?_)
  · obtain ⟨b, l, kl, lines, deeds, ws, rfl, _⟩ := h
    rfl
  · obtain ⟨b, l, kl, lines, deeds, ws, rfl, hB, l1, l4, d60, hk, hne, hlen, hws, q⟩ := h
    have kb : kl ≠ b := by
      obtain ⟨ns, sd, e1, _⟩ := hB
      refine ne_of hk e1 fun z => ?_
      cases ws with
      | nil => exact hne rfl
      | cons x r => cases z
    have kl' : kl ≠ l := by
      obtain ⟨ns, sd, _, e2, _⟩ := hB
      refine ne_of hk e2 fun z => ?_
      cases ws with
      | nil => exact hne rfl
      | cons x r => cases ns with
        | nil => cases z
        | cons y t => cases z
    have hknot : kl ∉ [b, l] := by simp [kb, kl']
    have nonb : ∀ p, H p = none → p ≠ b ∧ p ≠ l := fun p np => by
      obtain ⟨ns, sd, e1, e2, _⟩ := hB
      exact ⟨(ne_of_none e1 np).symm, (ne_of_none e2 np).symm⟩
    refine ⟨_, (pss_cons (ps_set (i := 4) sc_law_board.nd rfl (Or.inr rfl) (pe_op op_mul pe_int (pe_op op_add pe_int (pe_cal c_law_take hr (by first | decide | exact Nat.le_refl _) (pa_cons (pv 0) (pa_cons (pv 1) pa_nil))))))
  (pss_cons (ps_set (i := 5) sc_law_board.nd rfl (Or.inl rfl) (pe_callTy call_tuple_of (by rfl) z_tuple (by decide +kernel) (pa_cons (pe_lc (own := [("_law_cell", 6)]) rfl sc_law_board.nd (pi_range1 (by rfl) z_range (pa_cons (pv 4) pa_nil)) (blkOk_by (own := [("_law_cell", 6)]) (N := nm_law_board) (sc := defScope (topS 55)) (by decide +kernel)) (fun _ _ _ _ _ => (pg_name (i := 6) sc_law_board.nd rfl (Or.inl rfl))) (fun _ _ _ _ _ => pts_nil) (fun _ _ _ _ _ => (pe_cal c_law_take hr (by first | decide | exact Nat.le_refl _) (pa_cons (pv 0) (pa_cons pe_int pa_nil))))) pa_nil)))
  (pss_cons (ps_set (i := 7) sc_law_board.nd rfl (Or.inr rfl) (pe_op op_add pe_int (pe_cal c_law_take hr (by first | decide | exact Nat.le_refl _) (pa_cons (pv 0) (pa_cons pe_int pa_nil)))))
  (pss_cons (ps_set (i := 8) sc_law_board.nd rfl (Or.inl rfl) (pe_callTy call_tuple_of (by rfl) z_tuple (by decide +kernel) (pa_cons (pe_lc (own := [("_law_number", 9)]) rfl sc_law_board.nd (pi_range1 (by rfl) z_range (pa_cons (pv 7) pa_nil)) (blkOk_by (own := [("_law_number", 9)]) (N := nm_law_board) (sc := defScope (topS 55)) (by decide +kernel)) (fun _ _ _ _ _ => (pg_name (i := 9) sc_law_board.nd rfl (Or.inl rfl))) (fun _ _ _ _ _ => pts_nil) (fun _ _ _ _ _ => (pe_cal c_law_order hr (by first | decide | exact Nat.le_refl _) (pa_cons (pv 0) (pa_cons (pv 4) (pa_cons (pv 9) (pa_cons (pv 7) pa_nil))))))) pa_nil)))
  (pss_cons (ps_set (i := 10) sc_law_board.nd rfl (Or.inl rfl) (pe_lst pa_nil))
  (pss_cons (ps_for PassesOwn.never rfl (pi_range1 (by rfl) z_range (pa_cons (pe_cal c_law_take hr (by first | decide | exact Nat.le_refl _) (pa_cons (pv 0) (pa_cons (pe_op op_add (pv 2) pe_int) pa_nil))) pa_nil)) (pg_name (i := 11) sc_law_board.nd rfl (Or.inl rfl))
  (pss_cons (ps_set (i := 12) sc_law_board.nd rfl (Or.inl rfl) (pe_cal c_law_deed hr (by first | decide | exact Nat.le_refl _) (pa_cons (pv 0) (pa_cons (pv 4) (pa_cons (pv 7) (pa_cons (pv 3) pa_nil))))))
  (pss_cut (ps_if (PW.pt (pw_and (pt_cmpR op_eq (pe_ix ix_lt (pv 12) pe_int (fun _ _ => rfl)) pe_str (nomark _)) (pw_and1 (pt_cmpR op_eq (pe_callB call_len_seq (by rfl) z_len (by decide +kernel) (pa_cons (pe_lc (own := [("_law_one", 13)]) rfl sc_law_board.nd (pi_lt (pv 10)) (blkOk_by (own := [("_law_one", 13)]) (N := nm_law_board) (sc := defScope (topS 55)) (by decide +kernel)) (fun _ _ _ _ _ => (pg_name (i := 13) sc_law_board.nd rfl (Or.inl rfl))) (fun _ _ _ _ _ => (pts_one (pt_cmpR op_eq (pe_ix (ix_ltk K) (pv 13) pe_int (fun _ _ => rfl)) pe_str (nomark _)))) (fun _ _ _ _ _ => (pv 13))) pa_nil)) pe_int (nomark _))))) (pss_one (ps_set (i := 12) sc_law_board.nd rfl (Or.inl rfl) (pe_tup (pa_cons pe_str (pa_cons (pe_cal c_law_take hr (by first | decide | exact Nat.le_refl _) (pa_cons (pv 0) (pa_cons (pv 4) pa_nil))) pa_nil))))) pss_nil)
  (pss_one (ps_expr (pe_bm PySem.F.plainAttrs_list PySem.F.slot_list_append PySem.F.type_list_append mt_append (pv 10) (pa_cons (pv 12) pa_nil)))))))
  (pss_one (ps_ret (pe_tup (pa_cons (pv 5) (pa_cons (pv 8) (pa_cons (pe_callTy call_tuple_of (by rfl) z_tuple (by decide +kernel) (pa_cons (pv 10) pa_nil)) pa_nil)))))))))))), ?_⟩
    -- cells = 4 * (1 + take(box, lines))
    refine ⟨_, rfl, _, rfl, b, l, _, lines, rfl, rfl, hB, by omega, by omega, fun H1 r1 hB1 bt1 hr1 => ?_⟩
    refine ⟨_, _, rfl, rfl, _, _, rfl, rfl, .inl ⟨by decide, by decide⟩, ?_⟩
    have ec : (4 : Int) * (1 + (r1 : Int)) = ((4 * (1 + r1) : Nat) : Int) := by omega
    refine chgN (y := nV (4 * (1 + r1))) (congrArg V.int ec) ?_
    generalize hc : 4 * (1 + r1) = cells
    have c16 : cells ≤ 16 := by omega
    have cN : cells = 4 ∨ cells = 8 ∨ cells = 12 ∨ cells = 16 := by omega
    -- memory
    refine ⟨_, rfl, _, rfl, by omega, by omega, fun D1 nD1 => ?_⟩
    refine lc_it (walk_range (lo := 0) (n := (cells : Int).toNat)) (fun i H' => ∃ ns : List Nat, ns.length = i ∧ (∀ n ∈ ns, n < 10) ∧ H' D1 = some (.lst (ns.map nV)) ∧ Box H' b l ∧ But [b, l] H1 H')
      ⟨[], rfl, by simp, upd_same, hB1.same (same_new nD1), Same.but (same_new nD1)⟩ (fun _ _ _ _ => trivial) (fun i x H2 H3 hi hp hy => ?_) (fun H2 hp => ?_)
    · obtain ⟨ns, e1, e2, e3, hB2, bt2⟩ := hp
      obtain ⟨rfl, rfl⟩ := hy
      refine ⟨rfl, ?_⟩
      refine ⟨_, rfl, b, l, _, 10, rfl, rfl, hB2, by decide, by decide, fun H4 r hB4 bt4 hr => ?_⟩
      have nD : D1 ≠ b ∧ D1 ≠ l := by
        obtain ⟨ns', sd, f1, f2, _⟩ := hB1
        exact ⟨(ne_of_none f1 nD1).symm, (ne_of_none f2 nD1).symm⟩
      have e3' := bt4 _ _ (by simp [nD.1, nD.2]) e3
      refine ⟨_, e3', by rw [List.length_map]; exact fits (by omega), ns ++ [r], by simp [e1], fun n hn => ?_, by rw [upd_same, List.map_append]; rfl, But.box hB4 nD.1 nD.2, But.newset nD1 (bt2.trans bt4)⟩
      rcases List.mem_append.mp hn with h | h
      · exact e2 n h
      · rw [List.mem_singleton.mp h]; exact hr
    obtain ⟨mem, m1, m2, m3, hB2, bt2⟩ := hp
    refine ⟨D1, _, rfl, .inl ⟨sqL_l m3, fun M nM => ?_⟩⟩
    have hM : (upd H2 M (.tup (mem.map nV))) M = some (.tup (mem.map nV)) := upd_same
    have hB3 := hB2.same (same_new (o := .tup (mem.map nV)) nM)
    have bt3 := (bt1.trans bt2).trans (Same.but (same_new (o := .tup (mem.map nV)) nM))
    have mlen : mem.length = cells := by omega
    generalize upd H2 M (.tup (mem.map nV)) = H3 at hM hB3 bt3
    -- many = 1 + take(box, 4)
    refine ⟨_, rfl, b, l, _, 4, rfl, rfl, hB3, by decide, by decide, fun H4 r4 hB4 bt4 hr4 => ?_⟩
    refine ⟨_, _, rfl, rfl, ?_⟩
    refine chgN (y := nV (1 + r4)) (congrArg V.int (by omega)) ?_
    generalize hcnt : 1 + r4 = cnt
    have nMb : M ∉ [b, l] := fun m => by
      obtain ⟨ys, e⟩ := hB3.lsts _ m
      rw [hM] at e; cases e
    have hM4 := bt4 _ _ nMb hM
    -- orders
    refine ⟨_, rfl, _, rfl, by omega, by omega, fun D2 nD2 => ?_⟩
    have nD2' : D2 ≠ b ∧ D2 ≠ l := by
      obtain ⟨ns', sd, f1, f2, _⟩ := hB4
      exact ⟨(ne_of_none f1 nD2).symm, (ne_of_none f2 nD2).symm⟩
    refine lc_it (walk_range (lo := 0) (n := (cnt : Int).toNat)) (fun i H' => ∃ (os : List Ord) (vs : List V), os.length = i ∧ (∀ (j : Nat) (o : Ord), os[j]? = some o → OrdOk o j cnt cells) ∧ Pds H' vs (os.map Ord.d) ∧ H' D2 = some (.lst vs) ∧ Box H' b l ∧ But [b, l] H4 H')
      ⟨[], [], rfl, by simp, .nil, upd_same, hB4.same (same_new nD2), Same.but (same_new nD2)⟩ (fun _ _ _ _ => trivial) (fun i x H5 H6 hi hp hy => ?_) (fun H5 hp => ?_)
    · obtain ⟨os, vs, e1, e2, e3, e4, hB5, bt5⟩ := hp
      obtain ⟨rfl, rfl⟩ := hy
      refine ⟨rfl, ?_⟩
      refine ⟨_, rfl, _, rfl, _, rfl, _, rfl, b, l, cells, i, cnt, by simp [nV], hB5, by omega, c16, by omega, by omega, fun H7 a o hB7 bt7 ha ho => ?_⟩
      have e4' := bt7 _ _ (by simp [nD2'.1, nD2'.2]) e4
      have hs5 : Pds H7 vs (os.map Ord.d) := Pds.but bt7 hB5.lsts (noLs_map noL_ord _) e3
      have aD : a ≠ D2 := fun z => by rw [z, e4'] at ha; cases ha
      have lsD : Lsts H7 [D2] := fun c hc => ⟨vs, by rw [List.mem_singleton.mp hc]; exact e4'⟩
      have stepB : But [D2] H7 (upd H7 D2 (.lst (vs ++ [.ref a]))) := But.set (by simp)
      have vlen := e3.len
      refine ⟨_, e4', by rw [vlen, List.length_map]; exact fits (by omega), os ++ [o], vs ++ [.ref a], by simp [e1], fun j o' hj => ?_, ?_, upd_same, But.box hB7 nD2'.1 nD2'.2, But.newset nD2 (bt5.trans bt7)⟩
      · rcases Nat.lt_or_ge j os.length with h | h
        · rw [List.getElem?_append_left h] at hj
          exact e2 j o' hj
        · rw [List.getElem?_append_right h] at hj
          have : j - os.length = 0 := by
            have := (List.getElem?_eq_some_iff.mp hj).1
            simp at this; omega
          rw [this] at hj
          cases hj
          have ej : j = i := by omega
          rw [ej]; exact ho
      · rw [List.map_append]
        exact (Pds.but stepB lsD (noLs_map noL_ord _) hs5).app (.cons (Ord.pd (by rw [upd_ne aD]; exact ha)) .nil)
    obtain ⟨os, ovs, o1, o2, o3, o4, hB5, bt5⟩ := hp
    refine ⟨D2, _, rfl, .inl ⟨sqL_l o4, fun O nO => ?_⟩⟩
    have hM5 := bt5 _ _ nMb hM4
    have sO : Same H5 (upd H5 O (.tup ovs)) := same_new nO
    have hO : (upd H5 O (.tup ovs)) O = some (.tup ovs) := upd_same
    have hOs := Pds.same sO o3
    have hM6 := sO _ _ hM5
    have hB6 := hB5.same sO
    have bt6 := ((bt3.trans bt4).trans bt5).trans (Same.but sO)
    have olen : os.length = cnt := by omega
    generalize upd H5 O (.tup ovs) = H6 at hO hOs hM6 hB6 bt6 sO
    have nOb : O ∉ [b, l] := fun m => by
      obtain ⟨ys, e⟩ := hB6.lsts _ m
      rw [hO] at e; cases e
    -- program = []
    refine ⟨Nat.zero_le _, fun pl npl => ?_⟩
    have hB7 := hB6.same (same_new (o := .lst []) npl)
    have npl' : pl ≠ b ∧ pl ≠ l := by
      obtain ⟨ns', sd, f1, f2, _⟩ := hB6
      exact ⟨(ne_of_none f1 npl).symm, (ne_of_none f2 npl).symm⟩
    -- for turn in range(take(box, deeds + 1))
    refine ⟨_, rfl, _, rfl, _, _, rfl, rfl, b, l, _, deeds + 1, rfl, by omega, hB7, by omega, by omega, fun H8 r8 hB8 bt8 hr8 => ?_⟩
    refine ⟨_, rfl, by omega, by omega, ?_⟩
    have hpl8 : H8 pl = some (.lst []) := bt8 _ _ (by simp [npl'.1, npl'.2]) upd_same
    have btx : But [b, l] H6 H8 := (Same.but (same_new npl)).trans bt8
    refine for_it (walk_range (lo := 0) (n := (r8 : Int).toNat)) (fun i σ H' => ∃ (ds : List Deed) (vs : List V) (y1 y2 : Option V), σ = [some (.ref b), some (nV lines), some (nV deeds), some (.ref kl), some (nV cells), some (.ref M), none, some (nV cnt), some (.ref O), none, some (.ref pl), y1, y2, none] ∧
        ds.length = i ∧ (∀ d ∈ ds, DeedOk d cnt cells ∧ (d.word ∈ ws ∨ d.word = "say")) ∧ (ds.filter isStart).length ≤ 3 ∧ Pds H' vs (ds.map Deed.d) ∧ H' pl = some (.lst vs) ∧ Box H' b l ∧ But [b, l] H6 H')
      ⟨[], [], _, _, rfl, rfl, by simp, by simp, .nil, hpl8, hB8, btx⟩ (fun _ _ _ _ _ => trivial) (fun i x σ H9 H10 hi hp hy => ?_) (fun σ H9 hp => ?_)
    · obtain ⟨ds, vs, y1, y2, rfl, e1, e2, e3, e4, e5, hB9, bt9⟩ := hp
      obtain ⟨rfl, rfl⟩ := hy
      have hk9 := (bt6.trans bt9) _ _ hknot hk
      refine ⟨_, rfl, _, rfl, _, rfl, _, rfl, b, l, kl, cells, cnt, ws, rfl, hB9, by omega, c16, by omega, by omega, hk9, hne, hlen, hws, fun H11 a d hB11 bt11 ha hd hw => ?_⟩
      have e5' := bt11 _ _ (by simp [npl'.1, npl'.2]) e5
      have e4' : Pds H11 vs (ds.map Deed.d) := Pds.but bt11 hB9.lsts (noLs_map noL_deed _) e4
      -- if deed[0] == "start" and len([..]) == 3
      refine ⟨fun σ' H' => ∃ (a' : Addr) (d' : Deed), σ' = [some (.ref b), some (nV lines), some (nV deeds), some (.ref kl), some (nV cells), some (.ref M), none, some (nV cnt), some (.ref O), none, some (.ref pl), some (.int (0 + (i : Int))), some (.ref a'), none] ∧
          H' a' = some (.tup d'.vs) ∧ DeedOk d' cnt cells ∧ (d'.word ∈ ws ∨ d'.word = "say") ∧ ((ds ++ [d']).filter isStart).length ≤ 3 ∧ Pds H' vs (ds.map Deed.d) ∧ H' pl = some (.lst vs) ∧ Box H' b l ∧ But [b, l] H6 H', ?_, fun σ' H' hM => ?_⟩
      · refine ⟨_, rfl, a, _, 0, .str d.word, rfl, rfl, sqA_t ha, at0, rfl, _, rfl, ite2 (fun e => ?_) (fun e => iteF ?_)⟩
        · have ew : d.word = "start" := by injection of_decide_eq_true e
          have es : isStart d = true := (word_start d).mp ew
          -- the comprehension
          refine ⟨_, rfl, pl, rfl, .inl ⟨_, sqL_l e5', fun D3 nD3 => ?_⟩⟩
          have plD : pl ≠ D3 := ne_of_none e5' nD3
          refine lc_it (walk_list (xs := vs)) (fun j H' => ∃ acc : List V, acc.length = ((ds.take j).filter isStart).length ∧ H' D3 = some (.lst acc) ∧ Same H11 H')
            ⟨[], rfl, upd_same, same_new nD3⟩ (fun j H' _ hp => by obtain ⟨_, _, _, sm⟩ := hp; exact sqL_l (sm _ _ e5')) (fun j x H12 H13 hj hp hy => ?_) (fun H12 hp => ?_)
          · obtain ⟨acc, a1, a2, sm⟩ := hp
            obtain ⟨rfl, hx⟩ := hy
            obtain ⟨dd, hdd, hpd⟩ := e4'.get' hx
            rw [List.getElem?_map] at hdd
            obtain ⟨d0, hd0, rfl⟩ : ∃ d0, ds[j]? = some d0 ∧ d0.d = dd := by simpa using hdd
            obtain ⟨a0, rfl, ha0⟩ := Deed.of hpd
            have tk : ((ds.take (j + 1)).filter isStart).length = ((ds.take j).filter isStart).length + (if isStart d0 then 1 else 0) := by
              rw [List.take_add_one, hd0]
              exact filter_app _ _ _
            refine ⟨rfl, _, rfl, a0, _, 0, .str d0.word, rfl, rfl, sqA_t (sm _ _ ha0), at0, rfl, _, rfl, ite2 (fun e => ?_) (fun e => ?_)⟩
            · have ew : d0.word = "start" := by injection of_decide_eq_true e
              have alen : acc.length ≤ 60 := by
                have := List.length_filter_le isStart (ds.take j)
                have := List.length_take_le' j ds
                omega
              refine ⟨_, rfl, acc, a2, fits (by omega), acc ++ [.ref a0], ?_, upd_same, fun c u hc => ?_⟩
              · rw [tk, (word_start d0).mp ew, List.length_append, a1]; rfl
              · rw [upd_ne (ne_of_none hc nD3)]; exact sm _ _ hc
            · have ew : ¬ isStart d0 = true := fun z => e (by rw [(word_start d0).mpr z]; exact decide_eq_true rfl)
              exact ⟨acc, by rw [tk, if_neg ew]; exact a1, a2, sm⟩
          · obtain ⟨acc, a1, a2, sm⟩ := hp
            have vlen : vs.length = ds.length := by rw [e4'.len, List.length_map]
            rw [vlen, List.take_length] at a1
            refine ⟨D3, _, rfl, .inl (sqL_l a2), rfl, _, rfl, ite2 (fun e7 => ?_) (fun e7 => ?_)⟩
            · refine ⟨_, rfl, _, rfl, b, l, _, cells, rfl, rfl, hB11.same sm, by omega, by omega, fun H14 r14 hB14 bt14 hr14 => ?_⟩
              refine ⟨by show 2 ≤ sizeLine; decide, fun a' na' => ?_⟩
              have s4 : Pds H14 vs (ds.map Deed.d) := Pds.but bt14 (hB11.same sm).lsts (noLs_map noL_deed _) (Pds.same sm e4')
              have s5 := bt14 _ _ (by simp [npl'.1, npl'.2]) (sm _ _ e5')
              refine ⟨a', .say r14, rfl, upd_same, hr14, .inr rfl, ?_, Pds.same (same_new na') s4, same_new na' _ _ s5, hB14.same (same_new na'), (((bt9.trans bt11).trans (Same.but sm)).trans bt14).trans (Same.but (same_new na'))⟩
              rw [filter_app]; exact e3
            · refine ⟨a, d, rfl, sm _ _ ha, hd, .inl hw, ?_, Pds.same sm e4', sm _ _ e5', hB11.same sm, (bt9.trans bt11).trans (Same.but sm)⟩
              rw [filter_app, if_pos es]
              have : ¬ acc.length = 3 := fun z => e7 (by rw [z]; rfl)
              omega
        · refine ⟨a, d, rfl, ha, hd, .inl hw, ?_, e4', e5', hB11, bt9.trans bt11⟩
          have ew : ¬ isStart d = true := fun z => e (by rw [(word_start d).mpr z]; exact decide_eq_true rfl)
          rw [filter_app, if_neg ew]; exact e3
      · obtain ⟨a', d', rfl, f1, f2, f3, f4, f5, f6, hB14, bt14⟩ := hM
        have vlen : vs.length = ds.length := by rw [f5.len, List.length_map]
        refine ⟨_, rfl, .inl ⟨rfl, _, sqL_l f6⟩, _, rfl, pl, _, _, rfl, rfl, f6, fits (by omega), ?_⟩
        have ap : a' ≠ pl := fun z => by rw [z, f6] at f1; cases f1
        have lsD : Lsts H' [pl] := fun c hc => ⟨vs, by rw [List.mem_singleton.mp hc]; exact f6⟩
        have stepB : But [pl] H' (upd H' pl (.lst (vs ++ [.ref a']))) := But.set (by simp)
        refine ⟨ds ++ [d'], vs ++ [.ref a'], _, _, rfl, by simp [e1], fun d hd => ?_, f4, ?_, upd_same, But.box hB14 npl'.1 npl'.2, But.newset npl bt14⟩
        · rcases List.mem_append.mp hd with h | h
          · exact e2 d h
          · rw [List.mem_singleton.mp h]; exact ⟨f2, f3⟩
        · rw [List.map_append]
          exact (Pds.but stepB lsD (noLs_map noL_deed _) f5).app (.cons (Deed.pd (by rw [upd_ne ap]; exact f1)) .nil)
    · obtain ⟨ds, vs, y1, y2, rfl, e1, e2, e3, e4, e5, hB9, bt9⟩ := hp
      refine ⟨_, rfl, _, rfl, _, rfl, pl, _, rfl, .inl ⟨sqL_l e5, fun Pt nPt => ?_⟩⟩
      refine ⟨by show 3 ≤ sizeLine; decide, fun v nv => ?_⟩
      have s1 : Same H9 (upd H9 Pt (.tup vs)) := same_new nPt
      have s2 := same_new (o := .tup [.ref M, .ref O, .ref Pt]) nv
      have s12 := s1.trans s2
      have gM := s12 _ _ (bt9 _ _ nMb hM6)
      have gO := s12 _ _ (bt9 _ _ nOb hO)
      have gP := s2 _ _ (show (upd H9 Pt (.tup vs)) Pt = some (.tup vs) from upd_same)
      refine q _ (.ref v) ⟨mem, os, ds⟩ (hB9.same s12) ((bt6.trans bt9).trans (Same.but s12)) ?_ ⟨?_, m2, ?_, fun j o hj => ?_, ?_, ?_, e3⟩ ?_ ?_ ?_ ?_
      · exact .tup upd_same (.cons (.tup gM (pds_ns _)) (.cons (.tup gO (Pds.same s12 (Pds.but bt9 hB6.lsts (noLs_map noL_ord _) hOs))) (.cons (.tup gP (Pds.same s12 e4)) .nil)))
      · dsimp only; rw [mlen]; exact cN
      · dsimp only; omega
      · dsimp only at hj ⊢; rw [olen, mlen]; exact o2 j o hj
      · dsimp only; omega
      · intro d hd; dsimp only at hd ⊢; rw [olen, mlen]; exact (e2 d hd).1
      · dsimp only; omega
      · dsimp only; omega
      · dsimp only; omega
      · intro d hd; exact (e2 d hd).2
end
end Vt
namespace Vt
open PySem PySem.Spec PyProof.Rows L2
/-! ### boards as they are handed in, and what is first wrong in them -/
structure ROrd where
  src : Int
  goal : Int
  many : Int
  later : Option Int
structure RDeed where
  word : Str
  nums : List Int
structure RBrd where
  mem : List Int
  ords : List ROrd
  prog : List RDeed
def iV : Option Int → V
  | none => .non
  | some k => .int k
def iD : Option Int → D
  | none => .non
  | some k => .int k
def ROrd.vs (o : ROrd) : List V := [.int o.src, .int o.goal, .int o.many, iV o.later]
def ROrd.d (o : ROrd) : D := .tup [.int o.src, .int o.goal, .int o.many, iD o.later]
def RDeed.vs (d : RDeed) : List V := .str d.word :: d.nums.map V.int
def RDeed.d (d : RDeed) : D := .tup (.str d.word :: d.nums.map D.int)
def RBrd.d (B : RBrd) : D := .tup [.tup (B.mem.map D.int), .tup (B.ords.map ROrd.d), .tup (B.prog.map RDeed.d)]
def Ord.raw (o : Ord) : ROrd := ⟨o.src, o.goal, o.many, o.later.map fun k => (k : Int)⟩
def Deed.raw (d : Deed) : RDeed := ⟨d.word, d.args.map fun (k : Nat) => (k : Int)⟩
def Brd.raw (B : Brd) : RBrd := ⟨B.mem.map (fun (k : Nat) => (k : Int)), B.ords.map Ord.raw, B.prog.map Deed.raw⟩
theorem raw_ord (o : Ord) : o.raw.d = o.d := by
  obtain ⟨s, g, m, l⟩ := o
  cases l <;> rfl
theorem raw_deed (d : Deed) : d.raw.d = d.d := by
  simp only [Deed.raw, RDeed.d, Deed.d, List.map_map]; rfl
theorem raw_brd (B : Brd) : B.raw.d = B.d := by
  simp only [Brd.raw, RBrd.d, Brd.d, nsD, List.map_map]
  have h1 : (ROrd.d ∘ Ord.raw) = Ord.d := funext raw_ord
  have h2 : (RDeed.d ∘ Deed.raw) = Deed.d := funext raw_deed
  rw [h1, h2]; rfl
section
variable {H : Hp}
theorem ROrd.of {o : ROrd} {v : V} (h : Pd H v o.d) : ∃ a, v = .ref a ∧ H a = some (.tup o.vs) := by
  obtain ⟨s, g, m, l⟩ := o
  cases h with
  | tup h hs =>
    cases hs with
    | cons h1 hs => cases h1; cases hs with
      | cons h2 hs => cases h2; cases hs with
        | cons h3 hs => cases h3; cases hs with
          | cons h4 hs =>
            cases hs
            refine ⟨_, rfl, ?_⟩
            cases l with
            | none => cases h4; exact h
            | some k => cases h4; exact h
theorem RDeed.of {d : RDeed} {v : V} (h : Pd H v d.d) : ∃ a, v = .ref a ∧ H a = some (.tup d.vs) := by
  cases h with
  | tup h hs =>
    cases hs with
    | cons h1 hs =>
      cases h1
      rw [hs.ints] at h
      exact ⟨_, rfl, h⟩
theorem RBrd.of {B : RBrd} {v : V} (h : Pd H v B.d) : ∃ a m o p os ps, v = .ref a ∧ H a = some (.tup [.ref m, .ref o, .ref p]) ∧ H m = some (.tup (B.mem.map V.int)) ∧ H o = some (.tup os) ∧ Pds H os (B.ords.map ROrd.d) ∧ H p = some (.tup ps) ∧ Pds H ps (B.prog.map RDeed.d) := by
  obtain ⟨mem, ords, prog⟩ := B
  cases h with
  | tup h hs =>
    cases hs with
    | cons h1 hs => cases h1 with
      | tup e1 k1 => cases hs with
        | cons h2 hs => cases h2 with
          | tup e2 k2 => cases hs with
            | cons h3 hs => cases h3 with
              | tup e3 k3 =>
                cases hs
                rw [k1.ints] at e1
                exact ⟨_, _, _, _, _, _, rfl, h, e1, e2, k2, e3, k3⟩
end
/-- the first place at which p stands -/
def fst {α : Type} (p : Nat → α → Bool) : Nat → List α → Option Nat
  | _, [] => none
  | i, x :: r => if p i x = true then some i else fst p (i + 1) r
theorem fst_none {α : Type} {p : Nat → α → Bool} : ∀ {xs : List α} {k : Nat}, (∀ i x, xs[i]? = some x → p (k + i) x = false) → fst p k xs = none
  | [], _, _ => rfl
  | x :: r, k, h => by
    rw [fst, if_neg (by rw [show p k x = false from h 0 x rfl]; simp)]
    exact fst_none fun i y e => by
      have := h (i + 1) y (by simpa using e)
      rw [show k + 1 + i = k + (i + 1) by omega]; exact this
theorem fst_some {α : Type} {p : Nat → α → Bool} : ∀ {xs : List α} {k i : Nat} {x : α}, xs[i]? = some x → p (k + i) x = true → (∀ j y, j < i → xs[j]? = some y → p (k + j) y = false) → fst p k xs = some (k + i)
  | [], _, _, _, e, _, _ => by simp at e
  | y :: r, k, 0, x, e, h, _ => by
    simp only [List.getElem?_cons_zero, Option.some.injEq] at e
    subst e
    rw [fst, if_pos (by simpa using h)]; rfl
  | y :: r, k, i + 1, x, e, h, hj => by
    rw [fst, if_neg (by rw [show p k y = false from hj 0 y (by omega) rfl]; simp)]
    rw [fst_some (k := k + 1) (i := i) (x := x) (by simpa using e) (by rw [show k + 1 + i = k + (i + 1) by omega]; exact h) fun j z hji ez => by
      rw [show k + 1 + j = k + (j + 1) by omega]
      exact hj (j + 1) z (by omega) (by simpa using ez)]
    congr 1; omega
theorem of_fst_none {α : Type} {p : Nat → α → Bool} : ∀ {xs : List α} {k : Nat}, fst p k xs = none → ∀ i x, xs[i]? = some x → p (k + i) x = false
  | [], _, _, i, x, e => by simp at e
  | y :: r, k, h, 0, x, e => by
    simp only [List.getElem?_cons_zero, Option.some.injEq] at e
    subst e
    rw [fst] at h
    split at h
    · cases h
    · rename_i hn; simpa using hn
  | y :: r, k, h, i + 1, x, e => by
    rw [fst] at h
    split at h
    · cases h
    · have := of_fst_none (k := k + 1) h i x (by simpa using e)
      rw [show k + (i + 1) = k + 1 + i by omega]; exact this
def badNum (_ : Nat) (n : Int) : Bool := !(decide (0 ≤ n) && decide (n < 10))
def fwCell (mem : List Int) : Option Nat :=
  if mem.length = 4 ∨ mem.length = 8 ∨ mem.length = 12 ∨ mem.length = 16 then fst badNum 0 mem else some 0
def laterCan (cnt : Int) (at_ : Nat) : Option Int → Bool
  | none => true
  | some k => decide ((at_ : Int) < k) && decide (k < cnt)
def ordCan (cnt cells : Int) (at_ : Nat) (o : ROrd) : Bool :=
  decide (1 ≤ o.many) && decide (o.many ≤ 8) && laterCan cnt at_ o.later &&
  decide (0 ≤ o.src) && decide (o.src ≤ cells - o.many) && decide (0 ≤ o.goal) && decide (o.goal ≤ cells - o.many)
def badOrd (cnt cells : Int) (at_ : Nat) (o : ROrd) : Bool := decide (at_ = 4) || !ordCan cnt cells at_ o
def fwOrd (ords : List ROrd) (cells : Int) : Option Nat := fst (badOrd ords.length cells) 0 ords
def kindsOf (z : Str) : Option (List Str) :=
  if z = "set" then some ["cell", "number"] else if z = "add" then some ["cell", "cell"] else if z = "say" then some ["cell"] else if z = "start" then some ["order"] else
  if z = "wait" then some [] else if z = "clean" then some ["line"] else if z = "drop" then some ["line"] else none
def cap (cnt cells : Int) (k : Str) : Int := if k = "cell" then cells else if k = "number" then 10 else if k = "order" then cnt else cells / 4
def numsCan (cnt cells : Int) : List Int → List Str → Bool
  | [], [] => true
  | n :: ns, k :: ks => (decide (0 ≤ n) && decide (n < cap cnt cells k)) && numsCan cnt cells ns ks
  | _, _ => false
def deedCan (cnt cells : Int) (d : RDeed) : Bool := match kindsOf d.word with
  | none => false
  | some ks => numsCan cnt cells d.nums ks
def rStart (d : RDeed) : Bool := decide (d.word = "start")
def badDeed (prog : List RDeed) (cnt cells : Int) (at_ : Nat) (d : RDeed) : Bool := decide (at_ = 60) || !deedCan cnt cells d || decide (3 < ((prog.take (at_ + 1)).filter rStart).length)
def fwDeed (prog : List RDeed) (cnt cells : Int) : Option Nat := fst (badDeed prog cnt cells) 0 prog
/-- a tuple of the written part -/
def KTup (K : PySem.W.Frag) (a : Addr) (xs : List V) : Prop := ∃ (o : Obj) (its : Array Value) (n : Nat), K.lookup a = some o ∧ o.cls = .type "tuple" ∧ o.data = .seq its n ∧ its.size ≤ sizeLine ∧ Vals xs its.toList
theorem KTup.sq {K : PySem.W.Frag} {a : Addr} {xs : List V} (h : KTup K a xs) (H : Hp) : SqT K H a xs := .inr h
/-- an enumerate's pair -/
theorem pair_at {H H' : Hp} {v : V} {x y : Nat → Option V} {i : Nat} (h : YPair x y i H v H') : ∃ T a b, v = .ref T ∧ H T = none ∧ H' = upd H T (.tup [a, b]) ∧ x i = some a ∧ y i = some b ∧ Same H H' ∧ H' T = some (.tup [a, b]) := by
  obtain ⟨T, a, b, h1, h2, h3, h4, h5⟩ := h
  subst h3
  exact ⟨T, a, b, h1, h2, rfl, h4, h5, same_new h2, upd_same⟩
section
variable {P : Program} {w : World} {K : PySem.W.Frag} {mg : Str → Option Value} {base : Heap}
/-- the module's numbers -/
structure Consts (K : PySem.W.Frag) (mg : Str → Option Value) : Prop where
  line : ∃ t, mg "LINE" = some (.int 4 t)
  numbers : ∃ t, mg "NUMBERS" = some (.int 10 t)
  orders : ∃ t, mg "MOST_ORDERS" = some (.int 4 t)
  moved : ∃ t, mg "MOST_MOVED" = some (.int 8 t)
  deeds : ∃ t, mg "MOST_DEEDS" = some (.int 60 t)
  starts : ∃ t, mg "MOST_STARTS" = some (.int 3 t)
  sizes : ∃ a, mg "MEMORY_SIZES" = some (.ref a) ∧ KTup K a [.int 4, .int 8, .int 12, .int 16]
abbrev st_first_wrong_cell : Stmt := (topS 18)
abbrev nm_first_wrong_cell : List Str := ["memory", "cell", "number"]
theorem sc_first_wrong_cell : FnScope ["memory", "cell", "number"] ["memory"] (defScope st_first_wrong_cell) := ⟨rfl, rfl, rfl, by decide +kernel, rfl, by decide +kernel, by decide +kernel⟩
def spFwCell : Sp := fun vs H Q _ => ∃ (m : Addr) (mem : List Int), vs = [.ref m] ∧ H m = some (.tup (mem.map V.int)) ∧ ∀ H', Same H H' → Q (oV (fwCell mem)) H'
theorem ok_fwcell {f : Addr} {fd : FuncData} (F : Fun K "first_wrong_cell" "first_wrong_cell" st_first_wrong_cell f fd) (C : Consts K mg) (z_len : mg "len" = none) (z_enumerate : mg "enumerate" = none) :
    FnOk P w K mg base CX0 1 f fd ["memory"] spFwCell := by
  obtain ⟨tN, mc_NUMBERS⟩ := C.numbers
  obtain ⟨ms, mc_MEMORY_SIZES, hms⟩ := C.sizes
  refine F.ok sc_first_wrong_cell (fun vs H Q E h => ?_) (fun cdv A outer s H vs Q E hr h => ?_)
  · obtain ⟨m, mem, rfl, _⟩ := h
    rfl
  · obtain ⟨m, mem, rfl, hm, q⟩ := h
    refine ⟨_, (pss_cons (ps_if (pt_cmpR op_notIn_seq (pe_callB call_len_seq (by rfl) z_len (by decide +kernel) (pa_cons (pv 0) pa_nil)) (pe_glob (v := .ref _) rfl mc_MEMORY_SIZES rfl) (by rfl)) (pss_one (ps_ret pe_int)) pss_nil)
  (pss_cons (ps_for PassesOwn.never rfl (pi_enumT (by rfl) z_enumerate (pa_cons (pv 0) pa_nil)) (pg_tup rfl (pgs_cons (pg_name (i := 1) sc_first_wrong_cell.nd rfl (Or.inl rfl)) (pgs_cons (pg_name (i := 2) sc_first_wrong_cell.nd rfl (Or.inl rfl)) pgs_nil)))
  (pss_one (ps_if (pt_not (pt_chain op_le op_lt pe_int (pv 2) (pe_glob (v := .int 10) rfl mc_NUMBERS ⟨_, rfl⟩))) (pss_one (ps_ret (pv 1))) pss_nil)))
  (pss_one (ps_ret pe_non)))), ?_⟩
    refine ⟨_, rfl, m, _, rfl, .inr (sqT_t hm), ms, _, rfl, .inr (hms.sq _), rfl, rfl, _, rfl, ite2 (fun e => ?_) (fun e => ?_)⟩
    · have hn : ¬ (mem.length = 4 ∨ mem.length = 8 ∨ mem.length = 12 ∨ mem.length = 16) := by
        simp only [inV, eqV, List.any_cons, List.any_nil, List.length_map] at e
        simp at e
        omega
      have := q H (Same.refl H)
      rw [fwCell, if_neg hn] at this
      exact this
    · have hn : mem.length = 4 ∨ mem.length = 8 ∨ mem.length = 12 ∨ mem.length = 16 := by
        simp only [inV, eqV, List.any_cons, List.any_nil, List.length_map] at e
        simp at e
        omega
      refine ⟨_, rfl, m, rfl, .inr ⟨_, sqT_t hm, ?_⟩⟩
      refine for_it (walk_enumT (xs := mem.map V.int)) (fun i σ H' => ∃ y1 y2, σ = [some (.ref m), y1, y2] ∧ Same H H' ∧ ∀ (j : Nat) (n : Int), j < i → mem[j]? = some n → badNum j n = false)
        ⟨_, _, rfl, Same.refl H, fun j n hj => absurd hj (by omega)⟩ (fun i σ H' _ hp => by obtain ⟨_, _, _, sm, _⟩ := hp; exact sqT_t (sm _ _ hm)) (fun i x σ H1 H2 hi hp hy => ?_) (fun σ H1 hp => ?_)
      · obtain ⟨y1, y2, rfl, sm, hall⟩ := hp
        obtain ⟨T, a, b, rfl, nT, _, ha, hb, s2, hT⟩ := pair_at hy
        cases ha
        obtain ⟨n, hn2, rfl⟩ : ∃ n, mem[i]? = some n ∧ V.int n = b := by rw [List.getElem?_map] at hb; simpa using hb
        refine ⟨T, _, rfl, sqT_t hT, rfl, _, _, rfl, _, _, rfl, rfl, ?_⟩
        have ret : badNum i n = true → Q (nV i) H2 := fun hb => by
          have := q H2 (sm.trans s2)
          rw [fwCell, if_pos hn, fst_some (i := i) hn2 (by rw [Nat.zero_add]; exact hb) fun j y hj ej => by rw [Nat.zero_add]; exact hall j y hj ej, Nat.zero_add] at this
          exact this
        have nxt : badNum i n = false → ∃ y1 y2, [some (V.ref m), some (V.int (i : Nat)), some (V.int n)] = [some (.ref m), y1, y2] ∧ Same H H2 ∧ ∀ (j : Nat) (n : Int), j < i + 1 → mem[j]? = some n → badNum j n = false := fun hb => by
          refine ⟨_, _, rfl, sm.trans s2, fun j y hj ej => ?_⟩
          by_cases hji : j < i
          · exact hall j y hji ej
          · have : j = i := by omega
            subst this
            rw [hn2] at ej; cases ej
            exact hb
        refine ⟨_, rfl, _, _, rfl, rfl, _, rfl, ?_⟩
        by_cases h0 : (0 : Int) ≤ n
        · rw [decide_eq_true h0]
          refine iteT ⟨_, _, rfl, rfl, _, rfl, ite2 (fun e => ⟨_, rfl, ret ?_⟩) (fun e => nxt ?_)⟩
          · simp [badNum, h0] at e ⊢; omega
          · simp [badNum, h0] at e ⊢; omega
        · rw [decide_eq_false h0]
          exact iteF ⟨_, rfl, ⟨_, rfl, ret (by simp [badNum, h0])⟩⟩
      · obtain ⟨y1, y2, rfl, sm, hall⟩ := hp
        have := q H1 sm
        rw [fwCell, if_pos hn, fst_none fun i x e => by
          rw [Nat.zero_add]
          exact hall i x (by have := (List.getElem?_eq_some_iff.mp e).1; simpa using this) e] at this
        exact this
end
end Vt
namespace Vt
open PySem PySem.Spec PyProof.Rows L2
/-! ### an order, a deed, the board -/
theorem valV_hit {k : Key} {v : V} {r : List (Key × V)} : valV ((k, v) :: r) k = some v := valV_pos rfl
/-- what a dict of four says -/
theorem counts_at {H : Hp} {a : Addr} {cnt cells : Int} {ks : List Str} {k : Str} (h : H a = some (.dK [(.inr "cell", .int cells), (.inr "number", .int 10), (.inr "order", .int cnt), (.inr "line", .int (cells / 4))]))
    (hk : k = "cell" ∨ k = "number" ∨ k = "order" ∨ k = "line") : DGet H a (.str k) (some (.int (cap cnt cells k))) := by
  have g := DGet.k (k := .inr k) h
  rcases hk with rfl | rfl | rfl | rfl
  · exact g
  · exact g
  · exact g
  · exact g
theorem kinds_known {z : Str} {ks : List Str} (h : kindsOf z = some ks) : ∀ k ∈ ks, k = "cell" ∨ k = "number" ∨ k = "order" ∨ k = "line" := by
  intro k hk
  unfold kindsOf at h
  repeat' split at h
  all_goals first
    | cases h
    | skip
  all_goals simp at hk
  all_goals first
    | (rcases hk with rfl | rfl <;> simp)
    | (subst hk; simp)
theorem kinds_len {z : Str} {ks : List Str} (h : kindsOf z = some ks) : ks.length ≤ 2 := by
  unfold kindsOf at h
  repeat' split at h
  all_goals first
    | (cases h; simp)
    | cases h
theorem numsCan_len {cnt cells : Int} : ∀ {ns : List Int} {ks : List Str}, ns.length ≠ ks.length → numsCan cnt cells ns ks = false
  | [], [], h => absurd rfl h
  | [], _ :: _, _ => by rw [numsCan]; all_goals simp
  | _ :: _, [], _ => by rw [numsCan]; all_goals simp
  | n :: ns, k :: ks, h => by
    rw [numsCan, numsCan_len (ns := ns) (ks := ks) (by simpa using h), Bool.and_false]
theorem numsCan_all {cnt cells : Int} : ∀ {ns : List Int} {ks : List Str}, ns.length = ks.length → ∀ (bs : List Bool), bs.length = ns.length → (∀ (i : Nat) (n : Int) (k : Str), ns[i]? = some n → ks[i]? = some k → bs[i]? = some (decide (0 ≤ n) && decide (n < cap cnt cells k))) → bs.all id = numsCan cnt cells ns ks
  | [], [], _, bs, hb, _ => by
    have : bs = [] := List.length_eq_zero_iff.mp hb
    subst this; rfl
  | [], _ :: _, h, _, _, _ => by simp at h
  | _ :: _, [], h, _, _, _ => by simp at h
  | n :: ns, k :: ks, h, bs, hb, hi => by
    cases bs with
    | nil => simp at hb
    | cons b bs =>
      have e0 := hi 0 n k rfl rfl
      simp only [List.getElem?_cons_zero, Option.some.injEq] at e0
      rw [numsCan, List.all_cons, numsCan_all (ns := ns) (ks := ks) (by simpa using h) bs (by simpa using hb) fun i n' k' e1 e2 => by
        have := hi (i + 1) n' k' (by simpa using e1) (by simpa using e2)
        simpa using this]
      rw [e0]; rfl
/-- the table of deeds -/
structure Kinds (K : PySem.W.Frag) (w : World) (mg : Str → Option Value) (dd : Addr) : Prop where
  at_ : mg "DEEDS" = some (.ref dd)
  low : (dd == sysModules) = false
  obj : ∃ es n, K.lookup dd = some ⟨.type "dict", none, .dict es n, #[]⟩ ∧ PySem.W.KeysLit w.params es.toList
  hit : ∀ z ks, kindsOf z = some ks → ∃ kt, KDct K w dd z (.ref kt) ∧ KTup K kt (ks.map V.str)
section
variable {P : Program} {w : World} {K : PySem.W.Frag} {mg : Str → Option Value} {base : Heap}
abbrev st_order_can_be : Stmt := (topS 20)
abbrev nm_order_can_be : List Str := ["order", "at", "order_count", "cell_count", "source", "goal", "many", "later"]
theorem sc_order_can_be : FnScope ["order", "at", "order_count", "cell_count", "source", "goal", "many", "later"] ["order", "at", "order_count", "cell_count"] (defScope st_order_can_be) := ⟨rfl, rfl, rfl, by decide +kernel, rfl, by decide +kernel, by decide +kernel⟩
def spOrdCan : Sp := fun vs H Q _ => ∃ (a : Addr) (o : ROrd) (at_ : Nat) (cnt cells : Int), vs = [.ref a, nV at_, .int cnt, .int cells] ∧ H a = some (.tup o.vs) ∧ Q (.bl (ordCan cnt cells at_ o)) H
theorem ok_ordcan {f : Addr} {fd : FuncData} (F : Fun K "order_can_be" "order_can_be" st_order_can_be f fd) (C : Consts K mg) : FnOk P w K mg base CX0 1 f fd ["order", "at", "order_count", "cell_count"] spOrdCan := by
  obtain ⟨tM, mc_MOST_MOVED⟩ := C.moved
  refine F.ok sc_order_can_be (fun vs H Q E h => ?_) (fun cdv A outer s H vs Q E hr h => ?_)
  · obtain ⟨a, o, at_, cnt, cells, rfl, _⟩ := h
    rfl
  · obtain ⟨a, ⟨src, goal, many, later⟩, at_, cnt, cells, rfl, ha, q⟩ := h
    refine ⟨_, (pss_cons (ps_asg (pv 0) (pg_tup rfl (pgs_cons (pg_name (i := 4) sc_order_can_be.nd rfl (Or.inl rfl)) (pgs_cons (pg_name (i := 5) sc_order_can_be.nd rfl (Or.inl rfl)) (pgs_cons (pg_name (i := 6) sc_order_can_be.nd rfl (Or.inl rfl)) (pgs_cons (pg_name (i := 7) sc_order_can_be.nd rfl (Or.inl rfl)) pgs_nil))))))
  (pss_cons (ps_if (pt_not (pt_chain op_le op_le pe_int (pv 6) (pe_glob (v := .int 8) rfl mc_MOST_MOVED ⟨_, rfl⟩))) (pss_one (ps_ret pe_bl)) pss_nil)
  (pss_cons (ps_if (PW.pt (pw_and (pt_cmpR op_notN (pv 7) pe_non (nomark _)) (pw_and1 (pt_not (pt_chain op_lt op_lt (pv 1) (pv 7) (pv 2)))))) (pss_one (ps_ret pe_bl)) pss_nil)
  (pss_one (ps_ret (pe_and (pe_chain op_le op_le pe_int (pv 4) (pe_op op_sub (pv 3) (pv 6))) (pe_one (pe_chain op_le op_le pe_int (pv 5) (pe_op op_sub (pv 3) (pv 6)))))))))), ?_⟩
    refine ⟨_, rfl, a, _, rfl, sqT_t ha, rfl, _, _, rfl, _, _, rfl, _, _, rfl, _, _, rfl, rfl, ?_⟩
    -- not 1 <= many <= MOST_MOVED
    refine ⟨_, rfl, _, _, rfl, rfl, _, rfl, ?_⟩
    by_cases h1 : (1 : Int) ≤ many
    · rw [decide_eq_true h1]
      refine iteT ⟨_, _, rfl, rfl, _, rfl, ite2 (fun e => ?_) (fun e => ?_)⟩
      · rw [show ordCan cnt cells at_ ⟨src, goal, many, later⟩ = false by simp [ordCan, laterCan] at e ⊢; omega] at q
        exact q
      · have h8 : many ≤ 8 := by simpa using e
        have rest : ∀ σ, σ = [some (.ref a), some (nV at_), some (.int cnt), some (.int cells), some (.int src), some (.int goal), some (.int many), some (iV later)] → laterCan cnt at_ later = true →
            tRet (tAndV (tChain (rI0 fun i j => V.bl (decide (i ≤ j))) (rI0 fun i j => V.bl (decide (i ≤ j))) (tC (.int 0)) (tVar 4) (tOp (rI0 fun i j => V.int (i - j)) (tVar 3) (tVar 6)))
              (tChain (rI0 fun i j => V.bl (decide (i ≤ j))) (rI0 fun i j => V.bl (decide (i ≤ j))) (tC (.int 0)) (tVar 5) (tOp (rI0 fun i j => V.int (i - j)) (tVar 3) (tVar 6)))) { nx := fun _ H' => Q .non H', rt := Q } σ H := fun σ hσ hl => by
          subst hσ
          have ev : ordCan cnt cells at_ ⟨src, goal, many, later⟩ = ((decide (0 ≤ src) && decide (src ≤ cells - many)) && (decide (0 ≤ goal) && decide (goal ≤ cells - many))) := by
            simp only [ordCan, decide_eq_true h1, decide_eq_true h8, hl, Bool.true_and, Bool.and_assoc]
          rw [ev] at q
          refine ⟨_, rfl, _, _, rfl, rfl, _, rfl, ?_⟩
          by_cases g1 : (0 : Int) ≤ src
          · rw [decide_eq_true g1] at q ⊢
            refine iteT ⟨_, rfl, _, rfl, _, _, rfl, rfl, _, _, rfl, rfl, _, rfl, ?_⟩
            by_cases g2 : src ≤ cells - many
            · rw [decide_eq_true g2] at q ⊢
              refine iteT ⟨_, rfl, _, _, rfl, rfl, _, rfl, ?_⟩
              by_cases g3 : (0 : Int) ≤ goal
              · rw [decide_eq_true g3] at q ⊢
                refine iteT ⟨_, rfl, _, rfl, _, _, rfl, rfl, _, _, rfl, rfl, ?_⟩
                exact q
              · rw [decide_eq_false g3] at q ⊢
                exact iteF q
            · rw [decide_eq_false g2] at q ⊢
              exact iteF q
          · rw [decide_eq_false g1] at q ⊢
            exact iteF ⟨_, rfl, iteF q⟩
        cases later with
        | none => exact ⟨_, rfl, rfl, _, rfl, iteF (rest _ rfl rfl)⟩
        | some k =>
          refine ⟨_, rfl, rfl, _, rfl, iteT ⟨_, rfl, _, rfl, _, _, rfl, rfl, _, rfl, ?_⟩⟩
          by_cases g1 : (at_ : Int) < k
          · rw [decide_eq_true g1]
            refine iteT ⟨_, rfl, _, _, rfl, rfl, _, rfl, ite2 (fun e => ?_) (fun e => rest _ rfl ?_)⟩
            · rw [show ordCan cnt cells at_ ⟨src, goal, many, some k⟩ = false by simp [ordCan, laterCan] at e ⊢; omega] at q
              exact q
            · simp [laterCan] at e ⊢; exact ⟨g1, e⟩
          · rw [decide_eq_false g1]
            refine iteF ⟨_, rfl, iteT ?_⟩
            rw [show ordCan cnt cells at_ ⟨src, goal, many, some k⟩ = false by simp [ordCan, laterCan, g1]] at q
            exact q
    · rw [decide_eq_false h1]
      refine iteF ⟨_, rfl, iteT ?_⟩
      rw [show ordCan cnt cells at_ ⟨src, goal, many, later⟩ = false by simp [ordCan, h1]] at q
      exact q
abbrev st_first_wrong_order : Stmt := (topS 19)
abbrev nm_first_wrong_order : List Str := ["orders", "cell_count", "at", "order"]
theorem sc_first_wrong_order : FnScope ["orders", "cell_count", "at", "order"] ["orders", "cell_count"] (defScope st_first_wrong_order) := ⟨rfl, rfl, rfl, by decide +kernel, rfl, by decide +kernel, by decide +kernel⟩
def spFwOrd : Sp := fun vs H Q _ => ∃ (a : Addr) (os : List V) (ords : List ROrd) (cells : Int), vs = [.ref a, .int cells] ∧ H a = some (.tup os) ∧ Pds H os (ords.map ROrd.d) ∧ ∀ H', Same H H' → Q (oV (fwOrd ords cells)) H'
theorem ok_fword {f : Addr} {fd : FuncData} (F : Fun K "first_wrong_order" "first_wrong_order" st_first_wrong_order f fd) (C : Consts K mg) (c_order_can_be : Callee P w K mg base "order_can_be" 1 4 spOrdCan) (z_len : mg "len" = none) (z_enumerate : mg "enumerate" = none) :
    FnOk P w K mg base CX0 2 f fd ["orders", "cell_count"] spFwOrd := by
  obtain ⟨tM, mc_MOST_ORDERS⟩ := C.orders
  refine F.ok sc_first_wrong_order (fun vs H Q E h => ?_) (fun cdv A outer s H vs Q E hr h => ?_)
  · obtain ⟨a, os, ords, cells, rfl, _⟩ := h
    rfl
  · obtain ⟨a, os, ords, cells, rfl, ha, hs, q⟩ := h
    have olen : os.length = ords.length := by rw [hs.len, List.length_map]
    refine ⟨_, (pss_cons (ps_for PassesOwn.never rfl (pi_enumT (by rfl) z_enumerate (pa_cons (pv 0) pa_nil)) (pg_tup rfl (pgs_cons (pg_name (i := 2) sc_first_wrong_order.nd rfl (Or.inl rfl)) (pgs_cons (pg_name (i := 3) sc_first_wrong_order.nd rfl (Or.inl rfl)) pgs_nil)))
  (pss_one (ps_if (PW.pt (pw_or (pt_cmpR op_eq (pv 2) (pe_glob (v := .int 4) rfl mc_MOST_ORDERS ⟨_, rfl⟩) (nomark _)) (pw_or1 (pt_not (pt_val (pe_cal c_order_can_be hr (by first | decide | exact Nat.le_refl _) (pa_cons (pv 3) (pa_cons (pv 2) (pa_cons (pe_callB call_len_seq (by rfl) z_len (by decide +kernel) (pa_cons (pv 0) pa_nil)) (pa_cons (pv 1) pa_nil)))))))))) (pss_one (ps_ret (pv 2))) pss_nil)))
  (pss_one (ps_ret pe_non))), ?_⟩
    refine ⟨_, rfl, a, rfl, .inr ⟨_, sqT_t ha, ?_⟩⟩
    refine for_it (walk_enumT (xs := os)) (fun i σ H' => ∃ y1 y2, σ = [some (.ref a), some (.int cells), y1, y2] ∧ Same H H' ∧ ∀ (j : Nat) (o : ROrd), j < i → ords[j]? = some o → badOrd ords.length cells j o = false)
      ⟨_, _, rfl, Same.refl H, fun j n hj => absurd hj (by omega)⟩ (fun i σ H' _ hp => by obtain ⟨_, _, _, sm, _⟩ := hp; exact sqT_t (sm _ _ ha)) (fun i x σ H1 H2 hi hp hy => ?_) (fun σ H1 hp => ?_)
    · obtain ⟨y1, y2, rfl, sm, hall⟩ := hp
      obtain ⟨T, a1, b, rfl, nT, _, h1, hb, s2, hT⟩ := pair_at hy
      cases h1
      obtain ⟨dd, hd, hpd⟩ := hs.get' hb
      rw [List.getElem?_map] at hd
      obtain ⟨o, ho, rfl⟩ : ∃ o, ords[i]? = some o ∧ o.d = dd := by simpa using hd
      obtain ⟨oa, rfl, hoa⟩ := ROrd.of ((hpd.same sm).same s2)
      have ret : badOrd ords.length cells i o = true → Q (nV i) H2 := fun hb => by
        have := q H2 (sm.trans s2)
        rw [fwOrd, fst_some (i := i) ho (by rw [Nat.zero_add]; exact hb) fun j y hj ej => by rw [Nat.zero_add]; exact hall j y hj ej, Nat.zero_add] at this
        exact this
      have nxt : badOrd ords.length cells i o = false → ∃ y1 y2, [some (V.ref a), some (.int cells), some (V.int (i : Nat)), some (V.ref oa)] = [some (.ref a), some (.int cells), y1, y2] ∧ Same H H2 ∧ ∀ (j : Nat) (o : ROrd), j < i + 1 → ords[j]? = some o → badOrd ords.length cells j o = false := fun hb => by
        refine ⟨_, _, rfl, sm.trans s2, fun j y hj ej => ?_⟩
        by_cases hji : j < i
        · exact hall j y hji ej
        · have : j = i := by omega
          subst this
          rw [ho] at ej; cases ej
          exact hb
      refine ⟨T, _, rfl, sqT_t hT, rfl, _, _, rfl, _, _, rfl, rfl, ?_⟩
      refine ⟨_, rfl, rfl, _, rfl, ite2 (fun e => iteT ?_) (fun e => ?_)⟩
      · have e4 : (i : Int) = 4 := by injection of_decide_eq_true e
        have e4' : i = 4 := by omega
        exact ⟨_, rfl, ret (by simp [badOrd, e4'])⟩
      · have n4 : ¬ i = 4 := fun z => e (by rw [z]; rfl)
        refine ⟨_, rfl, _, rfl, _, rfl, a, _, rfl, .inr (sqT_t ((sm.trans s2) _ _ ha)), _, rfl, oa, o, i, _, _, rfl, hoa, _, rfl, ite2 (fun e => ⟨_, rfl, ret ?_⟩) (fun e => nxt ?_)⟩
        · rw [olen] at e; simp only [badOrd, e, Bool.or_true]
        · rw [olen] at e
          have e' : (!ordCan ords.length cells i o) = false := by simpa using e
          simp only [badOrd, e', decide_eq_false n4, Bool.or_false]
    · obtain ⟨y1, y2, rfl, sm, hall⟩ := hp
      have := q H1 sm
      rw [fwOrd, fst_none fun i x e => by
        rw [Nat.zero_add]
        exact hall i x (by have := (List.getElem?_eq_some_iff.mp e).1; omega) e] at this
      exact this
end
end Vt
namespace Vt
open PySem PySem.Spec PyProof.Rows L2
section
variable {P : Program} {w : World} {K : PySem.W.Frag} {mg : Str → Option Value} {base : Heap}
def countsK (cnt cells : Int) : List (Key × V) := [(.inr "cell", .int cells), (.inr "number", .int 10), (.inr "order", .int cnt), (.inr "line", .int (cells / 4))]
abbrev st_deed_can_be : Stmt := (topS 23)
abbrev nm_deed_can_be : List Str := ["deed", "counts", "word", "numbers", "kinds", "number", "kind"]
theorem sc_deed_can_be : FnScope ["deed", "counts", "word", "numbers", "kinds", "number", "kind"] ["deed", "counts"] (defScope st_deed_can_be) := ⟨rfl, rfl, rfl, by decide +kernel, rfl, by decide +kernel, by decide +kernel⟩
def spDeedCan (K : PySem.W.Frag) (w : World) (dd : Addr) : Sp := fun vs H Q _ => ∃ (a c : Addr) (d : RDeed) (cnt cells : Int), vs = [.ref a, .ref c] ∧ H a = some (.tup d.vs) ∧ d.nums.length ≤ 1000 ∧ H c = some (.dK (countsK cnt cells)) ∧
  (kindsOf d.word = none → KMiss K w dd d.word) ∧ ∀ H', Same H H' → Q (.bl (deedCan cnt cells d)) H'
theorem ok_deedcan {f dd : Addr} {fd : FuncData} (F : Fun K "deed_can_be" "deed_can_be" st_deed_can_be f fd) (Kd : Kinds K w mg dd) (z_len : mg "len" = none) (z_all : mg "all" = none) (z_zip : mg "zip" = none) :
    FnOk P w K mg base CX0 1 f fd ["deed", "counts"] (spDeedCan K w dd) := by
  have mc_DEEDS := Kd.at_
  refine F.ok sc_deed_can_be (fun vs H Q E h => ?_) (fun cdv A outer s H vs Q E hr h => ?_)
  · obtain ⟨a, c, d, cnt, cells, rfl, _⟩ := h
    rfl
  · obtain ⟨a, c, ⟨wd, nums⟩, cnt, cells, rfl, ha, hl, hc, hmiss, q⟩ := h
    dsimp only at hl hmiss
    refine ⟨_, (pss_cons (ps_asg (pv 0) (pg_star (i := 2) (j := 3) rfl sc_deed_can_be.nd rfl rfl rfl rfl))
  (pss_cons (ps_set (i := 4) sc_deed_can_be.nd rfl (Or.inl rfl) (pe_kget (pe_glob (v := .ref _) rfl mc_DEEDS rfl) (pv 2) ⟨rfl, rfl, rfl, rfl⟩))
  (pss_cons (ps_if (PW.pt (pw_or (pt_cmpR op_isN (pv 4) pe_non (nomark _)) (pw_or1 (pt_cmpR op_ne (pe_callB call_len_seq (by rfl) z_len (by decide +kernel) (pa_cons (pv 3) pa_nil)) (pe_callB call_len_seq (by rfl) z_len (by decide +kernel) (pa_cons (pv 4) pa_nil)) (nomark _))))) (pss_one (ps_ret pe_bl)) pss_nil)
  (pss_one (ps_ret (pe_callB (cr_all rfl) (by rfl) z_all (by decide +kernel) (pa_cons (pe_lc (own := [("number", 5), ("kind", 6)]) rfl sc_deed_can_be.nd (pi_zipM (by rfl) z_zip (pa_cons (pv 3) (pa_cons (pv 4) pa_nil))) (blkOk_by (own := [("number", 5), ("kind", 6)]) (N := nm_deed_can_be) (sc := defScope (topS 23)) (by decide +kernel)) (fun _ _ _ _ _ => (pg_tupk K (n := 2) rfl (pgs_cons (pg_name (i := 5) sc_deed_can_be.nd rfl (Or.inl rfl)) (pgs_cons (pg_name (i := 6) sc_deed_can_be.nd rfl (Or.inl rfl)) pgs_nil)))) (fun _ _ _ _ _ => pts_nil) (fun _ _ _ _ _ => (pe_chain op_le op_lt pe_int (pv 5) (pe_dget (hu_of hr) (pv 1) (pv 6) (fun _ _ => rfl))))) pa_nil))))))), ?_⟩
    refine ⟨_, rfl, a, .str wd, nums.map V.int, rfl, sqT_t ha, by rw [List.length_map]; exact hl, fun p np => ?_⟩
    have s1 : Same H (upd H p (.lst (nums.map V.int))) := same_new np
    have hp1 : (upd H p (.lst (nums.map V.int))) p = some (.lst (nums.map V.int)) := upd_same
    generalize upd H p (.lst (nums.map V.int)) = H1 at s1 hp1
    obtain ⟨es, n, hobj, hlit⟩ := Kd.obj
    refine ⟨dd, rfl, Kd.low, ⟨es, n, hobj, hlit⟩, _, rfl, wd, rfl, ?_⟩
    cases hk : kindsOf wd with
    | none =>
      refine .inr ⟨hmiss hk, ?_⟩
      refine ⟨_, rfl, rfl, _, rfl, iteT (iteT ?_)⟩
      have := q H1 s1
      rw [show deedCan cnt cells ⟨wd, nums⟩ = false by simp [deedCan, hk]] at this
      exact this
    | some ks =>
      obtain ⟨kt, hkd, hkt⟩ := Kd.hit wd ks hk
      have k2 := kinds_len hk
      refine .inl ⟨.ref kt, hkd, ?_⟩
      refine ⟨_, rfl, rfl, _, rfl, iteF ⟨_, rfl, p, _, rfl, .inl (sqL_l hp1), _, rfl, kt, _, rfl, .inr (hkt.sq _), rfl, _, rfl, ite2 (fun e => ?_) (fun e => ?_)⟩⟩
      · have hne : nums.length ≠ ks.length := fun z => by
          simp only [List.length_map, z] at e
          simp at e
        have := q H1 s1
        rw [show deedCan cnt cells ⟨wd, nums⟩ = false by simp only [deedCan, hk]; exact numsCan_len hne] at this
        exact this
      · have heq : nums.length = ks.length := by
          simp only [List.length_map] at e
          simp at e
          omega
        have hc1 := s1 _ _ hc
        refine ⟨_, rfl, _, rfl, p, kt, nums.map V.int, ks.map V.str, rfl, sqL_l hp1, hkt.sq _, fun D nD => ?_⟩
        have pD : p ≠ D := ne_of_none hp1 nD
        refine lc_it (walk_zipM (xs := nums.map V.int) (ys := ks.map V.str) (n := nums.length) (by simp [heq])) (fun i H' => ∃ bs : List Bool, bs.length = i ∧ H' D = some (.lst (bs.map V.bl)) ∧ Same H1 H' ∧
            ∀ (j : Nat) (n : Int) (k : Str), j < i → nums[j]? = some n → ks[j]? = some k → bs[j]? = some (decide (0 ≤ n) && decide (n < cap cnt cells k)))
          ⟨[], rfl, upd_same, same_new nD, fun j _ _ hj => absurd hj (by omega)⟩ (fun i H' _ hp => by obtain ⟨_, _, _, sm, _⟩ := hp; exact ⟨sqL_l (sm _ _ hp1), hkt.sq _⟩) (fun i x H2 H3 hi hp hy => ?_) (fun H2 hp => ?_)
        · obtain ⟨bs, b1, b2, sm, ball⟩ := hp
          obtain ⟨T, v1, v2, rfl, nT, _, e1, e2, s3, hT⟩ := pair_at hy
          obtain ⟨n, hn, rfl⟩ : ∃ n, nums[i]? = some n ∧ V.int n = v1 := by rw [List.getElem?_map] at e1; simpa using e1
          obtain ⟨k, hk2, rfl⟩ : ∃ k, ks[i]? = some k ∧ V.str k = v2 := by rw [List.getElem?_map] at e2; simpa using e2
          have TD : D ≠ T := ne_of_none b2 nT
          have hb3 : H3 D = some (.lst (bs.map V.bl)) := s3 _ _ b2
          have hget : DGet H3 c (.str k) (some (.int (cap cnt cells k))) := counts_at (ks := ks) (s3 _ _ (sm _ _ hc1)) (kinds_known hk k (List.mem_of_getElem? hk2))
          have fin : ∀ r : Bool, r = (decide (0 ≤ n) && decide (n < cap cnt cells k)) → ∃ acc, H3 D = some (.lst acc) ∧ acc.length < sizeLine ∧ ∃ bs : List Bool, bs.length = i + 1 ∧ (upd H3 D (.lst (acc ++ [.bl r]))) D = some (.lst (bs.map V.bl)) ∧ Same H1 (upd H3 D (.lst (acc ++ [.bl r]))) ∧
              ∀ (j : Nat) (n : Int) (k : Str), j < i + 1 → nums[j]? = some n → ks[j]? = some k → bs[j]? = some (decide (0 ≤ n) && decide (n < cap cnt cells k)) := fun r hr => by
            refine ⟨_, hb3, by rw [List.length_map]; exact fits (by omega), bs ++ [r], by simp [b1], by rw [upd_same, List.map_append]; rfl, fun u o hu => ?_, fun j n' k' hj f1 f2 => ?_⟩
            · rw [upd_ne (ne_of_none hu nD)]; exact s3 _ _ (sm _ _ hu)
            · by_cases hji : j < i
              · rw [List.getElem?_append_left (by omega)]
                exact ball j n' k' hji f1 f2
              · have : j = i := by omega
                subst this
                rw [hn] at f1; cases f1
                rw [hk2] at f2; cases f2
                rw [List.getElem?_append_right (by omega), b1, Nat.sub_self, hr]; rfl
          refine ⟨T, _, rfl, sqT_t hT, rfl, _, _, rfl, _, _, rfl, rfl, rfl, ?_⟩
          refine ⟨_, rfl, _, _, rfl, rfl, _, rfl, ?_⟩
          by_cases h0 : (0 : Int) ≤ n
          · rw [decide_eq_true h0]
            refine iteT ⟨_, rfl, _, rfl, c, _, rfl, hget, _, _, rfl, rfl, ?_⟩
            exact fin _ (by rw [decide_eq_true h0]; rfl)
          · rw [decide_eq_false h0]
            exact iteF (fin _ (by rw [decide_eq_false h0]; rfl))
        · obtain ⟨bs, b1, b2, sm, ball⟩ := hp
          refine ⟨D, bs, rfl, sqL_l b2, ?_⟩
          have := q H2 (s1.trans sm)
          rw [show deedCan cnt cells ⟨wd, nums⟩ = bs.all id by
            simp only [deedCan, hk]
            exact (numsCan_all heq bs b1 fun j n k e1 e2 => ball j n k (by have := (List.getElem?_eq_some_iff.mp e1).1; omega) e1 e2).symm] at this
          exact this
theorem starts_take {prog : List RDeed} {i : Nat} {d : RDeed} (h : prog[i]? = some d) : ((prog.take (i + 1)).filter rStart).length = ((prog.take i).filter rStart).length + (if rStart d then 1 else 0) := by
  rw [List.take_add_one, h]
  exact filter_app _ _ _
abbrev st_counts_of_things : Stmt := (topS 22)
abbrev nm_counts_of_things : List Str := ["order_count", "cell_count"]
theorem sc_counts_of_things : FnScope ["order_count", "cell_count"] ["order_count", "cell_count"] (defScope st_counts_of_things) := ⟨rfl, rfl, rfl, by decide +kernel, rfl, by decide +kernel, by decide +kernel⟩
def spCounts : Sp := fun vs H Q _ => ∃ (cnt cells : Int), vs = [.int cnt, .int cells] ∧ ∀ (c : Addr) H', H c = none → H' c = some (.dK (countsK cnt cells)) → Same H H' → Q (.ref c) H'
theorem ok_counts {f : Addr} {fd : FuncData} (F : Fun K "counts_of_things" "counts_of_things" st_counts_of_things f fd) (C : Consts K mg) : FnOk P w K mg base CX0 1 f fd ["order_count", "cell_count"] spCounts := by
  obtain ⟨tN, mc_NUMBERS⟩ := C.numbers
  obtain ⟨tL, mc_LINE⟩ := C.line
  refine F.ok sc_counts_of_things (fun vs H Q E h => ?_) (fun cdv A outer s H vs Q E hr h => ?_)
  · obtain ⟨cnt, cells, rfl, _⟩ := h
    rfl
  · obtain ⟨cnt, cells, rfl, q⟩ := h
    refine ⟨_, (pss_one (ps_ret (pe_disp (pps_cons pe_str (pv 1) (pps_cons pe_str (pe_glob (v := .int 10) rfl mc_NUMBERS ⟨_, rfl⟩) (pps_cons pe_str (pv 0) (pps_cons pe_str (pe_op op_fdiv (pv 1) (pe_glob (v := .int 4) rfl mc_LINE ⟨_, rfl⟩)) pps_nil)))) (by rfl) (by rfl) (fun z => by cases z) (by decide)))), ?_⟩
    refine fun c nc => ?_
    refine ⟨_, rfl, _, rfl, _, rfl, _, _, rfl, rfl, ⟨by decide, by decide⟩, upd_same, countsK cnt cells, rfl, (by show 4 ≤ 15; decide), ?_⟩
    refine q c _ nc ?_ ?_
    · rw [upd_same]; rfl
    · rw [upd_upd]; exact same_new nc
abbrev st_first_wrong_deed : Stmt := (topS 21)
abbrev nm_first_wrong_deed : List Str := ["program", "order_count", "cell_count", "counts", "starts", "at", "deed"]
theorem sc_first_wrong_deed : FnScope ["program", "order_count", "cell_count", "counts", "starts", "at", "deed"] ["program", "order_count", "cell_count"] (defScope st_first_wrong_deed) := ⟨rfl, rfl, rfl, by decide +kernel, rfl, by decide +kernel, by decide +kernel⟩
def spFwDeed (K : PySem.W.Frag) (w : World) (dd : Addr) : Sp := fun vs H Q _ => ∃ (a : Addr) (ps : List V) (prog : List RDeed) (cnt cells : Int), vs = [.ref a, .int cnt, .int cells] ∧ H a = some (.tup ps) ∧ Pds H ps (prog.map RDeed.d) ∧ (∀ d ∈ prog, d.nums.length ≤ 1000) ∧
  (∀ d ∈ prog, kindsOf d.word = none → KMiss K w dd d.word) ∧ ∀ H', Same H H' → Q (oV (fwDeed prog cnt cells)) H'
theorem ok_fwdeed {f dd : Addr} {fd : FuncData} (F : Fun K "first_wrong_deed" "first_wrong_deed" st_first_wrong_deed f fd) (C : Consts K mg) (c_deed_can_be : Callee P w K mg base "deed_can_be" 1 2 (spDeedCan K w dd)) (c_counts_of_things : Callee P w K mg base "counts_of_things" 1 2 spCounts) (z_enumerate : mg "enumerate" = none) :
    FnOk P w K mg base CX0 2 f fd ["program", "order_count", "cell_count"] (spFwDeed K w dd) := by
  obtain ⟨tN, mc_NUMBERS⟩ := C.numbers
  obtain ⟨tL, mc_LINE⟩ := C.line
  obtain ⟨tD, mc_MOST_DEEDS⟩ := C.deeds
  obtain ⟨tS, mc_MOST_STARTS⟩ := C.starts
  refine F.ok sc_first_wrong_deed (fun vs H Q E h => ?_) (fun cdv A outer s H vs Q E hr h => ?_)
  · obtain ⟨a, ps, prog, cnt, cells, rfl, _⟩ := h
    rfl
  · obtain ⟨a, ps, prog, cnt, cells, rfl, ha, hs, hnum, hmiss, q⟩ := h
    have plen : ps.length = prog.length := by rw [hs.len, List.length_map]
    refine ⟨_, (pss_cons (ps_set (i := 3) sc_first_wrong_deed.nd rfl (Or.inl rfl) (pe_cal c_counts_of_things hr (by first | decide | exact Nat.le_refl _) (pa_cons (pv 1) (pa_cons (pv 2) pa_nil))))
  (pss_cons (ps_set (i := 4) sc_first_wrong_deed.nd rfl (Or.inl rfl) pe_int)
  (pss_cons (ps_for PassesOwn.never rfl (pi_enumT (by rfl) z_enumerate (pa_cons (pv 0) pa_nil)) (pg_tup rfl (pgs_cons (pg_name (i := 5) sc_first_wrong_deed.nd rfl (Or.inl rfl)) (pgs_cons (pg_name (i := 6) sc_first_wrong_deed.nd rfl (Or.inl rfl)) pgs_nil)))
  (pss_cons (ps_if (PW.pt (pw_or (pt_cmpR op_eq (pv 5) (pe_glob (v := .int 60) rfl mc_MOST_DEEDS ⟨_, rfl⟩) (nomark _)) (pw_or1 (pt_not (pt_val (pe_cal c_deed_can_be hr (by first | decide | exact Nat.le_refl _) (pa_cons (pv 6) (pa_cons (pv 3) pa_nil)))))))) (pss_one (ps_ret (pv 5))) pss_nil)
  (pss_cut (ps_if (pt_cmpR op_eq (pe_ix ix_lt (pv 6) pe_int (fun _ _ => rfl)) pe_str (nomark _)) (pss_one (ps_aug (i := 4) sc_first_wrong_deed.nd rfl (Or.inl rfl) pe_int ip_add)) pss_nil)
  (pss_one (ps_if (pt_cmpR op_gt (pv 4) (pe_glob (v := .int 3) rfl mc_MOST_STARTS ⟨_, rfl⟩) (nomark _)) (pss_one (ps_ret (pv 5))) pss_nil)))))
  (pss_one (ps_ret pe_non))))), ?_⟩
    -- counts
    refine ⟨_, rfl, _, rfl, cnt, cells, rfl, fun c H1 nc hc1 s1 => ?_⟩
    refine ⟨_, rfl, a, rfl, .inr ⟨_, sqT_t (s1 _ _ ha), ?_⟩⟩
    refine for_it (walk_enumT (xs := ps)) (fun i σ H' => ∃ y1 y2, σ = [some (.ref a), some (.int cnt), some (.int cells), some (.ref c), some (.int (((prog.take i).filter rStart).length : Nat)), y1, y2] ∧ Same H1 H' ∧
        ∀ (j : Nat) (d : RDeed), j < i → prog[j]? = some d → badDeed prog cnt cells j d = false)
      ⟨_, _, rfl, Same.refl _, fun j n hj => absurd hj (by omega)⟩ (fun i σ H' _ hp => by obtain ⟨_, _, _, sm, _⟩ := hp; exact sqT_t ((s1.trans sm) _ _ ha)) (fun i x σ H2 H3 hi hp hy => ?_) (fun σ H2 hp => ?_)
    · obtain ⟨y1, y2, rfl, sm, hall⟩ := hp
      obtain ⟨T, a1, b, rfl, nT, _, h1, hb, s2, hT⟩ := pair_at hy
      cases h1
      obtain ⟨dx, hd, hpd⟩ := hs.get' hb
      rw [List.getElem?_map] at hd
      obtain ⟨d, ho, rfl⟩ : ∃ d, prog[i]? = some d ∧ d.d = dx := by simpa using hd
      have hmem : d ∈ prog := List.mem_of_getElem? ho
      have s13 : Same H H3 := (s1.trans sm).trans s2
      obtain ⟨oa, rfl, hoa⟩ := RDeed.of (hpd.same s13)
      have ret : ∀ H', Same H3 H' → badDeed prog cnt cells i d = true → Q (nV i) H' := fun H' s4 hb => by
        have := q H' (s13.trans s4)
        rw [fwDeed, fst_some (i := i) ho (by rw [Nat.zero_add]; exact hb) fun j y hj ej => by rw [Nat.zero_add]; exact hall j y hj ej, Nat.zero_add] at this
        exact this
      refine ⟨T, _, rfl, sqT_t hT, rfl, _, _, rfl, _, _, rfl, rfl, ?_⟩
      refine ⟨_, rfl, rfl, _, rfl, ite2 (fun e => iteT ?_) (fun e => ?_)⟩
      · have e4 : (i : Int) = 60 := by injection of_decide_eq_true e
        have e4' : i = 60 := by omega
        exact ⟨_, rfl, ret H3 (Same.refl _) (by simp [badDeed, e4'])⟩
      · have n4 : ¬ i = 60 := fun z => e (by rw [z]; rfl)
        refine ⟨_, rfl, _, rfl, oa, c, d, cnt, cells, rfl, hoa, hnum d hmem, (sm.trans s2) _ _ hc1, hmiss d hmem, fun H4 s4 => ⟨_, rfl, ite2 (fun e => ⟨_, rfl, ret H4 s4 ?_⟩) (fun e => ?_)⟩⟩
        · simp only [badDeed, e, Bool.or_true, Bool.true_or]
        have can : deedCan cnt cells d = true := by simpa using e
        -- if deed[0] == "start": starts += 1
        refine ⟨fun σ' H' => σ' = [some (.ref a), some (.int cnt), some (.int cells), some (.ref c), some (.int (((prog.take (i + 1)).filter rStart).length : Nat)), some (.int (i : Nat)), some (.ref oa)] ∧ H' = H4, ?_, fun σ' H' hM => ?_⟩
        · refine ⟨_, rfl, oa, _, 0, .str d.word, rfl, rfl, sqA_t (s4 _ _ hoa), at0, rfl, _, rfl, ite2 (fun e => ?_) (fun e => ?_)⟩
          · have ew : d.word = "start" := by injection of_decide_eq_true e
            refine ⟨_, rfl, _, _, rfl, rfl, ?_, rfl⟩
            rw [starts_take ho, if_pos (by simp [rStart, ew])]
            rfl
          · have ew : ¬ d.word = "start" := fun z => e (by rw [z]; exact decide_eq_true rfl)
            refine ⟨?_, rfl⟩
            rw [starts_take ho, if_neg (by simp [rStart, ew])]
            rfl
        · obtain ⟨rfl, rfl⟩ := hM
          refine ⟨_, rfl, _, _, rfl, rfl, _, rfl, ite2 (fun e => ⟨_, rfl, ret _ s4 ?_⟩) (fun e => ?_)⟩
          · have h3 : 3 < ((prog.take (i + 1)).filter rStart).length := by have := of_decide_eq_true e; omega
            simp only [badDeed, decide_eq_true h3, Bool.or_true]
          · have h3 : ¬ 3 < ((prog.take (i + 1)).filter rStart).length := fun z => e (decide_eq_true (by omega))
            refine ⟨_, _, rfl, (sm.trans s2).trans s4, fun j y hj ej => ?_⟩
            by_cases hji : j < i
            · exact hall j y hji ej
            · have : j = i := by omega
              subst this
              rw [ho] at ej; cases ej
              simp only [badDeed, can, decide_eq_false n4, decide_eq_false h3]; rfl
    · obtain ⟨y1, y2, rfl, sm, hall⟩ := hp
      have := q H2 (s1.trans sm)
      rw [fwDeed, fst_none fun i x e => by
        rw [Nat.zero_add]
        exact hall i x (by have := (List.getElem?_eq_some_iff.mp e).1; omega) e] at this
      exact this
end
end Vt
namespace Vt
open PySem PySem.Spec PyProof.Rows L2
/-! ### boards that can be -/
theorem kinds_deed (d : Deed) : ∃ ks, kindsOf d.word = some ks ∧ ks.length = d.args.length := by
  cases d
  · exact ⟨["cell", "number"], rfl, rfl⟩
  · exact ⟨["cell", "cell"], rfl, rfl⟩
  · exact ⟨["cell"], rfl, rfl⟩
  · exact ⟨["order"], rfl, rfl⟩
  · exact ⟨[], rfl, rfl⟩
  · exact ⟨["line"], rfl, rfl⟩
  · exact ⟨["line"], rfl, rfl⟩
theorem can_deed {d : Deed} {cnt cells : Nat} (h : DeedOk d cnt cells) : deedCan cnt cells d.raw = true := by
  have c1 : ∀ a b : Int, cap a b "cell" = b := fun _ _ => rfl
  have c2 : ∀ a b : Int, cap a b "number" = 10 := fun _ _ => rfl
  have c3 : ∀ a b : Int, cap a b "order" = a := fun _ _ => rfl
  have c4 : ∀ a b : Int, cap a b "line" = b / 4 := fun _ _ => rfl
  cases d with
  | set c n =>
    obtain ⟨h1, h2⟩ := h
    have e : kindsOf "set" = (some ["cell", "number"] : Option (List Str)) := by decide
    simp only [deedCan, Deed.raw, Deed.word, Deed.args, e, List.map_cons, List.map_nil, numsCan, c1, c2, Bool.and_true, Bool.and_eq_true, decide_eq_true_eq]
    omega
  | add c n =>
    obtain ⟨h1, h2⟩ := h
    have e : kindsOf "add" = (some ["cell", "cell"] : Option (List Str)) := by decide
    simp only [deedCan, Deed.raw, Deed.word, Deed.args, e, List.map_cons, List.map_nil, numsCan, c1, c2, Bool.and_true, Bool.and_eq_true, decide_eq_true_eq]
    omega
  | say c =>
    have h1 : c < cells := h
    have e : kindsOf "say" = (some ["cell"] : Option (List Str)) := by decide
    simp only [deedCan, Deed.raw, Deed.word, Deed.args, e, List.map_cons, List.map_nil, numsCan, c1, c2, Bool.and_true, Bool.and_eq_true, decide_eq_true_eq]
    omega
  | start c =>
    have h1 : c < cnt := h
    have e : kindsOf "start" = (some ["order"] : Option (List Str)) := by decide
    simp only [deedCan, Deed.raw, Deed.word, Deed.args, e, List.map_cons, List.map_nil, numsCan, c3, Bool.and_true, Bool.and_eq_true, decide_eq_true_eq]
    omega
  | wait =>
    have e : kindsOf "wait" = (some [] : Option (List Str)) := by decide
    simp only [deedCan, Deed.raw, Deed.word, Deed.args, e, List.map_nil, numsCan]
  | clean c =>
    have h1 : c < cells / 4 := h
    have e : kindsOf "clean" = (some ["line"] : Option (List Str)) := by decide
    simp only [deedCan, Deed.raw, Deed.word, Deed.args, e, List.map_cons, List.map_nil, numsCan, c4, Bool.and_true, Bool.and_eq_true, decide_eq_true_eq]
    omega
  | drop c =>
    have h1 : c < cells / 4 := h
    have e : kindsOf "drop" = (some ["line"] : Option (List Str)) := by decide
    simp only [deedCan, Deed.raw, Deed.word, Deed.args, e, List.map_cons, List.map_nil, numsCan, c4, Bool.and_true, Bool.and_eq_true, decide_eq_true_eq]
    omega
theorem can_ord {o : Ord} {at_ cnt cells : Nat} (h : OrdOk o at_ cnt cells) : ordCan cnt cells at_ o.raw = true := by
  obtain ⟨h1, h2, h3, h4, h5⟩ := h
  have hl : laterCan cnt at_ o.raw.later = true := by
    obtain ⟨s, g, m, l⟩ := o
    cases l with
    | none => rfl
    | some k =>
      have := h5 k rfl
      show (decide ((at_ : Int) < (k : Int)) && decide ((k : Int) < (cnt : Int))) = true
      rw [Bool.and_eq_true, decide_eq_true_eq, decide_eq_true_eq]
      omega
  simp only [ordCan, hl, Bool.and_true, Bool.and_eq_true, decide_eq_true_eq]
  simp only [Ord.raw]
  refine ⟨⟨⟨⟨⟨?_, ?_⟩, ?_⟩, ?_⟩, ?_⟩, ?_⟩ <;> omega
theorem ok_mem {B : Brd} (h : BrdOk B) : fwCell B.raw.mem = none := by
  have hl : B.raw.mem.length = B.mem.length := by simp [Brd.raw]
  rw [fwCell, if_pos (by rw [hl]; exact h.cells)]
  refine fst_none fun i x e => ?_
  obtain ⟨n, hn, rfl⟩ : ∃ n, B.mem[i]? = some n ∧ (n : Int) = x := by
    simp only [Brd.raw, List.getElem?_map] at e
    simpa using e
  have := h.nums n (List.mem_of_getElem? hn)
  simp [badNum]; omega
theorem ok_ords {B : Brd} (h : BrdOk B) : fwOrd B.raw.ords B.mem.length = none := by
  refine fst_none fun i x e => ?_
  obtain ⟨o, ho, rfl⟩ : ∃ o, B.ords[i]? = some o ∧ o.raw = x := by
    simp only [Brd.raw, List.getElem?_map] at e
    simpa using e
  have hl : B.raw.ords.length = B.ords.length := by simp [Brd.raw]
  have hi : i < B.ords.length := (List.getElem?_eq_some_iff.mp ho).1
  have := h.four
  rw [Nat.zero_add, badOrd, hl, can_ord (h.ords i o ho)]
  simp; omega
theorem rstart_raw (d : Deed) : rStart d.raw = isStart d := by
  have := word_start d
  simp only [rStart, Deed.raw]
  cases h : isStart d with
  | true => exact decide_eq_true (this.mpr h)
  | false => exact decide_eq_false fun z => by rw [this.mp z] at h; cases h
theorem ok_prog {B : Brd} (h : BrdOk B) : fwDeed B.raw.prog B.ords.length B.mem.length = none := by
  refine fst_none fun i x e => ?_
  obtain ⟨d, hd, rfl⟩ : ∃ d, B.prog[i]? = some d ∧ d.raw = x := by
    simp only [Brd.raw, List.getElem?_map] at e
    simpa using e
  have hi : i < B.prog.length := (List.getElem?_eq_some_iff.mp hd).1
  have h60 := h.sixty
  have hs : ((B.raw.prog.take (i + 1)).filter rStart).length ≤ 3 := by
    have e1 : (B.raw.prog.take (i + 1)).filter rStart = ((B.prog.take (i + 1)).filter isStart).map Deed.raw := by
      simp only [Brd.raw, ← List.map_take, List.filter_map]
      congr 1
      exact List.filter_congr fun d _ => rstart_raw d
    rw [e1, List.length_map]
    exact Nat.le_trans (List.Sublist.length_le ((List.take_sublist _ _).filter _)) h.starts
  rw [Nat.zero_add, badDeed, can_deed (h.prog d (List.mem_of_getElem? hd)), decide_eq_false (show ¬ i = 60 by omega), decide_eq_false (show ¬ 3 < _ by omega)]
  rfl
section
variable {P : Program} {w : World} {K : PySem.W.Frag} {mg : Str → Option Value} {base : Heap}
abbrev st_require_board : Stmt := (topS 17)
abbrev nm_require_board : List Str := ["board", "memory", "orders", "program", "wrong"]
theorem sc_require_board : FnScope ["board", "memory", "orders", "program", "wrong"] ["board"] (defScope st_require_board) := ⟨rfl, rfl, rfl, by decide +kernel, rfl, by decide +kernel, by decide +kernel⟩
/-- a board that can be is let through -/
def spReq : Sp := fun vs H Q _ => ∃ (v : V) (B : Brd), vs = [v] ∧ Pd H v B.d ∧ BrdOk B ∧ ∀ H', Same H H' → Q .non H'
theorem ok_req {f dd : Addr} {fd : FuncData} (F : Fun K "require_board" "require_board" st_require_board f fd) (c_first_wrong_cell : Callee P w K mg base "first_wrong_cell" 1 1 spFwCell) (c_first_wrong_order : Callee P w K mg base "first_wrong_order" 2 2 spFwOrd)
    (c_first_wrong_deed : Callee P w K mg base "first_wrong_deed" 2 3 (spFwDeed K w dd)) (z_len : mg "len" = none) : FnOk P w K mg base CX0 3 f fd ["board"] spReq := by
  refine F.ok sc_require_board (fun vs H Q E h => ?_) (fun cdv A outer s H vs Q E hr h => ?_)
  · obtain ⟨v, B, rfl, _⟩ := h
    rfl
  · obtain ⟨v, B, rfl, hB, ok, q⟩ := h
    rw [← raw_brd] at hB
    obtain ⟨a, m, o, p, os, ps, rfl, ha, hm, ho, hos, hp, hps⟩ := RBrd.of hB
    refine ⟨_, (pss_cons (ps_asg (pv 0) (pg_tup rfl (pgs_cons (pg_name (i := 1) sc_require_board.nd rfl (Or.inl rfl)) (pgs_cons (pg_name (i := 2) sc_require_board.nd rfl (Or.inl rfl)) (pgs_cons (pg_name (i := 3) sc_require_board.nd rfl (Or.inl rfl)) pgs_nil)))))
  (pss_cons (ps_set (i := 4) sc_require_board.nd rfl (Or.inl rfl) (pe_cal c_first_wrong_cell hr (by first | decide | exact Nat.le_refl _) (pa_cons (pv 1) pa_nil)))
  (pss_cons (ps_if (pt_cmpR op_notN (pv 4) pe_non (nomark _)) (pss_one ps_never) pss_nil)
  (pss_cons (ps_set (i := 4) sc_require_board.nd rfl (Or.inl rfl) (pe_cal c_first_wrong_order hr (by first | decide | exact Nat.le_refl _) (pa_cons (pv 2) (pa_cons (pe_callB call_len_seq (by rfl) z_len (by decide +kernel) (pa_cons (pv 1) pa_nil)) pa_nil))))
  (pss_cons (ps_if (pt_cmpR op_notN (pv 4) pe_non (nomark _)) (pss_one ps_never) pss_nil)
  (pss_cons (ps_set (i := 4) sc_require_board.nd rfl (Or.inl rfl) (pe_cal c_first_wrong_deed hr (by first | decide | exact Nat.le_refl _) (pa_cons (pv 3) (pa_cons (pe_callB call_len_seq (by rfl) z_len (by decide +kernel) (pa_cons (pv 2) pa_nil)) (pa_cons (pe_callB call_len_seq (by rfl) z_len (by decide +kernel) (pa_cons (pv 1) pa_nil)) pa_nil)))))
  (pss_one (ps_if (pt_cmpR op_notN (pv 4) pe_non (nomark _)) (pss_one ps_never) pss_nil)))))))), ?_⟩
    refine ⟨_, rfl, a, _, rfl, sqT_t ha, rfl, _, _, rfl, _, _, rfl, _, _, rfl, rfl, ?_⟩
    have ml : (B.raw.mem.map V.int).length = B.mem.length := by simp [Brd.raw]
    have ol : os.length = B.ords.length := by rw [hos.len]; simp [Brd.raw]
    refine ⟨_, rfl, m, _, rfl, hm, fun H1 s1 => ?_⟩
    rw [ok_mem ok]
    refine ⟨_, rfl, rfl, _, rfl, iteF ?_⟩
    refine ⟨_, rfl, _, rfl, m, _, rfl, .inr (sqT_t (s1 _ _ hm)), o, os, B.raw.ords, _, rfl, s1 _ _ ho, hos.same s1, fun H2 s2 => ?_⟩
    rw [show fwOrd B.raw.ords ((B.raw.mem.map V.int).length : Nat) = none by rw [ml]; exact ok_ords ok]
    refine ⟨_, rfl, rfl, _, rfl, iteF ?_⟩
    have s12 := s1.trans s2
    refine ⟨_, rfl, _, rfl, o, _, rfl, .inr (sqT_t (s12 _ _ ho)), _, rfl, m, _, rfl, .inr (sqT_t (s12 _ _ hm)), p, ps, B.raw.prog, _, _, rfl, s12 _ _ hp, hps.same s12, fun d hd => ?_, fun d hd hk => ?_, fun H3 s3 => ?_⟩
    · obtain ⟨d0, _, rfl⟩ := List.mem_map.mp hd
      have : d0.raw.nums.length = d0.args.length := by simp [Deed.raw]
      rw [this]
      cases d0 <;> simp [Deed.args]
    · obtain ⟨d0, _, rfl⟩ := List.mem_map.mp hd
      obtain ⟨ks, e, _⟩ := kinds_deed d0
      rw [show d0.raw.word = d0.word from rfl, e] at hk; cases hk
    rw [show fwDeed B.raw.prog (os.length : Nat) ((B.raw.mem.map V.int).length : Nat) = none by rw [ml, ol]; exact ok_prog ok]
    exact ⟨_, rfl, rfl, _, rfl, iteF (q H3 (s12.trans s3))⟩
end
end Vt
namespace Vt
open PySem PySem.Spec PyProof.Rows L2
/-! ### what a chain of orders tells to move -/
structure Mv where
  src : Nat
  goal : Nat
  bell : Option Nat
def Mv.d (m : Mv) : D := .tup [nD m.src, nD m.goal, oD m.bell]
def Mv.vs (m : Mv) : List V := [nV m.src, nV m.goal, oV m.bell]
theorem Mv.pd {H : Hp} {m : Mv} {a : Addr} (h : H a = some (.tup m.vs)) : Pd H (.ref a) m.d := .tup h (.cons (.int _) (.cons (.int _) (.cons (pd_o _) .nil)))
theorem Mv.of {H : Hp} {m : Mv} {v : V} (h : Pd H v m.d) : ∃ a, v = .ref a ∧ H a = some (.tup m.vs) := by
  obtain ⟨s, g, l⟩ := m
  cases h with
  | tup h hs =>
    cases hs with
    | cons h1 hs => cases h1; cases hs with
      | cons h2 hs => cases h2; cases hs with
        | cons h4 hs =>
          cases hs
          refine ⟨_, rfl, ?_⟩
          cases l with
          | none => cases h4; exact h
          | some k => cases h4; exact h
theorem noL_mv (m : Mv) : m.d.noL = true := by
  obtain ⟨s, g, l⟩ := m
  cases l <;> simp [Mv.d, D.noL, noLs, nD, oD]
def mvAt (o : Ord) (at_ s : Nat) : Mv := ⟨o.src + s, o.goal + s, if s + 1 = o.many then some at_ else none⟩
def movesOf (o : Ord) (at_ : Nat) : List Mv := (List.range o.many).map (mvAt o at_)
def chain (ords : List Ord) : Nat → Option Nat → List Mv
  | _, none => []
  | 0, some _ => []
  | f + 1, some k => match ords[k]? with
    | none => []
    | some o => movesOf o k ++ chain ords f o.later
def told (ords : List Ord) (k : Nat) : List Mv := chain ords 4 (some k)
theorem movesOf_take {o : Ord} {at_ i : Nat} (h : i < o.many) : (movesOf o at_).take (i + 1) = (movesOf o at_).take i ++ [mvAt o at_ i] := by
  rw [List.take_add_one]
  congr 1
  rw [movesOf, List.getElem?_map, List.getElem?_range h]; rfl
theorem movesOf_len {o : Ord} {at_ : Nat} : (movesOf o at_).length = o.many := by simp [movesOf]
theorem chain_len (ords : List Ord) (hm : ∀ o ∈ ords, o.many ≤ 8) : ∀ f k, (chain ords f k).length ≤ 8 * f
  | 0, none => by simp [chain]
  | 0, some _ => by simp [chain]
  | f + 1, none => by simp [chain]
  | f + 1, some k => by
    rw [chain]
    split
    · simp
    · rename_i o e
      have := chain_len ords hm f o.later
      have := hm o (List.mem_of_getElem? e)
      rw [List.length_append, movesOf_len]; omega
theorem told_len {ords : List Ord} (hm : ∀ o ∈ ords, o.many ≤ 8) (k : Nat) : (told ords k).length ≤ 32 := chain_len ords hm 4 _
/-- a measure of what is left of a chain -/
def leftAt (i n : Nat) (σ : L2.St) : Nat := match σ[i]? with
  | some (some (.int k)) => n - k.toNat
  | _ => 0
def spMoves : Sp := fun vs H Q _ => ∃ (a : Addr) (os : List V) (ords : List Ord) (cells k : Nat), vs = [.ref a, nV k] ∧ H a = some (.tup os) ∧ Pds H os (ords.map Ord.d) ∧ ords.length ≤ 4 ∧ (∀ (i : Nat) (o : Ord), ords[i]? = some o → OrdOk o i ords.length cells) ∧ k < ords.length ∧
  ∀ (H' : Hp) (p : Addr) (xs : List V), Same H H' → H p = none → H' p = some (.lst xs) → Pds H' xs ((told ords k).map Mv.d) → Q (.ref p) H'
end Vt
namespace Vt
open PySem PySem.Spec PyProof.Rows L2
/-! ### dicts whose keys are nested tuples -/
mutual
def nk : D → NestedKey
  | .non => .none
  | .bl b => .num (if b = true then 1 else 0)
  | .int i => .num i
  | .str x => .text x
  | .tup ds => .tup (nks ds)
  | .lst _ => .none
def nks : List D → List NestedKey
  | [] => []
  | d :: ds => nk d :: nks ds
end
section
variable {P : Program} {w : World} {H : Hp} {h : Heap}
mutual
theorem nk_is (ok : HOk P w H h) : ∀ {d : D} {v : V} {u : Value}, d.noL = true → Pd H v d → RelV v u → NestedIs h (nk d) u
  | .non, _, _, _, .non, r => by cases (show _ = Value.none from r); exact .none
  | .bl b, _, _, _, .bl _, r => by cases (show _ = Value.bool b from r); exact .bool rfl
  | .int i, _, _, _, .int _, r => by obtain ⟨t, rfl⟩ := r; exact .int i t
  | .str x, _, _, _, .str _, r => by obtain ⟨t, rfl⟩ := r; exact .text x t
  | .tup ds, _, _, n, .tup e hs, r => by
    cases r
    obtain ⟨_, its, rv, o, h1, h2, m, h3⟩ := (show ObjOk P w H h _ (.tup _) from ok _ _ e)
    exact .tup h1 h2 h3 (by simpa using nks_are ok (by rw [D.noL] at n; exact n) hs rv)
  | .lst ds, _, _, n, .lst _ _, _ => by rw [D.noL] at n; cases n
theorem nks_are (ok : HOk P w H h) : ∀ {ds : List D} {vs : List V} {us : List Value}, noLs ds = true → Pds H vs ds → Vals vs us → NestedAll h (nks ds) us
  | [], _, _, _, .nil, .nil => .nil
  | d :: ds, _, _, n, .cons p ps, .cons r rs => by
    rw [noLs, Bool.and_eq_true] at n
    exact .cons (nk_is ok n.1 p r) (nks_are ok n.2 ps rs)
end
mutual
theorem nk_dep : ∀ d : D, (nk d).depth ≤ d.dep
  | .non => Nat.le_refl _
  | .bl _ => Nat.le_refl _
  | .int _ => Nat.le_refl _
  | .str _ => Nat.le_refl _
  | .tup ds => by rw [nk, NestedKey.depth, D.dep]; exact Nat.succ_le_succ (nks_dep ds)
  | .lst ds => Nat.zero_le _
theorem nks_dep : ∀ ds : List D, NestedKey.depthAll (nks ds) ≤ deps ds
  | [] => Nat.le_refl _
  | d :: ds => by
    rw [nks, NestedKey.depthAll, deps]
    have := nk_dep d
    have := nks_dep ds
    omega
end
end
/-- an entry: the key, its tuple's address, the value -/
abbrev NEnt : Type := D × Addr × V
abbrev NRel : List NEnt → List (NestedKey × Addr × Value) → Prop := Paired fun p q => q.1 = nk p.1 ∧ q.2.1 = p.2.1 ∧ RelV p.2.2 q.2.2
def DN (P : Program) (w : World) (d : Addr) (es : List NEnt) : HO := .ext fun h => (d == sysModules) = false ∧ es.length ≤ sizeLine ∧ ∃ xs, NRel es xs ∧
  ∃ o ea ep, h.get? d = some o ∧ o.ExactDict ∧ o.data = .dict ea ep ∧ ea.toList = xs.map (entryOfKey (nestedKind P w)) ∧ (xs.map (·.1)).Nodup
/-- the keys' tuples stand -/
def KeysAt (H : Hp) (es : List NEnt) : Prop := ∀ e ∈ es, Pd H (.ref e.2.1) e.1 ∧ e.1.noL = true ∧ e.1.dep ≤ 8
def hasN (es : List NEnt) (k : D) : Bool := es.any fun e => decide (nk e.1 = nk k)
theorem dn_ok {P : Program} {w : World} {H : Hp} {h : Heap} {d : Addr} {es : List NEnt} (x : (d == sysModules) = false ∧ es.length ≤ sizeLine ∧ ∃ xs, NRel es xs ∧
    ∃ o ea ep, h.get? d = some o ∧ o.ExactDict ∧ o.data = .dict ea ep ∧ ea.toList = xs.map (entryOfKey (nestedKind P w)) ∧ (xs.map (·.1)).Nodup) : ObjOk P w H h d (DN P w d es) := by
  refine ⟨x, ?_, fun h1 h2 z k => ?_⟩
  · obtain ⟨_, _, _, _, o, _, _, e, _⟩ := x
    exact ⟨o, e⟩
  · obtain ⟨a, b, xs, r, o, ea, ep, e, c⟩ := z
    exact ⟨a, b, xs, r, o, ea, ep, k _ e, c⟩
theorem dn_raw {P : Program} {w : World} {H : Hp} {h : Heap} {d : Addr} {es : List NEnt} (ok : HOk P w H h) (e : Rd H d (DN P w d es)) : (d == sysModules) = false ∧ es.length ≤ sizeLine ∧ ∃ xs, NRel es xs ∧
    ∃ o ea ep, h.get? d = some o ∧ o.ExactDict ∧ o.data = .dict ea ep ∧ ea.toList = xs.map (entryOfKey (nestedKind P w)) ∧ (xs.map (·.1)).Nodup := by
  have x := e.ok ok
  exact x.1
theorem dn_at {P : Program} {w : World} {H : Hp} {h : Heap} {d : Addr} {es : List NEnt} (ok : HOk P w H h) (e : Rd H d (DN P w d es)) (ka : KeysAt H es) : (d == sysModules) = false ∧ es.length ≤ sizeLine ∧ ∃ xs, NRel es xs ∧ h.DictOfH (nestedKind P w) d xs := by
  obtain ⟨a, b, xs, r, o, ea, ep, e1, e2, e3, e4, e5⟩ := dn_raw ok e
  refine ⟨a, b, xs, r, o, ea, ep, e1, e2, e3, e4, fun x hx => ?_, e5⟩
  have all : ∀ {l : List NEnt} {m : List (NestedKey × Addr × Value)}, NRel l m → KeysAt H l → ∀ x ∈ m, (nestedKind P w).is h x.1 x.2.1 := by
    intro l m q
    induction q with
    | nil => intro _ x hx; exact nomatch hx
    | @cons p q ps qs hq t ih =>
      intro ka x hx
      rcases List.mem_cons.mp hx with e | hx
      · subst e
        obtain ⟨k1, k2, k3⟩ := ka p (by simp)
        rw [hq.1, hq.2.1]
        exact ⟨nk_is ok k2 k1 rfl, Nat.le_trans (nk_dep _) k3⟩
      · exact ih (fun e he => ka e (List.mem_cons_of_mem _ he)) x hx
  exact all r ka x hx
theorem nrel_has : ∀ {es : List NEnt} {xs : List (NestedKey × Addr × Value)} {k : D}, NRel es xs → (atKey xs (nk k)).isSome = hasN es k
  | _, _, k, .nil => rfl
  | _, _, k, .cons (a := p) (b := q) hq t => by
    obtain ⟨p1, p2, p3⟩ := p
    obtain ⟨q1, q2, q3⟩ := q
    obtain ⟨e1, e2, e3⟩ := hq
    dsimp only at e1 e2 e3
    subst e1
    have ih := nrel_has (k := k) t
    unfold hasN at ih ⊢
    unfold atKey at ih ⊢
    rw [List.any_cons, List.find?_cons]
    by_cases h : nk p1 = nk k
    · simp [h]
    · simp only [h, decide_false, Bool.false_or]
      exact ih
theorem KeysAt.same {H H' : Hp} {es : List NEnt} (s : Same H H') (k : KeysAt H es) : KeysAt H' es := fun e he => ⟨(k e he).1.same s, (k e he).2⟩
theorem dn_ne {P : Program} {w : World} {d : Addr} {es : List NEnt} {o : HO} (h : ∀ φ, o ≠ .ext φ) : DN P w d es ≠ o := fun z => h _ z.symm
section
variable {X : Cx} {pins : List (Addr × Obj)} {σ : L2.St} {H : Hp} {s : Shared} {d b : Addr} {es : List NEnt} {k : D} {v : V} {u r : Value} {A : Around} {E : Value → Shared → Prop}
theorem nd_room (hu : A.units + 64 < cLine) : (nestedKind X.prog X.w).room A.in1 := by
  show A.units + 1 + 8 < cLine
  omega
theorem nd_key (I : Inv X pins σ H s) (hk : Pd H (.ref b) k) (n : k.noL = true) (d8 : k.dep ≤ 8) : (nestedKind X.prog X.w).is s.heap (nk k) b := ⟨nk_is I.hok n hk rfl, Nat.le_trans (nk_dep _) d8⟩
theorem nd_notIn {Q : Value → Shared → Prop} (hu : A.units + 64 < cLine) (I : Inv X pins σ H s) (e : Rd H d (DN X.prog X.w d es)) (ka : KeysAt H es) (hk : Pd H (.ref b) k) (n : k.noL = true) (d8 : k.dep ≤ 8)
    (h : ∀ s', Inv X pins σ H s' → Q (.bool (!hasN es k)) s') : wpAny (model X.prog X.w) A (compareOp .NotIn (.ref b) (.ref d)) Q E s := by
  obtain ⟨hd, _, xs, r, dd⟩ := dn_at I.hok e ka
  refine wpAny_notIn_heap (nd_room hu) (nd_key I hk n d8) hd dd ?_
  rw [nrel_has r]
  exact h _ (I.tok _)
theorem nd_set {Q : Unit → Shared → Prop} (hu : A.units + 64 < cLine) (I : Inv X pins σ H s) (e : H d = some (DN X.prog X.w d es)) (ka : KeysAt H es) (hk : Pd H (.ref b) k) (n : k.noL = true) (d8 : k.dep ≤ 8) (hn : hasN es k = false) (hl : es.length < sizeLine)
    (rv : RelV v r) (h : ∀ s', Inv X pins σ (upd H d (DN X.prog X.w d (es ++ [(k, b, v)]))) s' → Q () s') : wpAny (model X.prog X.w) A (setItem (.ref d) (.ref b) r) Q E s := by
  obtain ⟨hd, z, xs, rel, dd⟩ := dn_at I.hok (.inl e) ka
  have hz : xs.length ≤ sizeLine := by rw [← Paired.length rel]; exact z
  have hno : atKey xs (nk k) = none := by
    have := nrel_has (k := k) rel
    rw [hn] at this
    cases h : atKey xs (nk k) with
    | none => rfl
    | some p => rw [h] at this; cases this
  refine wpAny_setItem_heap (hsz := hz) (nd_room hu) (nd_key I hk n d8) dd fun h' dd' hs => h _ ?_
  obtain ⟨q, ea, ep, hq, h2, h3, h4, _, h5⟩ := dd'
  rw [storedH_new hno] at h4 h5
  exact d_write I (by rw [e]; exact True.intro) hs ⟨q, hq⟩ (dn_ok ⟨hd, by rw [List.length_append]; exact hl, _, Paired.snoc rel ⟨rfl, rfl, rv⟩, q, ea, ep, hq, h2, h3, h4, h5⟩)
end
/-- y not in d -/
def tNNot (P : Program) (w : World) (ty td : TE) : TE := fun σ H Q => ty σ H fun y H1 => td σ H1 fun x H2 => ∃ (d b : Addr) (es : List NEnt) (k : D), x = .ref d ∧ y = .ref b ∧ Rd H2 d (DN P w d es) ∧ KeysAt H2 es ∧ Pd H2 (.ref b) k ∧ k.noL = true ∧ k.dep ≤ 8 ∧ Q (.bl (!hasN es k)) H2
/-- d[y] = v, y a new key -/
def sNPut (P : Program) (w : World) (td ty tv : TE) : TS := fun D σ H => tv σ H fun v H1 => td σ H1 fun x H2 => ty σ H2 fun y H3 => ∃ (d b : Addr) (es : List NEnt) (k : Vt.D), x = .ref d ∧ y = .ref b ∧ H3 d = some (DN P w d es) ∧ KeysAt H3 es ∧ Pd H3 (.ref b) k ∧ k.noL = true ∧ k.dep ≤ 8 ∧ hasN es k = false ∧ es.length < sizeLine ∧
  D.nx σ (upd H3 d (DN P w d (es ++ [(k, b, v)])))
def tNNew (P : Program) (w : World) : TE := fun _ H Q => ∀ p, H p = none → Q (.ref p) (upd H p (DN P w p []))
def tNDisp (P : Program) (w : World) (tk tv : TE) : TE := fun σ H Q => ∀ p, H p = none → tk σ (upd H p (DN P w p [])) fun y H1 => tv σ H1 fun v H2 => H2 p = some (DN P w p []) ∧ ∃ (b : Addr) (k : D), y = .ref b ∧ Pd H2 (.ref b) k ∧ k.noL = true ∧ k.dep ≤ 8 ∧ Q (.ref p) (upd H2 p (DN P w p [(k, b, v)]))
/-- d.items(), each a new pair -/
def Itn (P : Program) (w : World) (d : Addr) (o : Obj) (es : List NEnt) : It :=
  ⟨fun i H => H d = some (.frz o (DN P w d es)) ∧ i < es.length, fun i H x H' => ∃ T k b v, es[i]? = some (k, b, v) ∧ x = .ref T ∧ H T = none ∧ H' = upd H T (.tup [.ref b, v]), fun i H => H d = some (.frz o (DN P w d es)) ∧ es.length ≤ i⟩
def iNItems (P : Program) (w : World) (td : TE) : TI := fun σ H R => td σ H fun x H1 => ∃ d o es, x = .ref d ∧ H1 d = some (.frz o (DN P w d es)) ∧ R (Itn P w d o es) H1
theorem nrel_get : ∀ {es : List NEnt} {xs : List (NestedKey × Addr × Value)} {i : Nat} {k : D} {b : Addr} {v : V}, NRel es xs → es[i]? = some (k, b, v) → ∃ u, xs[i]? = some (nk k, b, u) ∧ RelV v u
  | _, _, _, _, _, _, .nil, e => by simp at e
  | _, _, 0, k, b, v, .cons (b := q) hq t, e => by
    simp only [List.getElem?_cons_zero, Option.some.injEq] at e
    subst e
    obtain ⟨q1, q2, q3⟩ := q
    obtain ⟨e1, e2, e3⟩ := hq
    dsimp only at e1 e2 e3
    subst e1 e2
    exact ⟨q3, rfl, e3⟩
  | _, _, i + 1, k, b, v, .cons hq t, e => by
    obtain ⟨u, h1, h2⟩ := nrel_get t (show _ = some (k, b, v) by simpa using e)
    exact ⟨u, by simpa using h1, h2⟩
theorem dn_frz {X : Cx} {pins : List (Addr × Obj)} {σ : L2.St} {H : Hp} {s : Shared} {d : Addr} {o : Obj} {es : List NEnt} (I : Inv X pins σ H s) (h : H d = some (.frz o (DN X.prog X.w d es))) :
    (d == sysModules) = false ∧ s.heap.get? d = some o ∧ o.ExactDict ∧ ∃ (ea : Array DictEntry) (ep : Nat), o.data = .dict ea ep ∧ ea.size = es.length ∧ ∀ (i : Nat) (k : D) (b : Addr) (v : V), es[i]? = some (k, b, v) → ∃ (hi : i < ea.size) (u : Value), ea[i].key = .ref b ∧ ea[i].val = u ∧ RelV v u := by
  obtain ⟨hd, x⟩ := I.hok d _ h
  obtain ⟨⟨hs, z, xs, r, o', ea, ep, ho, hx, hdt, he, hn⟩, _, _⟩ := x
  rw [hd] at ho
  cases ho
  have hz : ea.size = xs.length := size_of_entries he
  have hl : es.length = xs.length := Paired.length r
  refine ⟨hs, hd, hx, ea, ep, hdt, by rw [hz, hl], fun i k b v hk => ?_⟩
  obtain ⟨u, hu, ru⟩ := nrel_get r hk
  have hi : i < ea.size := by rw [hz]; exact (List.getElem?_eq_some_iff.mp hu).1
  have e := entry_at he i
  rw [Array.getElem?_eq_getElem hi, hu, Option.map_some] at e
  have e' := Option.some.inj e
  exact ⟨hi, u, by rw [e']; rfl, by rw [e']; rfl, ru⟩
theorem turn_itn {P : Program} {w : World} {K : PySem.W.Frag} {d : Addr} {o : Obj} {ea : Array DictEntry} {ep : Nat} {es : List NEnt} {elts : List Expr} {kk : Nat} {tpos : Pos} (it : Addr) (hod : o.data = .dict ea ep) :
    Turn P w K (.Tuple elts kk tpos) (Itn P w d o es) [it] it (fun i h => ∃ ok ov, IsItemIter h it d i es.length ep ok ov) where
  mem := by simp
  obj := fun i h st b hb => by
    have e : b = it := by simpa using hb
    subst e
    obtain ⟨ok, ov, e⟩ := st
    exact ⟨_, e, fun v z => nomatch z⟩
  keep := fun i h h' st k => let ⟨ok, ov, e⟩ := st; ⟨ok, ov, k it (by simp) _ e⟩
  item := by
    intro X hP hw hK hc i pins s σ H E I hf st hg
    subst hP hw hK
    obtain ⟨hd, hi⟩ := hg
    obtain ⟨hs, hgd, hx, ea', ep', hdt, hsz, hent⟩ := dn_frz I hd
    obtain ⟨rfl, rfl⟩ := dict_ep hod hdt
    obtain ⟨⟨k, b, v⟩, hkv⟩ : ∃ p, es[i]? = some p := ⟨es[i], List.getElem?_eq_getElem hi⟩
    obtain ⟨hia, u, hu1, hu2, ru⟩ := hent i k b v hkv
    obtain ⟨ok, ov, he⟩ := st
    rw [← hsz] at he
    have hlt : it < s.heap.objs.size := Heap.lt_size he
    refine wpAny_pyNext_items_item_raw he ⟨o, hgd, hx, hdt⟩ hia fun h' ho hT hz hk => ?_
    rw [hu1, hu2] at ho hT
    refine ⟨_, rfl, wpAny_letOwnedTupleGo_items (s := { s with heap := h' }) ho fun h'' he' sb => ?_⟩
    have hT2 := (sb.2 _ (Nat.ne_of_gt hlt)).trans hT
    have new : ObjOk X.prog X.w (upd H s.heap.objs.size (.tup [.ref b, v])) h'' s.heap.objs.size (.tup [.ref b, v]) :=
      ⟨by show 2 ≤ sizeLine; decide, [.ref b, u], .cons rfl (.cons ru .nil), ⟨_, hT2, rfl, _, rfl⟩⟩
    have I1 : Inv X pins σ (upd H s.heap.objs.size (.tup [.ref b, v])) { s with heap := h'' } :=
      I.turnedNew (t' := s.toks) (ch := [it]) (fun b ob hb e => (sb.2 b (by simpa using hb)).trans (hk b ob (by simpa using hb) e)) hf (Nat.le_refl _) new
    refine ⟨.ref s.heap.objs.size, _, I1, rfl, ⟨_, k, b, v, hkv, rfl, I.hok.fresh (Nat.le_refl _), rfl⟩, ⟨.ref b, u, ?_⟩, fun b hb => ?_⟩
    · rw [← hsz]; exact he'
    · have e : b = it := by simpa using hb
      rw [e, upd_ne (Nat.ne_of_lt hlt)]
      exact (hf it (by simp)).1
  done := by
    intro X hP hw hK hc i pins s σ H E I hf st hg
    subst hP hw hK
    obtain ⟨hd, hi⟩ := hg
    obtain ⟨f0, f1, f2, f3, f4, f5⟩ := hf it (by simp)
    obtain ⟨hs, hgd, hx, ea', ep', hdt, hsz, hent⟩ := dn_frz I hd
    obtain ⟨rfl, rfl⟩ := dict_ep hod hdt
    obtain ⟨ok, ov, he⟩ := st
    rw [← hsz] at he
    exact wpAny_pyNext_items_end_raw (I.ok.hd hc) he ⟨o, hgd, hx, hdt⟩ (by omega) fun h' eb => ⟨rfl, I.turned (t' := s.toks) (fun b ob hb e => eb b ob hb e) f0 f1 f3 f4 f5⟩
  self := fun A i s Q E st h => let ⟨_, _, e⟩ := st; PySem.W.kcp_self e h
theorem dn_empty {P : Program} {w : World} {H : Hp} (h : Heap) (hb : sysModules < h.objs.size) : ObjOk P w H (h.push { cls := .type "dict", data := .dict #[] }) h.objs.size (DN P w h.objs.size []) :=
  dn_ok ⟨beq_eq_false_iff_ne.mpr (Ne.symm (Nat.ne_of_lt hb)), Nat.zero_le _, [], .nil, _, #[], 0, Heap.get?_push_size _ rfl, ⟨rfl, rfl, rfl⟩, rfl, rfl, List.nodup_nil⟩
theorem ndisp_pairs {prog : Program} {w : World} {K : Type} [DecidableEq K] {knd : HeapKind prog w K} {A : Around} {E : Value → Shared → Prop} {s : Shared} {env : Env} {keys : List (Option Expr)} {values : List Expr} {pos : Pos} {pairs : List (Sem Value × Sem Value)} {Q : Value → Shared → Prop} (hu : knd.room A)
    (hshape : (evalEachOpt keys env).zip ((evalEach values env).map fun v => do let x ← v; standAt pos; pure x) = pairs.map fun p => (some p.1, p.2)) (h0 : pairs ≠ []) (hlen : pairs.length ≤ 15)
    (h : wpAny (model prog w) A (evalPairs pairs) (fun vs s₁ => ∃ ps, CarriesH knd s₁.heap vs ps ∧ s₁.heap.DictOfH knd s.heap.objs.size [] ∧
      ∀ h' tk, h'.DictOfH knd s.heap.objs.size (storedAllH [] ps) → Heap.SameBut s.heap.objs.size s₁.heap h' → Q (.ref s.heap.objs.size) { s₁ with heap := h', toks := tk }) E
      { s with heap := s.heap.push { cls := .type "dict", data := .dict #[] } }) :
    wpAny (model prog w) A (eval (.Dict keys values pos) env) Q E s := by
  rw [arm_eval_Dict, hshape, dictDisplay_pairs pairs h0 (by omega)]
  exact wpAny_bind (wpAny_standAt (wpAny_bind (wpAny_subDictH (knd := knd) (Q := fun d s' => wpAny (model prog w) A (pure (Value.ref d)) Q E s') hu hlen
    (wpAny_mono h (fun vs s₁ h₁ => by obtain ⟨ps, hc, hm, hq⟩ := h₁; exact ⟨ps, hc, hm, fun h' tk a b => wpAny_pure (hq h' tk a b)⟩) fun _ _ e => e))))
section
variable {X : Cx} {o i e value k1 v1 : Expr} {pos pos' apos cpos : Pos} {td ty tv tk : TE}
theorem pc_nnot (hu : X.A.units + 64 < cLine) (hi : PE X i ty) (ho : PE X o td) : PC X .NotIn i o (tNNot X.prog X.w ty td) := by
  refine ⟨fun pins s σ H Q I h => ?_⟩
  refine thn (hi.run pins s σ H _ I h) fun iv s1 ⟨y, H1, I1, ry, q1⟩ => thn (ho.run pins s1 σ H1 _ I1 q1) fun u s2 ⟨x, H2, I2, rx, d, b, es, k, ex, ey, g, ka, hk, n, d8, q2⟩ => ?_
  subst ex ey
  obtain rfl : u = Value.ref d := rx
  obtain rfl : iv = Value.ref b := ry
  exact nd_notIn hu I2 g ka hk n d8 fun s3 I3 => ⟨.bl (!hasN es k), H2, I3, rfl, q2⟩
theorem ps_nput (hu : X.A.units + 64 < cLine) (ho : PE X o td) (hi : PE X i ty) (hv : PE X value tv) (hs : swapsWith value (some (.Subscript o i pos')) pos.line X.env = pure false) :
    PS X (.Assign [.Subscript o i pos'] value pos) (sNPut X.prog X.w td ty tv) := by
  refine ⟨fun pins s σ H D I h => ?_⟩
  refine wpAny_Assign_Subscript (thn (hv.run pins s σ H _ I h) fun r s1 ⟨v, H1, I1, rv, q1⟩ => thn (ho.run pins s1 σ H1 _ I1 q1) fun u s2 ⟨x, H2, I2, rx, q2⟩ => thn (hi.run pins s2 σ H2 _ I2 q2) fun iv s3 ⟨y, H3, I3, ry, d, b, es, k, ex, ey, g, ka, hk, n, d8, hn, hl, q3⟩ => ?_) hs
  subst ex ey
  obtain rfl : u = Value.ref d := rx
  obtain rfl : iv = Value.ref b := ry
  exact nd_set hu I3 g ka hk n d8 hn hl rv fun s4 I4 => ⟨σ, _, I4, q3⟩
theorem pe_nnew : PE X (.Dict [] [] pos) (tNNew X.prog X.w) := ⟨fun pins s σ H Q I h =>
  wpAny_Dict_empty ⟨.ref s.heap.objs.size, _, I.laid (a := s.heap.objs.size) (o := DN X.prog X.w s.heap.objs.size []) (t' := s.toks) (fun _ _ q => Heap.get?_push_of_some _ q) (Nat.le_refl _) (dn_empty s.heap I.big), rfl, h _ (I.hok.fresh (Nat.le_refl _))⟩⟩
theorem pe_ndisp (hu : X.A.units + 64 < cLine) (hk : PE X k1 tk) (hv : PE X v1 tv) : PE X (.Dict [some k1] [v1] pos) (tNDisp X.prog X.w tk tv) := by
  refine ⟨fun pins s σ H Q I q => ?_⟩
  have hn := I.hok.fresh (Nat.le_refl s.heap.objs.size)
  have I1 := I.laid (a := s.heap.objs.size) (o := DN X.prog X.w s.heap.objs.size []) (h' := s.heap.push { cls := .type "dict", data := .dict #[] }) (t' := s.toks) (fun _ _ q => Heap.get?_push_of_some _ q) (Nat.le_refl _) (dn_empty s.heap I.big)
  have pp : PPs X pos [some k1] [v1] [(tk, tv)] := pps_cons hk hv pps_nil
  refine ndisp_pairs (knd := nestedKind X.prog X.w) (pairs := pairTrees [some k1] [v1] X.env pos) (show X.A.units + 8 < cLine by omega) (zip_pairTrees [some k1] [v1] X.env pos rfl rfl) (by simp [pairTrees]) (by simp [pairTrees])
    (thn (pp.run pins _ σ _ (fun ps H2 => match ps with
      | [(y, v)] => H2 s.heap.objs.size = some (DN X.prog X.w s.heap.objs.size []) ∧ ∃ (b : Addr) (k : D), y = .ref b ∧ Pd H2 (.ref b) k ∧ k.noL = true ∧ k.dep ≤ 8 ∧ Q (.ref s.heap.objs.size) (upd H2 s.heap.objs.size (DN X.prog X.w s.heap.objs.size [(k, b, v)]))
      | _ => False) I1 (q _ hn)) fun ws s2 ⟨ps, H2, I2, rel, q2⟩ => ?_)
  match ps, q2 with
  | [(y, v)], ⟨e, b, k, ey, hk2, n, d8, q2⟩ =>
    subst ey
    cases rel with
    | @cons _ p _ ws' hp t =>
      cases t
      obtain ⟨p1, p2⟩ := p
      obtain ⟨r1, r2⟩ := hp
      cases (show p1 = Value.ref b from r1)
      obtain ⟨hd, z, xs, rl, dd⟩ := dn_at I2.hok (.inl e) (fun e he => by cases he)
      cases rl
      refine ⟨[(nk k, b, p2)], ⟨rfl, rfl, nd_key I2 hk2 n d8, True.intro⟩, dd, fun h' tk' dd' hs => ⟨.ref s.heap.objs.size, _, ?_, rfl, q2⟩⟩
      obtain ⟨q, ea, ep, hq, h2, h3, h4, h6, h5⟩ := dd'
      exact d_write I2 (by rw [e]; exact True.intro) hs ⟨q, hq⟩ (dn_ok ⟨hd, by show 1 ≤ sizeLine; decide, [(nk k, b, p2)], .cons ⟨rfl, rfl, r2⟩ .nil, q, ea, ep, hq, h2, h3, h4, h5⟩)
theorem pi_nitems {elts : List Expr} {kk : Nat} {tpos : Pos} (he : PE X e td) (hbase : attributeBase e "items" X.env (eval e X.env) = eval e X.env := by rfl) (hline : (apos.endLine == cpos.line) = true := by rfl) :
    PI X (.Tuple elts kk tpos) (.Call (.Attribute e "items" apos) [] [] cpos) (iNItems X.prog X.w td) := by
  refine ⟨fun pins s σ H R I h => ?_⟩
  refine wpAny_Call_method (T := "dict") (id := "dict.items") hbase rfl hline F.plainAttrs_dict F.slot_dict_items F.type_dict_items (thn (he.run pins s σ H _ I h) fun u s1 ⟨x, H1, I1, rx, d, o, es, ex, hd, q⟩ => ?_)
  subst ex
  obtain rfl : u = Value.ref d := rx
  obtain ⟨hs, hgd, hx, ea, ep, hdt, hsz, hent⟩ := dn_frz I1 hd
  have raw : s1.heap.DictRaw d ea ep := ⟨o, hgd, hx, hdt⟩
  refine ⟨raw.typeIs, fun b z => by cases z; exact ⟨o, hgd, hx.2.1⟩, ?_⟩
  have I2 : Inv X pins σ H1 { s1 with heap := s1.heap.push { cls := .type "dict_items", data := .fields #[.ref d] } } := I1.kept (t' := s1.toks) fun b ob q => Heap.get?_push_of_some _ q
  have fin : wpAny (model X.prog X.w) X.A (pyIter (.ref s1.heap.objs.size)) (PIE X pins σ (.Tuple elts kk tpos) R) X.xe { s1 with heap := s1.heap.push { cls := .type "dict_items", data := .fields #[.ref d] } } := by
    refine wpAny_pyIter_items_raw (d := d) ⟨_, Heap.get?_push_size _ rfl, rfl, rfl⟩ (raw.at fun ob q => Heap.get?_push_of_some _ q) (pi_one (tk := s1.toks) I2 _ (turn_itn _ hdt) ⟨.none, .none, ?_⟩ q)
    rw [hsz]
    exact Heap.get?_push_size _ rfl
  show wpAny _ _ (callWith cpos (.builtin "dict.items") [.ref d] [] []) _ X.xe s1
  exact method_meetsIn F.slot_dict_items F.entry_dict_items rfl (PySem.evalArgs_none ⟨rfl, raw.typeIs, F.args_dict_items_1 _, _, meets_dict_items_raw d hs, ⟨⟨ea, ep, raw⟩, fin⟩⟩)
theorem walk_nitems {P : Program} {w : World} {d : Addr} {ob : Obj} {es : List NEnt} : Walk (Itn P w d ob es) es.length (fun H => H d = some (.frz ob (DN P w d es))) (fun i H x H' => ∃ T k b v, es[i]? = some (k, b, v) ∧ x = .ref T ∧ H T = none ∧ H' = upd H T (.tup [.ref b, v])) :=
  ⟨fun i H hi h => ⟨h, hi⟩, fun H h => ⟨h, Nat.le_refl _⟩, fun i H x H' hi h y => y⟩
end
end Vt
namespace Vt
open PySem PySem.Spec PyProof.Rows L2
/-! ### a def of a class that says super().m(..) first: its frame -/
abbrev nfS (name qual : Str) (st : Stmt) (cda cc : Addr) : NdefX.NF := ⟨name, qual, defArgs st, defBody st, defScope st, [("__class__", cc)], cda⟩
theorem cells_S {K : PySem.W.Frag} {h base : Heap} {H : Hp} {cc D : Addr} {cl : Value} {cld : Option Addr} {csl : Array (Option Value)} (X : K.In base) (bs : ∀ b o, base.get? b = some o → h.get? b = some o ∧ H b = none) (hcell : K.lookup cc = some ⟨cl, cld, .cell (some (.ref D)), csl⟩) :
    NdefX.CellsAt [("__class__", cc)] ["__class__"] [none] h H := by
  obtain ⟨e1, e2⟩ := bs cc _ (X _ _ hcell)
  have one : ∀ y c, [(("__class__" : Str), cc)].lookup y = some c → y = "__class__" ∧ c = cc := fun y c z => by
    have z' := PySem.mem_of_lookup z
    rw [List.mem_singleton] at z'
    injection z' with a b
    exact ⟨a, b⟩
  refine ⟨rfl, fun y c z => ?_, fun x y c z1 z2 => ?_, fun i y z => ?_⟩
  · obtain ⟨_, rfl⟩ := one y c z
    exact ⟨e2, some (.ref D), ⟨_, e1, rfl⟩⟩
  · rw [(one x c z1).1, (one y c z2).1]
  · cases i with
    | zero =>
      simp only [List.getElem?_cons_zero, Option.some.injEq] at z
      subst z
      exact ⟨cc, rfl, fun v q => by cases q⟩
    | succ i => simp at z
/-- what the text must be, so that super() is the built-in one, asked in this module -/
structure SupOk (P : Program) (K : PySem.W.Frag) (mg : Str → Option Value) (sc : Scope) (cda : Addr) : Prop where
  code : ∃ ccl cdd vs ccs file tf, K.lookup cda = some ⟨ccl, cdd, .fields vs, ccs⟩ ∧ vs[2]? = some (.str file tf) ∧ ((P.main.file : Str) == file) = true
  top : (P.main.scope.names.lookup ("super" : Str)).isSome = false
  none_ : mg "super" = none
  ks : sc.names.lookup ("super" : Str) = some .globalImplicit
  kc : sc.names.lookup ("__class__" : Str) = some .free
  any : PySem.W.nsIn K cStatics "thirdparty.any" = some none
section
variable {CX : CXT} {P : Program} {w : World} {K : PySem.W.Frag} {mg : Str → Option Value} {base : Heap} {N ps : List Str} {f cda cc D C x : Addr} {name qual : Str} {st : Stmt} {A : Around} {outer : List Env} {s0 s : Shared} {H0 H : Hp} {E : XK} {pins : List (Addr × Obj)} {σ : L2.St}
  {cl oc : Value} {cld od : Option Addr} {csl osl : Array (Option Value)} {fd : FuncData} {ar : Arg} {cdD : ClassData} {ox : Obj} {odx : Option Obj}
/-- super(): the object that asks the classes behind D -/
theorem super_at {body : List Stmt} {p0 p1 : Pos} {attr : Str} {whole : Sem Value} {Q : Value → Shared → Prop} (S : SupOk P K mg (defScope st) cda) (lf : K.lookup f = some ⟨oc, od, .func fd, osl⟩) (hp : (fd.params.posonlyargs ++ fd.params.args).head? = some ar) (hka : (defScope st).names.lookup ar.arg = some .local) (hk : (defScope st).kind = .function)
    (hcell : K.lookup cc = some ⟨cl, cld, .cell (some (.ref D)), csl⟩) (hD : PySem.W.clsIn K D = some cdD) (hsub : PySem.W.mroIn K C (.ref D) = some true) (hat : (attr == ("__class__" : Str)) = false)
    (I : Inv (NdefX.ncx CX P w K mg base N (nfS name qual st cda cc) f A outer s0 H0 E) pins σ H s) (hN : N[0]? = some ar.arg) (hσ : σ[0]? = some (some (.ref x))) (J : PySem.W.InstAt s.heap x ox C odx)
    (h : ∀ so s', Inv (NdefX.ncx CX P w K mg base N (nfS name qual st cda cc) f A outer s0 H0 E) ((so, PySem.W.ks_superObj D x C) :: pins) σ H s' → (∀ b o, s.heap.get? b = some o → s'.heap.get? b = some o) → Q (.ref so) s') :
    PySem.wpAt (model P w) (NdefX.ncx CX P w K mg base N (nfS name qual st cda cc) f A outer s0 H0 E).A (.func body (NdefX.ncx CX P w K mg base N (nfS name qual st cda cc) f A outer s0 H0 E).env)
      (attributeBase (.Call (.Name "super" p0) [] [] p1) attr (NdefX.ncx CX P w K mg base N (nfS name qual st cda cc) f A outer s0 H0 E).env whole) Q (NdefX.ncx CX P w K mg base N (nfS name qual st cda cc) f A outer s0 H0 E).xe s := by
  have X := I.kIn
  obtain ⟨ccl, cdd, vs, ccs, file, tf, hcode, hvs, hfile⟩ := S.code
  obtain ⟨m, hn, hl⟩ := I.loc
  obtain ⟨u, ru, lk⟩ := hl 0 ar.arg (.ref x) hN hσ (.inl hka)
  obtain rfl : u = Value.ref x := ru
  have hv : m ar.arg = some (.ref x) := by
    rcases lk with ⟨_, z⟩ | ⟨z, _⟩
    · exact z
    · have z' : (defScope st).names.lookup ar.arg = some .cell ∨ (defScope st).names.lookup ar.arg = some .free := z
      rw [hka] at z'
      rcases z' with z' | z' <;> cases z'
  obtain ⟨oD, hD1, hD2⟩ : ∃ oD, s.heap.get? D = some oD ∧ oD.data = .cls cdD := by
    unfold PySem.W.clsIn at hD
    split at hD
    · rename_i c d cd' sl ho
      cases hD
      exact ⟨_, X _ _ ho, rfl⟩
    · cases hD
  obtain ⟨mb, hb1, hb2⟩ := I.mod.blt
  refine ks_wpAt_super_base (env := (NdefX.ncx CX P w K mg base N (nfS name qual st cda cc) f A outer s0 H0 E).env) S.ks S.kc hat rfl (X _ _ lf) rfl hp rfl (X _ _ hcode) rfl hvs hfile S.top ?_
  refine PySem.W.ks_loadName_global hk S.ks (Calls.loadGlobal_builtin (by exact I.mod.glob.keeps I.bk) S.none_ (by exact hb1.keeps I.bk) ((hb2 _ (by decide +kernel)).trans (by first | exact PySem.W.boot_super | kernel_rfl)) ⟨rfl, ?_⟩)
  refine wpAny_loadName_free hk S.kc rfl ⟨_, X _ _ hcell, rfl⟩ ?_
  refine wpAny_loadName_local hk hka hn hv ?_
  refine ks_wpAny_isType_cls hD1 hD2 ⟨rfl, ?_⟩
  obtain ⟨hp', g, d, t, os⟩ := s
  refine ks_wpAny_call_super hD1 hD2 J.at_ J.cls (fun c e => ?_) (PySem.W.looks_mroIn X hsub) (fun h' e k => ?_)
  · have := J.no
    unfold PySem.W.notCls at this
    rw [e] at this
    exact Bool.noConfusion this
  · exact h _ _ (ClX.pin_new (t' := t) I k (Nat.le_refl _) e (fun v z => nomatch z)) k
/-- what a class must be, so that super().m finds the def at f2 behind D -/
structure SupM (K : PySem.W.Frag) (C D : Addr) (m : Str) (f2 : Addr) : Prop where
  sub : PySem.W.mroIn K C (.ref D) = some true
  at_ : PySem.W.ks_superIn K C D m = some (some (.ref f2))
  ty : PySem.W.typeIn K (.ref f2) = some (.type "function")
  fn : PySem.W.fnIn K f2 = true
abbrev startS (N : List Str) (vs : List V) : L2.St := NdefX.startF N vs [none]
/-- a def of a class whose first statement is super().m(..), m a def of a class behind -/
theorem fnS_own {k k2 f2 : Nat} {sp sp2 : Sp} {fd2 : FuncData} {ps2 : List Str} {dV kV doc pm ct : Value} {an : Option Addr} {m : Str} {p0 p1 apos pos epos : Pos} {e : Expr} {es : List Expr} {rest : List Stmt}
    (lk : K.lookup f = some ⟨oc, od, .func (PySem.W.fnX name qual (defArgs st) (defBody st) (defScope st) [("__class__", cc)] dV kV doc pm an (.ref cda) ct), osl⟩) (hcd : PySem.W.codeIn K (.ref cda) qual = true) (hbd : defBody st = .Expr (.Call (.Attribute (.Call (.Name "super" p0) [] [] p1) m apos) (e :: es) [] pos) epos :: rest)
    (S : NdefX.NScope N ps ["__class__"] (defScope st)) (SO : SupOk P K mg (defScope st) cda) (hp : ((defArgs st).posonlyargs ++ (defArgs st).args).head? = some ar) (hN : N[0]? = some ar.arg) (h0 : ps[0]? = some ar.arg)
    (hcell : K.lookup cc = some ⟨cl, cld, .cell (some (.ref D)), csl⟩) (hD : PySem.W.clsIn K D = some cdD) (hm1 : (m == ("__class__" : Str)) = false)
    (F2 : FnOk P w K mg base CX0 k2 f2 fd2 ps2 sp2) (b2 : Binds K fd2 ps2 []) (hk2 : k2 ≤ k)
    (len : ∀ vs H Q E, sp vs H Q E → vs.length = ps.length)
    (hst : ∀ env, starEach (e :: es) env = (false, eval e env) :: starEach es env) (hpl : ∀ env, (backTo pos (starEach es env)).any (·.1) = false)
    (hev : ∀ env, ∃ pl : Sem Bool, eval (.Call (.Attribute (.Call (.Name "super" p0) [] [] p1) m apos) (e :: es) [] pos) env = (do
      let ov ← attributeBase (.Call (.Name "super" p0) [] [] p1) m env (eval (.Call (.Name "super" p0) [] [] p1) env)
      standAt apos.atName
      let (f, first) ← holding [ov] (getMethod ov m pl)
      callWith pos f first (backTo pos (starEach (e :: es) env)) []))
    (hsw : ∀ env, swapsWith (.Call (.Attribute (.Call (.Name "super" p0) [] [] p1) m apos) (e :: es) [] pos) none epos.line env = pure false)
    (hbody : ∀ (A : Around) (outer : List Env) (s : Shared) (H : Hp) (vs : List V) (Q : VK) (E : XK), Room k (A.deeper (NdefX.envF (nfS name qual st cda cc) f s.heap.objs.size)) → sp vs H Q E →
      ∃ (ta : TA) (t : TS), L2.PA (NdefX.ncx CX0 P w K mg base N (nfS name qual st cda cc) f A outer s H E) (e :: es) ta ∧ PSs (NdefX.ncx CX0 P w K mg base N (nfS name qual st cda cc) f A outer s H E) rest t ∧
        ∃ (x C dx : Addr) (fs : List (Str × V)), (startS N vs)[0]? = some (some (.ref x)) ∧ H x = some (.ins C dx fs) ∧ SupM K C D m f2 ∧
          ta (startS N vs) H fun ws H1 => sp2 (.ref x :: ws) H1 (fun _ H2 => t { nx := fun _ H' => Q .non H', rt := Q } (startS N vs) H2) E0) :
    FnOk P w K mg base CX0 (k + 1) f (PySem.W.fnX name qual (defArgs st) (defBody st) (defScope st) [("__class__", cc)] dV kV doc pm an (.ref cda) ct) ps sp := by
  refine ⟨len, fun A outer s H args us vs Q E hr e0 hb r hsp => ?_⟩
  have hl := len _ _ _ _ hsp
  have KX : K.In s.heap := e0.mod.kin.keeps fun b o e => (e0.bs b o e).1
  have lim : s.heap.NoLimit := e0.mod.nolimit.keeps fun b o e => (e0.bs b o e).1
  obtain ⟨ta, t, hpa, hps, x, C, dx, fs, hx0, hxi, sm, rd⟩ := hbody A outer s H vs Q E (hr.deeper _) hsp
  refine ks_codeAny_call_defAt (fd := PySem.W.fnX name qual (defArgs st) (defBody st) (defScope st) [("__class__", cc)] dV kV doc pm an (.ref cda) ct) (body := defBody st) (binds := ps.zip us) hr.depth (KX _ _ lk) rfl lim (PySem.W.codeRec_of KX hcd) rfl hb S.nocell
    (fun y hy => S.par y.1 (List.of_mem_zip hy).1) (fun h₁ hns hk => ?_) S.co S.gen S.kind
  have I := NdefX.inv_startN (CX := CX0) (E := E) (F := nfS name qual st cda cc) (f := f) (tk := s.toks + (ps.zip us).length) S hr.hd e0 hl r (cells_S e0.mod.kin e0.bs hcell) hns hk
  have hr' : Room k (A.deeper (NdefX.envF (nfS name qual st cda cc) f s.heap.objs.size)) := hr.deeper _
  have fin : ∀ (fl : Flow) (s' : Shared), SP (NdefX.ncx CX0 P w K mg base N (nfS name qual st cda cc) f A outer s H E) [] { nx := fun _ H' => Q .non H', rt := Q } fl s' → CR CX0 outer P w H s Q E (.ok (.ret (match fl with | .ret v => v | _ => .none))) s' := fun fl s' hs => by
    have fin0 : ∀ {σ' : L2.St} {H' : Hp} {v : V} {u : Value}, Inv (NdefX.ncx CX0 P w K mg base N (nfS name qual st cda cc) f A outer s H E) [] σ' H' s' → RelV v u → Q v H' → CE outer P w H s Q u s' :=
      fun {σ' H' v u} J rv q => ⟨v, H', J.os, J.bare, J.base, J.hok, rv, q⟩
    cases fl with
    | ret u =>
      obtain ⟨v, σ', H', J, rv, q⟩ := hs
      exact fin0 J rv q
    | next =>
      obtain ⟨σ', H', J, q⟩ := hs
      exact fin0 (v := V.non) (u := Value.none) J rfl q
    | brk =>
      obtain ⟨_, _, _, q⟩ := hs
      exact False.elim q
    | cont =>
      obtain ⟨_, _, _, q⟩ := hs
      exact False.elim q
  obtain ⟨pl, hev'⟩ := hev (NdefX.ncx CX0 P w K mg base N (nfS name qual st cda cc) f A outer s H E).env
  have go : PySem.wpAt (model P w) (NdefX.ncx CX0 P w K mg base N (nfS name qual st cda cc) f A outer s H E).A (.func (defBody st) (NdefX.ncx CX0 P w K mg base N (nfS name qual st cda cc) f A outer s H E).env)
      (execs (defBody st) (NdefX.ncx CX0 P w K mg base N (nfS name qual st cda cc) f A outer s H E).env) (SP (NdefX.ncx CX0 P w K mg base N (nfS name qual st cda cc) f A outer s H E) [] { nx := fun _ H' => Q .non H', rt := Q }) (NdefX.ncx CX0 P w K mg base N (nfS name qual st cda cc) f A outer s H E).xe { s with heap := h₁, toks := s.toks + (ps.zip us).length } := by
    rw [hbd]
    refine ks_wpAt_execs_cons (ks_wpAt_Expr_any (ks_wpAt_MethodCall ?_ hev') (by show ((defScope st).kind == .module && _) = false; rw [S.kind]; rfl) (hsw _))
    obtain ⟨hdx, hz, ndx, hgx, mA, hnsx, rlx, _⟩ := (show ObjOk P w H h₁ x (.ins C dx fs) from I.hok x _ hxi)
    obtain ⟨odx, hodx, _⟩ := lookIn_ns hnsx
    have J : PySem.W.InstAt h₁ x (PySem.W.instObj C dx) C (some odx) := ⟨hgx, rfl, rfl, hodx⟩
    refine super_at SO lk hp (S.par _ (List.mem_of_getElem? h0)) S.kind hcell hD sm.sub hm1 I hN hx0 J fun so s1 I1 k1 => ?_
    have X1 := I1.kIn
    have hso := ClX.pin_at I1
    have J1 := J.at_
    cases hc : PySem.W.clsIn K C with
    | none =>
      have z := sm.at_
      unfold PySem.W.ks_superIn at z
      rw [hc] at z; cases z
    | some cd =>
      have z := sm.at_
      unfold PySem.W.ks_superIn at z
      rw [hc] at z
      obtain ⟨of, hof, hofc⟩ : ∃ of, s1.heap.get? f2 = some of ∧ of.cls = .type "function" := by
        have ht' : (K.lookup f2).map (·.cls) = some (.type "function") := sm.ty
        cases q : K.lookup f2 with
        | none => rw [q] at ht'; cases ht'
        | some of => rw [q] at ht'; exact ⟨of, X1 _ _ q, Option.some.inj ht'⟩
      obtain ⟨hp1, g1, d1, t1, os1⟩ := s1
      refine ks_wpAny_getMethod_super hso (PySem.W.looks_opaque X1 SO.any) (l₀ := cd.mro) ?_ rfl X1 z hof hofc (PySem.W.ks_ne I.kIn J hc) hm1 ?_
      · exact fun A Q E s k q => wpAny_bind ((PySem.W.looks_clsIn X1 hc) A _ E s k (wpAny_pure q))
      · have I2 := ClX.met_new (g := f2) (C := x) I1
        refine ClX.callwith_cm I2 (ClX.base_none I1 (Nat.le_refl _)) sm.fn ?_ (hst _) (hpl _)
        refine thn (hpa.run pos _ _ _ _ _ I2 rd) fun ws s3 ⟨vs2, H1, I3, r3, q3⟩ => ⟨⟨ClX.pin_at I3, I3.kIn⟩, ?_⟩
        have r4 : Vals (.ref x :: vs2) (.ref x :: ws) := .cons rfl r3
        have hl2 : (Value.ref x :: ws).length = ps2.length := by rw [← r4.length]; exact F2.len _ _ _ _ q3
        refine wpAny_call (PySem.W.method_call (ClX.pin_at I3) (codeAny_mono (F2.run _ _ s3 H1 ⟨.ref x :: ws, []⟩ (.ref x :: ws) (.ref x :: vs2) _ _ (hr'.mono hk2) I3.env0 (by
          have := b2 s3 (.ref x :: ws) I3.kIn (by rw [List.append_nil]; exact hl2)
          rw [List.append_nil] at this; exact this) r4 q3) fun r s' hq => ?_))
        cases r with
        | error e => exact (show False from hq).elim
        | ok fl =>
          cases fl with
          | ret u =>
            obtain ⟨v, H', J', _, q⟩ := ClX.unpinE (ClX.unpinE (I3.after hq))
            exact wpAt_of_wpAny (hps.run [] s' _ H' _ J' q)
          | next => exact False.elim hq
          | brk => exact False.elim hq
          | cont => exact False.elim hq
  exact ks_wpAt_mono go (fun fl s' hl => fin fl s' hl) fun _ _ y => y
end
end Vt
namespace Vt
open PySem PySem.Spec PyProof.Rows L2 L2H
/-- a def called while one exception is handled: as FnH, for that one alone -/
structure FnP (P : Program) (w : World) (K : PySem.W.Frag) (mg : Str → Option Value) (base : Heap) (k : Nat) (f : Addr) (fd : FuncData) (ps : List Str) (p : Addr × Obj) (sp : Sp) : Prop where
  len : ∀ (vs : List V) (H : Hp) (Q : VK) (E : XK), sp vs H Q E → vs.length = ps.length
  run : ∀ (A : Around) (outer : List Env) (s : Shared) (H : Hp) (args : Args) (us : List Value) (vs : List V) (Q : VK) (E : XK), RoomH k A → Hot1 A p → PinOk outer H s p → Env0 P w K mg base A outer s H → BindsTo s fd args (ps.zip us) → Vals vs us → sp vs H Q E →
    codeAny (model P w) A (Code.call (Value.ref f) args) (CR CX0 outer P w H s Q E) s
theorem fn_ofP {P : Program} {w : World} {K : PySem.W.Frag} {mg : Str → Option Value} {base : Heap} {k : Nat} {f : Addr} {name qual : Str} {params : Arguments} {body : List Stmt} {scope : PySem.Scope} {dV kV doc pm cdv ct oc : Value} {an od : Option Addr} {osl : Array (Option Value)} {N ps : List Str} {sp : Sp} {p : Addr × Obj}
    (lk : K.lookup f = some ⟨oc, od, .func (PySem.W.fnOf name qual params body scope dV kV doc pm an cdv ct), osl⟩) (hcd : PySem.W.codeIn K cdv qual = true) (S : FnScope N ps scope) (len : ∀ (vs : List V) (H : Hp) (Q : VK) (E : XK), sp vs H Q E → vs.length = ps.length)
    (hbody : ∀ (A : Around) (outer : List Env) (s : Shared) (H : Hp) (vs : List V) (Q : VK) (E : XK), Hot1 A p → RoomH k (A.deeper (envOfC qual scope s.heap.objs.size f cdv)) → sp vs H Q E →
      ∃ t, PSs (cxH CX0 P w K mg base N qual scope f cdv A outer s H E p) body t ∧ t { nx := fun _ H' => Q .non H', rt := Q } (L2.start N vs) H) :
    FnP P w K mg base (k + 1) f (PySem.W.fnOf name qual params body scope dV kV doc pm an cdv ct) ps p sp := by
  refine ⟨len, fun A outer s H args us vs Q E hr hot pk e0 hb r hsp => ?_⟩
  have hl := len _ _ _ _ hsp
  have KX : K.In s.heap := e0.mod.kin.keeps fun b o e => (e0.bs b o e).1
  have lim : s.heap.NoLimit := e0.mod.nolimit.keeps fun b o e => (e0.bs b o e).1
  obtain ⟨t, hps, ht⟩ := hbody A outer s H vs Q E hot (hr.deeper _) hsp
  refine Att.call_fn KX lim lk hcd hr.depth hb (List.all_eq_true.mpr fun y hy => ?_) (fun s1 inc => ?_) S.co S.gen S.kind
  · rcases S.par y.1 (List.of_mem_zip hy).1 with h | h <;> rw [h] <;> rfl
  · have I := inv_startH (CX := CX0) (E := E) S pk e0 hl r inc
    have fin0 : ∀ {σ' : L2.St} {H' : Hp} {v : V} {u : Value} {s' : Shared}, Inv (cxH CX0 P w K mg base N qual scope f cdv A outer s H E p) [] σ' H' s' → RelV v u → Q v H' → CE outer P w H s Q u s' :=
      fun {σ' H' v u s'} J rv q => ⟨v, H', J.os, J.bare, J.base, J.hok, rv, q⟩
    refine wpAny_mono (hps.run [] s1 _ H _ I ht) (fun fl s' hs => ?_) (fun e s' h => h)
    cases fl with
    | ret u =>
      obtain ⟨v, σ', H', J, rv, q⟩ := hs
      exact fin0 J rv q
    | next =>
      obtain ⟨σ', H', J, q⟩ := hs
      exact fin0 (v := V.non) (u := Value.none) J rfl q
    | brk =>
      obtain ⟨_, _, _, q⟩ := hs
      exact False.elim q
    | cont =>
      obtain ⟨_, _, _, q⟩ := hs
      exact False.elim q
theorem run_fnP {X : Cx} {k : Nat} {f : Addr} {fd : FuncData} {ps : List Str} {sp : Sp} {p : Addr × Obj} {pins : List (Addr × Obj)} {σ : L2.St} {H : Hp} {s : Shared} {Q : VK} {us : List Value} {vs : List V} (F : FnP X.prog X.w X.K X.mg X.base k f fd ps p sp) (hr : RoomH k X.A) (hot : Hot1 X.A p) (hp : p ∈ X.pn) (b : Binds X.K fd ps []) (I : Inv X pins σ H s) (rv : Vals vs us) (q : sp vs H Q E0) :
    wpAny (model X.prog X.w) X.A (call (.ref f) us) (EP X pins σ Q) X.xe s := by
  obtain ⟨g1, g2, g3, g4, g5⟩ := I.pin p (List.mem_append.mpr (.inl hp))
  have hl : us.length = ps.length := by rw [← rv.length]; exact F.len _ _ _ _ q
  refine wpAny_call (codeAny_mono (F.run X.A X.stack s H ⟨us, []⟩ us vs Q E0 hr hot ⟨g1, g2, ?_, g5⟩ I.env0 (by
    have := b s us I.kIn (by rw [List.append_nil]; exact hl)
    rw [List.append_nil] at this; exact this) rv q) fun r s' hq => ?_)
  · rcases I.ok.stk with e | ⟨e, ef⟩
    · rw [e]; exact g4
    · rw [e]
      intro m
      have m' : p.1 ∈ X.env.locals :: frs X.outer := by
        have z : frs (X.env :: X.outer) = X.env.locals :: frs X.outer := by
          show List.filterMap (fun x => x.frame) (X.env :: X.outer) = _
          rw [List.filterMap_cons, ef]; rfl
        rw [← z]; exact m
      rcases List.mem_cons.mp m' with h | h
      · exact g3 h
      · exact g4 h
  · cases r with
    | error e => exact (show False from hq).elim
    | ok fl =>
      cases fl with
      | ret u => exact I.after hq
      | next => exact False.elim hq
      | brk => exact False.elim hq
      | cont => exact False.elim hq
/-- f(e, ..), f such a def -/
theorem pe_callP {X : Cx} {k : Nat} {f : Addr} {fd : FuncData} {ps : List Str} {sp : Sp} {p : Addr × Obj} {x : Str} {q pos : Pos} {e : Expr} {es : List Expr} {t : TA} (F : FnP X.prog X.w X.K X.mg X.base k f fd ps p sp) (hr : RoomH k X.A) (hot : Hot1 X.A p) (hp : p ∈ X.pn) (hg : Gl X x) (hm : X.mg x = some (.ref f)) (hk : PySem.W.keepIn X.K (.ref f) = true) (b : Binds X.K fd ps []) (ha : L2.PA X (e :: es) t)
    (hd : (x == ("__debug__" : Str)) = false := by decide) (he : starEach (e :: es) X.env = (false, eval e X.env) :: starEach es X.env := by rfl) (hpl : (backTo pos (starEach es X.env)).any (·.1) = false := by rfl) :
    PE X (.Call (.Name x q) (e :: es) [] pos) (tCall sp [] E0 t) := by
  refine ⟨fun pins s σ H Q I h => wpAny_Call_NameR ?_⟩
  refine thn ((pe_glob (v := .ref f) (pos := q) hg hm rfl hd).run pins s σ H (fun v H' => v = .ref f ∧ H' = H) I ⟨rfl, rfl⟩) fun u s1 ⟨v, H1, I1, rv, ev, eH⟩ => ?_
  subst ev eH
  cases (show u = Value.ref f from rv)
  refine PySem.W.callWith_K I1.kIn hk (thn (ha.run pos pins s1 σ _ _ I1 h) fun ws s2 ⟨vs2, H2, I2, r2, q2⟩ => ⟨I2.kIn, ?_⟩) he hpl
  have q3 : sp vs2 H2 Q E0 := by
    have q4 : sp (vs2 ++ []) H2 Q E0 := q2
    rw [List.append_nil] at q4; exact q4
  exact run_fnP F hr hot hp b I2 r2 q3
end Vt
namespace Vt
open PySem PySem.Spec PyProof.Rows L2 L2H
/-- a def that runs while a is handled stands as in the suite of a -/
theorem ok_suite {Y : Cx} {a : Addr} (hA : Y.A.mark (some (.ref a)) = Y.A) (h : Y.Ok) : (Y.suite a Y.pn).Ok :=
  ⟨h.mod, h.kind, h.glob, h.blt, h.above, h.inj, h.has, h.cab, (fun z => by cases z), by show (Y.A.mark (some (.ref a))).frames = _; rw [hA]; exact h.frames, h.stk, h.exf, h.bs, h.bsz, h.noex, h.exfs, h.funs, h.frf⟩
theorem inv_suite {Y : Cx} {a : Addr} {pins : List (Addr × Obj)} {σ : L2.St} {H : Hp} {s : Shared} (hA : Y.A.mark (some (.ref a)) = Y.A) (I : Inv Y pins σ H s) : Inv (Y.suite a Y.pn) pins σ H s :=
  ⟨ok_suite hA I.ok, I.os, I.bare, I.base, I.loc, I.cell, I.free, I.freeC, I.pin, I.hok, I.len⟩
theorem suite_inv {Y : Cx} {a : Addr} {pins : List (Addr × Obj)} {σ : L2.St} {H : Hp} {s : Shared} (h : Y.Ok) (I : Inv (Y.suite a Y.pn) pins σ H s) : Inv Y pins σ H s :=
  ⟨h, I.os, I.bare, I.base, I.loc, I.cell, I.free, I.freeC, I.pin, I.hok, I.len⟩
theorem callr_suite {Y : Cx} {a : Addr} {v : Value} {r : List V → Hp → VK → Prop} (hA : Y.A.mark (some (.ref a)) = Y.A) (h : CallR (Y.suite a Y.pn) v r) : CallR Y v r := by
  intro pins s σ H xs us Q I rv hr
  have w := h pins s σ H xs us Q (inv_suite hA I) rv hr
  have w' : wpAny (model Y.prog Y.w) (Y.A.mark (some (.ref a))) (call v us) (EP (Y.suite a Y.pn) pins σ Q) (fun _ _ => False) s := w
  rw [hA] at w'
  exact wpAny_mono w' (fun u s' ⟨x, H', J, q1, q2⟩ => ⟨x, H', suite_inv I.ok J, q1, q2⟩) fun _ _ z => z.elim
/-- isinstance of the exception, in such a def -/
theorem call_isP {Y : Cx} {a D : Addr} {oe : Obj} (hA : Y.A.mark (some (.ref a)) = Y.A) (hpn : Y.pn = [(a, oe)]) (C : ExcC Y.K D) (hz : Zc (.ref D) none oe) (hf : ∃ vs, oe.data = .fields vs) : CallR Y (.builtin "isinstance") (rIsE Y.K D a) := by
  refine callr_suite hA ?_
  rw [hpn]
  exact call_isE C hz hf
theorem mark_same {A : Around} {v : Value} (h : A.handled = some v) : A.mark (some v) = A := by
  unfold Around.mark
  cases A
  simp only at h
  subst h
  rfl
theorem mark_hot {A : Around} {p : Addr × Obj} {env : Env} (h : Hot1 A p) : (A.deeper env).mark (some (.ref p.1)) = A.deeper env := mark_same h.1
end Vt
namespace Vt
open PySem PySem.Spec PyProof.Rows L2
/-! ### defs that may raise, their calls -/
structure CalleeN (P : Program) (w : World) (K : PySem.W.Frag) (mg : Str → Option Value) (base : Heap) (x : Str) (k : Nat) (n : Nat) (sp : Sp) : Prop where
  ex : ∃ (f : Addr) (fd : FuncData) (ps : List Str), FnOk P w K mg base (L2N.CX P w) k f fd ps sp ∧ mg x = some (.ref f) ∧ PySem.W.keepIn K (.ref f) = true ∧ Binds K fd ps []
theorem pe_calN {X : Cx} {W : WX} {x : Str} {k j n : Nat} {sp : Sp} {p pos : Pos} {e : Expr} {es : List Expr} {t : TA} (C : CalleeN X.prog X.w X.K X.mg X.base x k n sp) (hr : Room j X.A) (hk : k ≤ j) (tk : L2N.Takes X W) (ha : L2.PA X (e :: es) t) (hg : Gl X x := by rfl)
    (hdb : (x == ("__debug__" : Str)) = false := by decide) (he : starEach (e :: es) X.env = (false, eval e X.env) :: starEach es X.env := by rfl) (hpl : (backTo pos (starEach es X.env)).any (·.1) = false := by rfl) :
    PE X (.Call (.Name x p) (e :: es) [] pos) (tCallS sp (WE W) t) := by
  have ⟨f, fd, ps, F, hm, hkp, hb⟩ := C.ex
  exact pe_callS F (hr.mono hk) hg hm hkp hb (fun σ => L2N.passAt tk σ) ha hdb he hpl
theorem takesN0 {X : Cx} : L2N.Takes X (fun _ _ _ _ => False) := fun _ _ x => by
  obtain ⟨_, _, _, _, _, _, _, _, _, _, _, _, _, _, _, _, z⟩ := x
  exact z.elim
theorem okN {P : Program} {w : World} {K : PySem.W.Frag} {mg : Str → Option Value} {base : Heap} {x qual : Str} {st : Stmt} {f : Addr} {fd : FuncData} {N ps : List Str} {k : Nat} {sp : Sp} (F : Fun K x qual st f fd) (S : FnScope N ps (defScope st)) (len : ∀ (vs : List V) (H : Hp) (Q : VK) (E : XK), sp vs H Q E → vs.length = ps.length)
    (hbody : ∀ (cdv : Value) (A : Around) (outer : List Env) (s : Shared) (H : Hp) (vs : List V) (Q : VK) (E : XK), Room k (A.deeper (envOfC qual (defScope st) s.heap.objs.size f cdv)) → sp vs H Q E →
      ∃ t, PSs (cxOf (L2N.CX P w) P w K mg base N qual (defScope st) f cdv A outer s H E) (defBody st) t ∧ t { nx := fun _ H' => Q .non H', rt := Q } (L2.start N vs) H) : FnOk P w K mg base (L2N.CX P w) (k + 1) f fd ps sp := by
  obtain ⟨oc, od, kV, doc, pm, an, cdv, ct, osl, rfl, lk, hcd⟩ := F.ex
  exact fn_of lk hcd S len fun A outer s H vs Q E hr hsp => hbody cdv A outer s H vs Q E hr hsp
/-! ### a def that is called while an exception is handled, of what it knows of that one -/
structure CalleeP (P : Program) (w : World) (K : PySem.W.Frag) (mg : Str → Option Value) (base : Heap) (x : Str) (k : Nat) (sp : Value → Option Addr → Addr → Sp) : Prop where
  ex : ∃ (f : Addr) (fd : FuncData) (ps : List Str), mg x = some (.ref f) ∧ PySem.W.keepIn K (.ref f) = true ∧ Binds K fd ps [] ∧
    ∀ (p : Addr × Obj) (cls : Value) (d : Option Addr), L2N.Zn cls d p.2 → (∃ vs, p.2.data = .fields vs) → FnP P w K mg base k f fd ps p (sp cls d p.1)
theorem pe_calP {X : Cx} {sp : Value → Option Addr → Addr → Sp} {a : Addr} {oe : Obj} {cls : Value} {d : Option Addr} {x : Str} {k j : Nat} {p pos : Pos} {e : Expr} {es : List Expr} {t : TA} (C : CalleeP X.prog X.w X.K X.mg X.base x k sp)
    (hr : L2H.RoomH j X.A) (hk : k ≤ j) (hh : X.A.handled = some (.ref a)) (hp : (a, oe) ∈ X.pn) (hz : L2N.Zn cls d oe) (hf : ∃ vs, oe.data = .fields vs) (ha : L2.PA X (e :: es) t) (hg : Gl X x := by rfl)
    (hdb : (x == ("__debug__" : Str)) = false := by decide) (he : starEach (e :: es) X.env = (false, eval e X.env) :: starEach es X.env := by rfl) (hpl : (backTo pos (starEach es X.env)).any (·.1) = false := by rfl) :
    PE X (.Call (.Name x p) (e :: es) [] pos) (tCall (sp cls d a) [] E0 t) := by
  have ⟨f, fd, ps, hm, hkp, hb, F⟩ := C.ex
  obtain ⟨vs, hv⟩ := hf
  exact pe_callP (F (a, oe) cls d hz ⟨vs, hv⟩) (hr.mono hk) ⟨hh, vs, hv, hz.2.2 vs hv⟩ hp hg hm hkp hb ha hdb he hpl
/-! ### how often a flat value stands in a list -/
def rCntF (K : PySem.W.Frag) : V → List V → Hp → VK → Prop := fun x xs H Q => ∃ (p : Addr) (ys : List V) (y : V), x = .ref p ∧ xs = [y] ∧ SqL K H p ys ∧ flatV y = true ∧ ys.all flatV = true ∧ Q (.int (ys.countP (fun z => eqV z y) : Nat)) H
theorem count_eqU {y : V} : ∀ {ys : List V} {us : List Value}, Vals ys us → ys.all flatV = true → us.countP (eqU y) = ys.countP (fun z => eqV z y)
  | _, _, .nil, _ => rfl
  | z :: ys, u :: us, .cons r t, f => by
    rw [List.all_cons, Bool.and_eq_true] at f
    rw [List.countP_cons, List.countP_cons, count_eqU t f.2, eqU_of r f.1]
theorem mt_countF {X : Cx} : MtR X "list.count" (rCntF X.K) := by
  intro pins s σ H x xs v us Q I rx rxs h
  obtain ⟨p, ys, y, rfl, rfl, hs, fy, fys, q⟩ := h
  cases rx
  obtain ⟨uy, rfl, ry⟩ := rxs.one
  obtain ⟨its, rv, ⟨⟨cls, dd, data, sl⟩, n, ho, hc, hdn, hd⟩, hlen⟩ := I.list hs
  simp only at hc hd
  subst hc hd
  refine call_meets PySem.F.slot_list_count ⟨_, ho, rfl⟩ PySem.F.entry_list_count (PySem.F.args_list_count_2 _ _)
    (SeqAt.list_countAt p its.toArray n dd sl uy (eqU y)) ⟨ho, fun u' hu' => mem_eqAt ry fy rv fys u' (by simpa using hu'), ?_⟩
  have ec : its.toArray.toList.countP (eqU y) = ys.countP (fun z => eqV z y) := count_eqU rv fys
  refine ⟨.int (ys.countP (fun z => eqV z y) : Nat), H, I.tok _, ⟨s.toks, ?_⟩, q⟩
  show Value.int ((its.toArray.toList.countP (eqU y) : Nat) : Int) s.toks = Value.int ((ys.countP (fun z => eqV z y) : Nat) : Int) s.toks
  rw [ec]
end Vt
namespace Vt
open PySem PySem.Spec PyProof.Rows L2
/-! ### a draw below a great number -/
def spTakeF : Sp := fun vs H Q _ => ∃ (b l : Addr) (m : Int), vs = [.ref b, .int m] ∧ Box H b l ∧ 0 < m ∧ m.natAbs < 2 ^ 200 ∧ ∀ H' r, Box H' b l → But [b, l] H H' → 0 ≤ r → r < m → Q (.int r) H'
section
variable {P : Program} {w : World} {K : PySem.W.Frag} {mg : Str → Option Value} {base : Heap}
theorem ok_takeF {f : Addr} {fd : FuncData} (F : Fun K "_law_take" "_law_take" st_law_take f fd) : FnOk P w K mg base CX0 1 f fd ["_law_box", "_law_many"] spTakeF := by
  refine F.ok sc_law_take (fun vs H Q E h => ?_) (fun cdv A outer s H vs Q E hr h => ?_)
  · obtain ⟨b, l, m, rfl, _⟩ := h
    rfl
  · obtain ⟨b, l, m, rfl, hB, m0, m1, q⟩ := h
    have hne := hB.ne
    obtain ⟨ns, sd, hb, hl, s0, s1, hlen⟩ := hB
    refine ⟨_, (pss_cons (ps_if (pt_cmpR (op_eqD hr.units) (pe_ix ix_lt (pv 0) pe_int (fun _ _ => rfl)) (pe_lst pa_nil) (nomark _)) (pss_cons (ps_asg (pe_op op_mod (pe_op op_mul (pe_ix ix_lt (pv 0) pe_int (fun _ _ => rfl)) pe_int) pe_int) (pg_sub (pv 0) pe_int set_list))
  (pss_one (ps_ret (pe_op op_mod (pe_op op_fdiv (pe_ix ix_lt (pv 0) pe_int (fun _ _ => rfl)) pe_int) (pv 1))))) pss_nil)
  (pss_cons (ps_set (i := 2) sc_law_take.nd rfl (Or.inl rfl) (pe_ix ix_lt (pe_ix ix_lt (pv 0) pe_int (fun _ _ => rfl)) pe_int (fun _ _ => rfl)))
  (pss_cons (ps_asg (pe_op op_fdivW (pv 2) (pv 1)) (pg_sub (pe_ix ix_lt (pv 0) pe_int (fun _ _ => rfl)) pe_int set_list))
  (pss_cut (ps_if (PW.pt (pw_or (pt_cmpR op_eq (pe_ix ix_lt (pe_ix ix_lt (pv 0) pe_int (fun _ _ => rfl)) pe_int (fun _ _ => rfl)) pe_int (nomark _)) (pw_or1 (pt_cmpR op_eq (pe_ix ix_lt (pe_ix ix_lt (pv 0) pe_int (fun _ _ => rfl)) pe_int (fun _ _ => rfl)) (pe_un un_neg pe_int) (nomark _))))) (pss_one (ps_expr (pe_bm PySem.F.plainAttrs_list PySem.F.slot_list_pop PySem.F.type_list_pop mt_popAt (pe_ix ix_lt (pv 0) pe_int (fun _ _ => rfl)) (pa_cons pe_int pa_nil)))) pss_nil)
  (pss_one (ps_ret (pe_op op_mod (pv 2) (pv 1)))))))), ?_⟩
    -- if box[0] == []
    refine ⟨_, rfl, b, _, 0, .ref l, rfl, rfl, sqA_l hb, rfl, ?_⟩
    refine ⟨Nat.zero_le _, fun p np => ?_⟩
    have sm : Same H (upd H p (.lst [])) := same_new np
    refine ⟨.list (ns.map PyData.int), .list [], .lst (sqL_l (sm _ _ hl)) (dpInts ns), .lst (sqL_l upd_same) .nil, shapedInts ns, rfl, _, rfl, ?_⟩
    have hb1 := sm _ _ hb
    have hl1 := sm _ _ hl
    have nbp : b ≠ p := ne_of_none hb np
    have nlp : l ≠ p := ne_of_none hl np
    cases ns with
    | nil =>
      refine iteT ?_
      -- box[1] = box[1] * 48271 % 2147483647
      refine ⟨_, rfl, b, _, 1, .int sd, rfl, rfl, sqA_l hb1, rfl, ?_⟩
      refine ⟨_, _, rfl, rfl, .inl ⟨by omega, by omega⟩, _, _, rfl, rfl, (by show (0 : Int) < 2147483647; decide), ?_⟩
      refine ⟨_, rfl, b, _, 1, 1, rfl, rfl, hb1, rfl, ?_⟩
      -- return box[1] // 7 % many
      refine ⟨_, rfl, b, _, 1, .int (sd * 48271 % 2147483647), rfl, rfl, sqA_l upd_same, rfl, ?_⟩
      refine ⟨_, _, rfl, rfl, ⟨by decide, by decide⟩, _, rfl, _, _, rfl, rfl, m0, ?_⟩
      have e0 : 0 ≤ sd * 48271 % 2147483647 := Int.emod_nonneg _ (by decide)
      have e1 : sd * 48271 % 2147483647 < 2147483647 := Int.emod_lt_of_pos _ (by decide)
      refine q _ _ ⟨[], _, upd_same, ?_, e0, e1, hlen⟩ ?_ ?_ ?_
      · rw [upd_ne hne.symm]; exact hl1
      · exact (Same.but sm).trans (But.set (by simp))
      · exact Int.emod_nonneg _ (by omega)
      · exact Int.emod_lt_of_pos _ m0
    | cons n r =>
      refine iteF ?_
      -- number = box[0][0]
      refine ⟨_, rfl, b, _, 0, .ref l, rfl, rfl, sqA_l hb1, rfl, l, _, 0, .int n, rfl, rfl, sqA_l hl1, at0, ?_⟩
      -- box[0][0] = number // many
      refine ⟨_, rfl, _, rfl, _, _, rfl, rfl, wide_div m0 (b := 200) (by omega) (by decide) (by decide), ?_⟩
      refine ⟨_, rfl, b, _, 0, .ref l, rfl, rfl, sqA_l hb1, rfl, l, _, 0, 0, rfl, rfl, hl1, ixN_of rfl (by simp), ?_⟩
      have nlb : l ≠ b := hne.symm
      have hb2 : (upd (upd H p (.lst [])) l (.lst ((V.int (n / m)) :: r.map V.int))) b = some (.lst [.ref l, .int sd]) := by
        rw [upd_ne hne]; exact hb1
      have bt : But [b, l] H (upd (upd H p (.lst [])) l (.lst ((V.int (n / m)) :: r.map V.int))) := (Same.but sm).trans (But.set (by simp))
      -- if box[0][0] == 0 or box[0][0] == -1
      have hr1 : r.length ≤ 63 := by simp at hlen; omega
      refine ⟨fun σ' H' => σ' = [some (.ref b), some (.int m), some (.int n)] ∧ Box H' b l ∧ But [b, l] H H', ?_, fun σ' H' hM => ?_⟩
      · have pop : ∀ D : Ends, D.nx = (fun σ' H' => σ' = [some (.ref b), some (.int m), some (.int n)] ∧ Box H' b l ∧ But [b, l] H H') →
            tDrop (tBM K "list" rPopAt (tOp (rIxLT K) (tVar 0) (tC (.int 0))) (tCons (tC (.int 0)) tNil)) D [some (.ref b), some (.int m), some (.int n)] (upd (upd H p (.lst [])) l (.lst ((V.int (n / m)) :: r.map V.int))) := fun D hD => by
          refine ⟨_, rfl, b, _, 0, .ref l, rfl, rfl, sqA_l hb2, rfl, .inl ⟨rfl, _, sqL_l upd_same⟩, ?_⟩
          refine ⟨l, _, 0, 0, .int (n / m), rfl, rfl, upd_same, by decide, by decide, seqIx_of rfl (by simp), rfl, ?_⟩
          rw [hD]
          refine ⟨rfl, ⟨r, sd, ?_, ?_, s0, s1, hr1⟩, bt.trans (But.set (by simp))⟩
          · rw [upd_ne hne]; exact hb2
          · rw [upd_same]; rfl
        refine ⟨_, rfl, b, _, 0, .ref l, rfl, rfl, sqA_l hb2, rfl, l, _, 0, .int (n / m), rfl, rfl, sqA_l upd_same, at0, rfl, _, rfl, ite2 (fun e => ?_) (fun e => ?_)⟩
        · exact iteT (pop _ rfl)
        · refine ⟨_, rfl, b, _, 0, .ref l, rfl, rfl, sqA_l hb2, rfl, l, _, 0, .int (n / m), rfl, rfl, sqA_l upd_same, at0, 1, rfl, rfl, _, rfl, ite2 (fun e => ?_) (fun e => ?_)⟩
          · exact pop _ rfl
          · exact ⟨rfl, ⟨n / m :: r, sd, hb2, upd_same, s0, s1, hlen⟩, bt⟩
      · obtain ⟨rfl, h1, h2⟩ := hM
        refine ⟨_, rfl, _, rfl, _, _, rfl, rfl, m0, ?_⟩
        exact q _ _ h1 h2 (Int.emod_nonneg _ (by omega)) (Int.emod_lt_of_pos _ m0)
end
end Vt
namespace Vt
open PySem PySem.Spec PyProof.Rows L2
/-! ### the defs as they stand behind the top -/
def Found (K : PySem.W.Frag) (x : Str) (st : Stmt) (f : Addr) : Prop := ∃ (oc : Value) (od : Option Addr) (kV doc pm : Value) (an : Option Addr) (cdv ct : Value) (osl : Array (Option Value)),
  PySem.W.nsIn K mainGlobals x = some (some (.ref f)) ∧ K.lookup f = some ⟨oc, od, .func (PySem.W.fnOf x x (defArgs st) (defBody st) (defScope st) .none kV doc pm an cdv ct), osl⟩ ∧ PySem.W.codeIn K cdv x = true ∧ PySem.W.keepIn K (.ref f) = true
theorem found_mk {K : PySem.W.Frag} {x : Str} {st : Stmt} {f : Addr} {oc : Value} {od an : Option Addr} {kV doc pm cdv ct : Value} {osl : Array (Option Value)} (a : PySem.W.nsIn K mainGlobals x = some (some (.ref f)))
    (l : K.lookup f = some ⟨oc, od, .func (PySem.W.fnOf x x (defArgs st) (defBody st) (defScope st) .none kV doc pm an cdv ct), osl⟩) (c : PySem.W.codeIn K cdv x = true) (k : PySem.W.keepIn K (.ref f) = true) : ∃ f, Found K x st f :=
  ⟨f, oc, od, kV, doc, pm, an, cdv, ct, osl, a, l, c, k⟩
theorem callee_mk {P : Program} {w : World} {K : PySem.W.Frag} {mg : Str → Option Value} {base h : Heap} {x : Str} {st : Stmt} {k n : Nat} {sp : Sp} {ps : List Str} (X : K.In h) (G : h.Ns mainGlobals mg) (hf : ∃ f, Found K x st f)
    (ok : ∀ (f : Addr) (fd : FuncData), Fun K x x st f fd → FnOk P w K mg base CX0 k f fd ps sp)
    (hb : ∀ (kV doc pm : Value) (an : Option Addr) (cdv ct : Value) (us : List Value), us.length = ps.length → bindArgs (PySem.W.fnOf x x (defArgs st) (defBody st) (defScope st) .none kV doc pm an cdv ct) ⟨us, []⟩ = pure (ps.zip us)) : Callee P w K mg base x k n sp := by
  obtain ⟨f, oc, od, kV, doc, pm, an, cdv, ct, osl, a, l, c, kp⟩ := hf
  have F := fun_mk (st := st) l c kp
  exact ⟨f, _, ps, ok f _ F, PySem.W.mg_of X G a, kp, F.binds hb⟩
/-- a tuple of the written part, as it stands -/
theorem ktup_mk {K : PySem.W.Frag} {a : Addr} {xs : List V} {od : Option Addr} {its : Array Value} {n : Nat} {sl : Array (Option Value)} (l : K.lookup a = some ⟨.type "tuple", od, .seq its n, sl⟩) (hz : its.size ≤ sizeLine) (hv : Vals xs its.toList) : KTup K a xs :=
  ⟨_, its, n, l, rfl, rfl, hz, hv⟩
theorem kinds_mk {K : PySem.W.Frag} {w : World} {mg : Str → Option Value} {dd k1 k2 k3 k4 k5 k6 k7 : Addr} {es : Array DictEntry} {n : Nat} (m : mg "DEEDS" = some (.ref dd)) (low : (dd == sysModules) = false) (l : K.lookup dd = some ⟨.type "dict", none, .dict es n, #[]⟩) (kl : PySem.W.KeysLit w.params es.toList)
    (a1 : PySem.W.nsIn K dd "set" = some (some (.ref k1))) (a2 : PySem.W.nsIn K dd "add" = some (some (.ref k2))) (a3 : PySem.W.nsIn K dd "say" = some (some (.ref k3))) (a4 : PySem.W.nsIn K dd "start" = some (some (.ref k4)))
    (a5 : PySem.W.nsIn K dd "wait" = some (some (.ref k5))) (a6 : PySem.W.nsIn K dd "clean" = some (some (.ref k6))) (a7 : PySem.W.nsIn K dd "drop" = some (some (.ref k7)))
    (t1 : KTup K k1 [.str "cell", .str "number"]) (t2 : KTup K k2 [.str "cell", .str "cell"]) (t3 : KTup K k3 [.str "cell"]) (t4 : KTup K k4 [.str "order"]) (t5 : KTup K k5 []) (t6 : KTup K k6 [.str "line"]) (t7 : KTup K k7 [.str "line"]) : Kinds K w mg dd := by
  refine ⟨m, low, ⟨es, n, l, kl⟩, fun z ks h => ?_⟩
  have kd : ∀ (x : Str) (k : Addr), PySem.W.nsIn K dd x = some (some (.ref k)) → KDct K w dd x (.ref k) := fun x k e => ⟨es, n, _, l, kl, e, rfl⟩
  unfold kindsOf at h
  split at h
  · rename_i e; subst e; cases h; exact ⟨k1, kd _ _ a1, t1⟩
  split at h
  · rename_i e; subst e; cases h; exact ⟨k2, kd _ _ a2, t2⟩
  split at h
  · rename_i e; subst e; cases h; exact ⟨k3, kd _ _ a3, t3⟩
  split at h
  · rename_i e; subst e; cases h; exact ⟨k4, kd _ _ a4, t4⟩
  split at h
  · rename_i e; subst e; cases h; exact ⟨k5, kd _ _ a5, t5⟩
  split at h
  · rename_i e; subst e; cases h; exact ⟨k6, kd _ _ a6, t6⟩
  split at h
  · rename_i e; subst e; cases h; exact ⟨k7, kd _ _ a7, t7⟩
  cases h
end Vt
namespace Vt
open PySem PySem.Spec PyProof.Rows L2
/-- a def of a class, of a text that says super(): as it stands -/
def FoundS (K : PySem.W.Frag) (C D : Addr) (x q : Str) (st : Stmt) (f cda cc : Addr) : Prop := ∃ (oc : Value) (od : Option Addr) (kV doc pm : Value) (an : Option Addr) (ct : Value) (osl : Array (Option Value)) (cl : Value) (cld : Option Addr) (csl : Array (Option Value)) (cdD : ClassData),
  PySem.W.findIn K (.ref C) x = some (some (.ref f)) ∧ K.lookup f = some ⟨oc, od, .func (PySem.W.fnX x q (defArgs st) (defBody st) (defScope st) [("__class__", cc)] .none kV doc pm an (.ref cda) ct), osl⟩ ∧ PySem.W.codeIn K (.ref cda) q = true ∧ PySem.W.isFn K (.ref f) = true ∧ K.lookup cc = some ⟨cl, cld, .cell (some (.ref D)), csl⟩ ∧ PySem.W.clsIn K D = some cdD
/-- the code record of the def, with its file -/
def CodeAt (P : Program) (K : PySem.W.Frag) (cda : Addr) : Prop := ∃ ccl cdd vs ccs file tf, K.lookup cda = some ⟨ccl, cdd, .fields vs, ccs⟩ ∧ vs[2]? = some (.str file tf) ∧ ((P.main.file : Str) == file) = true
theorem founds_mk {P : Program} {K : PySem.W.Frag} {C D : Addr} {x q : Str} {st : Stmt} {f cda cc : Addr} {oc : Value} {od an : Option Addr} {kV doc pm ct : Value} {osl : Array (Option Value)} {cl : Value} {cld : Option Addr} {csl : Array (Option Value)} {cdD : ClassData}
    {ccl : Value} {cdd : Option Addr} {vs : Array Value} {ccs : Array (Option Value)} {file : Str} {tf : Tok}
    (a : PySem.W.findIn K (.ref C) x = some (some (.ref f))) (l : K.lookup f = some ⟨oc, od, .func (PySem.W.fnX x q (defArgs st) (defBody st) (defScope st) [("__class__", cc)] .none kV doc pm an (.ref cda) ct), osl⟩) (c : PySem.W.codeIn K (.ref cda) q = true) (i : PySem.W.isFn K (.ref f) = true)
    (l2 : K.lookup cc = some ⟨cl, cld, .cell (some (.ref D)), csl⟩) (d : PySem.W.clsIn K D = some cdD) (l3 : K.lookup cda = some ⟨ccl, cdd, .fields vs, ccs⟩) (v2 : vs[2]? = some (.str file tf)) (fe : ((P.main.file : Str) == file) = true) : ∃ f cda cc, FoundS K C D x q st f cda cc ∧ CodeAt P K cda :=
  ⟨f, cda, cc, ⟨oc, od, kV, doc, pm, an, ct, osl, cl, cld, csl, cdD, a, l, c, i, l2, d⟩, ⟨ccl, cdd, vs, ccs, file, tf, l3, v2, fe⟩⟩
end Vt
namespace Vt
open PySem PySem.Spec PyProof.Rows L2
/-! ### an own exception whose __init__ says super().__init__(x) first -/
section
variable {prog : Program} {w : World} {A : Around} {h : Heap} {g : Array GenState} {d : Drawn} {t : Nat} {os : OsState} {E : Value → Shared → Prop}
theorem call_mwV {nm q : Str} {C N u e t0 : Addr} {bs bm : List Value} {hdct : Bool} {sn : List Str} {sub : List Value} {ab : Bool} {col : Option Bool} {dd : Option Addr} {k0 k1 k2 k3 k5 : Option Value} {rest : List Value} {Q : Value → Shared → Prop}
    (hC : h.get? C = some (excClassObj nm q C N bs bm hdct sn sub ab col dd k0 k1 k2 k3 k5 "ValueError.__new__")) (he : h.get? e = some (PySem.HandSPX.excO C t0)) (hu : h.get? u = some (PySem.W.kxs_mw "ValueError.__init__" e)) (hrest : rest.length ≤ sizeLine)
    (hq : ∀ h' t1, (∀ b o, b ≠ e → h.get? b = some o → h'.get? b = some o) → h'.get? e = some (PySem.HandSPX.excO C t1) → Q .none ⟨h', g, d, t, os⟩) :
    wpAny (model prog w) A (call (.ref u) rest) Q E ⟨h, g, d, t, os⟩ := by
  refine wpAny_call (codeAny_of_tree ?_)
  show wpAny _ A.in1 (callAny (.ref u) ⟨rest, []⟩) _ _ _
  simp only [callAny]
  refine wpAny_bind (wpAny_load hu ?_)
  simp only [PySem.W.kxs_mw, show (Value.type "method-wrapper" == Value.type "method" || Value.type "method-wrapper" == Value.type "builtin_function_or_method" || Value.type "method-wrapper" == Value.type "method-wrapper") = true by decide, if_true]
  refine PySem.W.KFB.if_so (by decide) ?_
  refine wpAny_bind (PySem.W.check_bound_init F.excBase_ValueError.toExcCallFacts hC he rfl ?_)
  refine wpAny_bind (wpAny_pure (wpAny_pure ?_))
  refine ⟨plainId_quiet F.excBase_ValueError.init.plain _, codeAny_builtin F.excBase_ValueError.initEntry ?_⟩
  rw [Around.under_plainId F.excBase_ValueError.init.plain _]
  refine PySem.W.exc_init_tree (cls := .ref C) (t0 := t0) (dv := none) (c2 := .none) (c3 := .none) (b4 := .bool false) he hrest fun h' k e' t' => ?_
  exact hq h' _ k e'
end
/-- the class behind is a built-in one: its __init__ -/
structure SupX (K : PySem.W.Frag) (C D : Addr) : Prop where
  sub : PySem.W.mroIn K C (.ref D) = some true
  at_ : PySem.W.ks_superIn K C D "__init__" = some (some (.builtin "ValueError.__init__"))
  ve : PySem.W.subIn K (.ref C) (.type "ValueError") = some true
section
variable {CX : CXT} {P : Program} {w : World} {K : PySem.W.Frag} {mg : Str → Option Value} {base : Heap} {N ps : List Str} {f cda cc D C x : Addr} {name qual : Str} {st : Stmt} {A : Around} {outer : List Env} {s0 s : Shared} {H0 H : Hp} {E : XK} {pins : List (Addr × Obj)} {σ : L2.St}
  {cl oc : Value} {cld od : Option Addr} {csl osl : Array (Option Value)} {fd : FuncData} {ar : Arg} {cdD : ClassData} {ox : Obj} {odx : Option Obj}
/-- a def of an own exception whose first statement is super().__init__(..) -/
theorem fnS_exc {k : Nat} {sp : Sp} {dV kV doc pm ct : Value} {an : Option Addr} {p0 p1 apos pos epos : Pos} {e : Expr} {es : List Expr} {rest : List Stmt}
    (lk : K.lookup f = some ⟨oc, od, .func (PySem.W.fnX name qual (defArgs st) (defBody st) (defScope st) [("__class__", cc)] dV kV doc pm an (.ref cda) ct), osl⟩) (hcd : PySem.W.codeIn K (.ref cda) qual = true) (hbd : defBody st = .Expr (.Call (.Attribute (.Call (.Name "super" p0) [] [] p1) "__init__" apos) (e :: es) [] pos) epos :: rest)
    (S : NdefX.NScope N ps ["__class__"] (defScope st)) (SO : SupOk P K mg (defScope st) cda) (hp : ((defArgs st).posonlyargs ++ (defArgs st).args).head? = some ar) (hN : N[0]? = some ar.arg) (h0 : ps[0]? = some ar.arg)
    (hcell : K.lookup cc = some ⟨cl, cld, .cell (some (.ref D)), csl⟩) (hD : PySem.W.clsIn K D = some cdD)
    (len : ∀ vs H Q E, sp vs H Q E → vs.length = ps.length)
    (hst : ∀ env, starEach (e :: es) env = (false, eval e env) :: starEach es env) (hpl : ∀ env, (backTo pos (starEach es env)).any (·.1) = false)
    (hev : ∀ env, ∃ pl : Sem Bool, eval (.Call (.Attribute (.Call (.Name "super" p0) [] [] p1) "__init__" apos) (e :: es) [] pos) env = (do
      let ov ← attributeBase (.Call (.Name "super" p0) [] [] p1) "__init__" env (eval (.Call (.Name "super" p0) [] [] p1) env)
      standAt apos.atName
      let (f, first) ← holding [ov] (getMethod ov "__init__" pl)
      callWith pos f first (backTo pos (starEach (e :: es) env)) []))
    (hsw : ∀ env, swapsWith (.Call (.Attribute (.Call (.Name "super" p0) [] [] p1) "__init__" apos) (e :: es) [] pos) none epos.line env = pure false)
    (hbody : ∀ (A : Around) (outer : List Env) (s : Shared) (H : Hp) (vs : List V) (Q : VK) (E : XK), Room k (A.deeper (NdefX.envF (nfS name qual st cda cc) f s.heap.objs.size)) → sp vs H Q E →
      ∃ (ta : TA) (t : TS), L2.PA (NdefX.ncx CX0 P w K mg base N (nfS name qual st cda cc) f A outer s H E) (e :: es) ta ∧ PSs (NdefX.ncx CX0 P w K mg base N (nfS name qual st cda cc) f A outer s H E) rest t ∧
        ∃ (x C : Addr), (startS N vs)[0]? = some (some (.ref x)) ∧ H x = some (exo x C none) ∧ OexC K C ∧ SupX K C D ∧
          ta (startS N vs) H fun ws H1 => ws.length ≤ 1000 ∧ H1 x = some (exo x C none) ∧ t { nx := fun _ H' => Q .non H', rt := Q } (startS N vs) H1) :
    FnOk P w K mg base CX0 (k + 1) f (PySem.W.fnX name qual (defArgs st) (defBody st) (defScope st) [("__class__", cc)] dV kV doc pm an (.ref cda) ct) ps sp := by
  refine ⟨len, fun A outer s H args us vs Q E hr e0 hb r hsp => ?_⟩
  have hl := len _ _ _ _ hsp
  have KX : K.In s.heap := e0.mod.kin.keeps fun b o e => (e0.bs b o e).1
  have lim : s.heap.NoLimit := e0.mod.nolimit.keeps fun b o e => (e0.bs b o e).1
  obtain ⟨ta, t, hpa, hps, x, C, hx0, hxi, hO, sm, rd⟩ := hbody A outer s H vs Q E (hr.deeper _) hsp
  refine ks_codeAny_call_defAt (fd := PySem.W.fnX name qual (defArgs st) (defBody st) (defScope st) [("__class__", cc)] dV kV doc pm an (.ref cda) ct) (body := defBody st) (binds := ps.zip us) hr.depth (KX _ _ lk) rfl lim (PySem.W.codeRec_of KX hcd) rfl hb S.nocell
    (fun y hy => S.par y.1 (List.of_mem_zip hy).1) (fun h₁ hns hk => ?_) S.co S.gen S.kind
  have I := NdefX.inv_startN (CX := CX0) (E := E) (F := nfS name qual st cda cc) (f := f) (tk := s.toks + (ps.zip us).length) S hr.hd e0 hl r (cells_S e0.mod.kin e0.bs hcell) hns hk
  have hr' : Room k (A.deeper (NdefX.envF (nfS name qual st cda cc) f s.heap.objs.size)) := hr.deeper _
  have fin : ∀ (fl : Flow) (s' : Shared), SP (NdefX.ncx CX0 P w K mg base N (nfS name qual st cda cc) f A outer s H E) [] { nx := fun _ H' => Q .non H', rt := Q } fl s' → CR CX0 outer P w H s Q E (.ok (.ret (match fl with | .ret v => v | _ => .none))) s' := fun fl s' hs => by
    have fin0 : ∀ {σ' : L2.St} {H' : Hp} {v : V} {u : Value}, Inv (NdefX.ncx CX0 P w K mg base N (nfS name qual st cda cc) f A outer s H E) [] σ' H' s' → RelV v u → Q v H' → CE outer P w H s Q u s' :=
      fun {σ' H' v u} J rv q => ⟨v, H', J.os, J.bare, J.base, J.hok, rv, q⟩
    cases fl with
    | ret u =>
      obtain ⟨v, σ', H', J, rv, q⟩ := hs
      exact fin0 J rv q
    | next =>
      obtain ⟨σ', H', J, q⟩ := hs
      exact fin0 (v := V.non) (u := Value.none) J rfl q
    | brk =>
      obtain ⟨_, _, _, q⟩ := hs
      exact False.elim q
    | cont =>
      obtain ⟨_, _, _, q⟩ := hs
      exact False.elim q
  obtain ⟨pl, hev'⟩ := hev (NdefX.ncx CX0 P w K mg base N (nfS name qual st cda cc) f A outer s H E).env
  have go : PySem.wpAt (model P w) (NdefX.ncx CX0 P w K mg base N (nfS name qual st cda cc) f A outer s H E).A (.func (defBody st) (NdefX.ncx CX0 P w K mg base N (nfS name qual st cda cc) f A outer s H E).env)
      (execs (defBody st) (NdefX.ncx CX0 P w K mg base N (nfS name qual st cda cc) f A outer s H E).env) (SP (NdefX.ncx CX0 P w K mg base N (nfS name qual st cda cc) f A outer s H E) [] { nx := fun _ H' => Q .non H', rt := Q }) (NdefX.ncx CX0 P w K mg base N (nfS name qual st cda cc) f A outer s H E).xe { s with heap := h₁, toks := s.toks + (ps.zip us).length } := by
    rw [hbd]
    refine ks_wpAt_execs_cons (ks_wpAt_Expr_any (ks_wpAt_MethodCall ?_ hev') (by show ((defScope st).kind == .module && _) = false; rw [S.kind]; rfl) (hsw _))
    obtain ⟨t1, hgx⟩ := exo_at I.hok hxi
    have J : PySem.W.InstAt h₁ x (PySem.HandSPX.excO C t1) C none := ⟨hgx, rfl, rfl, trivial⟩
    refine super_at SO lk hp (S.par _ (List.mem_of_getElem? h0)) S.kind hcell hD sm.sub (by decide) I hN hx0 J fun so s1 I1 k1 => ?_
    have X1 := I1.kIn
    have hso := ClX.pin_at I1
    cases hc : PySem.W.clsIn K C with
    | none =>
      have z := sm.at_
      unfold PySem.W.ks_superIn at z
      rw [hc] at z; cases z
    | some cd =>
      have z := sm.at_
      unfold PySem.W.ks_superIn at z
      rw [hc] at z
      obtain ⟨t2, hgx1⟩ := exo_at I1.hok hxi
      have J1 : PySem.W.InstAt s1.heap x (PySem.HandSPX.excO C t2) C none := ⟨hgx1, rfl, rfl, trivial⟩
      have hI : PySem.W.Looks (model P w) s1.heap (isInstance (.ref x) (.type "ValueError")) true := J1.type.andThen (PySem.W.looks_subIn X1 sm.ve)
      obtain ⟨hp1, g1, d1, t1', os1⟩ := s1
      refine PySem.W.kxs_getMethod PySem.W.kxs_ValueError hso (PySem.W.looks_opaque X1 SO.any) (l₀ := cd.mro) ?_ rfl X1 z hI (PySem.W.ks_ne I.kIn J hc) (by decide) ?_
      · exact fun A Q E s k q => wpAny_bind ((PySem.W.looks_clsIn X1 hc) A _ E s k (wpAny_pure q))
      · have I2 := ClX.pin_new (o := PySem.W.kxs_mw "ValueError.__init__" x) (t' := t1' + 1) I1 (fun b u z => Heap.get?_push_of_some _ z) (Nat.le_refl _) (Heap.get?_push_size hp1 rfl) (fun v z => nomatch z)
        have he := hst (NdefX.ncx CX0 P w K mg base N (nfS name qual st cda cc) f A outer s H E).env
        have hpl' := hpl (NdefX.ncx CX0 P w K mg base N (nfS name qual st cda cc) f A outer s H E).env
        rw [he]
        refine PySem.W.kxs_callWith (i := "ValueError.__init__") (x := x) (by show (false || (backTo pos (starEach es _)).any (·.1)) = false; rw [hpl']; rfl) (PySem.Calls.evalArgs_plain ?_)
        have w1 := hpa.run pos _ _ _ _ _ I2 rd
        rw [he] at w1
        refine thn w1 fun ws s3 ⟨vs2, H1, I3, r3, hlen, hx1, ht⟩ => ⟨ClX.pin_at I3, ?_⟩
        obtain ⟨nm, q, Nn, bs, bm, sn, sub, ab, col, dd, k0, k1', k2, k3, k5, hC, hbm⟩ := hO.cls
        obtain ⟨t3, hgx3⟩ := exo_at I3.hok hx1
        have hmw := ClX.pin_at I3
        have hus : ws.length ≤ sizeLine := by
          rw [← Paired.length r3, sizeLine_eq]
          omega
        obtain ⟨hp3, g3, d3, tk3, os3⟩ := s3
        refine call_mwV (I3.kIn _ _ hC) hgx3 hmw hus fun h' t4 k hx' => ?_
        have J3 := I3.write (t' := tk3) (x := x) (e := x) (o := exo x C none) (by rw [hx1]; exact True.intro) (.inl rfl) k ⟨_, hx'⟩ (exo_ok hx')
        have eu : upd H1 x (exo x C none) = H1 := by
          funext b
          by_cases hb : b = x
          · rw [hb, upd_same, hx1]
          · rw [upd_ne hb]
        rw [eu] at J3
        exact wpAt_of_wpAny (hps.run [] _ _ H1 _ (ClX.unpin (ClX.unpin J3)) ht)
  exact ks_wpAt_mono go (fun fl s' hl => fin fl s' hl) fun _ _ y => y
end
end Vt
namespace Vt
open PySem PySem.Spec PyProof.Rows L2
/-! ### raising an own exception with fields -/
section
variable {X : Cx} {e : Expr} {es : List Expr} {ta : TA} {p pos : Pos}
theorem mk_endN {pins : List (Addr × Obj)} {σ : L2.St} {H1 H2 : Hp} {Q : XK} {hp hp2 h2 : Heap} {g1 g2 : Array GenState} {d1 d2 : Drawn} {t1 t2 : Nat} {os1 os2 : OsState} {a C d : Addr} {fs : List (Str × V)} (T : Raises X (.ref C)) (I1 : Inv X pins σ H1 ⟨hp, g1, d1, t1, os1⟩)
    (ha : hp.objs.size ≤ a) (k : ∀ b o, hp.get? b = some o → hp2.get? b = some o) (un : Un (frs X.stack) [] (upd H1 a (exo a C none)) H2 hp2 h2) (hok : HOk X.prog X.w H2 h2) (ho : os2 = os1) (hb : AllBare g2)
    (ea : H2 a = some (exo a C (some d))) (ed : H2 d = some (exd d fs)) (hd1 : H1 d = none) (q : Q (.ref C) (some d) (upd (L2.del H2 a) d (.xd fs))) : L2N.MkP X pins σ Q (.ref a) ⟨h2, g2, d2, t2, os2⟩ := by
  obtain ⟨t0, G, J, kG, ge, hoe, na⟩ := mk_end0 (d2 := d2) (t2 := t2) I1 ha k un hok ho hb ea ed hd1
  exact ⟨a, _, _, ⟨G, g2, d2, t2, os2⟩, _, .ref C, some d, rfl, J, kG, ge, hoe, ⟨rfl, rfl, fun vs e => by cases e; rfl⟩, rfl, rfl, na, rfl, hb, T, q⟩
theorem pmk_oexN {x : Str} {C fI : Addr} {k : Nat} {fd : FuncData} {ps : List Str} {sp : Sp} {ds : List Value} {dvs : List V} (T : OexC X.K C) (iC : PySem.W.findIn X.K (.ref C) "__init__" = some (some (.ref fI))) (tI : PySem.W.typeIn X.K (.ref fI) = some (.type "function"))
    (F1 : FnOk X.prog X.w X.K X.mg X.base CX0 k fI fd ps sp) (hr : Room (k + 1) X.A) (hb : Binds X.K fd ps ds) (hd : Vals dvs ds) (hg : Gl X x) (hm : X.mg x = some (.ref C)) (ha : L2.PA X (e :: es) ta)
    (hdb : (x == ("__debug__" : Str)) = false := by decide) (he : starEach (e :: es) X.env = (false, eval e X.env) :: starEach es X.env := by rfl) (hpl : (backTo pos (starEach es X.env)).any (·.1) = false := by rfl) :
    L2N.PMk X (.Call (.Name x p) (e :: es) [] pos) (tMkO C sp dvs ta) := by
  intro pins s σ H Q I h
  obtain ⟨nm, q, N, bs, bm, sn, sub, ab, col, dd, k0, k1, k2, k3, k5, hC, hbm⟩ := T.cls
  refine wpAny_Call_Name_kw (ld_glob I hg hm ?_ hdb)
  refine PySem.W.callWith_K (h₀ := X.base) I.ok.mod.kin T.kC (thn (ha.run pos pins s σ H _ I h) fun us s1 ⟨vs, H1, I1, r1, hz, q1⟩ => ⟨I1.kIn, ?_⟩) he hpl
  show wpAny _ _ (call (.ref C) us) _ _ _
  obtain ⟨hp, g, dr, tk, os⟩ := s1
  have hsz : hp.objs.size ≤ hp.objs.size + 1 := Nat.le_succ _
  have hn : H1 (hp.objs.size + 1) = none := I1.hok.fresh hsz
  have hq := q1 (hp.objs.size + 1) hn
  have kk : ∀ b o, hp.get? b = some o → ((hp.push (PySem.W.kdv_tup us)).push (PySem.HandSPX.excO C hp.objs.size)).get? b = some o := fun b o e => Heap.get?_push_of_some _ (Heap.get?_push_of_some _ e)
  have hget : ((hp.push (PySem.W.kdv_tup us)).push (PySem.HandSPX.excO C hp.objs.size)).get? (hp.objs.size + 1) = some (PySem.HandSPX.excO C hp.objs.size) := by heap_get
  have I2 : Inv X pins σ (upd H1 (hp.objs.size + 1) (exo (hp.objs.size + 1) C none)) ⟨(hp.push (PySem.W.kdv_tup us)).push (PySem.HandSPX.excO C hp.objs.size), g, dr, tk, os⟩ :=
    I1.laid (t' := tk) (a := hp.objs.size + 1) (o := exo (hp.objs.size + 1) C none) (h' := (hp.push (PySem.W.kdv_tup us)).push (PySem.HandSPX.excO C hp.objs.size)) kk hsz (exo_ok hget)
  have r2 : Vals (V.ref (hp.objs.size + 1) :: (vs ++ dvs)) (Value.ref (hp.objs.size + 1) :: (us ++ ds)) := .cons rfl (r1.append hd)
  have hl : (Value.ref (hp.objs.size + 1) :: us ++ ds).length = ps.length := by
    have e := r2.length
    rw [F1.len _ _ _ _ hq] at e
    exact e.symm
  have hus : us.length ≤ sizeLine := by
    rw [← Paired.length r1, sizeLine_eq]
    omega
  refine wpAny_call (PySem.HandSPX.call_own F.excBase_ValueError (fun Y => PySem.HandSPX.refsVE_contains Y bm hbm) (I1.kIn _ _ hC) (PySem.W.looks_findIn I1.kIn iC) (fun self => PySem.W.bind_fn I1.kIn self tI) hus
    (codeAny_mono (F1.run _ X.stack _ _ ⟨Value.ref (hp.objs.size + 1) :: us, []⟩ (Value.ref (hp.objs.size + 1) :: (us ++ ds)) _ _ (fun _ _ _ => False) (hr.make C us []) (I2.env0.make C us []) (hb _ (Value.ref (hp.objs.size + 1) :: us) I2.kIn hl) r2 hq) fun r s' hq' => ?_))
  cases r with
  | error er => exact (show False from hq').elim
  | ok fl =>
    cases fl with
    | ret u =>
      obtain ⟨v, H2, os2, bare2, un2, hok2, rv, ev, d, fs, ea, ed, hd1, q2⟩ := hq'
      subst ev
      obtain ⟨h2, g2, d2, t2, os'⟩ := s'
      exact ⟨rv, mk_endN (raises_own T.exC T.tyC) I1 hsz kk un2 hok2 os2 bare2 ea ed hd1 q2⟩
    | next => exact False.elim hq'
    | brk => exact False.elim hq'
    | cont => exact False.elim hq'
end
/-- a class whose instances are made by its own __init__ -/
structure MakesX (P : Program) (w : World) (K : PySem.W.Frag) (mg : Str → Option Value) (base : Heap) (x : Str) (C : Addr) (k : Nat) (sp : Sp) : Prop where
  T : OexC K C
  m : mg x = some (.ref C)
  ex : ∃ (fI : Addr) (fd : FuncData) (ps : List Str), PySem.W.findIn K (.ref C) "__init__" = some (some (.ref fI)) ∧ PySem.W.typeIn K (.ref fI) = some (.type "function") ∧ FnOk P w K mg base CX0 k fI fd ps sp ∧ Binds K fd ps []
theorem pmk_mk {X : Cx} {e : Expr} {es : List Expr} {ta : TA} {p pos : Pos} {x : Str} {C : Addr} {k j : Nat} {sp : Sp} (M : MakesX X.prog X.w X.K X.mg X.base x C k sp) (hr : Room (j + 1) X.A) (hk : k ≤ j) (ha : L2.PA X (e :: es) ta) (hg : Gl X x := by rfl)
    (hdb : (x == ("__debug__" : Str)) = false := by decide) (he : starEach (e :: es) X.env = (false, eval e X.env) :: starEach es X.env := by rfl) (hpl : (backTo pos (starEach es X.env)).any (·.1) = false := by rfl) :
    L2N.PMk X (.Call (.Name x p) (e :: es) [] pos) (tMkO C sp [] ta) := by
  obtain ⟨fI, fd, ps, h1, h2, F, b⟩ := M.ex
  exact pmk_oexN M.T h1 h2 F (hr.mono (Nat.succ_le_succ hk)) b .nil hg M.m ha hdb he hpl
/-! ### the promises of the two kinds of __init__ -/
/-- its two fields -/
def fs2 (word : Str) (n : Int) : List (Str × V) := [("number", .int n), ("word", .str word)]
def spX2 (C : Addr) : Sp := fun vs H Q _ => ∃ (x : Addr) (word : Str) (n : Int), vs = [.ref x, .str word, .int n] ∧ H x = some (exo x C none) ∧ word.length ≤ 20 ∧ 0 ≤ n ∧ n < 1000 ∧
  ∀ dx, H dx = none → dx ≠ x → Q .non (upd (upd (upd H dx (exd dx [("word", .str word)])) x (exo x C (some dx))) dx (exd dx (fs2 word n)))
/-- its one field -/
def spX1 (C : Addr) (fld : Str) : Sp := fun vs H Q _ => ∃ (x : Addr) (n : Int), vs = [.ref x, .int n] ∧ H x = some (exo x C none) ∧ 0 ≤ n ∧ n < 1000 ∧
  ∀ dx, H dx = none → dx ≠ x → Q .non (upd (upd H dx (exd dx [(fld, .int n)])) x (exo x C (some dx)))
theorem rd_x2 {C : Addr} {word : Str} {n : Int} {H1 : Hp} {Q : XK} (h0 : word.length ≤ 20) (h1 : 0 ≤ n) (h2 : n < 1000) (q : ∀ d, H1 d = none → Q (.ref C) (some d) (upd H1 d (.xd (fs2 word n)))) :
    ([V.str word, V.int n] : List V).length ≤ 1000 ∧ ∀ a, H1 a = none → spX2 C (.ref a :: ([V.str word, V.int n] ++ [])) (upd H1 a (exo a C none))
      (fun v H2 => v = .non ∧ ∃ (d : Addr) (fs : List (Str × V)), H2 a = some (exo a C (some d)) ∧ H2 d = some (exd d fs) ∧ H1 d = none ∧ Q (.ref C) (some d) (upd (L2.del H2 a) d (.xd fs))) (fun _ _ _ => False) := by
  refine ⟨by show 2 ≤ 1000; decide, fun a na => ⟨a, word, n, rfl, upd_same, h0, h1, h2, fun dx hd ne => ⟨rfl, dx, fs2 word n, ?_, upd_same, ?_, ?_⟩⟩⟩
  · rw [upd_ne ne.symm, upd_same]
  · rw [upd_ne ne] at hd; exact hd
  · have e : upd (L2.del (upd (upd (upd (upd H1 a (exo a C none)) dx (exd dx [("word", .str word)])) a (exo a C (some dx))) dx (exd dx (fs2 word n))) a) dx (.xd (fs2 word n)) = upd H1 dx (.xd (fs2 word n)) := by
      funext b
      by_cases hb : b = dx
      · rw [hb, upd_same, upd_same]
      · rw [upd_ne hb, upd_ne hb]
        by_cases hb2 : b = a
        · rw [hb2, L2.del_same, na]
        · rw [L2.del_ne hb2, upd_ne hb, upd_ne hb2, upd_ne hb, upd_ne hb2]
    rw [e]
    rw [upd_ne ne] at hd
    exact q dx hd
theorem rd_x1 {C : Addr} {fld : Str} {n : Int} {H1 : Hp} {Q : XK} (h1 : 0 ≤ n) (h2 : n < 1000) (q : ∀ d, H1 d = none → Q (.ref C) (some d) (upd H1 d (.xd [(fld, .int n)]))) :
    ([V.int n] : List V).length ≤ 1000 ∧ ∀ a, H1 a = none → spX1 C fld (.ref a :: ([V.int n] ++ [])) (upd H1 a (exo a C none))
      (fun v H2 => v = .non ∧ ∃ (d : Addr) (fs : List (Str × V)), H2 a = some (exo a C (some d)) ∧ H2 d = some (exd d fs) ∧ H1 d = none ∧ Q (.ref C) (some d) (upd (L2.del H2 a) d (.xd fs))) (fun _ _ _ => False) := by
  refine ⟨by show 1 ≤ 1000; decide, fun a na => ⟨a, n, rfl, upd_same, h1, h2, fun dx hd ne => ⟨rfl, dx, [(fld, .int n)], upd_same, ?_, ?_, ?_⟩⟩⟩
  · rw [upd_ne ne, upd_same]
  · rw [upd_ne ne] at hd; exact hd
  · have e : upd (L2.del (upd (upd (upd H1 a (exo a C none)) dx (exd dx [(fld, .int n)])) a (exo a C (some dx))) a) dx (.xd [(fld, .int n)]) = upd H1 dx (.xd [(fld, .int n)]) := by
      funext b
      by_cases hb : b = dx
      · rw [hb, upd_same, upd_same]
      · rw [upd_ne hb, upd_ne hb]
        by_cases hb2 : b = a
        · rw [hb2, L2.del_same, na]
        · rw [L2.del_ne hb2, upd_ne hb2, upd_ne hb, upd_ne hb2]
    rw [e]
    rw [upd_ne ne] at hd
    exact q dx hd
/-- a number below a thousand, written, is short -/
theorem dig_short {n : Int} (h1 : 0 ≤ n) (h2 : n < 1000) : ((toString n : String) : Str).length ≤ 3 := by
  have key : ∀ m : Fin 1000, ((toString ((m.val : Nat) : Int) : String) : Str).length ≤ 3 := by decide +kernel
  have e : n = ((n.toNat : Nat) : Int) := by omega
  rw [e]
  exact key ⟨n.toNat, by omega⟩
section
variable {P : Program} {w : World} {K : PySem.W.Frag} {mg : Str → Option Value} {base : Heap}
abbrev st_BadBoard___init__ : Stmt := (inClass (topS 3) 0)
abbrev st_BadFence___init__ : Stmt := (inClass (topS 4) 0)
abbrev st_BadText___init__ : Stmt := (inClass (topS 7) 0)
theorem bb_scope : NdefX.NScope ["self", "word", "number", "__class__"] ["self", "word", "number"] ["__class__"] (defScope st_BadBoard___init__) := NdefX.nscope_by (by decide +kernel)
theorem bf_scope : NdefX.NScope ["self", "number", "__class__"] ["self", "number"] ["__class__"] (defScope st_BadFence___init__) := NdefX.nscope_by (by decide +kernel)
theorem bt_scope : NdefX.NScope ["self", "row", "__class__"] ["self", "row"] ["__class__"] (defScope st_BadText___init__) := NdefX.nscope_by (by decide +kernel)
/-- what the class must be -/
structure XCls (K : PySem.W.Frag) (C : Addr) (fs : List Str) : Prop where
  T : OexC K C
  S : SupX K C C
  no : ∀ f ∈ fs, PySem.W.findIn K (.ref C) f = some none
end
end Vt
namespace Vt
open PySem PySem.Spec PyProof.Rows L2
section
variable {P : Program} {w : World} {K : PySem.W.Frag} {mg : Str → Option Value} {base : Heap}
theorem word_short {word : Str} {n : Nat} (h : word.length ≤ n) : word.length ≤ n := h
theorem app_len (a b : Str) : (a ++ b).length = a.length + b.length := by
  show (a.cps ++ b.cps).size = a.cps.size + b.cps.size
  exact Array.size_append
theorem ex_len {n : Int} (h0 : 0 ≤ n) (h1 : n < 1000) : n.natAbs.log2 < 1920 := by
  have h : n.natAbs < 1000 := by omega
  by_cases z : n.natAbs = 0
  · rw [z]; decide
  · have : n.natAbs.log2 < 10 := (Nat.log2_lt z).mpr (by omega)
    omega
set_option maxHeartbeats 0 in
theorem bb_make {C f cda cc : Addr} (hm : mg "BadBoard" = some (.ref C)) (XC : XCls K C ["word", "number"]) (F : FoundS K C C "__init__" "BadBoard.__init__" st_BadBoard___init__ f cda cc) (tI : PySem.W.typeIn K (.ref f) = some (.type "function")) (hc : CodeAt P K cda)
    (top : (P.main.scope.names.lookup ("super" : Str)).isSome = false) (z_super : mg "super" = none) (any : PySem.W.nsIn K cStatics "thirdparty.any" = some none) : MakesX P w K mg base "BadBoard" C 1 (spX2 C) := by
  obtain ⟨oc, od, kV, doc, pm, an, ct, osl, cl, cld, csl, cdD, a, l, hcd, i, l2, d⟩ := F
  refine ⟨XC.T, hm, f, _, ["self", "word", "number"], a, tI, fnS_exc (k := 0) (sp := spX2 C) l hcd (hbd := by rfl) bb_scope ⟨hc, top, z_super, by decide +kernel, by decide +kernel, any⟩ (by rfl) (by rfl) (by rfl) l2 d (fun vs H Q E h => ?_) (fun _ => rfl) (fun _ => rfl) (fun _ => ⟨_, rfl⟩) (fun _ => rfl) (fun A outer s H vs Q E hr h => ?_), .all fun us hl => ?_⟩
  · obtain ⟨x, word, n, rfl, _⟩ := h
    rfl
  · obtain ⟨x, word, n, rfl, hx, hw, h0, h1, q⟩ := h
    refine ⟨_, _, pa_cons (pe_joined (.cons (pe_fmt (pv 1)) (.cons pe_str (.cons (pe_fmt (pv 2)) .nil)))) pa_nil, pss_cons (ps_ost (pv 0) (pv 1)) (pss_one (ps_ost (pv 0) (pv 2))), x, C, rfl, hx, XC.T, XC.S, ?_⟩
    have d3 := dig_short h0 h1
    refine ⟨_, rfl, .inl ⟨word, rfl, Nat.le_trans hw (by decide), word, rfl, ?_, _, rfl, ?_, _, rfl, .inr ⟨n, rfl, ex_len h0 h1, _, rfl, ?_, ?_⟩⟩⟩
    · rw [app_len]
      exact Nat.le_trans (Nat.add_le_add (Nat.le_refl _) hw) (by decide +kernel)
    · rw [app_len, app_len]
      exact Nat.le_trans (Nat.add_le_add (Nat.add_le_add (Nat.le_refl _) hw) (Nat.le_refl _)) (by decide +kernel)
    · rw [app_len, app_len, app_len]
      exact Nat.le_trans (Nat.add_le_add (Nat.add_le_add (Nat.add_le_add (Nat.le_refl _) hw) (Nat.le_refl _)) d3) (by decide +kernel)
    refine ⟨by show 1 ≤ 1000; decide, hx, ?_⟩
    refine ⟨_, rfl, _, rfl, x, C, rfl, XC.T, XC.no _ (by simp), .inl ⟨hx, fun dx hd ne => ?_⟩⟩
    refine ⟨_, rfl, _, rfl, x, C, rfl, XC.T, XC.no _ (by simp), .inr ⟨dx, _, upd_same, by rw [upd_ne ne, upd_same], by show 1 ≤ 900; decide, ?_⟩⟩
    exact q dx hd ne
  · match us, hl with
    | [_, _, _], _ => rfl
set_option maxHeartbeats 0 in
theorem bf_make {C f cda cc : Addr} (hm : mg "BadFence" = some (.ref C)) (XC : XCls K C ["number"]) (F : FoundS K C C "__init__" "BadFence.__init__" st_BadFence___init__ f cda cc) (tI : PySem.W.typeIn K (.ref f) = some (.type "function")) (hc : CodeAt P K cda)
    (top : (P.main.scope.names.lookup ("super" : Str)).isSome = false) (z_super : mg "super" = none) (any : PySem.W.nsIn K cStatics "thirdparty.any" = some none) : MakesX P w K mg base "BadFence" C 1 (spX1 C "number") := by
  obtain ⟨oc, od, kV, doc, pm, an, ct, osl, cl, cld, csl, cdD, a, l, hcd, i, l2, d⟩ := F
  refine ⟨XC.T, hm, f, _, ["self", "number"], a, tI, fnS_exc (k := 0) (sp := spX1 C "number") l hcd (hbd := by rfl) bf_scope ⟨hc, top, z_super, by decide +kernel, by decide +kernel, any⟩ (by rfl) (by rfl) (by rfl) l2 d (fun vs H Q E h => ?_) (fun _ => rfl) (fun _ => rfl) (fun _ => ⟨_, rfl⟩) (fun _ => rfl) (fun A outer s H vs Q E hr h => ?_), .all fun us hl => ?_⟩
  · obtain ⟨x, n, rfl, _⟩ := h
    rfl
  · obtain ⟨x, n, rfl, hx, h0, h1, q⟩ := h
    refine ⟨_, _, pa_cons (pe_joined (.cons pe_str (.cons (pe_fmt (pv 1)) (.cons pe_str .nil)))) pa_nil, pss_one (ps_ost (pv 0) (pv 1)), x, C, rfl, hx, XC.T, XC.S, ?_⟩
    have d3 := dig_short h0 h1
    refine ⟨_, rfl, ?_, _, rfl, .inr ⟨n, rfl, ex_len h0 h1, _, rfl, ?_, _, rfl, ?_, ?_⟩⟩
    · decide +kernel
    · rw [app_len]
      exact Nat.le_trans (Nat.add_le_add (Nat.le_refl _) d3) (by decide +kernel)
    · rw [app_len, app_len]
      exact Nat.le_trans (Nat.add_le_add (Nat.add_le_add (Nat.le_refl _) d3) (Nat.le_refl _)) (by decide +kernel)
    refine ⟨by show 1 ≤ 1000; decide, hx, ?_⟩
    refine ⟨_, rfl, _, rfl, x, C, rfl, XC.T, XC.no _ (by simp), .inl ⟨hx, fun dx hd ne => ?_⟩⟩
    exact q dx hd ne
  · match us, hl with
    | [_, _], _ => rfl
set_option maxHeartbeats 0 in
theorem bt_make {C f cda cc : Addr} (hm : mg "BadText" = some (.ref C)) (XC : XCls K C ["row"]) (F : FoundS K C C "__init__" "BadText.__init__" st_BadText___init__ f cda cc) (tI : PySem.W.typeIn K (.ref f) = some (.type "function")) (hc : CodeAt P K cda)
    (top : (P.main.scope.names.lookup ("super" : Str)).isSome = false) (z_super : mg "super" = none) (any : PySem.W.nsIn K cStatics "thirdparty.any" = some none) : MakesX P w K mg base "BadText" C 1 (spX1 C "row") := by
  obtain ⟨oc, od, kV, doc, pm, an, ct, osl, cl, cld, csl, cdD, a, l, hcd, i, l2, d⟩ := F
  refine ⟨XC.T, hm, f, _, ["self", "row"], a, tI, fnS_exc (k := 0) (sp := spX1 C "row") l hcd (hbd := by rfl) bt_scope ⟨hc, top, z_super, by decide +kernel, by decide +kernel, any⟩ (by rfl) (by rfl) (by rfl) l2 d (fun vs H Q E h => ?_) (fun _ => rfl) (fun _ => rfl) (fun _ => ⟨_, rfl⟩) (fun _ => rfl) (fun A outer s H vs Q E hr h => ?_), .all fun us hl => ?_⟩
  · obtain ⟨x, n, rfl, _⟩ := h
    rfl
  · obtain ⟨x, n, rfl, hx, h0, h1, q⟩ := h
    refine ⟨_, _, pa_cons (pe_joined (.cons pe_str (.cons (pe_fmt (pv 1)) (.cons pe_str .nil)))) pa_nil, pss_one (ps_ost (pv 0) (pv 1)), x, C, rfl, hx, XC.T, XC.S, ?_⟩
    have d3 := dig_short h0 h1
    refine ⟨_, rfl, ?_, _, rfl, .inr ⟨n, rfl, ex_len h0 h1, _, rfl, ?_, _, rfl, ?_, ?_⟩⟩
    · decide +kernel
    · rw [app_len]
      exact Nat.le_trans (Nat.add_le_add (Nat.le_refl _) d3) (by decide +kernel)
    · rw [app_len, app_len]
      exact Nat.le_trans (Nat.add_le_add (Nat.add_le_add (Nat.le_refl _) d3) (Nat.le_refl _)) (by decide +kernel)
    refine ⟨by show 1 ≤ 1000; decide, hx, ?_⟩
    refine ⟨_, rfl, _, rfl, x, C, rfl, XC.T, XC.no _ (by simp), .inl ⟨hx, fun dx hd ne => ?_⟩⟩
    exact q dx hd ne
  · match us, hl with
    | [_, _], _ => rfl
end
end Vt
namespace Vt
open PySem PySem.Spec PyProof.Rows L2 L2H
/-! ### isinstance of an exception that may have fields -/
/-- its dict, if it has one, stands -/
def DOk (d : Option Addr) (H : Hp) : Prop := ∀ dd, d = some dd → ∃ fs, H dd = some (.xd fs)
theorem DOk.same {d : Option Addr} {H H' : Hp} (h : DOk d H) (s : Same H H') : DOk d H' := fun dd e => by
  obtain ⟨fs, q⟩ := h dd e
  exact ⟨fs, s _ _ q⟩
def rIsX (K : PySem.W.Frag) (D a : Addr) (d : Option Addr) : List V → Hp → VK → Prop := fun xs H Q => ∃ (c : V) (cv : Value) (b : Bool), xs = [.ref a, c] ∧ (∀ u, RelV c u → u = cv) ∧ PySem.W.kitOne K (.ref D) cv = some b ∧ DOk d H ∧ Q (.bl b) H
theorem call_isX {X : Cx} {a D : Addr} {oe : Obj} {pn : List (Addr × Obj)} {d : Option Addr} (C : ExcC X.K D) (hz : Zc (.ref D) d oe) (hf : ∃ vs, oe.data = .fields vs) : CallR (X.suite a ((a, oe) :: pn)) (.builtin "isinstance") (rIsX X.K D a d) := by
  intro pins s σ H xs us Q I r h
  obtain ⟨c, cv, b, rfl, hcv, e, dok, q⟩ := h
  cases r with
  | cons rx rr =>
    cases rr with
    | cons rt rr =>
      cases rr
      cases rx
      have ec := hcv _ rt
      subst ec
      obtain ⟨hget, _⟩ := I.pin (a, oe) (List.mem_append.mpr (.inl List.mem_cons_self))
      obtain ⟨vs, hv⟩ := hf
      obtain ⟨cd, hc, _⟩ := PySem.W.any_some C.hd
      have hcl : (PySem.W.clsIn X.K D).isSome = true := by rw [hc]; rfl
      obtain ⟨od, J⟩ : ∃ od, PySem.W.InstAt s.heap a oe D od := by
        obtain ⟨oc, oda, odt, osl⟩ := oe
        obtain ⟨h1, h2⟩ := hz
        dsimp only at h1 h2 hv
        subst h1 h2 hv
        cases oda with
        | none => exact ⟨none, hget, rfl, rfl, trivial⟩
        | some dd =>
          obtain ⟨fs, hdd⟩ := dok dd rfl
          have hx : ObjOk X.prog X.w H s.heap dd (.xd fs) := I.hok dd _ hdd
          obtain ⟨mA, hns, hr⟩ := hx
          obtain ⟨od, ho, _⟩ := lookIn_ns hns
          exact ⟨some od, hget, rfl, rfl, ho⟩
      exact PySem.W.kia_one (PySem.W.kitx_exc hcl C.hg C.hk C.hs C.ha C.hn C.ht C.hm) I.kIn J e (fun z => nomatch z) fun tk => ⟨.bl b, H, I.kept (t' := tk) fun _ _ z => z, rfl, q⟩
theorem call_isXP {Y : Cx} {a D : Addr} {oe : Obj} {d : Option Addr} (hA : Y.A.mark (some (.ref a)) = Y.A) (hpn : Y.pn = [(a, oe)]) (C : ExcC Y.K D) (hz : Zc (.ref D) d oe) (hf : ∃ vs, oe.data = .fields vs) : CallR Y (.builtin "isinstance") (rIsX Y.K D a d) := by
  refine callr_suite hA ?_
  rw [hpn]
  exact call_isX C hz hf
end Vt
namespace Vt
open PySem PySem.Spec PyProof.Rows L2 L2H
/-! ### the asker's _law_class -/
/-- the five classes at their places -/
structure Clss (mg : Str → Option Value) (C : Nat → Addr) : Prop where
  g0 : mg "BadBoard" = some (.ref (C 0))
  g1 : mg "BadFence" = some (.ref (C 1))
  g2 : mg "NotSure" = some (.ref (C 2))
  g3 : mg "BadCount" = some (.ref (C 3))
  g4 : mg "BadText" = some (.ref (C 4))
/-- a class that isinstance knows: the j-th one -/
structure IsCls (K : PySem.W.Frag) (C : Nat → Addr) (j : Nat) : Prop where
  exc : ExcC K (C j)
  is0 : PySem.W.kitOne K (.ref (C j)) (.ref (C 0)) = some (decide (j = 0))
  is1 : PySem.W.kitOne K (.ref (C j)) (.ref (C 1)) = some (decide (j = 1))
  is2 : PySem.W.kitOne K (.ref (C j)) (.ref (C 2)) = some (decide (j = 2))
  is3 : PySem.W.kitOne K (.ref (C j)) (.ref (C 3)) = some (decide (j = 3))
  is4 : PySem.W.kitOne K (.ref (C j)) (.ref (C 4)) = some (decide (j = 4))
  isV : PySem.W.kitOne K (.ref (C j)) (.type "ValueError") = some true
def clsWords : List Str := ["BadBoard", "BadFence", "NotSure", "BadCount", "BadText"]
def clsBools (j : Nat) : List V := [.bl (decide (j = 0)), .bl (decide (j = 1)), .bl (decide (j = 2)), .bl (decide (j = 3)), .bl (decide (j = 4))]
section
variable {P : Program} {w : World} {K : PySem.W.Frag} {mg : Str → Option Value} {base : Heap}
abbrev st_law_class : Stmt := (topS 52)
abbrev nm_law_class : List Str := ["_law_e", "_law_kinds_here", "_law_words"]
theorem sc_law_class : FnScope ["_law_e", "_law_kinds_here", "_law_words"] ["_law_e"] (defScope st_law_class) := ⟨rfl, rfl, rfl, by decide +kernel, rfl, by decide +kernel, by decide +kernel⟩
/-- the handled exception is of the j-th class -/
def spClassD (K : PySem.W.Frag) (C : Nat → Addr) (cls : Value) (d : Option Addr) (a : Addr) : Sp := fun vs H Q _ => ∃ (j : Nat) (z : Str), IsCls K C j ∧ clsWords[j]? = some z ∧ cls = .ref (C j) ∧ DOk d H ∧ vs = [.ref a] ∧ ∀ (H' : Hp), Same H H' → Q (.str z) H'
theorem bools_one : ∀ j : Nat, j < 5 → (clsBools j).all flatV = true ∧ (clsBools j).countP (fun z => eqV z (.bl true)) = 1 ∧ (clsBools j)[j]? = some (.bl true) ∧ ∀ (m : Nat) (z' : V), m < j → (clsBools j)[m]? = some z' → eqV z' (.bl true) = false := by
  intro j hj
  refine ⟨rfl, ?_, ?_, fun m z' hm hz => ?_⟩
  · rcases (show j = 0 ∨ j = 1 ∨ j = 2 ∨ j = 3 ∨ j = 4 by omega) with rfl | rfl | rfl | rfl | rfl <;> decide +kernel
  · rcases (show j = 0 ∨ j = 1 ∨ j = 2 ∨ j = 3 ∨ j = 4 by omega) with rfl | rfl | rfl | rfl | rfl <;> rfl
  · have : ∃ i, z' = .bl (decide (j = i)) ∧ i = m := by
      rcases (show m = 0 ∨ m = 1 ∨ m = 2 ∨ m = 3 by omega) with rfl | rfl | rfl | rfl <;> exact ⟨_, (Option.some.inj hz).symm, rfl⟩
    obtain ⟨i, rfl, rfl⟩ := this
    rw [decide_eq_false (by omega)]
    rfl
set_option maxHeartbeats 0 in
theorem ok_classD {f : Addr} {C : Nat → Addr} (G : Clss mg C) {oc : Value} {od : Option Addr} {kV doc pm cdv ct : Value} {an : Option Addr} {osl : Array (Option Value)} (lk : K.lookup f = some ⟨oc, od, .func (PySem.W.fnOf "_law_class" "_law_class" (defArgs st_law_class) (defBody st_law_class) (defScope st_law_class) .none kV doc pm an cdv ct), osl⟩)
    (hcd : PySem.W.codeIn K cdv "_law_class" = true) (z_isinstance : mg "isinstance" = none) (z_VE : mg "ValueError" = none) (p : Addr × Obj) (cls : Value) (d : Option Addr) (hz : L2N.Zn cls d p.2) (hf : ∃ vs, p.2.data = .fields vs) :
    FnP P w K mg base 1 f (PySem.W.fnOf "_law_class" "_law_class" (defArgs st_law_class) (defBody st_law_class) (defScope st_law_class) .none kV doc pm an cdv ct) ["_law_e"] p (spClassD K C cls d p.1) := by
  refine fn_ofP lk hcd sc_law_class (fun vs H Q E h => ?_) (fun A outer s H vs Q E hot hr h => ?_)
  · obtain ⟨j, z, _, _, _, _, rfl, _⟩ := h
    rfl
  · obtain ⟨j, z, hc, hw, rfl, dok, rfl, q⟩ := h
    have hj : j < 5 := by
      have := (List.getElem?_eq_some_iff.mp hw).1
      exact this
    obtain ⟨b1, b2, b3, b4⟩ := bools_one j hj
    have hA := mark_hot (env := envOfC "_law_class" (defScope st_law_class) s.heap.objs.size f cdv) hot
    have cI : CallR (cxH CX0 P w K mg base ["_law_e", "_law_kinds_here", "_law_words"] "_law_class" (defScope st_law_class) f cdv A outer s H E p) (.builtin "isinstance") (rIsX K (C j) p.1 d) := call_isXP hA rfl hc.exc ⟨hz.1, hz.2.1⟩ hf
    refine ⟨_, (pss_cons (ps_set (i := 1) sc_law_class.nd rfl (Or.inl rfl) (pe_lst (pa_cons (pe_callB cI (by rfl) z_isinstance (by decide +kernel) (pa_cons (pv 0) (pa_cons (pe_glob (v := .ref _) rfl G.g0 rfl) pa_nil)))
        (pa_cons (pe_callB cI (by rfl) z_isinstance (by decide +kernel) (pa_cons (pv 0) (pa_cons (pe_glob (v := .ref _) rfl G.g1 rfl) pa_nil)))
        (pa_cons (pe_callB cI (by rfl) z_isinstance (by decide +kernel) (pa_cons (pv 0) (pa_cons (pe_glob (v := .ref _) rfl G.g2 rfl) pa_nil)))
        (pa_cons (pe_callB cI (by rfl) z_isinstance (by decide +kernel) (pa_cons (pv 0) (pa_cons (pe_glob (v := .ref _) rfl G.g3 rfl) pa_nil))) pa_nil))))))
      (pss_cons (ps_expr (pe_bm PySem.F.plainAttrs_list PySem.F.slot_list_append PySem.F.type_list_append mt_append (pv 1) (pa_cons (pe_callB cI (by rfl) z_isinstance (by decide +kernel) (pa_cons (pv 0) (pa_cons (pe_glob (v := .ref _) rfl G.g4 rfl) pa_nil))) pa_nil)))
      (pss_cons (ps_set (i := 2) sc_law_class.nd rfl (Or.inl rfl) (pe_lst (pa_cons pe_str (pa_cons pe_str (pa_cons pe_str (pa_cons pe_str (pa_cons pe_str pa_nil)))))))
      (pss_one (ps_ret (pe_ifExp (PW.pt (pw_and (pt_cmpR op_eq (pe_bm PySem.F.plainAttrs_list PySem.F.slot_list_count PySem.F.type_list_count mt_countF (pv 1) (pa_cons pe_bl pa_nil)) pe_int (nomark _)) (pw_and1 (pt_val (pe_callB cI (by rfl) z_isinstance (by decide +kernel) (pa_cons (pv 0) (pa_cons (pe_bltn (v := .ty "ValueError") rfl z_VE (by decide +kernel) rfl) pa_nil)))))))
        (pe_ix ix_lt (pv 2) (pe_bm PySem.F.plainAttrs_list PySem.F.slot_list_index PySem.F.type_list_index mt_index (pv 1) (pa_cons pe_bl pa_nil)) (fun _ _ => rfl)) pe_str)))))), ?_⟩
    refine ⟨_, rfl, _, .ref (C 0), _, rfl, (fun u h => h), hc.is0, dok, ?_⟩
    refine ⟨_, rfl, _, .ref (C 1), _, rfl, (fun u h => h), hc.is1, dok, ?_⟩
    refine ⟨_, rfl, _, .ref (C 2), _, rfl, (fun u h => h), hc.is2, dok, ?_⟩
    refine ⟨_, rfl, _, .ref (C 3), _, rfl, (fun u h => h), hc.is3, dok, ?_⟩
    refine ⟨by show 4 ≤ sizeLine; decide, fun L nL => ?_⟩
    refine ⟨_, rfl, .inl ⟨rfl, _, sqL_l upd_same⟩, ?_⟩
    refine ⟨_, rfl, _, .ref (C 4), _, rfl, (fun u h => h), hc.is4, dok.same (same_new nL), ?_⟩
    refine ⟨L, [.bl (decide (j = 0)), .bl (decide (j = 1)), .bl (decide (j = 2)), .bl (decide (j = 3))], _, rfl, rfl, upd_same, by show 4 < sizeLine; decide, ?_⟩
    refine ⟨by show 5 ≤ sizeLine; decide, fun M nM => ?_⟩
    have nLM : L ≠ M := fun z => by
      rw [← z, upd_same] at nM
      cases nM
    have hL : ∀ {H0 : Hp} {o : HO}, upd (upd H0 L (.lst (clsBools j))) M o L = some (.lst (clsBools j)) := fun {H0 o} => by rw [upd_ne nLM, upd_same]
    have sLM : ∀ {o : HO}, Same H (upd (upd (upd H L (.lst [.bl (decide (j = 0)), .bl (decide (j = 1)), .bl (decide (j = 2)), .bl (decide (j = 3))])) L (.lst (clsBools j))) M o) := fun {o} b u e => by
      have n1 : b ≠ L := ne_of_none e nL
      have n2 : b ≠ M := fun z => by
        rw [← z, upd_ne n1, upd_ne n1, e] at nM
        cases nM
      rw [upd_ne n2, upd_ne n1, upd_ne n1]
      exact e
    refine ⟨_, rfl, .inl ⟨rfl, _, sqL_l hL⟩, ?_⟩
    refine ⟨L, clsBools j, .bl true, rfl, rfl, sqL_l hL, rfl, b1, ?_⟩
    rw [b2]
    refine ⟨rfl, _, rfl, Eq.mpr (if_pos (decide_eq_true rfl)) ?_⟩
    refine ⟨_, rfl, _, .type "ValueError", _, rfl, (fun u h => h), hc.isV, DOk.same dok sLM, _, rfl, Eq.mpr (if_pos rfl) ?_⟩
    refine ⟨_, rfl, _, rfl, .inl ⟨rfl, _, sqL_l hL⟩, ?_⟩
    refine ⟨L, clsBools j, .bl true, j, .bl true, rfl, rfl, sqL_l hL, rfl, b1, b3, rfl, b4, ?_⟩
    refine ⟨M, clsWords.map V.str, (j : Nat), .str z, rfl, rfl, sqA_l upd_same, ?_, ?_⟩
    · exact atI_nat (by rw [List.getElem?_map, hw]; rfl)
    · exact q _ sLM
end
end Vt
namespace Vt
open PySem PySem.Spec PyProof.Rows L2 LamX
/-! ### lambdas that are kept: the object is tracked -/
/-- at f: this function -/
def lamO (f : Addr) (o : Obj) : HO := .ext fun h => h.get? f = some o
theorem lamO_ok {P : Program} {w : World} {H : Hp} {h : Heap} {f : Addr} {o : Obj} (e : h.get? f = some o) : ObjOk P w H h f (lamO f o) := ⟨e, ⟨_, e⟩, fun h1 h2 z k => k _ z⟩
theorem lamO_at {P : Program} {w : World} {H : Hp} {h : Heap} {f : Addr} {o : Obj} (hok : HOk P w H h) (e : H f = some (lamO f o)) : h.get? f = some o := by
  have x : ObjOk P w H h f (.ext fun h => h.get? f = some o) := hok f _ e
  exact x.1
theorem lamO_tbl {f : Addr} {o : Obj} (ps : Array Value) : lamO f o ≠ .tbl ps := fun z => by
  unfold lamO at z
  cases z
/-- a lambda at f, of these parameters and this body; df: it has a parameter, 0 if it is not given -/
def LamAt (q : Str) (params : Arguments) (body : Expr) (scope : Scope) (cl : List (Str × Addr)) (df : Bool) (H : Hp) (f : Addr) : Prop :=
  ∃ (c' : Addr) (pm ctv doc dV : Value), H f = some (lamO f (PySem.W.kdv_obj "<lambda>" q params (.expr body) scope cl dV doc pm c' ctv)) ∧ H c' = some (CodeO c' q) ∧ (df = true → ∃ T0, dV = .ref T0 ∧ H T0 = some (.tup [.int 0])) ∧ (df = false → dV = .none)
theorem LamAt.ext {q : Str} {params : Arguments} {body : Expr} {scope : Scope} {cl : List (Str × Addr)} {df : Bool} {H H' : Hp} {f : Addr} (h : LamAt q params body scope cl df H f) (e : ExtN H H') : LamAt q params body scope cl df H' f := by
  obtain ⟨c', pm, ctv, doc, dV, h1, h2, h3, h4⟩ := h
  refine ⟨c', pm, ctv, doc, dV, e _ _ h1 lamO_tbl, e _ _ h2 codeO_ne, fun z => ?_, h4⟩
  obtain ⟨T0, e0, e1⟩ := h3 z
  exact ⟨T0, e0, e _ _ e1 fun ps z => by cases z⟩
theorem ExtN.same {H H' : Hp} (s : Same H H') : ExtN H H' := fun b o h _ => s b o h
theorem Tabs.same {T : List (Addr × Str)} {H H' : Hp} (t : Tabs T H) (s : Same H H') : Tabs T H' := t.ext fun b o h => s b o h
theorem tupOk {P : Program} {w : World} {H : Hp} {h : Heap} {a : Addr} {u : Value} {v : V} (e : h.get? a = some { cls := .type "tuple", data := .seq [u].toArray }) (r : RelV v u) : ObjOk P w H h a (.tup [v]) :=
  ⟨by show 1 ≤ sizeLine; decide, [u], .cons r .nil, ⟨_, e, rfl, _, rfl⟩⟩
section
variable {X : Cx} {pins : List (Addr × Obj)} {σ : L2.St} {H : Hp} {s : Shared}
theorem lam_tail {T : List (Addr × Str)} {c P : Addr} {params : Arguments} {body : Expr} {scope : Scope} {pos : Pos} {fl : Nat} {dV : Value} {E : Value → Shared → Prop} {Q : Value → Shared → Prop} (I : Inv X pins σ H s) (TB : TabB X.base X.mg c P) (hcode : X.env.code = .ref c)
    (hm : (P, X.env.qual ++ "<lambda>") ∈ T) (hu : ∀ p ∈ T, p.1 = P → p.2 = X.env.qual ++ "<lambda>") (hT : Tabs T H) (hfree : ∀ y ∈ scope.names, y.2 = .free → ∃ c, X.env.cells.lookup y.1 = some c)
    (h : ∀ (f c' : Addr) (pm ctv doc : Value) (H1 : Hp) (s' : Shared), Inv X pins σ H1 s' → ExtN H H1 → Tabs T H1 →
      H1 f = some (lamO f (PySem.W.kdv_obj "<lambda>" (X.env.qual ++ "<lambda>") params (.expr body) scope (cloFrom X.env.cells scope.names []) dV doc pm c' ctv)) → H1 c' = some (CodeO c' (X.env.qual ++ "<lambda>")) → Q (.ref f) s') :
    wpAny (model X.prog X.w) X.A (makeTail "<lambda>" (X.env.qual ++ "<lambda>") params (.expr body) scope X.env dV .none none pos fl) Q E s := by
  obtain ⟨ps, hP, ht, ha⟩ := hT _ hm
  have bP : s.heap.BuiltinsAt X.mg P := TB.bm.keeps I.bk
  have hP' : s.heap.get? P = some { cls := .none, data := .fields ps } := I.hok P _ hP
  cases hc : codeAmong pos ps.toList with
  | none =>
    refine PySem.W.kdv_makeTail (mg := X.mg) (c := c) (P := P) (ps := ps) (closure_ok hfree) I.ok.glob (I.mod.glob.keeps I.bk) hcode (TB.code.keeps I.bk) hP' ht hc TB.gP bP fun c' ctv doc h' tk hx hge hlt hrec htb => ?_
    obtain ⟨c2, oc, vs, t, e2, hoc, hd, hv⟩ := hrec
    cases e2
    have hsz : s.heap.objs.size ≤ h'.objs.size := Nat.le_trans hge (Nat.le_of_lt hlt)
    have nC : H c' = none := I.hok.fresh hge
    have I1 := inv_table (t' := tk) (more := #[rawInt pos.line, rawInt pos.col, .ref c']) (h' := h') I hP (fun b o hb e => hx b o hb e) htb hge ⟨oc, vs, t, hoc, hd, hv⟩
    have I2 := I1.laid (t' := tk) (a := h'.objs.size) (o := lamO h'.objs.size (PySem.W.kdv_obj "<lambda>" (X.env.qual ++ "<lambda>") params (.expr body) scope (cloFrom X.env.cells scope.names []) dV doc ((X.mg "__name__").getD .none) c' ctv))
      (h' := h'.push (PySem.W.kdv_obj "<lambda>" (X.env.qual ++ "<lambda>") params (.expr body) scope (cloFrom X.env.cells scope.names []) dV doc ((X.mg "__name__").getD .none) c' ctv)) (fun b u e => Heap.get?_push_of_some _ e) (Nat.le_refl _) (lamO_ok (Heap.get?_push_size h' rfl))
    have hE : ExtN H (upd (upd H P (.tbl (ps ++ #[rawInt pos.line, rawInt pos.col, .ref c']))) c' (CodeO c' (X.env.qual ++ "<lambda>"))) := fun b o e n => by
      rw [upd_ne (ne_of_none e nC), upd_ne (fun z => n ps (Option.some.inj (e.symm.trans (by rw [z]; exact hP))))]
      exact e
    have nF : (upd (upd H P (.tbl (ps ++ #[rawInt pos.line, rawInt pos.col, .ref c']))) c' (CodeO c' (X.env.qual ++ "<lambda>"))) h'.objs.size = none := I1.hok.fresh (Nat.le_refl _)
    have s2 := same_new (o := lamO h'.objs.size (PySem.W.kdv_obj "<lambda>" (X.env.qual ++ "<lambda>") params (.expr body) scope (cloFrom X.env.cells scope.names []) dV doc ((X.mg "__name__").getD .none) c' ctv)) nF
    have eL : (ps ++ #[rawInt pos.line, rawInt pos.col, .ref c']).toList = ps.toList ++ [rawInt pos.line, rawInt pos.col, .ref c'] := by simp
    refine h h'.objs.size c' ((X.mg "__name__").getD .none) ctv doc _ _ I2 (hE.trans (ExtN.same s2)) (Tabs.same (fun p hp => ?_) s2) upd_same (s2 _ _ upd_same)
    by_cases hb : p.1 = P
    · rw [hu p hp hb, hb]
      refine ⟨_, by rw [upd_ne (ne_of_none hP nC), upd_same], by rw [eL]; exact PySem.TriplesOk_snoc _ _ _ _ ht, fun p' cv hcv => ?_⟩
      rw [eL] at hcv
      rcases among_app _ ht hcv with z | z
      · obtain ⟨c0, e1, e2⟩ := ha p' cv z
        exact ⟨c0, e1, hE _ _ e2 codeO_ne⟩
      · exact ⟨c', z, upd_same⟩
    · obtain ⟨ps', a1, a2, a3⟩ := hT p hp
      refine ⟨ps', by rw [upd_ne (ne_of_none a1 nC), upd_ne hb]; exact a1, a2, fun p' cv hcv => ?_⟩
      obtain ⟨c0, e1, e2⟩ := a3 p' cv hcv
      exact ⟨c0, e1, hE _ _ e2 codeO_ne⟩
  | some cv =>
    obtain ⟨c', e, hco⟩ := ha pos cv hc
    subst e
    refine PySem.W.kdv_makeTailHit (mg := X.mg) (c := c) (P := P) (ps := ps) (closure_ok hfree) I.ok.glob (I.mod.glob.keeps I.bk) hcode (TB.code.keeps I.bk) hP' ht hc bP fun ctv doc h' tk hx hsz => ?_
    have I1 : Inv X pins σ H { s with heap := h', toks := tk } := I.kept hx
    have I2 := I1.laid (t' := tk) (a := h'.objs.size) (o := lamO h'.objs.size (PySem.W.kdv_obj "<lambda>" (X.env.qual ++ "<lambda>") params (.expr body) scope (cloFrom X.env.cells scope.names []) dV doc ((X.mg "__name__").getD .none) c' ctv))
      (h' := h'.push (PySem.W.kdv_obj "<lambda>" (X.env.qual ++ "<lambda>") params (.expr body) scope (cloFrom X.env.cells scope.names []) dV doc ((X.mg "__name__").getD .none) c' ctv)) (fun b u e => Heap.get?_push_of_some _ e) (Nat.le_refl _) (lamO_ok (Heap.get?_push_size h' rfl))
    have nF : H h'.objs.size = none := I1.hok.fresh (Nat.le_refl _)
    have s2 := same_new (o := lamO h'.objs.size (PySem.W.kdv_obj "<lambda>" (X.env.qual ++ "<lambda>") params (.expr body) scope (cloFrom X.env.cells scope.names []) dV doc ((X.mg "__name__").getD .none) c' ctv)) nF
    exact h h'.objs.size c' ((X.mg "__name__").getD .none) ctv doc _ _ I2 (ExtN.same s2) (Tabs.same hT s2) upd_same (s2 _ _ hco)
end
/-- what the making of a lambda here asks -/
structure TabX (X : Cx) (T : List (Addr × Str)) (c P : Addr) : Prop where
  tb : TabB X.base X.mg c P
  code : X.env.code = .ref c
  m : (P, X.env.qual ++ "<lambda>") ∈ T
  u : ∀ p ∈ T, p.1 = P → p.2 = X.env.qual ++ "<lambda>"
/-- a lambda's names: a parameter that nobody else bears, captured ones and globals -/
structure LamD (N : List Str) (sc scope : Scope) : Prop where
  kind : scope.kind = .function
  co : scope.isCoroutine = false
  gen : scope.isGenerator = false
  cell : ∀ y ∈ scope.names, y.2 ≠ .cell
  loc : ∀ y ∈ scope.names, y.2 = .local → y.1 ∉ N
  free : ∀ y ∈ scope.names, y.2 = .free → sc.names.lookup y.1 = some .cell ∨ sc.names.lookup y.1 = some .free
def lamDB (N : List Str) (sc scope : Scope) : Bool :=
  decide (scope.kind = .function) && !scope.isCoroutine && !scope.isGenerator && scope.names.all fun y => !decide (y.2 = .cell) && (!decide (y.2 = .local) || !decide (y.1 ∈ N)) && (!decide (y.2 = .free) || decide (sc.names.lookup y.1 = some .cell) || decide (sc.names.lookup y.1 = some .free))
theorem lamD_by {N : List Str} {sc scope : Scope} (h : lamDB N sc scope = true) : LamD N sc scope := by
  unfold lamDB at h
  simp only [Bool.and_eq_true, Bool.or_eq_true, Bool.not_eq_true', decide_eq_true_eq, decide_eq_false_iff_not, List.all_eq_true] at h
  obtain ⟨⟨⟨h1, h2⟩, h3⟩, h4⟩ := h
  refine ⟨h1, h2, h3, fun y hy => (h4 y hy).1.1, fun y hy e => ?_, fun y hy e => ?_⟩
  · rcases (h4 y hy).1.2 with z | z
    · exact absurd e z
    · exact z
  · rcases (h4 y hy).2 with (z | z) | z
    · exact absurd e z
    · exact .inl z
    · exact .inr z
theorem LamD.has {X : Cx} {N : List Str} {scope : Scope} (L : LamD N X.env.scope scope) (ok : X.Ok) : ∀ y ∈ scope.names, y.2 = .free → ∃ c, X.env.cells.lookup y.1 = some c := fun y hy e => by
  rcases L.free y hy e with k | k
  · exact ok.has _ (.inl k)
  · exact ok.has _ (.inr k)
/-- a lambda is made -/
def tLamX (T : List (Addr × Str)) (q : Str) (params : Arguments) (body : Expr) (scope : Scope) (cl : List (Str × Addr)) (df : Bool) : TE := fun σ H Q => Tabs T H ∧ ∀ (f : Addr) (H1 : Hp), ExtN H H1 → Tabs T H1 → LamAt q params body scope cl df H1 f → Q (.ref f) H1
section
variable {X : Cx} {T : List (Addr × Str)} {c P : Addr} {params : Arguments} {body : Expr} {scope : Scope} {pos : Pos}
theorem pe_lam0 (G : TabX X T c P) (L : LamD X.N X.env.scope scope) (hdef : defaultsOf params X.env = ([], [])) : PE X (.Lambda params body scope pos) (tLamX T (X.env.qual ++ "<lambda>") params body scope (cloFrom X.env.cells scope.names []) false) := by
  refine ⟨fun pins s σ H Q I h => ?_⟩
  obtain ⟨hT, h⟩ := h
  refine PySem.W.kla_eval hdef ?_
  rw [makeFunction_eq]
  simp only [List.zip_nil_right, List.filterMap_nil, List.isEmpty_nil, if_true, pure_bind]
  exact lam_tail I G.tb G.code G.m G.u hT (L.has I.ok) fun f c' pm ctv doc H1 s' I1 e1 t1 hf hc => ⟨.ref f, H1, I1, rfl, h f H1 e1 t1 ⟨c', pm, ctv, doc, _, hf, hc, fun z => (by cases z), fun _ => rfl⟩⟩
theorem pe_lamD {j : Nat} {dp : Pos} (G : TabX X T c P) (L : LamD X.N X.env.scope scope) (hd : params.defaults = [.Constant (.int 0) j dp]) (hk0 : params.kw_defaults = []) : PE X (.Lambda params body scope pos) (tLamX T (X.env.qual ++ "<lambda>") params body scope (cloFrom X.env.cells scope.names []) true) := by
  refine ⟨fun pins s σ H Q I h => ?_⟩
  obtain ⟨hT, h⟩ := h
  refine PySem.W.kdv_lam (by rw [hd]; rfl) hk0 ?_
  rw [hd]
  refine PySem.W.kdv_all1 (thn ((pe_int (i := 0) (j := j) (pos := dp)).run pins s σ H (fun v H1 => v = .int 0 ∧ H1 = H) I ⟨rfl, rfl⟩) fun u s1 ⟨v, H1, I1, r1, ev, eH⟩ => PySem.W.kdv_all0 ?_)
  subst ev eH
  rw [makeFunction_eq]
  simp only [List.zip_nil_right, List.filterMap_nil, List.isEmpty_nil, List.isEmpty_cons, Bool.false_eq_true, if_false, if_true, pure_bind]
  refine wpAny_bind (wpAny_newTextTuple ?_)
  have nT0 : H1 s1.heap.objs.size = none := I1.hok.fresh (Nat.le_refl _)
  have I2 := I1.laid (t' := s1.toks) (a := s1.heap.objs.size) (o := .tup [.int 0]) (h' := s1.heap.push { cls := .type "tuple", data := .seq [u].toArray }) (fun b z e => Heap.get?_push_of_some _ e) (Nat.le_refl _) (tupOk (Heap.get?_push_size s1.heap rfl) r1)
  have s2 := same_new (o := .tup [.int 0]) nT0
  refine lam_tail I2 G.tb G.code G.m G.u (Tabs.same hT s2) (L.has I.ok) fun f c' pm ctv doc H2 s' I3 e1 t1 hf hc => ⟨.ref f, H2, I3, rfl, h f H2 ((ExtN.same s2).trans e1) t1 ⟨c', pm, ctv, doc, _, hf, hc, fun _ => ⟨_, rfl, e1 _ _ upd_same fun ps z => by cases z⟩, fun z => by cases z⟩⟩
end
end Vt
namespace Vt
open PySem PySem.Spec PyProof.Rows L2 LamX
/-! ### a lambda called -/
/-- the context of the lambda's body, entered at s from the frames outer; its exceptions are those of L2N -/
def lamCxN (X : Cx) (A : Around) (outer : List Env) (s : Shared) (H : Hp) (E : XK) (scope : Scope) (f c' : Addr) : Cx where
  prog := X.prog
  w := X.w
  K := X.K
  mg := X.mg
  base := X.base
  A := A.deeper (lamEnv X scope s.heap.objs.size f c')
  N := X.N
  s_0 := s
  H_0 := H
  env := lamEnv X scope s.heap.objs.size f c'
  outer := outer
  stack := lamEnv X scope s.heap.objs.size f c' :: outer
  ex := []
  fn := fun _ => false
  calm := true
  pn := []
  xe := fun e s' => wpAny (model X.prog X.w) (A.deeper (lamEnv X scope s.heap.objs.size f c')) (leaving (lamEnv X scope s.heap.objs.size f c') e) (fun _ s'' => L2N.CX X.prog X.w outer H s E e s'') (fun e' s'' => L2N.CX X.prog X.w outer H s E e' s'') s'
section
variable {X : Cx} {pins : List (Addr × Obj)} {σ : L2.St} {H HZ : Hp} {s s1 : Shared}
theorem lam_startN {A : Around} {outer : List Env} {E : XK} {scope : Scope} {f c' : Addr} {h₁ : Heap} {tk : Nat} {mB : Str → Option Value} (I : Inv X pins σ H s) (L : LamD X.N X.env.scope scope) (e0 : Env0 X.prog X.w X.K X.mg X.base A outer s1 HZ) (hd : A.handled = none)
    (un : Un (frs X.stack) [] H HZ s.heap s1.heap) (hns : h₁.Ns s1.heap.objs.size mB) (kp : ∀ b o, s1.heap.get? b = some o → h₁.get? b = some o) :
    Inv (lamCxN X A outer s1 HZ E scope f c') [] σ HZ { s1 with heap := h₁, toks := tk } := by
  have hfree := L.has I.ok
  have cm : ∀ {y c}, (cloFrom X.env.cells scope.names []).lookup y = some c → X.env.cells.lookup y = some c := fun {y c} e => by
    rcases cloFrom_mem (PySem.mem_of_lookup e) with hm | ⟨h1, h2⟩
    · cases hm
    · obtain ⟨c1, hc⟩ := hfree _ h1 rfl
      have hc : X.env.cells.lookup y = some c1 := hc
      have e2 : c = c1 := by
        rw [h2, hc] <;> rfl
      rw [e2]
      exact hc
  have look : ∀ {y}, scope.names.lookup y = some .free → ∃ c, (cloFrom X.env.cells scope.names []).lookup y = some c := fun {y} hl => by
    have hy : (y, NameKind.free) ∈ scope.names := PySem.mem_of_lookup hl
    exact mem_lookup (cloFrom_has (cells := X.env.cells) (acc := []) hy)
  have cellK : ∀ {c : Addr} {v : Option Value}, H c = none → s.heap.IsCell c v → h₁.IsCell c v := fun {c v} n ⟨o, ho, hd⟩ => by
    obtain ⟨sl, q⟩ := un.any ho n (by simp)
    exact ⟨_, kp _ _ q, hd⟩
  have noA : ∀ b : Addr, b ∉ (lamCxN X A outer s1 HZ E scope f c').ex := fun b z => absurd (show b ∈ ([] : List Addr) from z) (by simp)
  refine ⟨⟨e0.mod, L.kind, rfl, rfl, Nat.le_refl _, fun y z c e1 e2 => I.ok.inj y z c (cm e1) (cm e2), fun y hy => ?_, fun y c z _ => ?_, fun _ => hd, Around.frames_deeper e0.frames, .inr ⟨rfl, rfl⟩, fun b z => absurd z (noA b), e0.bs, e0.bsz, fun b _ _ => noA b,
      fun b z => absurd z (noA b), e0.funs, e0.frf⟩,
    rfl, e0.bare, Un.kept kp, ⟨_, hns, fun i y v e1 e2 e3 => ?_⟩, fun y c e => ?_, e0.hok.fresh (Nat.le_refl _), fun y c e => ?_, fun q hq => absurd (show q ∈ ([] : List (Addr × Obj)) ++ [] from hq) (by simp), e0.hok.kept kp, I.len⟩
  · have hy : scope.names.lookup y = some .cell ∨ scope.names.lookup y = some .free := hy
    rcases hy with hy | hy
    · exact absurd rfl (L.cell _ (PySem.mem_of_lookup hy))
    · exact look hy
  · have z : false = true := z
    cases z
  · have e3 : Vis scope y := e3
    have e1 : X.N[i]? = some y := e1
    rcases e3 with k | k | k
    · exact absurd (List.mem_of_getElem? e1) (L.loc _ (PySem.mem_of_lookup k) rfl)
    · exact absurd rfl (L.cell _ (PySem.mem_of_lookup k))
    · obtain ⟨m, hn, hl⟩ := I.loc
      have hvis : Vis X.env.scope y := (L.free _ (PySem.mem_of_lookup k) rfl).elim (fun k => .inr (.inl k)) (fun k => .inr (.inr k))
      obtain ⟨w', r, q⟩ := hl i y v e1 e2 hvis
      obtain ⟨c2, h2⟩ := look k
      refine ⟨w', r, .inr ⟨.inr k, c2, h2, ?_⟩⟩
      have c1 := cm h2
      rcases q with ⟨k', _⟩ | ⟨_, c3, e', z⟩
      · have k' : X.env.scope.names.lookup y = some .local := k'
        rcases L.free _ (PySem.mem_of_lookup k) rfl with k2 | k2 <;> rw [show X.env.scope.names.lookup y = _ from k2] at k' <;> cases k'
      · rw [c1] at e'
        cases e'
        exact cellK (I.freeC y _ c1) z
  · obtain ⟨w', z⟩ := I.cell y c (cm e)
    exact ⟨w', cellK (I.freeC y c (cm e)) z⟩
  · obtain ⟨v, o, ho, hd⟩ := I.cell y c (cm e)
    exact un.free c o ho (I.freeC y c (cm e)) (by simp)
/-- what a lambda's parameters say, called with nothing -/
def LamB (q : Str) (params : Arguments) (body : Expr) (scope : Scope) (cl : List (Str × Addr)) : Bool → Prop
  | false => ∀ (doc pm cv ctv : Value), bindArgs (PySem.W.kdv_fn "<lambda>" q params (.expr body) scope cl .none doc pm cv ctv) ⟨[], []⟩ = pure []
  | true => ∃ p : Str, scope.names.lookup p = some .local ∧ ∀ (dV doc pm cv ctv : Value), ∃ k : Option (Array Value) → Sem (List (Str × Value)), bindArgs (PySem.W.kdv_fn "<lambda>" q params (.expr body) scope cl dV doc pm cv ctv) ⟨[], []⟩ = seqItems? dV >>= k ∧ ∀ v, k (some #[v]) = pure [(p, v)]
theorem LamB.binds {P : Program} {w : World} {q : Str} {params : Arguments} {body : Expr} {scope : Scope} {cl : List (Str × Addr)} {df : Bool} {H : Hp} {s : Shared} {dV doc pm cv ctv : Value} (B : LamB q params body scope cl df) (hok : HOk P w H s.heap)
    (h3 : df = true → ∃ T0, dV = .ref T0 ∧ H T0 = some (.tup [.int 0])) (h4 : df = false → dV = .none) : ∃ binds : List (Str × Value), BindsTo s (PySem.W.kdv_fn "<lambda>" q params (.expr body) scope cl dV doc pm cv ctv) ⟨[], []⟩ binds ∧ ∀ y ∈ binds, scope.names.lookup y.1 = some .local := by
  cases df with
  | false =>
    have e := h4 rfl
    subst e
    exact ⟨[], .of_eq (B doc pm cv ctv), fun y hy => absurd hy (by simp)⟩
  | true =>
    obtain ⟨T0, e0, e1⟩ := h3 rfl
    subst e0
    obtain ⟨p, hp, hb⟩ := B
    obtain ⟨k, k1, k2⟩ := hb (.ref T0) doc pm cv ctv
    obtain ⟨_, its, hv, o, ho, _, n, hd⟩ := (show ObjOk P w H s.heap T0 (.tup [.int 0]) from hok T0 _ e1)
    cases hv with
    | @cons _ u _ _ r t =>
      cases t
      exact ⟨[(p, u)], BindsTo.of_defaults rfl ho hd k1 (k2 u), fun y hy => by rw [List.mem_singleton.mp hy]; exact hp⟩
end
section
variable {X : Cx} {pins : List (Addr × Obj)} {σ : L2.St} {H HZ : Hp} {s s1 : Shared}
/-- x(), in the def that got the lambda, within its try -/
theorem pe_actN {CXg : CXT} {Eg : XK} {Ng : List Str} {qg : Str} {sg : Scope} {g : Addr} {cdg : Value} {params : Arguments} {body : Expr} {scope : Scope} {df : Bool} {k i : Nat} {a : Str} {pn : List (Addr × Obj)} {xe : Value → Shared → Prop} {W : WX} {E : XK} {tb : TE} {p1 p2 : Pos}
    (I : Inv X pins σ H s) (L : LamD X.N X.env.scope scope) (B : LamB (X.env.qual ++ "<lambda>") params body scope (cloFrom X.env.cells scope.names []) df)
    (tk : L2N.Takes ((cxOf CXg X.prog X.w X.K X.mg X.base Ng qg sg g cdg X.A X.stack s H Eg).tr pn xe) W) (hr : Room (k + 1) (X.A.deeper (envOfC qg sg s.heap.objs.size g cdg)))
    (hbody : ∀ (A : Around) (outer : List Env) (s : Shared) (H : Hp) (f c' : Addr), Room k (A.deeper (lamEnv X scope s.heap.objs.size f c')) → PE (lamCxN X A outer s H E scope f c') body tb)
    (hN : Ng[i]? = some a) (hv : Vis sg a) (hd : (a == ("__debug__" : Str)) = false := by decide) (hcd : (a == ("__classdict__" : Str)) = false := by decide) :
    PE ((cxOf CXg X.prog X.w X.K X.mg X.base Ng qg sg g cdg X.A X.stack s H Eg).tr pn xe) (.Call (.Name a p1) [] [] p2)
      (fun σZ HZ Q => (∀ cls d H', E cls d H' → W cls d σZ H') ∧ ∃ f, σZ[i]? = some (some (.ref f)) ∧ LamAt (X.env.qual ++ "<lambda>") params body scope (cloFrom X.env.cells scope.names []) df HZ f ∧ tb σ HZ Q) := by
  refine ⟨fun pinsZ sZ σZ HZ Q IZ h => ?_⟩
  obtain ⟨hW, f, hs, ⟨c', pm, ctv, doc, dV, hf, hc, h3, h4⟩, ht⟩ := h
  refine wpAny_Call_Name_kw (thn ((pe_var (pos := p1) (i := i) hN hv hd hcd).run pinsZ sZ σZ HZ (fun v H1 => v = .ref f ∧ H1 = HZ) IZ ⟨.ref f, hs, rfl, rfl⟩) fun u s1 ⟨v, H1, I1, r1, q1⟩ => ?_)
  obtain ⟨ev, eH⟩ := q1
  subst ev
  rw [eH] at I1
  obtain rfl : u = Value.ref f := r1
  have of1 := lamO_at I1.hok hf
  refine PySem.W.callWith_F0 ⟨_, _, _, _, of1⟩ ?_
  have un : Un (frs X.stack) [] H HZ s.heap s1.heap := I1.base
  obtain ⟨⟨oc, vs, t, hoc, hdc, hvc⟩, _, _⟩ := I1.hok c' _ hc
  obtain ⟨binds, hb, hloc⟩ := B.binds (s := s1) (doc := doc) (pm := pm) (cv := .ref c') (ctv := ctv) I1.hok h3 h4
  have rc : codeAny (model X.prog X.w) (X.A.deeper (envOfC qg sg s.heap.objs.size g cdg)) (.call (.ref f) ⟨[], []⟩) (CR (L2N.CX X.prog X.w) (envOfC qg sg s.heap.objs.size g cdg :: X.stack) X.prog X.w HZ s1 Q E) s1 := by
    refine PySem.W.kla_callFunE hr.depth of1 rfl L.co L.gen rfl ⟨c', oc, vs, t, rfl, hoc, hdc, hvc⟩ (hb _ _ _ _ ?_)
    refine wpAny_newFunctionEnv (fun y hy => L.cell y hy) hloc (fun h₁ hns hsb => ⟨I1.nolimit.fresh _ hsb, ?_⟩) L.kind
    show codeAny _ _ (.expr body (lamEnv X scope s1.heap.objs.size f c')) _ _
    have kp : ∀ b o, s1.heap.get? b = some o → h₁.get? b = some o := fun b o e => hsb.extBut b o (Nat.ne_of_lt (Heap.lt_size e)) (Heap.get?_push_of_some _ e)
    have J : Inv (lamCxN X (X.A.deeper (envOfC qg sg s.heap.objs.size g cdg)) (envOfC qg sg s.heap.objs.size g cdg :: X.stack) s1 HZ E scope f c') [] σ HZ { s1 with heap := h₁, toks := s1.toks + binds.length } :=
      lam_startN I L I1.env0 hr.hd un hns kp
    refine PySem.W.kla_codeExpr (wpAny_mono ((hbody _ _ s1 HZ f c' (hr.deeper _)).run [] _ _ HZ Q J ht) (fun v s' hq => ?_) fun e s' hq => hq)
    obtain ⟨w', H', J', rv, q⟩ := hq
    exact ⟨w', H', J'.os, J'.bare, J'.base, J'.hok, rv, q⟩
  refine wpAny_call (codeAny_mono rc fun r s' hq => ?_)
  cases r with
  | error e => exact tk e s' (L2N.XE.of_call I1 hW hq)
  | ok fl =>
    cases fl with
    | ret u => exact I1.after hq
    | next => exact False.elim hq
    | brk => exact False.elim hq
    | cont => exact False.elim hq
end
end Vt
namespace Vt
open PySem PySem.Spec PyProof.Rows L2 LamX
theorem op_inK {X : Cx} (K : PySem.W.Frag) (h : X.K = K := by rfl) : OpR X (compareOp .In) (rIn K false) := by
  subst h
  exact op_in_seq
theorem pe_or {X : Cx} {e : Expr} {t u : TE} (a : PE X e t) (b : PE X e u) : PE X e (fun σ H Q => t σ H Q ∨ u σ H Q) := ⟨fun pins s σ H Q I h => h.elim (a.run pins s σ H Q I) (b.run pins s σ H Q I)⟩
/-- a class whose field is read in an except suite -/
structure FldC (K : PySem.W.Frag) (C : Addr) (f : Str) : Prop where
  x : XfC K C
  no : PySem.W.findIn K (.ref C) f = some none
/-! ### what is told of a refusal: the class's word and the number -/
abbrev st_law_refused : Stmt := (topS 57)
abbrev nm_law_refused : List Str := ["_law_work", "_law_e", "_law_word"]
theorem sc_law_refused : FnScope ["_law_work", "_law_e", "_law_word"] ["_law_work"] (defScope st_law_refused) := ⟨rfl, rfl, rfl, by decide +kernel, rfl, by decide +kernel, by decide +kernel⟩
/-- the exception that the asker's _law_refused tells with its number -/
def ERef (K : PySem.W.Frag) (C : Nat → Addr) (CE : Addr) (Q : VK) : XK := fun cls d H' => ∃ (j : Nat) (z : Str) (dd : Addr) (fs : List (Str × V)) (n : Int), (j = 0 ∨ j = 1) ∧ IsCls K C j ∧ cls = .ref (C j) ∧ d = some dd ∧ PySem.W.exmOne K (.ref (C j)) (.ref CE) = some true ∧ H' dd = some (.xd fs) ∧
  List.lookup ("number" : Str) fs = some (V.int n) ∧ clsWords[j]? = some z ∧ ∀ (H2 : Hp) (r : Addr), Same H' H2 → H2 r = some (.tup [.str z, .int n]) → Q (.ref r) H2
/-- the defs' facts -/
structure RefF (P : Program) (w : World) (K : PySem.W.Frag) (mg : Str → Option Value) (base : Heap) (C : Nat → Addr) (CE : Addr) : Prop where
  f : ∃ g : Addr, Found K "_law_refused" st_law_refused g ∧ mg "_law_refused" = some (.ref g)
  cls : CalleeP P w K mg base "_law_class" 1 (spClassD K C)
  ce : mg "CarrierError" = some (.ref CE)
  x0 : FldC K (C 0) "number"
  x1 : FldC K (C 1) "number"
section
variable {X : Cx} {C : Nat → Addr} {CE : Addr} {params : Arguments} {body : Expr} {scope : Scope} {df : Bool} {k : Nat} {tb : XK → TE} {ta : TA} {e : Expr} {p pos : Pos}
set_option maxHeartbeats 0 in
theorem pe_refused (F : RefF X.prog X.w X.K X.mg X.base C CE) (L : LamD X.N X.env.scope scope) (B : LamB (X.env.qual ++ "<lambda>") params body scope (cloFrom X.env.cells scope.names []) df) (hr : Room (k + 3) X.A)
    (hbody : ∀ (A : Around) (outer : List Env) (s : Shared) (H : Hp) (E : XK) (f c' : Addr), Room k (A.deeper (lamEnv X scope s.heap.objs.size f c')) → PE (lamCxN X A outer s H E scope f c') body (tb E))
    (ha : L2.PA X [e] ta) (hg : Gl X "_law_refused" := by rfl) (hst : starEach [e] X.env = (false, eval e X.env) :: starEach [] X.env := by rfl) :
    PE X (.Call (.Name "_law_refused" p) [e] [] pos) (fun σ H Q => ta σ H fun vs H1 => ∃ f, vs = [V.ref f] ∧ LamAt (X.env.qual ++ "<lambda>") params body scope (cloFrom X.env.cells scope.names []) df H1 f ∧ tb (ERef X.K C CE Q) σ H1 (fun _ H2 => Q .non H2)) := by
  refine ⟨fun pins s σl H Q I h => ?_⟩
  obtain ⟨g, ⟨oc, od, kV, doc, pm, an, cdv, ct, osl, _, lk, hcg, hkp⟩, hm⟩ := F.f
  refine wpAny_Call_Name_kw (ld_glob I hg hm ?_ (by decide))
  refine PySem.W.callWith_K (h₀ := X.base) I.ok.mod.kin hkp (thn (ha.run pos pins s σl H _ I h) fun us s1 ⟨vs, H1, I1, r1, f, ev, hl, ht⟩ => ⟨I1.kIn, ?_⟩) hst (by rfl)
  subst ev
  have Fg := fun_mk (st := st_law_refused) lk hcg hkp
  have hbg := Fg.binds (ps := ["_law_work"]) (fun _ _ _ _ _ _ us hl => match us, hl with | [_], _ => rfl)
  have hlen : us.length = 1 := r1.length.symm
  have rc : codeAny (model X.prog X.w) X.A (.call (.ref g) ⟨us, []⟩) (CR CX0 X.stack X.prog X.w H1 s1 Q E0) s1 := by
    refine run_ofS (N := ["_law_work", "_law_e", "_law_word"]) (ps := ["_law_work"]) (us := us) (vs := [.ref f]) lk hcg sc_law_refused hr I1.env0 (by
      have := hbg s1 us I1.kIn (by rw [List.append_nil]; exact hlen)
      rw [List.append_nil] at this; exact this) r1 rfl fun hr' => ?_
    have hrH : L2H.RoomH 1 (X.A.deeper (envOfC "_law_refused" (defScope st_law_refused) s1.heap.objs.size g cdv)) := ⟨by have := hr'.dp; omega, by have := hr'.un; omega⟩
    refine ⟨_, (pss_cons (L2N.ps_try_as (i := 1) (tb := fun W D σ H => ∃ Ech : XK, (∀ cls d H', Ech cls d H' → W cls d σ H') ∧ ∃ f, σ[0]? = some (some (.ref f)) ∧ LamAt (X.env.qual ++ "<lambda>") params body scope (cloFrom X.env.cells scope.names []) df H f ∧ tb Ech σl H (fun _ H' => D.nx σ H')) rfl rfl sc_law_refused.nd rfl rfl ⟨rfl, by decide, .inl F.ce⟩ takesN0
      (fun W pn xe tk _ => ?_)
      (fun a oe cls d pn hz hf => (pss_cons (ps_set (i := 2) sc_law_refused.nd rfl (Or.inl rfl) (pe_calP (j := 1) F.cls ⟨hrH.dp, hrH.un⟩ (Nat.le_refl _) rfl List.mem_cons_self hz hf (pa_cons (pv 1) pa_nil)))
        (pss_one (ps_ret (pe_ifExp (pt_cmpR (op_inK X.K) (pv 2) (pe_tup (pa_cons pe_str (pa_cons pe_str pa_nil))) (by rfl)) (pe_tup (pa_cons (pv 2) (pa_cons (pe_or (pe_xf F.x0.x F.x0.no hz.zc hf (pv 1)) (pe_xf F.x1.x F.x1.no hz.zc hf (pv 1))) pa_nil))) (pe_tup (pa_cons (pv 2) (pa_cons pe_int pa_nil)))))))))
      (pss_one (ps_ret pe_non))), ?_⟩
    · refine ⟨fun pins s' σ H' D I' h' => ?_⟩
      obtain ⟨Ech, hW, f', h1, h2, h3⟩ := h'
      exact (pss_one (ps_expr (pe_actN (E := Ech) (i := 0) (a := "_law_work") I1 L B tk (hr'.mono (Nat.le_succ _)) (fun A outer s H f c' r => hbody A outer s H Ech f c' r) rfl (.inl rfl)))).run pins s' σ H' D I' ⟨hW, f', h1, h2, h3⟩
    · refine ⟨ERef X.K C CE Q, fun cls d H' hx => ?_, f, rfl, hl, ht⟩
      obtain ⟨j, z, dd, fs, n, hj, hc, rfl, rfl, xm, hdd, hn, hw, q⟩ := hx
      refine ⟨true, xm, fun _ a na => ?_, fun q => nomatch q⟩
      refine ⟨_, rfl, j, z, hc, hw, rfl, fun d' e => ?_, rfl, fun H2 s2 => ?_⟩
      · cases e
        exact ⟨fs, hdd⟩
      refine ⟨_, rfl, by show 2 ≤ sizeLine; decide, fun T nT => ?_⟩
      have sT := same_new (o := .tup [.str "BadFence", .str "BadBoard"]) nT
      have hT : (upd H2 T (.tup [.str "BadFence", .str "BadBoard"])) T = some (.tup [.str "BadFence", .str "BadBoard"]) := upd_same
      have sF := s2.trans sT
      have hdd2 := sF _ _ hdd
      rcases hj with rfl | rfl
      · have ez : z = "BadBoard" := (Option.some.inj hw).symm
        subst ez
        refine ⟨T, _, rfl, .inr (sqT_t hT), rfl, rfl, _, rfl, Eq.mpr (if_pos (by decide)) ?_⟩
        refine ⟨_, rfl, .inl ⟨_, rfl, rfl, rfl, dd, fs, _, rfl, hdd2, hn, ?_⟩⟩
        exact ⟨by show 2 ≤ sizeLine; decide, fun R nR => q _ _ (sF.trans (same_new nR)) upd_same⟩
      · have ez : z = "BadFence" := (Option.some.inj hw).symm
        subst ez
        refine ⟨T, _, rfl, .inr (sqT_t hT), rfl, rfl, _, rfl, Eq.mpr (if_pos (by decide)) ?_⟩
        refine ⟨_, rfl, .inr ⟨_, rfl, rfl, rfl, dd, fs, _, rfl, hdd2, hn, ?_⟩⟩
        exact ⟨by show 2 ≤ sizeLine; decide, fun R nR => q _ _ (sF.trans (same_new nR)) upd_same⟩
  refine wpAny_call (codeAny_mono rc fun r s' hq => ?_)
  cases r with
  | error e => exact (show False from hq).elim
  | ok fl =>
    cases fl with
    | ret u => exact I1.after hq
    | next => exact False.elim hq
    | brk => exact False.elim hq
    | cont => exact False.elim hq
end
end Vt
namespace Vt
open PySem PySem.Spec PyProof.Rows L2 LamX
def lamP : Expr → Arguments
  | .Lambda p _ _ _ => p
  | _ => ⟨[], [], none, [], [], none, []⟩
def lamE : Expr → Expr
  | .Lambda _ b _ _ => b
  | e => e
def lamS : Expr → Scope
  | .Lambda _ _ s _ => s
  | _ => default
def forEs : Stmt → List Expr
  | .For _ (.List es _) _ _ _ => es
  | _ => []
theorem PE.imp {X : Cx} {e : Expr} {t t' : TE} (h : PE X e t) (i : ∀ σ H Q, t' σ H Q → t σ H Q) : PE X e t' := ⟨fun pins s σ H Q I q => h.run pins s σ H Q I (i σ H Q q)⟩
section
variable {X : Cx} {C : Nat → Addr} {CE : Addr} {T : List (Addr × Str)} {c P : Addr} {params : Arguments} {body : Expr} {scope : Scope} {k j : Nat} {tb : XK → TE} {p pos lpos dp : Pos}
/-- _law_refused(lambda x=0: ..) -/
theorem pe_refusedL (F : RefF X.prog X.w X.K X.mg X.base C CE) (G : TabX X T c P) (L : LamD X.N X.env.scope scope) (hd : params.defaults = [.Constant (.int 0) j dp]) (hk0 : params.kw_defaults = []) (B : LamB (X.env.qual ++ "<lambda>") params body scope (cloFrom X.env.cells scope.names []) true) (hr : Room (k + 3) X.A)
    (hbody : ∀ (A : Around) (outer : List Env) (s : Shared) (H : Hp) (E : XK) (f c' : Addr), Room k (A.deeper (lamEnv X scope s.heap.objs.size f c')) → PE (lamCxN X A outer s H E scope f c') body (tb E)) (hg : Gl X "_law_refused" := by rfl) :
    PE X (.Call (.Name "_law_refused" p) [.Lambda params body scope lpos] [] pos) (fun σ H Q => Tabs T H ∧ ∀ H1, ExtN H H1 → Tabs T H1 → tb (ERef X.K C CE Q) σ H1 (fun _ H2 => Q .non H2)) :=
  PE.imp (pe_refused F L B hr hbody (pa_cons (pe_lamD G L hd hk0) pa_nil) hg (by rfl)) fun σ H Q ⟨t, h⟩ => ⟨t, fun f H1 e1 t1 l1 => ⟨f, rfl, l1, h H1 e1 t1⟩⟩
end
end Vt
namespace Vt
open PySem PySem.Spec PyProof.Rows L2
/-! ### what is refused with a board: the first that is wrong in it -/
def wrongB (R : RBrd) : Option (Str × Nat) :=
  match fwCell R.mem with
  | some i => some ("memory", i)
  | none => match fwOrd R.ords R.mem.length with
    | some i => some ("orders", i)
    | none => match fwDeed R.prog R.ords.length R.mem.length with
      | some i => some ("program", i)
      | none => none
theorem wrong_ok {B : Brd} (ok : BrdOk B) : wrongB B.raw = none := by
  have h1 : B.raw.mem.length = B.mem.length := by simp [Brd.raw]
  have h2 : B.raw.ords.length = B.ords.length := by simp [Brd.raw]
  simp only [wrongB, ok_mem ok, h1, ok_ords ok, h2, ok_prog ok]
/-- a board as handed in, that the reader of deeds can read -/
structure RawOk (K : PySem.W.Frag) (w : World) (dd : Addr) (R : RBrd) : Prop where
  nums : ∀ d ∈ R.prog, d.nums.length ≤ 1000
  miss : ∀ d ∈ R.prog, kindsOf d.word = none → KMiss K w dd d.word
  small : ∀ z n, wrongB R = some (z, n) → n < 1000
theorem raw_ok {K : PySem.W.Frag} {w : World} {dd : Addr} {B : Brd} (h : B.prog.length < 1000) (h2 : B.mem.length < 1000) (h3 : B.ords.length < 1000) : (∀ d ∈ B.raw.prog, d.nums.length ≤ 1000) ∧ (∀ d ∈ B.raw.prog, kindsOf d.word = none → KMiss K w dd d.word) := by
  refine ⟨fun d hd => ?_, fun d hd hk => ?_⟩
  · obtain ⟨d0, _, rfl⟩ := List.mem_map.mp hd
    have : d0.raw.nums.length = d0.args.length := by simp [Deed.raw]
    rw [this]
    cases d0 <;> simp [Deed.args]
  · obtain ⟨d0, _, rfl⟩ := List.mem_map.mp hd
    obtain ⟨ks, e, _⟩ := kinds_deed d0
    rw [show d0.raw.word = d0.word from rfl, e] at hk; cases hk
section
variable {P : Program} {w : World} {K : PySem.W.Frag} {mg : Str → Option Value} {base : Heap}
/-- a board is let through, or refused by the first that is wrong in it -/
def spReqX (K : PySem.W.Frag) (w : World) (dd BB : Addr) : Sp := fun vs H Q E => ∃ (v : V) (R : RBrd), vs = [v] ∧ Pd H v R.d ∧ RawOk K w dd R ∧ (wrongB R = none → ∀ H', Same H H' → Q .non H') ∧
  (∀ z n, wrongB R = some (z, n) → ∀ (H' : Hp) (d : Addr), Same H H' → H' d = some (.xd (fs2 z (n : Nat))) → E (.ref BB) (some d) H')
theorem ok_reqX {f dd BB : Addr} {fd : FuncData} (F : Fun K "require_board" "require_board" st_require_board f fd) (k_BadBoard : MakesX P w K mg base "BadBoard" BB 1 (spX2 BB)) (c_first_wrong_cell : Callee P w K mg base "first_wrong_cell" 1 1 spFwCell) (c_first_wrong_order : Callee P w K mg base "first_wrong_order" 2 2 spFwOrd)
    (c_first_wrong_deed : Callee P w K mg base "first_wrong_deed" 2 3 (spFwDeed K w dd)) (z_len : mg "len" = none) : FnOk P w K mg base (L2N.CX P w) 3 f fd ["board"] (spReqX K w dd BB) := by
  refine okN F sc_require_board (fun vs H Q E h => ?_) (fun cdv A outer s H vs Q E hr h => ?_)
  · obtain ⟨v, R, rfl, _⟩ := h
    rfl
  · obtain ⟨v, R, rfl, hB, rok, q0, q1⟩ := h
    obtain ⟨a, m, o, p, os, ps, rfl, ha, hm, ho, hos, hp, hps⟩ := RBrd.of hB
    refine ⟨_, (pss_cons (ps_asg (pv 0) (pg_tup rfl (pgs_cons (pg_name (i := 1) sc_require_board.nd rfl (Or.inl rfl)) (pgs_cons (pg_name (i := 2) sc_require_board.nd rfl (Or.inl rfl)) (pgs_cons (pg_name (i := 3) sc_require_board.nd rfl (Or.inl rfl)) pgs_nil)))))
  (pss_cons (ps_set (i := 4) sc_require_board.nd rfl (Or.inl rfl) (pe_cal c_first_wrong_cell hr (by first | decide | exact Nat.le_refl _) (pa_cons (pv 1) pa_nil)))
  (pss_cons (ps_if (pt_cmpR op_notN (pv 4) pe_non (nomark _)) (pss_one (L2N.ps_raise rfl (L2N.takes_of rfl rfl rfl rfl) (pmk_mk k_BadBoard hr (by first | decide | exact Nat.le_refl _) (pa_cons pe_str (pa_cons (pv 4) pa_nil))))) pss_nil)
  (pss_cons (ps_set (i := 4) sc_require_board.nd rfl (Or.inl rfl) (pe_cal c_first_wrong_order hr (by first | decide | exact Nat.le_refl _) (pa_cons (pv 2) (pa_cons (pe_callB call_len_seq (by rfl) z_len (by decide +kernel) (pa_cons (pv 1) pa_nil)) pa_nil))))
  (pss_cons (ps_if (pt_cmpR op_notN (pv 4) pe_non (nomark _)) (pss_one (L2N.ps_raise rfl (L2N.takes_of rfl rfl rfl rfl) (pmk_mk k_BadBoard hr (by first | decide | exact Nat.le_refl _) (pa_cons pe_str (pa_cons (pv 4) pa_nil))))) pss_nil)
  (pss_cons (ps_set (i := 4) sc_require_board.nd rfl (Or.inl rfl) (pe_cal c_first_wrong_deed hr (by first | decide | exact Nat.le_refl _) (pa_cons (pv 3) (pa_cons (pe_callB call_len_seq (by rfl) z_len (by decide +kernel) (pa_cons (pv 2) pa_nil)) (pa_cons (pe_callB call_len_seq (by rfl) z_len (by decide +kernel) (pa_cons (pv 1) pa_nil)) pa_nil)))))
  (pss_one (ps_if (pt_cmpR op_notN (pv 4) pe_non (nomark _)) (pss_one (L2N.ps_raise rfl (L2N.takes_of rfl rfl rfl rfl) (pmk_mk k_BadBoard hr (by first | decide | exact Nat.le_refl _) (pa_cons pe_str (pa_cons (pv 4) pa_nil))))) pss_nil)))))))), ?_⟩
    refine ⟨_, rfl, a, _, rfl, sqT_t ha, rfl, _, _, rfl, _, _, rfl, _, _, rfl, rfl, ?_⟩
    have ml : (R.mem.map V.int).length = R.mem.length := by rw [List.length_map]
    have ol : os.length = R.ords.length := by rw [hos.len, List.length_map]
    refine ⟨_, rfl, m, _, rfl, hm, fun H1 s1 => ?_⟩
    cases e1 : fwCell R.mem with
    | some i =>
      have ew : wrongB R = some (("memory" : Str), i) := by simp only [wrongB, e1]
      refine ⟨_, rfl, rfl, _, rfl, iteT ⟨_, rfl, ?_⟩⟩
      exact rd_x2 (word := "memory") (n := (i : Nat)) (by decide) (by omega) (by have := rok.small _ _ ew; omega) (fun d hd => q1 _ _ ew _ d (s1.trans (same_new hd)) upd_same)
    | none =>
    refine ⟨_, rfl, rfl, _, rfl, iteF ?_⟩
    refine ⟨_, rfl, _, rfl, m, _, rfl, .inr (sqT_t (s1 _ _ hm)), o, os, R.ords, _, rfl, s1 _ _ ho, hos.same s1, fun H2 s2 => ?_⟩
    rw [ml]
    cases e2 : fwOrd R.ords (R.mem.length : Nat) with
    | some i =>
      have ew : wrongB R = some (("orders" : Str), i) := by simp only [wrongB, e1, e2]
      refine ⟨_, rfl, rfl, _, rfl, iteT ⟨_, rfl, ?_⟩⟩
      exact rd_x2 (word := "orders") (n := (i : Nat)) (by decide) (by omega) (by have := rok.small _ _ ew; omega) (fun d hd => q1 _ _ ew _ d ((s1.trans s2).trans (same_new hd)) upd_same)
    | none =>
    refine ⟨_, rfl, rfl, _, rfl, iteF ?_⟩
    have s12 := s1.trans s2
    refine ⟨_, rfl, _, rfl, o, _, rfl, .inr (sqT_t (s12 _ _ ho)), _, rfl, m, _, rfl, .inr (sqT_t (s12 _ _ hm)), p, ps, R.prog, _, _, rfl, s12 _ _ hp, hps.same s12, rok.nums, rok.miss, fun H3 s3 => ?_⟩
    rw [ml, ol]
    cases e3 : fwDeed R.prog (R.ords.length : Nat) (R.mem.length : Nat) with
    | some i =>
      have ew : wrongB R = some (("program" : Str), i) := by simp only [wrongB, e1, e2, e3]
      refine ⟨_, rfl, rfl, _, rfl, iteT ⟨_, rfl, ?_⟩⟩
      exact rd_x2 (word := "program") (n := (i : Nat)) (by decide) (by omega) (by have := rok.small _ _ ew; omega) (fun d hd => q1 _ _ ew _ d ((s12.trans s3).trans (same_new hd)) upd_same)
    | none =>
    exact ⟨_, rfl, rfl, _, rfl, iteF (q0 (by simp only [wrongB, e1, e2, e3]) H3 (s12.trans s3))⟩
end
end Vt
namespace Vt
open PySem PySem.Spec PyProof.Rows L2
theorem iteT' {p q : Prop} {b : Bool} (e : b = true) (h : p) : if b = true then p else q := by rw [if_pos e]; exact h
theorem iteF' {p q : Prop} {b : Bool} (e : b = false) (h : q) : if b = true then p else q := by rw [if_neg (by rw [e]; decide)]; exact h
theorem inV2 {w a b : Str} : inV (.str w) [.str a, .str b] = decide (w = a ∨ w = b) := by
  unfold inV
  simp only [List.any_cons, List.any_nil, eqV, Bool.or_false]
  rw [Bool.eq_iff_iff, Bool.or_eq_true, decide_eq_true_iff, beq_iff_eq, beq_iff_eq]
  constructor <;> (rintro (h | h) <;> simp [h])
theorem inV3 {w a b c : Str} : inV (.str w) [.str a, .str b, .str c] = decide (w = a ∨ w = b ∨ w = c) := by
  unfold inV
  simp only [List.any_cons, List.any_nil, eqV, Bool.or_false]
  rw [Bool.eq_iff_iff, Bool.or_eq_true, Bool.or_eq_true, decide_eq_true_iff, beq_iff_eq, beq_iff_eq, beq_iff_eq]
  constructor <;> (rintro (h | h | h) <;> simp [h])
end Vt
namespace Vt
open PySem PySem.Spec PyProof.Rows L2
/-! ### fences: a place and a deed -/
abbrev Fc := Nat × Deed
def fcD (x : Fc) : D := .tup [nD x.1, x.2.d]
theorem noL_fc (x : Fc) : (fcD x).noL = true := by
  simp only [fcD, nD, D.noL, noLs, noL_deed, Bool.and_self]
theorem Fc.of {H : Hp} {x : Fc} {v : V} (h : Pd H v (fcD x)) : ∃ a da, v = .ref a ∧ H a = some (.tup [nV x.1, .ref da]) ∧ H da = some (.tup x.2.vs) := by
  cases h with
  | tup h hs =>
    cases hs with
    | cons h1 hs => cases h1; cases hs with
      | cons h2 hs =>
        cases hs
        obtain ⟨da, rfl, hda⟩ := Deed.of h2
        exact ⟨_, da, rfl, h, hda⟩
theorem Fc.pd {H : Hp} {x : Fc} {a da : Addr} (h : H a = some (.tup [nV x.1, .ref da])) (h2 : H da = some (.tup x.2.vs)) : Pd H (.ref a) (fcD x) := .tup h (.cons (.int _) (.cons (Deed.pd h2) .nil))
/-- what may be put into a board -/
structure FcOk (B : Brd) (x : Fc) : Prop where
  place : x.1 ≤ B.prog.length
  word : x.2.word = ("wait" : Str) ∨ x.2.word = ("clean" : Str) ∨ x.2.word = ("drop" : Str)
  deed : DeedOk x.2 B.ords.length B.mem.length
/-- put in, up to a place -/
def putTo (prog : List Deed) (fs : List Fc) : Nat → List Deed
  | 0 => []
  | i + 1 => putTo prog fs i ++ ((fs.filter fun x => decide (x.1 = i)).map Prod.snd ++ prog[i]?.toList)
def putIn (B : Brd) (fs : List Fc) : Brd := ⟨B.mem, B.ords, putTo B.prog fs (B.prog.length + 1)⟩
/-- the fences around a start, of a board of so many lines -/
def ahead (n i : Nat) : List Fc := (List.range n).map fun l => (i, .clean l)
def behind (n i : Nat) : List Fc := (i, .wait) :: (List.range n).map fun l => (i, .drop l)
def around (n i : Nat) (d : Deed) : List Fc := if isStart d then ahead n i ++ behind n (i + 1) else []
def fullTo (n : Nat) (prog : List Deed) : Nat → List Fc
  | 0 => []
  | i + 1 => fullTo n prog i ++ (match prog[i]? with
    | some d => around n i d
    | none => [])
def full (B : Brd) : List Fc := fullTo (B.mem.length / 4) B.prog B.prog.length
theorem fullTo_succ {n i : Nat} {prog : List Deed} {d : Deed} (h : prog[i]? = some d) : fullTo n prog (i + 1) = fullTo n prog i ++ around n i d := by rw [fullTo, h]
theorem around_len {n i : Nat} {d : Deed} : (around n i d).length ≤ 2 * n + 1 := by
  unfold around ahead behind
  split
  · simp; omega
  · exact Nat.zero_le _
theorem fullTo_len {n : Nat} {prog : List Deed} : ∀ i, (fullTo n prog i).length ≤ (2 * n + 1) * ((prog.take i).filter isStart).length
  | 0 => Nat.zero_le _
  | i + 1 => by
    have ih := fullTo_len (n := n) (prog := prog) i
    cases h : prog[i]? with
    | none => rw [fullTo, h, List.append_nil, List.take_of_length_le (by have := List.getElem?_eq_none_iff.mp h; omega)]; rw [List.take_of_length_le (List.getElem?_eq_none_iff.mp h)] at ih; exact ih
    | some d =>
      rw [fullTo_succ h, List.take_add_one, h, List.length_append, List.filter_append, List.length_append, Nat.mul_add]
      have h2 : (around n i d).length ≤ (2 * n + 1) * (([d] : List Deed).filter isStart).length := by
        cases hd : isStart d with
        | true => rw [List.filter_cons_of_pos hd]; simpa using around_len
        | false => unfold around; rw [hd]; simp
      exact Nat.add_le_add ih h2
section
variable {n : Nat} {prog : List Deed}
/-- what stands at a place -/
def behD (n : Nat) (prog : List Deed) : Nat → List Deed
  | 0 => []
  | j + 1 => match prog[j]? with
    | some d => if isStart d then Deed.wait :: (List.range n).map Deed.drop else []
    | none => []
def aheD (n : Nat) (prog : List Deed) (j : Nat) : List Deed := match prog[j]? with
  | some d => if isStart d then (List.range n).map Deed.clean else []
  | none => []
theorem at_ahead {i j : Nat} : ((ahead n i).filter fun x => decide (x.1 = j)).map Prod.snd = if i = j then (List.range n).map Deed.clean else [] := by
  unfold ahead
  rw [List.filter_map, List.map_map]
  by_cases h : i = j
  · rw [if_pos h, List.filter_eq_self.mpr (fun a _ => by simp [h])]; rfl
  · rw [if_neg h, List.filter_eq_nil_iff.mpr (fun a _ => by simp [h])]; rfl
theorem at_behind {i j : Nat} : ((behind n i).filter fun x => decide (x.1 = j)).map Prod.snd = if i = j then Deed.wait :: (List.range n).map Deed.drop else [] := by
  unfold behind
  by_cases h : i = j
  · rw [if_pos h, List.filter_eq_self.mpr]
    · rw [List.map_cons, List.map_map]; rfl
    · intro a ha
      rcases List.mem_cons.mp ha with rfl | ha
      · exact decide_eq_true h
      · obtain ⟨l, _, rfl⟩ := List.mem_map.mp ha
        exact decide_eq_true h
  · rw [if_neg h, List.filter_eq_nil_iff.mpr]
    · rfl
    · intro a ha
      rcases List.mem_cons.mp ha with rfl | ha
      · simp [h]
      · obtain ⟨l, _, rfl⟩ := List.mem_map.mp ha
        simp [h]
theorem at_full : ∀ (N j : Nat), N ≤ prog.length → ((fullTo n prog N).filter fun x => decide (x.1 = j)).map Prod.snd = (if j ≤ N then behD n prog j else []) ++ (if j < N then aheD n prog j else [])
  | 0, j, _ => by
    cases j with
    | zero => simp [fullTo, behD]
    | succ j => simp [fullTo]
  | N + 1, j, h => by
    have ih := at_full N j (by omega)
    obtain ⟨d, hd⟩ : ∃ d, prog[N]? = some d := ⟨prog[N], by rw [List.getElem?_eq_getElem]⟩
    rw [fullTo_succ hd, List.filter_append, List.map_append, ih]
    have ea : ((around n N d).filter fun x => decide (x.1 = j)).map Prod.snd = (if N = j then aheD n prog N else []) ++ (if N + 1 = j then behD n prog (N + 1) else []) := by
      have e1 : aheD n prog N = if isStart d then (List.range n).map Deed.clean else [] := by unfold aheD; rw [hd]
      have e2 : behD n prog (N + 1) = if isStart d then Deed.wait :: (List.range n).map Deed.drop else [] := by rw [behD, hd]
      rw [e1, e2]
      unfold around
      cases hs : isStart d with
      | true =>
        simp only [if_true]
        rw [List.filter_append, List.map_append, at_ahead, at_behind]
      | false => simp
    rw [ea]
    by_cases h1 : j = N + 1
    · subst h1
      rw [if_neg (by omega), if_neg (by omega), if_neg (by omega), if_pos rfl, if_pos (Nat.le_refl _), if_neg (by omega)]; simp
    · by_cases h2 : j = N
      · subst h2
        rw [if_pos (Nat.le_refl _), if_neg (by omega), if_pos rfl, if_neg (by omega), if_pos (by omega), if_pos (by omega)]; simp
      · rw [if_neg (show ¬ N = j by omega), if_neg (show ¬ N + 1 = j by omega)]
        by_cases h3 : j < N
        · rw [if_pos (by omega), if_pos h3, if_pos (by omega), if_pos (by omega)]; simp
        · rw [if_neg (by omega), if_neg h3, if_neg (by omega), if_neg (by omega)]; simp
end
theorem full_len (B : Brd) : (full B).length ≤ (2 * (B.mem.length / 4) + 1) * (B.prog.filter isStart).length := by
  have := fullTo_len (n := B.mem.length / 4) (prog := B.prog) B.prog.length
  rw [List.take_length] at this
  exact this
theorem around_ok {B : Brd} {i : Nat} {d : Deed} (hi : i < B.prog.length) : ∀ x ∈ around (B.mem.length / 4) i d, FcOk B x := fun x hx => by
  unfold around at hx
  split at hx
  · rcases List.mem_append.mp hx with h | h
    · obtain ⟨l, hl, rfl⟩ := List.mem_map.mp h
      exact ⟨Nat.le_of_lt hi, .inr (.inl rfl), List.mem_range.mp hl⟩
    · rcases List.mem_cons.mp h with rfl | h
      · exact ⟨hi, .inl rfl, True.intro⟩
      · obtain ⟨l, hl, rfl⟩ := List.mem_map.mp h
        exact ⟨hi, .inr (.inr rfl), List.mem_range.mp hl⟩
  · cases hx
theorem fullTo_ok {B : Brd} : ∀ i, ∀ x ∈ fullTo (B.mem.length / 4) B.prog i, FcOk B x
  | 0 => fun x hx => by cases hx
  | i + 1 => fun x hx => by
    rw [fullTo] at hx
    rcases List.mem_append.mp hx with h | h
    · exact fullTo_ok i x h
    · split at h
      · rename_i d e
        exact around_ok (List.getElem?_eq_some_iff.mp e).1 x h
      · cases h
theorem full_ok {B : Brd} : ∀ x ∈ full B, FcOk B x := fullTo_ok _
end Vt
namespace Vt
open PySem PySem.Spec PyProof.Rows L2
/-! ### fences as they are handed in -/
abbrev RFc := Int × RDeed
def fcR (x : RFc) : D := .tup [.int x.1, x.2.d]
def Fc.raw (x : Fc) : RFc := ((x.1 : Int), x.2.raw)
theorem raw_fc (x : Fc) : fcR x.raw = fcD x := by
  show D.tup [.int (x.1 : Int), x.2.raw.d] = _
  rw [raw_deed]; rfl
theorem RFc.of {H : Hp} {x : RFc} {v : V} (h : Pd H v (fcR x)) : ∃ a da, v = .ref a ∧ H a = some (.tup [.int x.1, .ref da]) ∧ H da = some (.tup x.2.vs) := by
  cases h with
  | tup h hs =>
    cases hs with
    | cons h1 hs => cases h1; cases hs with
      | cons h2 hs =>
        cases hs
        obtain ⟨da, rfl, hda⟩ := RDeed.of h2
        exact ⟨_, da, rfl, h, hda⟩
def fenWords : List Str := ["wait", "clean", "drop"]
def fenceOk (n : Nat) (cnt cells : Int) (x : RFc) : Bool := decide (0 ≤ x.1) && (decide (x.1 ≤ n) && (decide (x.2.word = "wait" ∨ x.2.word = "clean" ∨ x.2.word = "drop") && deedCan cnt cells x.2))
def badFence (n : Nat) (cnt cells : Int) (i : Nat) (x : RFc) : Bool := decide (i = 30) || !fenceOk n cnt cells x
def firstBad (B : Brd) (fs : List RFc) : Option Nat := fst (badFence B.prog.length (B.ords.length : Nat) (B.mem.length : Nat)) 0 fs
theorem fence_ok {B : Brd} {x : Fc} (ok : FcOk B x) : fenceOk B.prog.length (B.ords.length : Nat) (B.mem.length : Nat) x.raw = true := by
  have hd := can_deed ok.deed
  have hp := ok.place
  unfold fenceOk
  rw [Bool.and_eq_true, Bool.and_eq_true, Bool.and_eq_true]
  refine ⟨decide_eq_true ?_, decide_eq_true ?_, decide_eq_true ok.word, hd⟩
  · show (0 : Int) ≤ ((x.1 : Nat) : Int); omega
  · show ((x.1 : Nat) : Int) ≤ _; omega
theorem bad_none {B : Brd} {fs : List Fc} (h30 : fs.length ≤ 30) (hok : ∀ x ∈ fs, FcOk B x) : firstBad B (fs.map Fc.raw) = none := by
  refine fst_none fun i x e => ?_
  rw [List.getElem?_map] at e
  obtain ⟨y, hy, rfl⟩ : ∃ y, fs[i]? = some y ∧ y.raw = x := by simpa using e
  have := (List.getElem?_eq_some_iff.mp hy).1
  rw [badFence, fence_ok (hok y (List.mem_of_getElem? hy)), decide_eq_false (by omega)]
  rfl
theorem kinds_fen {z : Str} (h : z = "wait" ∨ z = "clean" ∨ z = "drop") : kindsOf z ≠ none := by
  rcases h with rfl | rfl | rfl <;> decide
section
variable {P : Program} {w : World} {K : PySem.W.Frag} {mg : Str → Option Value} {base : Heap}
abbrev st_fence_can_be : Stmt := (topS 46)
abbrev nm_fence_can_be : List Str := ["told", "deed_count", "counts", "place", "fence"]
theorem sc_fence_can_be : FnScope ["told", "deed_count", "counts", "place", "fence"] ["told", "deed_count", "counts"] (defScope st_fence_can_be) := ⟨rfl, rfl, rfl, by decide +kernel, rfl, by decide +kernel, by decide +kernel⟩
def spFenceCanX : Sp := fun vs H Q _ => ∃ (a c da : Addr) (n : Nat) (cnt cells : Int) (x : RFc), vs = [.ref a, nV n, .ref c] ∧ H a = some (.tup [.int x.1, .ref da]) ∧ H da = some (.tup x.2.vs) ∧ x.2.nums.length ≤ 1000 ∧ H c = some (.dK (countsK cnt cells)) ∧
  ∀ H', Same H H' → Q (.bl (fenceOk n cnt cells x)) H'
theorem ok_fencecanX {f dd : Addr} {fd : FuncData} (F : Fun K "fence_can_be" "fence_can_be" st_fence_can_be f fd) (hF : ∃ a, mg "FENCES" = some (.ref a) ∧ KTup K a [.str "wait", .str "clean", .str "drop"]) (c_deed_can_be : Callee P w K mg base "deed_can_be" 1 2 (spDeedCan K w dd)) (z_len : mg "len" = none) :
    FnOk P w K mg base CX0 2 f fd ["told", "deed_count", "counts"] spFenceCanX := by
  obtain ⟨fa, mc_FENCES, hfa⟩ := hF
  refine F.ok sc_fence_can_be (fun vs H Q E h => ?_) (fun cdv A outer s H vs Q E hr h => ?_)
  · obtain ⟨a, c, da, n, cnt, cells, x, rfl, _⟩ := h
    rfl
  · obtain ⟨a, c, da, n, cnt, cells, ⟨pl, d⟩, rfl, ha, hda, hn, hc, q⟩ := h
    dsimp only at ha hda hn
    refine ⟨_, (pss_cons (ps_if (pt_cmpR op_ne (pe_callB call_len_seq (by rfl) z_len (by decide +kernel) (pa_cons (pv 0) pa_nil)) pe_int (nomark _)) (pss_one (ps_ret pe_bl)) pss_nil)
  (pss_cons (ps_asg (pv 0) (pg_tup rfl (pgs_cons (pg_name (i := 3) sc_fence_can_be.nd rfl (Or.inl rfl)) (pgs_cons (pg_name (i := 4) sc_fence_can_be.nd rfl (Or.inl rfl)) pgs_nil))))
  (pss_cons (ps_if (PW.pt (pw_or (pt_not (pt_chain op_le op_le pe_int (pv 3) (pv 1))) (pw_or1 (pt_cmpR op_eq (pe_callB call_len_seq (by rfl) z_len (by decide +kernel) (pa_cons (pv 4) pa_nil)) pe_int (nomark _))))) (pss_one (ps_ret pe_bl)) pss_nil)
  (pss_one (ps_ret (pe_and (pe_cmpR op_in_seq (pe_ix ix_lt (pv 4) pe_int (fun _ _ => rfl)) (pe_glob (v := .ref _) rfl mc_FENCES rfl) (by rfl)) (pe_one (pe_cal c_deed_can_be hr (by first | decide | exact Nat.le_refl _) (pa_cons (pv 4) (pa_cons (pv 2) pa_nil)))))))))), ?_⟩
    refine ⟨_, rfl, a, _, rfl, .inr (sqT_t ha), rfl, _, rfl, iteF ?_⟩
    refine ⟨_, rfl, a, _, rfl, sqT_t ha, rfl, _, _, rfl, _, _, rfl, rfl, ?_⟩
    have no : fenceOk n cnt cells (pl, d) = false → Q (.bl false) H := fun e => by
      have := q H (Same.refl _)
      rw [e] at this; exact this
    by_cases g0 : (0 : Int) ≤ pl
    · refine ⟨_, rfl, _, _, rfl, rfl, _, rfl, iteT' (decide_eq_true g0) ⟨_, rfl, _, _, rfl, rfl, _, rfl, ?_⟩⟩
      by_cases g1 : pl ≤ (n : Int)
      · refine iteF' (by rw [decide_eq_true g1]; rfl) ⟨_, rfl, da, _, rfl, .inr (sqT_t hda), rfl, _, rfl, iteF' ?_ ?_⟩
        · exact decide_eq_false (fun z => by injection z with z; simp [RDeed.vs] at z; omega)
        refine ⟨_, rfl, da, _, 0, .str d.word, rfl, rfl, sqA_t hda, at0, fa, _, rfl, .inr (hfa.sq _), rfl, rfl, _, rfl, ?_⟩
        by_cases hw : d.word = "wait" ∨ d.word = "clean" ∨ d.word = "drop"
        · refine iteT' (by rw [inV3]; exact decide_eq_true hw) ?_
          refine ⟨_, rfl, _, rfl, da, c, d, _, _, rfl, hda, hn, hc, fun hk => absurd hk (kinds_fen hw), fun H' s' => ?_⟩
          have := q H' s'
          rw [show fenceOk n cnt cells (pl, d) = deedCan cnt cells d by unfold fenceOk; rw [decide_eq_true g0, decide_eq_true g1, decide_eq_true hw]; simp] at this
          exact this
        · refine iteF' (by rw [inV3]; exact decide_eq_false hw) ?_
          exact no (by unfold fenceOk; rw [decide_eq_false hw]; simp)
      · refine iteT' (by rw [decide_eq_false g1]; rfl) ?_
        exact no (by unfold fenceOk; rw [decide_eq_false g1]; simp)
    · refine ⟨_, rfl, _, _, rfl, rfl, _, rfl, iteF' (decide_eq_false g0) ?_⟩
      exact ⟨_, rfl, iteT' rfl (no (by unfold fenceOk; rw [decide_eq_false g0]; simp))⟩
abbrev st_require_fences : Stmt := (topS 45)
abbrev nm_require_fences : List Str := ["board", "fences", "memory", "orders", "program", "counts", "at", "told"]
theorem sc_require_fences : FnScope ["board", "fences", "memory", "orders", "program", "counts", "at", "told"] ["board", "fences"] (defScope st_require_fences) := ⟨rfl, rfl, rfl, by decide +kernel, rfl, by decide +kernel, by decide +kernel⟩
/-- fences are let through, or refused by the first that is bad -/
def spReqFX (BF : Addr) : Sp := fun vs H Q E => ∃ (v : V) (B : Brd) (fl : Addr) (fv : List V) (fs : List RFc), vs = [v, .ref fl] ∧ Pd H v B.d ∧ H fl = some (.lst fv) ∧ Pds H fv (fs.map fcR) ∧ fs.length ≤ 900 ∧ (∀ x ∈ fs, x.2.nums.length ≤ 1000) ∧
  (firstBad B fs = none → ∀ H', Same H H' → Q .non H') ∧ (∀ i, firstBad B fs = some i → ∀ (H' : Hp) (d : Addr), Same H H' → H' d = some (.xd [("number", .int (i : Nat))]) → E (.ref BF) (some d) H')
theorem ok_reqfX {f BF : Addr} {fd : FuncData} (F : Fun K "require_fences" "require_fences" st_require_fences f fd) (k_BadFence : MakesX P w K mg base "BadFence" BF 1 (spX1 BF "number")) (eM : ∃ t, mg "MOST_FENCES" = some (.int 30 t)) (c_counts_of_things : Callee P w K mg base "counts_of_things" 1 2 spCounts)
    (c_fence_can_be : Callee P w K mg base "fence_can_be" 2 3 spFenceCanX) (z_len : mg "len" = none) (z_enumerate : mg "enumerate" = none) : FnOk P w K mg base (L2N.CX P w) 3 f fd ["board", "fences"] (spReqFX BF) := by
  obtain ⟨tM, mc_MOST_FENCES⟩ := eM
  refine okN F sc_require_fences (fun vs H Q E h => ?_) (fun cdv A outer s H vs Q E hr h => ?_)
  · obtain ⟨v, B, fl, fv, fs, rfl, _⟩ := h
    rfl
  · obtain ⟨v, B, fl, fv, fs, rfl, hB, hfl, hfv, hlen, hnum, q0, q1⟩ := h
    obtain ⟨a, m, o, p, os, ps, rfl, ha, hm, ho, hos, hp, hps⟩ := Brd.of hB
    have pl : ps.length = B.prog.length := by rw [hps.len, List.length_map]
    have ol : os.length = B.ords.length := by rw [hos.len, List.length_map]
    have fvl : fv.length = fs.length := by rw [hfv.len, List.length_map]
    refine ⟨_, (pss_cons (ps_asg (pv 0) (pg_tup rfl (pgs_cons (pg_name (i := 2) sc_require_fences.nd rfl (Or.inl rfl)) (pgs_cons (pg_name (i := 3) sc_require_fences.nd rfl (Or.inl rfl)) (pgs_cons (pg_name (i := 4) sc_require_fences.nd rfl (Or.inl rfl)) pgs_nil)))))
  (pss_cons (ps_set (i := 5) sc_require_fences.nd rfl (Or.inl rfl) (pe_cal c_counts_of_things hr (by first | decide | exact Nat.le_refl _) (pa_cons (pe_callB call_len_seq (by rfl) z_len (by decide +kernel) (pa_cons (pv 3) pa_nil)) (pa_cons (pe_callB call_len_seq (by rfl) z_len (by decide +kernel) (pa_cons (pv 2) pa_nil)) pa_nil))))
  (pss_one (ps_for (passes_of rfl) rfl (pi_enumT (by rfl) z_enumerate (pa_cons (pv 1) pa_nil)) (pg_tup rfl (pgs_cons (pg_name (i := 6) sc_require_fences.nd rfl (Or.inl rfl)) (pgs_cons (pg_name (i := 7) sc_require_fences.nd rfl (Or.inl rfl)) pgs_nil)))
  (pss_one (ps_if (PW.pt (pw_or (pt_cmpR op_eq (pv 6) (pe_glob (v := .int 30) rfl mc_MOST_FENCES ⟨_, rfl⟩) (nomark _)) (pw_or1 (pt_not (pt_val (pe_cal c_fence_can_be hr (by first | decide | exact Nat.le_refl _) (pa_cons (pv 7) (pa_cons (pe_callB call_len_seq (by rfl) z_len (by decide +kernel) (pa_cons (pv 4) pa_nil)) (pa_cons (pv 5) pa_nil))))))))) (pss_one (L2N.ps_raise rfl (L2N.takes_of rfl rfl rfl rfl) (pmk_mk k_BadFence hr (by first | decide | exact Nat.le_refl _) (pa_cons (pv 6) pa_nil)))) pss_nil)))))), ?_⟩
    refine ⟨_, rfl, a, _, rfl, sqT_t ha, rfl, _, _, rfl, _, _, rfl, _, _, rfl, rfl, ?_⟩
    refine ⟨_, rfl, o, _, rfl, .inr (sqT_t ho), _, rfl, m, _, rfl, .inr (sqT_t hm), _, _, rfl, fun c H1 nc hc1 s1 => ?_⟩
    rw [List.length_map, ol] at hc1
    refine ⟨_, rfl, fl, rfl, .inl ⟨_, sqL_l (s1 _ _ hfl), ?_⟩⟩
    refine for_it (walk_enum (xs := fv)) (fun i σ H' => ∃ y1 y2, σ = [some (.ref a), some (.ref fl), some (.ref m), some (.ref o), some (.ref p), some (.ref c), y1, y2] ∧ Same H1 H' ∧ ∀ (j : Nat) (x : RFc), j < i → fs[j]? = some x → badFence B.prog.length (B.ords.length : Nat) (B.mem.length : Nat) j x = false)
      ⟨_, _, rfl, Same.refl _, fun j x hj => absurd hj (by omega)⟩ (fun i σ H' _ hp => by obtain ⟨_, _, _, sm, _⟩ := hp; exact sqL_l ((s1.trans sm) _ _ hfl)) (fun i x σ H2 H3 hi hp' hy => ?_) (fun σ H2 hp' => ?_)
    · obtain ⟨y1, y2, rfl, sm, hall⟩ := hp'
      obtain ⟨T, a1, b, rfl, nT, _, h1, hb, s2, hT⟩ := pair_at hy
      cases h1
      obtain ⟨dx, hdx, hpd⟩ := hfv.get' hb
      rw [List.getElem?_map] at hdx
      obtain ⟨x0, hx0, rfl⟩ : ∃ x0, fs[i]? = some x0 ∧ fcR x0 = dx := by simpa using hdx
      have s13 : Same H H3 := (s1.trans sm).trans s2
      obtain ⟨a1, da, rfl, h1, h2⟩ := RFc.of (hpd.same s13)
      have il : i < fs.length := (List.getElem?_eq_some_iff.mp hx0).1
      have bad : badFence B.prog.length (B.ords.length : Nat) (B.mem.length : Nat) i x0 = true → firstBad B fs = some i := fun e => by
        unfold firstBad
        rw [fst_some (i := i) hx0 (by rw [Nat.zero_add]; exact e) fun j y hj ej => by rw [Nat.zero_add]; exact hall j y hj ej, Nat.zero_add]
      have refu : ∀ H4, Same H3 H4 → firstBad B fs = some i → ∀ d, H4 d = none → E (.ref BF) (some d) (upd H4 d (.xd [("number", .int (i : Nat))])) := fun H4 s4 e d hd => q1 i e _ d ((s13.trans s4).trans (same_new hd)) upd_same
      refine ⟨T, _, rfl, sqT_t hT, rfl, _, _, rfl, _, _, rfl, rfl, ?_⟩
      refine ⟨_, rfl, rfl, _, rfl, ?_⟩
      by_cases i30 : i = 30
      · refine iteT' (decide_eq_true (by rw [i30]; rfl)) (iteT' rfl ⟨_, rfl, ?_⟩)
        exact rd_x1 (fld := "number") (n := (i : Nat)) (by omega) (by omega) (refu H3 (Same.refl _) (bad (by rw [badFence, decide_eq_true i30]; rfl)))
      · refine iteF' (decide_eq_false (fun z => i30 (by injection z with z; omega))) ?_
        refine ⟨_, rfl, _, rfl, p, _, rfl, .inr (sqT_t (s13 _ _ hp)), _, rfl, a1, c, da, B.prog.length, _, _, x0, ?_, h1, h2, hnum x0 (List.mem_of_getElem? hx0), (sm.trans s2) _ _ hc1, fun H4 s4 => ?_⟩
        · rw [pl]; rfl
        · cases e : fenceOk B.prog.length (B.ords.length : Nat) (B.mem.length : Nat) x0 with
          | true =>
            refine ⟨_, rfl, iteF ⟨_, _, rfl, (sm.trans s2).trans s4, fun j y hj ej => ?_⟩⟩
            by_cases hji : j < i
            · exact hall j y hji ej
            · have : j = i := by omega
              subst this
              rw [hx0] at ej; cases ej
              rw [badFence, e, decide_eq_false i30]; rfl
          | false =>
            refine ⟨_, rfl, iteT ⟨_, rfl, ?_⟩⟩
            exact rd_x1 (fld := "number") (n := (i : Nat)) (by omega) (by omega) (refu H4 s4 (bad (by rw [badFence, e]; simp)))
    · obtain ⟨y1, y2, rfl, sm, hall⟩ := hp'
      refine q0 (fst_none fun i x e => ?_) _ (s1.trans sm)
      rw [Nat.zero_add]
      exact hall i x (by rw [fvl]; exact (List.getElem?_eq_some_iff.mp e).1) e
end
end Vt
namespace Vt
open PySem PySem.Spec PyProof.Rows L2
/-! ### a list extended by a tuple -/
open PySem.AutoSeq1 in
theorem extend_tupW (l : Addr) (items : Array Value) (n : Nat) (b : Addr) (items2 : Array Value) (n2 : Nat) (dd : Option Addr) (sl : Array (Option Value)) (hs0 : ¬(!items.isEmpty && Builtin.List.listTooLong (items.size + items2.size)) = true) (hs1 : items.size ≤ sizeLine) (hs2 : items.size + items2.size ≤ sizeLine + 1) :
    Meets (Builtin.«list.extend» ⟨[.ref l, .ref b], []⟩) (fun _ R s => s.heap.get? l = some { cls := .type "list", dict := none, data := .seq items n, slots := #[] } ∧ s.heap.get? b = some { cls := .type "tuple", dict := dd, data := .seq items2 n2, slots := sl } ∧ R (.ok (.ret Value.none)) { s with heap := s.heap.update l (Obj.mapSeq fun x => x ++ items2), toks := s.toks }) :=
  .of_wp fun prog w A R s h => by
    obtain ⟨hp, g, d, tk, os⟩ := s; obtain ⟨hl, hb, h⟩ := h; have f1 := AutoSeq1.idx_int; have f2 := AutoSeq1.sub_tuple_tuple; have f3 := AutoSeq1.sub_list_list; have f4 := AutoSeq1.sub_tuple_list; have f5 := AutoSeq1.sub_list_tuple;
    have hz' : (items ++ items2).size ≤ sizeLine + 1 := by rw [Array.size_append]; exact hs2
    wp_walk using (wpAny_updateSeq hl rfl (hz := hs1) (_hz' := hz')), wpAny_loadPart' hl, wpAny_loadPart' hb; exact ⟨_, rfl, h⟩
def rExtendT (K : PySem.W.Frag) : V → List V → Hp → VK → Prop := fun x vs H Q => ∃ l b xs zs, x = .ref l ∧ vs = [.ref b] ∧ H l = some (.lst xs) ∧ SqT K H b zs ∧ xs.length + zs.length ≤ sizeLine ∧ Q .non (upd H l (.lst (xs ++ zs)))
theorem mt_extendT {X : Cx} : MtM X "list.extend" (rExtendT X.K) := by
  intro pins s σ H x vs v us Q I rx rv h
  obtain ⟨l, b, xs, zs, rfl, rfl, hH, hB, hz, q⟩ := h
  cases rx
  obtain ⟨u, rfl, ru⟩ := rv.one
  cases ru
  obtain ⟨z, its, n, r, hl, e⟩ := I.lstM hH
  obtain ⟨its2, r2, p2, z2⟩ := I.tuple hB
  have hl2 := r2.length
  obtain ⟨⟨cls2, dd2, data2, sl2⟩, ho2, hc2, n2, hd2⟩ := id p2
  simp only at hc2 hd2
  subst hc2 hd2
  have hsz : its.toArray.size + its2.toArray.size ≤ sizeLine := by rw [List.size_toArray, List.size_toArray]; omega
  have hlong : ¬ (!its.toArray.isEmpty && Builtin.List.listTooLong (its.toArray.size + its2.toArray.size)) = true := by
    rw [notLongL hsz, Bool.and_false]
    exact Bool.false_ne_true
  refine call_meets PySem.F.slot_list_extend ⟨_, e, rfl⟩ PySem.F.entry_list_extend (PySem.F.args_list_extend_2 _ _)
    (extend_tupW l its.toArray n b its2.toArray n2 dd2 sl2 hlong (by rw [List.size_toArray]; omega) (by omega)) ⟨e, ho2, ?_⟩
  refine ⟨.non, _, I.lset (its' := its ++ its2) hH e (by simp) (r.append r2) ?_, rfl, q⟩
  rw [List.length_append]
  omega
theorem sl_tupAk {X : Cx} (K : PySem.W.Frag) (h : X.K = K := by rfl) : SlR X (rSlA K) := by
  subst h
  exact sl_tupA
/-- t[i:i+1]: what stands there, alone -/
theorem cut_one {xs : List V} {i : Nat} : cutV xs (some (i : Int)) (some ((i : Int) + 1)) = xs[i]?.toList := by
  rw [show ((i : Int) + 1) = ((i + 1 : Nat) : Int) from by omega]
  unfold cutV
  rw [HT.sIx_nat, HT.sIx_nat]
  rcases Nat.lt_or_ge i xs.length with h | h
  · rw [Nat.min_eq_left (by omega), Nat.min_eq_left (by omega), show i + 1 - i = 1 from by omega, List.getElem?_eq_getElem h, List.drop_eq_getElem_cons h]; rfl
  · rw [Nat.min_eq_right h, List.drop_of_length_le (Nat.le_refl _), List.getElem?_eq_none h]; simp
theorem cut_whole {xs : List V} {lo hi : Option Int} (h : HT.sIx xs.length 0 lo = 0 ∧ HT.sIx xs.length xs.length hi = xs.length) : cutV xs lo hi = xs := by
  unfold cutV
  rw [h.1, h.2, List.drop_zero, Nat.sub_zero, List.take_length]
theorem sl_one {K : PySem.W.Frag} {H : Hp} {a : Addr} {xs : List V} {i : Nat} {j k : Int} {Q : VK} (hj : j = (i : Int)) (hk : k = (i : Int) + 1) (ha : SqT K H a xs) (q : ∀ (b : Addr) (H' : Hp), Same H H' → SqT K H' b xs[i]?.toList → Q (.ref b) H') : rSlA K (.ref a) (some j) (some k) H Q := by
  subst hj hk
  refine ⟨a, xs, rfl, ha, fun h => ?_, fun _ p np => ?_⟩
  · have e := cut_whole h
    rw [cut_one] at e
    exact q a H (Same.refl _) (by rw [e]; exact ha)
  · rw [cut_one]
    exact q p _ (same_new np) (sqT_t upd_same)
end Vt
namespace Vt
open PySem PySem.Spec PyProof.Rows L2
theorem putTo_len {prog : List Deed} {fs : List Fc} : ∀ i, (putTo prog fs i).length ≤ i * (fs.length + 1)
  | 0 => Nat.zero_le _
  | i + 1 => by
    have ih := putTo_len (prog := prog) (fs := fs) i
    have h1 : ((fs.filter fun x => decide (x.1 = i)).map Prod.snd).length ≤ fs.length := by
      rw [List.length_map]; exact List.length_filter_le _ _
    have h2 : (prog[i]?.toList).length ≤ 1 := by cases prog[i]? <;> simp
    rw [putTo, List.length_append, List.length_append, Nat.succ_mul]
    omega
theorem pds_one {H : Hp} {vs : List V} {ds : List D} {i : Nat} (h : Pds H vs ds) : Pds H vs[i]?.toList ds[i]?.toList := by
  cases e : vs[i]? with
  | none =>
    have := h.len
    rw [List.getElem?_eq_none (by have := List.getElem?_eq_none_iff.mp e; omega)]; exact .nil
  | some v =>
    obtain ⟨d, h1, h2⟩ := h.get' e
    rw [h1]; exact .cons h2 .nil
section
variable {P : Program} {w : World} {K : PySem.W.Frag} {mg : Str → Option Value} {base : Heap}
abbrev st_put_in : Stmt := (topS 47)
abbrev nm_put_in : List Str := ["board", "fences", "memory", "orders", "program", "deeds", "at", "place", "fence"]
theorem sc_put_in : FnScope ["board", "fences", "memory", "orders", "program", "deeds", "at", "place", "fence"] ["board", "fences"] (defScope st_put_in) := ⟨rfl, rfl, rfl, by decide +kernel, rfl, by decide +kernel, by decide +kernel⟩
def spPutIn : Sp := fun vs H Q _ => ∃ (v : V) (B : Brd) (fl : Addr) (fv : List V) (fs : List Fc), vs = [v, .ref fl] ∧ Pd H v B.d ∧ H fl = some (.lst fv) ∧ Pds H fv (fs.map fcD) ∧ B.prog.length ≤ 100 ∧ fs.length ≤ 100 ∧ ∀ (H' : Hp) (u : V), Same H H' → Pd H' u (putIn B fs).d → Q u H'
set_option maxHeartbeats 0 in
theorem ok_putin {f : Addr} {fd : FuncData} (F : Fun K "put_in" "put_in" st_put_in f fd) (z_len : mg "len" = none) (z_range : mg "range" = none) (z_tuple : mg "tuple" = none) : FnOk P w K mg base CX0 1 f fd ["board", "fences"] spPutIn := by
  refine F.ok sc_put_in (fun vs H Q E h => ?_) (fun cdv A outer s H vs Q E hr h => ?_)
  · obtain ⟨v, B, fl, fv, fs, rfl, _⟩ := h
    rfl
  · obtain ⟨v, B, fl, fv, fs, rfl, hB, hfl, hfv, b1, b2, q⟩ := h
    obtain ⟨a, m, o, p, os, ps, rfl, ha, hm, ho, hos, hp, hps⟩ := Brd.of hB
    have pl : ps.length = B.prog.length := by rw [hps.len, List.length_map]
    have fvl : fv.length = fs.length := by rw [hfv.len, List.length_map]
    refine ⟨_, (pss_cons (ps_asg (pv 0) (pg_tup rfl (pgs_cons (pg_name (i := 2) sc_put_in.nd rfl (Or.inl rfl)) (pgs_cons (pg_name (i := 3) sc_put_in.nd rfl (Or.inl rfl)) (pgs_cons (pg_name (i := 4) sc_put_in.nd rfl (Or.inl rfl)) pgs_nil)))))
  (pss_cons (ps_set (i := 5) sc_put_in.nd rfl (Or.inl rfl) (pe_lst pa_nil))
  (pss_cons (ps_for PassesOwn.never rfl (pi_range1 (by rfl) z_range (pa_cons (pe_op op_add (pe_callB call_len_seq (by rfl) z_len (by decide +kernel) (pa_cons (pv 4) pa_nil)) pe_int) pa_nil)) (pg_name (i := 6) sc_put_in.nd rfl (Or.inr rfl))
  (pss_cons (ps_expr (pe_bm PySem.F.plainAttrs_list PySem.F.slot_list_extend PySem.F.type_list_extend mt_extend (pv 5) (pa_cons (pe_lc (own := [("place", 7), ("fence", 8)]) rfl sc_put_in.nd (pi_lt (pv 1)) (blkOk_by (own := [("place", 7), ("fence", 8)]) (N := nm_put_in) (sc := defScope (topS 47)) (by decide +kernel)) (fun _ _ _ _ _ => (pg_tupk K (n := 2) rfl (pgs_cons (pg_name (i := 7) sc_put_in.nd rfl (Or.inl rfl)) (pgs_cons (pg_name (i := 8) sc_put_in.nd rfl (Or.inl rfl)) pgs_nil)))) (fun _ _ _ _ _ => (pts_one (pt_cmpR op_eq (pv 7) (pv 6) (nomark _)))) (fun _ _ _ _ _ => (pv 8))) pa_nil)))
  (pss_one (ps_expr (pe_bm PySem.F.plainAttrs_list PySem.F.slot_list_extend PySem.F.type_list_extend mt_extendT (pv 5) (pa_cons (pe_slice sl_tupA (pv 4) (po_some (pv 6)) (po_some (pe_op op_add (pv 6) pe_int))) pa_nil))))))
  (pss_one (ps_ret (pe_tup (pa_cons (pv 2) (pa_cons (pv 3) (pa_cons (pe_callTy call_tuple_of (by rfl) z_tuple (by decide +kernel) (pa_cons (pv 5) pa_nil)) pa_nil))))))))), ?_⟩
    refine ⟨_, rfl, a, _, rfl, sqT_t ha, rfl, _, _, rfl, _, _, rfl, _, _, rfl, rfl, ?_⟩
    refine ⟨Nat.zero_le _, fun dl ndl => ?_⟩
    have s1 := same_new (o := .lst []) ndl
    refine ⟨_, rfl, p, _, rfl, .inr (sqT_t (s1 _ _ hp)), _, _, rfl, rfl, _, rfl, by omega, by omega, ?_⟩
    refine for_it (walk_range (lo := 0) (n := ((ps.length : Int) + 1).toNat)) (fun i σ H' => ∃ (dv : List V) (y : Option V), σ = [some (.ref a), some (.ref fl), some (.ref m), some (.ref o), some (.ref p), some (.ref dl), y, none, none] ∧ H' dl = some (.lst dv) ∧ Pds H' dv ((putTo B.prog fs i).map Deed.d) ∧ Same H H')
      ⟨[], _, rfl, upd_same, .nil, s1⟩ (fun _ _ _ _ _ => trivial) (fun i x σ H2' H2 hi hp hy => ?_) (fun σ H2 hp => ?_)
    · obtain ⟨dv, y, rfl, hdl, hdv, s2⟩ := hp
      obtain ⟨rfl, rfl⟩ := hy
      have dvl : dv.length = (putTo B.prog fs i).length := by rw [hdv.len, List.length_map]
      have pln := putTo_len (prog := B.prog) (fs := fs) i
      have ib : i ≤ 100 := by omega
      have pb : (putTo B.prog fs i).length ≤ 100 * 101 := Nat.le_trans pln (Nat.mul_le_mul ib (by omega))
      refine ⟨_, rfl, .inl ⟨rfl, _, sqL_l hdl⟩, _, rfl, fl, rfl, .inl ⟨_, sqL_l (s2 _ _ hfl), fun L1 nL1 => ?_⟩⟩
      refine lc_it (walk_list (xs := fv)) (fun j H' => ∃ ev : List V, H' L1 = some (.lst ev) ∧ Pds H' ev ((((fs.take j).filter fun x => decide (x.1 = i)).map Prod.snd).map Deed.d) ∧ Same H2 H')
        ⟨[], upd_same, .nil, same_new nL1⟩ (fun j H' _ hp => by obtain ⟨_, _, _, sm⟩ := hp; exact sqL_l (sm _ _ (s2 _ _ hfl))) (fun j x H3 H4 hj hp hy => ?_) (fun H3 hp => ?_)
      · obtain ⟨ev, hL1, hev, s3⟩ := hp
        obtain ⟨rfl, hx⟩ := hy
        obtain ⟨dx, hdx, hpd⟩ := hfv.get' hx
        rw [List.getElem?_map] at hdx
        obtain ⟨x0, hx0, rfl⟩ : ∃ x0, fs[j]? = some x0 ∧ fcD x0 = dx := by simpa using hdx
        obtain ⟨a1, da, rfl, h1, h2⟩ := Fc.of ((hpd.same s2).same s3)
        have tk : fs.take (j + 1) = fs.take j ++ [x0] := by rw [List.take_add_one, hx0]; rfl
        refine ⟨a1, _, rfl, sqT_t h1, rfl, _, _, rfl, _, _, rfl, rfl, ?_⟩
        have fl1 : (((fs.take (j + 1)).filter fun x => decide (x.1 = i)).map Prod.snd).map Deed.d = (((fs.take j).filter fun x => decide (x.1 = i)).map Prod.snd).map Deed.d ++ (if x0.1 = i then [x0.2.d] else []) := by
          rw [tk, List.filter_append, List.map_append, List.map_append]
          congr 1
          by_cases h : x0.1 = i
          · simp [h]
          · simp [h]
        have evl : ev.length ≤ 100 := by
          rw [hev.len, List.length_map, List.length_map]
          have := List.length_filter_le (fun x : Fc => decide (x.1 = i)) (fs.take j)
          have := List.length_take_le' j fs
          omega
        refine ⟨rfl, _, rfl, _, rfl, rfl, _, rfl, ite2 (fun e => ?_) (fun e => ?_)⟩
        · have ei : x0.1 = i := by
            have : (x0.1 : Int) = 0 + (i : Int) := by injection of_decide_eq_true e
            omega
          have st : But [L1] H4 (upd H4 L1 (.lst (ev ++ [.ref da]))) := But.set (by simp)
          refine ⟨_, rfl, _, hL1, fits (by omega), _, upd_same, ?_, But.new1 s3 nL1 st⟩
          rw [fl1, if_pos ei]
          refine (Pds.but st (fun c hc => ⟨ev, by rw [List.mem_singleton.mp hc]; exact hL1⟩) (noLs_map noL_deed _) hev).app (.cons (Deed.pd ?_) .nil)
          exact st _ _ (fun m => by rw [List.mem_singleton.mp m, hL1] at h2; cases h2) h2
        · have ei : ¬ x0.1 = i := fun z => e (decide_eq_true (show nV x0.1 = V.int (0 + (i : Int)) from by rw [z, Int.zero_add]; rfl))
          refine ⟨ev, hL1, ?_, s3⟩
          rw [fl1, if_neg ei, List.append_nil]; exact hev
      · obtain ⟨ev, hL1, hev, s3⟩ := hp
        rw [fvl, List.take_length] at hev
        have evl : ev.length ≤ 100 := by
          rw [hev.len, List.length_map, List.length_map]
          have := List.length_filter_le (fun x : Fc => decide (x.1 = i)) fs
          omega
        have hdl3 := s3 _ _ hdl
        have hd3 := hdv.same s3
        refine ⟨dl, L1, dv, ev, rfl, rfl, hdl3, hL1, Nat.le_of_lt (fits (by omega)), ?_⟩
        have st : But [dl] H3 (upd H3 dl (.lst (dv ++ ev))) := But.set (by simp)
        have ls : Lsts H3 [dl] := fun c hc => ⟨dv, by rw [List.mem_singleton.mp hc]; exact hdl3⟩
        have hd5 := (Pds.but st ls (noLs_map noL_deed _) hd3).app (Pds.but st ls (noLs_map noL_deed _) hev)
        have s5 := But.new1 (s2.trans s3) ndl st
        have hdl5 : (upd H3 dl (.lst (dv ++ ev))) dl = some (.lst (dv ++ ev)) := upd_same
        generalize upd H3 dl (.lst (dv ++ ev)) = H5 at st hd5 s5 hdl5
        refine ⟨_, rfl, .inl ⟨rfl, _, sqL_l hdl5⟩, _, rfl, _, rfl, _, rfl, _, rfl, _, _, rfl, rfl, _, rfl, ?_⟩
        refine sl_one (i := i) (j := 0 + (i : Int)) (k := 0 + (i : Int) + 1) (by omega) (by omega) (sqT_t (s5 _ _ hp)) fun b H6 s6 hb => ?_
        have hdl6 := s6 _ _ hdl5
        have l1 : (ps[i]?.toList).length ≤ 1 := by cases ps[i]? <;> simp
        refine ⟨dl, b, _, _, rfl, rfl, hdl6, hb, Nat.le_of_lt (fits (by rw [List.length_append]; omega)), ?_⟩
        have st6 : But [dl] H6 (upd H6 dl (.lst (dv ++ ev ++ ps[i]?.toList))) := But.set (by simp)
        have ls6 : Lsts H6 [dl] := fun c hc => ⟨dv ++ ev, by rw [List.mem_singleton.mp hc]; exact hdl6⟩
        have one : Pds H ps[i]?.toList (B.prog[i]?.toList.map Deed.d) := by
          have := pds_one (i := i) hps
          rw [List.getElem?_map] at this
          cases e : B.prog[i]? with
          | none => rw [e] at this; exact this
          | some d => rw [e] at this; exact this
        refine ⟨_, _, rfl, upd_same, ?_, But.new1 (s5.trans s6) ndl st6⟩
        rw [putTo, List.map_append, List.map_append, ← List.append_assoc]
        exact (Pds.but st6 ls6 (by rw [← List.map_append]; exact noLs_map noL_deed _) (hd5.same s6)).app (Pds.but st6 ls6 (noLs_map noL_deed _) ((one.same s5).same s6))
    · obtain ⟨dv, y, rfl, hdl, hdv, s2⟩ := hp
      refine ⟨_, rfl, _, rfl, _, rfl, dl, _, rfl, .inl ⟨sqL_l hdl, fun T nT => ?_⟩⟩
      have en : ((ps.length : Int) + 1).toNat = B.prog.length + 1 := by omega
      rw [en] at hdv
      have sT := same_new (o := .tup dv) nT
      refine ⟨by show 3 ≤ sizeLine; decide, fun W nW => ?_⟩
      have sW := same_new (o := .tup [.ref m, .ref o, .ref T]) nW
      have s3 := (s2.trans sT).trans sW
      refine q _ _ s3 (.tup upd_same (.cons (.tup (s3 _ _ hm) (pds_ns _)) (.cons (.tup (s3 _ _ ho) (hos.same s3)) (.cons (.tup (sW _ _ upd_same) ((hdv.same sT).same sW)) .nil))))
end
end Vt
namespace Vt
open PySem PySem.Spec PyProof.Rows L2
theorem rawOk_of {K : PySem.W.Frag} {w : World} {dd : Addr} {B : Brd} (ok : BrdOk B) : RawOk K w dd B.raw := by
  have := ok.sixty
  have := ok.four
  obtain ⟨h1, h2⟩ := raw_ok (K := K) (w := w) (dd := dd) (B := B) (by omega) (by have := ok.cells; omega) (by omega)
  exact ⟨h1, h2, fun z n e => by rw [wrong_ok ok] at e; cases e⟩
/-- what is told of a refused board, of a refused fence -/
def EBrd (BB : Addr) (E : XK) (H : Hp) (z : Str) (n : Nat) : Prop := ∀ (H' : Hp) (d : Addr), Same H H' → H' d = some (.xd (fs2 z (n : Nat))) → E (.ref BB) (some d) H'
def EFen (BF : Addr) (E : XK) (H : Hp) (i : Nat) : Prop := ∀ (H' : Hp) (d : Addr), Same H H' → H' d = some (.xd [("number", .int (i : Nat))]) → E (.ref BF) (some d) H'
theorem EBrd.same {BB : Addr} {E : XK} {H H1 : Hp} {z : Str} {n : Nat} (h : EBrd BB E H z n) (s : Same H H1) : EBrd BB E H1 z n := fun H' d s' e => h H' d (s.trans s') e
theorem EFen.same {BF : Addr} {E : XK} {H H1 : Hp} {i : Nat} (h : EFen BF E H i) (s : Same H H1) : EFen BF E H1 i := fun H' d s' e => h H' d (s.trans s') e
/-- a call whose argument is never told -/
theorem pe_callX {X : Cx} {x : Str} {f : Addr} {e : Expr} {te : TE} {p pos : Pos} (hm : X.mg x = some (.ref f)) (hk : PySem.W.keepIn X.K (.ref f) = true) (he : PE X e te) (hg : Gl X x := by rfl) (hdb : (x == ("__debug__" : Str)) = false := by decide)
    (hst : starEach [e] X.env = (false, eval e X.env) :: starEach [] X.env := by rfl) : PE X (.Call (.Name x p) [e] [] pos) (fun σ H _ => te σ H fun _ _ => False) := by
  refine ⟨fun pins s σ H Q I h => ?_⟩
  refine wpAny_Call_Name_kw (ld_glob I hg hm ?_ hdb)
  refine PySem.W.callWith_K (h₀ := X.base) I.ok.mod.kin hk ?_ hst (by rfl)
  rw [hst]
  show wpAny _ _ (spliced ((false, eval e X.env) :: backTo pos (starEach [] X.env))) _ _ s
  refine PySem.Calls.spliced_cons (wpAny_mono (he.run pins s σ H _ I h) (fun v s1 hv => ?_) fun _ _ z => z)
  obtain ⟨_, _, _, _, z⟩ := hv
  exact z.elim
section
variable {P : Program} {w : World} {K : PySem.W.Frag} {mg : Str → Option Value} {base : Heap}
abbrev st_fenced : Stmt := (topS 43)
abbrev nm_fenced : List Str := ["board", "fences", "shut"]
theorem sc_fenced : FnScope ["board", "fences", "shut"] ["board", "fences"] (defScope st_fenced) := ⟨rfl, rfl, rfl, by decide +kernel, rfl, by decide +kernel, by decide +kernel⟩
def spFencedX (K : PySem.W.Frag) (w : World) (dd BB BF : Addr) : Sp := fun vs H Q E => ∃ (v : V) (fl : Addr) (fv : List V), vs = [v, .ref fl] ∧ H fl = some (.lst fv) ∧
  ((∃ (R : RBrd) (z : Str) (n : Nat), Pd H v R.d ∧ RawOk K w dd R ∧ wrongB R = some (z, n) ∧ EBrd BB E H z n) ∨
   (∃ B : Brd, Pd H v B.d ∧ BrdOk B ∧
     ((∃ (fs : List RFc) (i : Nat), Pds H fv (fs.map fcR) ∧ fs.length ≤ 900 ∧ (∀ x ∈ fs, x.2.nums.length ≤ 1000) ∧ firstBad B fs = some i ∧ EFen BF E H i) ∨
      (∃ gs : List Fc, Pds H fv (gs.map fcD) ∧ gs.length ≤ 30 ∧ (∀ x ∈ gs, FcOk B x) ∧ RawOk K w dd (putIn B gs).raw ∧ (wrongB (putIn B gs).raw = none → ∀ (H' : Hp) (u : V), Same H H' → Pd H' u (putIn B gs).d → Q u H') ∧
        (∀ z n, wrongB (putIn B gs).raw = some (z, n) → EBrd BB E H z n)))))
theorem ok_fencedX {f dd BB BF : Addr} {fd : FuncData} (F : Fun K "fenced" "fenced" st_fenced f fd) (c_require_board : CalleeN P w K mg base "require_board" 3 1 (spReqX K w dd BB)) (c_require_fences : CalleeN P w K mg base "require_fences" 3 2 (spReqFX BF)) (c_put_in : Callee P w K mg base "put_in" 1 2 spPutIn) :
    FnOk P w K mg base (L2N.CX P w) 4 f fd ["board", "fences"] (spFencedX K w dd BB BF) := by
  refine okN F sc_fenced (fun vs H Q E h => ?_) (fun cdv A outer s H vs Q E hr h => ?_)
  · obtain ⟨v, fl, fv, rfl, _⟩ := h
    rfl
  · obtain ⟨v, fl, fv, rfl, hfl, h⟩ := h
    refine ⟨_, (pss_cons (ps_expr (pe_calN c_require_board hr (by first | decide | exact Nat.le_refl _) (L2N.takes_of rfl rfl rfl rfl) (pa_cons (pv 0) pa_nil)))
  (pss_cons (ps_expr (pe_calN c_require_fences hr (by first | decide | exact Nat.le_refl _) (L2N.takes_of rfl rfl rfl rfl) (pa_cons (pv 0) (pa_cons (pv 1) pa_nil))))
  (pss_cons (ps_set (i := 2) sc_fenced.nd rfl (Or.inl rfl) (pe_cal c_put_in hr (by first | decide | exact Nat.le_refl _) (pa_cons (pv 0) (pa_cons (pv 1) pa_nil))))
  (pss_cons (ps_expr (pe_calN c_require_board hr (by first | decide | exact Nat.le_refl _) (L2N.takes_of rfl rfl rfl rfl) (pa_cons (pv 2) pa_nil)))
  (pss_one (ps_ret (pv 2))))))), ?_⟩
    rcases h with ⟨R, z, n, hR, rok, ew, eE⟩ | ⟨B, hB, ok, h⟩
    · refine ⟨_, rfl, v, R, rfl, hR, rok, fun e => (by rw [ew] at e; cases e), fun z' n' e => ?_⟩
      rw [ew] at e; cases e
      exact eE
    refine ⟨_, rfl, v, B.raw, rfl, by rw [raw_brd]; exact hB, rawOk_of ok, fun _ H1 s1 => ?_, fun z n e => by rw [wrong_ok ok] at e; cases e⟩
    rcases h with ⟨fs, i, hfs, hl, hn, eb, eE⟩ | ⟨gs, hgs, b30, hok, rok, q0, q1⟩
    · refine ⟨_, rfl, _, rfl, v, B, fl, fv, fs, rfl, hB.same s1, s1 _ _ hfl, hfs.same s1, hl, hn, fun e => (by rw [eb] at e; cases e), fun j e => ?_⟩
      rw [eb] at e; cases e
      exact eE.same s1
    have emap : (gs.map Fc.raw).map fcR = gs.map fcD := by
      rw [List.map_map]
      exact List.map_congr_left fun x _ => raw_fc x
    refine ⟨_, rfl, _, rfl, v, B, fl, fv, gs.map Fc.raw, rfl, hB.same s1, s1 _ _ hfl, by rw [emap]; exact hgs.same s1, by rw [List.length_map]; omega, fun x hx => ?_, fun _ H2 s2 => ?_, fun j e => by rw [bad_none b30 hok] at e; cases e⟩
    · obtain ⟨y, hy, rfl⟩ := List.mem_map.mp hx
      show (y.2.raw.nums).length ≤ 1000
      have : y.2.raw.nums.length = y.2.args.length := by simp [Deed.raw]
      rw [this]
      cases y.2 <;> simp [Deed.args]
    have s12 := s1.trans s2
    refine ⟨_, rfl, _, rfl, v, B, fl, fv, gs, rfl, hB.same s12, s12 _ _ hfl, hgs.same s12, by have := ok.sixty; omega, by omega, fun H3 u s3 hu => ?_⟩
    have s13 := s12.trans s3
    refine ⟨_, rfl, u, _, rfl, by rw [raw_brd]; exact hu, rok, fun e H4 s4 => ?_, fun z n e => (q1 z n e).same s13⟩
    exact ⟨_, rfl, q0 e _ _ (s13.trans s4) (hu.same s4)⟩
abbrev st_spare : Stmt := (topS 44)
abbrev nm_spare : List Str := ["board", "fences", "left_out", "at"]
theorem sc_spare : FnScope ["board", "fences", "left_out", "at"] ["board", "fences"] (defScope st_spare) := ⟨rfl, rfl, rfl, by decide +kernel, rfl, by decide +kernel, by decide +kernel⟩
/-- spare, of what fenced refuses -/
def spSpareX (K : PySem.W.Frag) (w : World) (dd BB BF : Addr) : Sp := fun vs H _ E => spFencedX K w dd BB BF vs H (fun _ _ => False) E
theorem ok_spareX {f dd BB BF : Addr} {fd : FuncData} (F : Fun K "spare" "spare" st_spare f fd) (c_fenced : CalleeN P w K mg base "fenced" 4 2 (spFencedX K w dd BB BF)) (hS : ∃ g, mg "is_sure" = some (.ref g) ∧ PySem.W.keepIn K (.ref g) = true) :
    FnOk P w K mg base (L2N.CX P w) 5 f fd ["board", "fences"] (spSpareX K w dd BB BF) := by
  obtain ⟨g, hg1, hg2⟩ := hS
  refine okN F sc_spare (fun vs H Q E h => ?_) (fun cdv A outer s H vs Q E hr h => ?_)
  · obtain ⟨v, fl, fv, rfl, _⟩ := h
    rfl
  · obtain ⟨v, fl, fv, rfl, hfl, h⟩ := h
    refine ⟨_, (pss_cons (ps_if (pt_not (pt_val (pe_callX hg1 hg2 (pe_calN c_fenced hr (by first | decide | exact Nat.le_refl _) (L2N.takes_of rfl rfl rfl rfl) (pa_cons (pv 0) (pa_cons (pv 1) pa_nil)))))) (pss_one ps_never) pss_nil) (pss_cons ps_never (pss_cons ps_never (pss_one ps_never)))), ?_⟩
    exact ⟨_, rfl, _, rfl, v, fl, fv, rfl, hfl, h⟩
end
end Vt
namespace Vt
open PySem PySem.Spec PyProof.Rows L2
/-! ### data that is alike -/
mutual
def D.sm : D → Bool
  | .lst ds => decide (ds.length ≤ 100000) && smAll ds
  | .tup ds => decide (ds.length ≤ 100000) && smAll ds
  | _ => true
def smAll : List D → Bool
  | [] => true
  | d :: ds => d.sm && smAll ds
end
theorem sm_get : ∀ {ds : List D} {i : Nat} {d : D}, smAll ds = true → ds[i]? = some d → d.sm = true
  | [], _, _, _, e => by simp at e
  | x :: r, 0, d, h, e => by
    simp only [List.getElem?_cons_zero, Option.some.injEq] at e
    rw [smAll, Bool.and_eq_true] at h
    subst e; exact h.1
  | x :: r, i + 1, d, h, e => by
    rw [smAll, Bool.and_eq_true] at h
    exact sm_get (ds := r) (i := i) h.2 (by simpa using e)
theorem sm_map {α : Type} {f : α → D} (h : ∀ x, (f x).sm = true) : ∀ xs : List α, smAll (xs.map f) = true
  | [] => by rw [List.map_nil, smAll]
  | x :: r => by rw [List.map_cons, smAll, h x, sm_map h r]; rfl
theorem sm_nD (n : Nat) : (nD n).sm = true := by simp [nD, D.sm]
end Vt
namespace Vt
open PySem PySem.Spec PyProof.Rows L2
section
variable {P : Program} {w : World} {K : PySem.W.Frag} {mg : Str → Option Value} {base : Heap}
abbrev st_law_alike : Stmt := (topS 51)
abbrev nm_law_alike : List Str := ["_law_found", "_law_due", "_law_k"]
theorem sc_law_alike : FnScope ["_law_found", "_law_due", "_law_k"] ["_law_found", "_law_due"] (defScope st_law_alike) := ⟨rfl, rfl, rfl, by decide +kernel, rfl, by decide +kernel, by decide +kernel⟩
def spAlike (n : Nat) : Sp := fun vs H Q _ => ∃ (u v : V) (d : D), vs = [u, v] ∧ Pd H u d ∧ Pd H v d ∧ d.dep < n ∧ d.sm = true ∧ Q (.bl true) H
/-- the alike of tuples or lists, from their lengths on -/
theorem alike_go {f : Addr} {fd : FuncData} (F : Fun K "_law_alike" "_law_alike" st_law_alike f fd) (n : Nat) (c_law_alike : Callee P w K mg base "_law_alike" n 2 (spAlike n)) (z_len : mg "len" = none) (z_range : mg "range" = none) (z_isinstance : mg "isinstance" = none)
    (z_bool : mg "bool" = none) (z_int : mg "int" = none) (z_str : mg "str" = none) (z_tuple : mg "tuple" = none) (z_list : mg "list" = none) : FnOk P w K mg base CX0 (n + 1) f fd ["_law_found", "_law_due"] (spAlike (n + 1)) := by
  refine F.ok sc_law_alike (fun vs H Q E h => ?_) (fun cdv A outer s H vs Q E hr h => ?_)
  · obtain ⟨u, v, d, rfl, _⟩ := h
    rfl
  · obtain ⟨u, v, d, rfl, hu, hv, hd, hs, q⟩ := h
    refine ⟨_, (pss_cons (ps_if (pt_cmpR op_isN (pv 1) pe_non (nomark _)) (pss_one (ps_ret (pe_cmpR op_isN (pv 0) pe_non (nomark _)))) pss_nil)
  (pss_cons (ps_if (pt_val (pe_callB call_isi (by rfl) z_isinstance (by decide +kernel) (pa_cons (pv 1) (pa_cons (pe_bltn (v := .ty "bool") rfl z_bool (by decide +kernel) rfl) pa_nil)))) (pss_one (ps_ret (pe_and (pe_callB call_isi (by rfl) z_isinstance (by decide +kernel) (pa_cons (pv 0) (pa_cons (pe_bltn (v := .ty "bool") rfl z_bool (by decide +kernel) rfl) pa_nil))) (pe_one (pe_cmpR op_eq (pv 0) (pv 1) (nomark _)))))) pss_nil)
  (pss_cons (ps_if (pt_val (pe_callB call_isi (by rfl) z_isinstance (by decide +kernel) (pa_cons (pv 1) (pa_cons (pe_bltn (v := .ty "int") rfl z_int (by decide +kernel) rfl) pa_nil)))) (pss_one (ps_ret (pe_and (pe_callB call_isi (by rfl) z_isinstance (by decide +kernel) (pa_cons (pv 0) (pa_cons (pe_bltn (v := .ty "int") rfl z_int (by decide +kernel) rfl) pa_nil))) (pe_and (pe_not (pe_callB call_isi (by rfl) z_isinstance (by decide +kernel) (pa_cons (pv 0) (pa_cons (pe_bltn (v := .ty "bool") rfl z_bool (by decide +kernel) rfl) pa_nil)))) (pe_one (pe_cmpR op_eq (pv 0) (pv 1) (nomark _))))))) pss_nil)
  (pss_cons (ps_if (pt_val (pe_callB call_isi (by rfl) z_isinstance (by decide +kernel) (pa_cons (pv 1) (pa_cons (pe_bltn (v := .ty "str") rfl z_str (by decide +kernel) rfl) pa_nil)))) (pss_one (ps_ret (pe_and (pe_callB call_isi (by rfl) z_isinstance (by decide +kernel) (pa_cons (pv 0) (pa_cons (pe_bltn (v := .ty "str") rfl z_str (by decide +kernel) rfl) pa_nil))) (pe_one (pe_cmpR op_eq (pv 0) (pv 1) (nomark _)))))) pss_nil)
  (pss_cons (ps_if (PW.pt (pw_or (pt_cmpR op_ne (pe_callB call_isi (by rfl) z_isinstance (by decide +kernel) (pa_cons (pv 1) (pa_cons (pe_bltn (v := .ty "tuple") rfl z_tuple (by decide +kernel) rfl) pa_nil))) (pe_callB call_isi (by rfl) z_isinstance (by decide +kernel) (pa_cons (pv 0) (pa_cons (pe_bltn (v := .ty "tuple") rfl z_tuple (by decide +kernel) rfl) pa_nil))) (nomark _)) (pw_or1 (pt_cmpR op_ne (pe_callB call_isi (by rfl) z_isinstance (by decide +kernel) (pa_cons (pv 1) (pa_cons (pe_bltn (v := .ty "list") rfl z_list (by decide +kernel) rfl) pa_nil))) (pe_callB call_isi (by rfl) z_isinstance (by decide +kernel) (pa_cons (pv 0) (pa_cons (pe_bltn (v := .ty "list") rfl z_list (by decide +kernel) rfl) pa_nil))) (nomark _))))) (pss_one (ps_ret pe_bl)) pss_nil)
  (pss_cons (ps_if (pt_cmpR op_ne (pe_callB call_len_seq (by rfl) z_len (by decide +kernel) (pa_cons (pv 0) pa_nil)) (pe_callB call_len_seq (by rfl) z_len (by decide +kernel) (pa_cons (pv 1) pa_nil)) (nomark _)) (pss_one (ps_ret pe_bl)) pss_nil)
  (pss_cons (ps_for PassesOwn.never rfl (pi_range1 (by rfl) z_range (pa_cons (pe_callB call_len_seq (by rfl) z_len (by decide +kernel) (pa_cons (pv 1) pa_nil)) pa_nil)) (pg_name (i := 2) sc_law_alike.nd rfl (Or.inl rfl))
  (pss_one (ps_if (pt_not (pt_val (pe_cal c_law_alike hr (by first | decide | exact Nat.le_refl _) (pa_cons (pe_ix ix_lt (pv 0) (pv 2) (fun _ _ => rfl)) (pa_cons (pe_ix ix_lt (pv 1) (pv 2) (fun _ _ => rfl)) pa_nil))))) (pss_one (ps_ret pe_bl)) pss_nil)))
  (pss_one (ps_ret pe_bl))))))))), ?_⟩
    cases d with
    | non =>
      cases hu; cases hv
      exact ⟨_, rfl, rfl, _, rfl, iteT ⟨_, rfl, rfl, q⟩⟩
    | bl b =>
      cases hu; cases hv
      refine ⟨_, rfl, rfl, _, rfl, iteF ?_⟩
      refine ⟨_, rfl, _, _, .type "bool", _, true, rfl, .ty _, .base (.bl b), kit_ty (by decide +kernel), _, rfl, iteT ?_⟩
      refine ⟨_, rfl, _, _, .type "bool", _, true, rfl, .ty _, .base (.bl b), kit_ty (by decide +kernel), _, rfl, iteT ?_⟩
      refine ⟨_, rfl, _, rfl, rfl, ?_⟩
      rw [decide_eq_true rfl]; exact q
    | int i =>
      cases hu; cases hv
      refine ⟨_, rfl, rfl, _, rfl, iteF ?_⟩
      refine ⟨_, rfl, _, _, .type "int", _, false, rfl, .ty _, .base (.int i), kit_ty (by decide +kernel), _, rfl, iteF ?_⟩
      refine ⟨_, rfl, _, _, .type "int", _, true, rfl, .ty _, .base (.int i), kit_ty (by decide +kernel), _, rfl, iteT ?_⟩
      refine ⟨_, rfl, _, _, .type "int", _, true, rfl, .ty _, .base (.int i), kit_ty (by decide +kernel), _, rfl, iteT ?_⟩
      refine ⟨_, rfl, _, _, .type "int", _, false, rfl, .ty _, .base (.int i), kit_ty (by decide +kernel), _, rfl, _, rfl, iteT ?_⟩
      refine ⟨_, rfl, _, rfl, rfl, ?_⟩
      rw [decide_eq_true rfl]; exact q
    | str x =>
      cases hu; cases hv
      refine ⟨_, rfl, rfl, _, rfl, iteF ?_⟩
      refine ⟨_, rfl, _, _, .type "str", _, false, rfl, .ty _, .base (.str x), kit_ty (by decide +kernel), _, rfl, iteF ?_⟩
      refine ⟨_, rfl, _, _, .type "str", _, false, rfl, .ty _, .base (.str x), kit_ty (by decide +kernel), _, rfl, iteF ?_⟩
      refine ⟨_, rfl, _, _, .type "str", _, true, rfl, .ty _, .base (.str x), kit_ty (by decide +kernel), _, rfl, iteT ?_⟩
      refine ⟨_, rfl, _, _, .type "str", _, true, rfl, .ty _, .base (.str x), kit_ty (by decide +kernel), _, rfl, iteT ?_⟩
      refine ⟨_, rfl, _, rfl, rfl, ?_⟩
      rw [decide_eq_true rfl]; exact q
    | tup ds =>
      simp only [D.sm, Bool.and_eq_true, decide_eq_true_eq] at hs
      rw [D.dep] at hd
      cases hu with
      | tup ha hxs =>
        cases hv with
        | tup hb hys =>
          rename_i a xs b ys
          refine ⟨_, rfl, rfl, _, rfl, iteF ?_⟩
          refine ⟨_, rfl, _, _, .type "tuple", _, false, rfl, .ty _, .base (.tup hb), kit_ty (by decide +kernel), _, rfl, iteF ?_⟩
          refine ⟨_, rfl, _, _, .type "tuple", _, false, rfl, .ty _, .base (.tup hb), kit_ty (by decide +kernel), _, rfl, iteF ?_⟩
          refine ⟨_, rfl, _, _, .type "tuple", _, false, rfl, .ty _, .base (.tup hb), kit_ty (by decide +kernel), _, rfl, iteF ?_⟩
          refine ⟨_, rfl, _, _, .type "tuple", _, true, rfl, .ty _, .base (.tup hb), kit_ty (by decide +kernel), _, rfl, _, _, .type "tuple", _, true, rfl, .ty _, .base (.tup ha), kit_ty (by decide +kernel), rfl, _, rfl, iteF ?_⟩
          refine ⟨_, rfl, _, _, .type "tuple", _, false, rfl, .ty _, .base (.tup hb), kit_ty (by decide +kernel), _, rfl, _, _, .type "tuple", _, false, rfl, .ty _, .base (.tup ha), kit_ty (by decide +kernel), rfl, _, rfl, iteF ?_⟩
          refine ⟨_, rfl, a, _, rfl, .inr (sqT_t ha), _, rfl, b, _, rfl, .inr (sqT_t hb), rfl, _, rfl, ite2 (fun e => ?_) (fun _ => ?_)⟩
          · rw [hxs.len, hys.len] at e
            simp at e
          · refine ⟨_, rfl, b, _, rfl, .inr (sqT_t hb), _, rfl, by omega, by have := hys.len; omega, ?_⟩
            refine for_it (walk_range (lo := 0) (n := (ys.length : Int).toNat)) (fun i σ H' => ∃ y, σ = [some (.ref a), some (.ref b), y] ∧ H' = H) ⟨_, rfl, rfl⟩ (fun _ _ _ _ _ => trivial) (fun i x σ H1 H2 hi hp hy => ?_) (fun σ H1 hp => ?_)
            · obtain ⟨y, rfl, rfl⟩ := hp
              obtain ⟨rfl, rfl⟩ := hy
              have hi' : i < ys.length := by simpa using hi
              obtain ⟨d, hd1, py⟩ := hys.get' (List.getElem?_eq_getElem hi')
              obtain ⟨x, hx, px⟩ := hxs.get hd1
              have e0 : ((0 : Int) + (i : Int)) = (i : Nat) := by omega
              refine ⟨_, rfl, _, rfl, a, xs, (0 + (i : Int)), x, rfl, rfl, sqA_t ha, by rw [e0]; exact atI_nat hx, _, rfl, _, rfl, b, ys, (0 + (i : Int)), _, rfl, rfl, sqA_t hb, by rw [e0]; exact atI_nat (List.getElem?_eq_getElem hi'), ?_⟩
              refine ⟨_, _, d, rfl, px, py, by have := deps_get hd1; omega, sm_get hs.2 hd1, _, rfl, iteF ?_⟩
              exact ⟨_, rfl, rfl⟩
            · obtain ⟨y, rfl, rfl⟩ := hp
              exact q
    | lst ds =>
      simp only [D.sm, Bool.and_eq_true, decide_eq_true_eq] at hs
      rw [D.dep] at hd
      cases hu with
      | lst ha hxs =>
        cases hv with
        | lst hb hys =>
          rename_i a xs b ys
          refine ⟨_, rfl, rfl, _, rfl, iteF ?_⟩
          refine ⟨_, rfl, _, _, .type "list", _, false, rfl, .ty _, .base (.lst hb), kit_ty (by decide +kernel), _, rfl, iteF ?_⟩
          refine ⟨_, rfl, _, _, .type "list", _, false, rfl, .ty _, .base (.lst hb), kit_ty (by decide +kernel), _, rfl, iteF ?_⟩
          refine ⟨_, rfl, _, _, .type "list", _, false, rfl, .ty _, .base (.lst hb), kit_ty (by decide +kernel), _, rfl, iteF ?_⟩
          refine ⟨_, rfl, _, _, .type "list", _, false, rfl, .ty _, .base (.lst hb), kit_ty (by decide +kernel), _, rfl, _, _, .type "list", _, false, rfl, .ty _, .base (.lst ha), kit_ty (by decide +kernel), rfl, _, rfl, iteF ?_⟩
          refine ⟨_, rfl, _, _, .type "list", _, true, rfl, .ty _, .base (.lst hb), kit_ty (by decide +kernel), _, rfl, _, _, .type "list", _, true, rfl, .ty _, .base (.lst ha), kit_ty (by decide +kernel), rfl, _, rfl, iteF ?_⟩
          refine ⟨_, rfl, a, _, rfl, .inl (sqL_l ha), _, rfl, b, _, rfl, .inl (sqL_l hb), rfl, _, rfl, ite2 (fun e => ?_) (fun _ => ?_)⟩
          · rw [hxs.len, hys.len] at e
            simp at e
          · refine ⟨_, rfl, b, _, rfl, .inl (sqL_l hb), _, rfl, by omega, by have := hys.len; omega, ?_⟩
            refine for_it (walk_range (lo := 0) (n := (ys.length : Int).toNat)) (fun i σ H' => ∃ y, σ = [some (.ref a), some (.ref b), y] ∧ H' = H) ⟨_, rfl, rfl⟩ (fun _ _ _ _ _ => trivial) (fun i x σ H1 H2 hi hp hy => ?_) (fun σ H1 hp => ?_)
            · obtain ⟨y, rfl, rfl⟩ := hp
              obtain ⟨rfl, rfl⟩ := hy
              have hi' : i < ys.length := by simpa using hi
              obtain ⟨d, hd1, py⟩ := hys.get' (List.getElem?_eq_getElem hi')
              obtain ⟨x, hx, px⟩ := hxs.get hd1
              have e0 : ((0 : Int) + (i : Int)) = (i : Nat) := by omega
              refine ⟨_, rfl, _, rfl, a, xs, (0 + (i : Int)), x, rfl, rfl, sqA_l ha, by rw [e0]; exact atI_nat hx, _, rfl, _, rfl, b, ys, (0 + (i : Int)), _, rfl, rfl, sqA_l hb, by rw [e0]; exact atI_nat (List.getElem?_eq_getElem hi'), ?_⟩
              refine ⟨_, _, d, rfl, px, py, by have := deps_get hd1; omega, sm_get hs.2 hd1, _, rfl, iteF ?_⟩
              exact ⟨_, rfl, rfl⟩
            · obtain ⟨y, rfl, rfl⟩ := hp
              exact q
end
end Vt
namespace Vt
open PySem PySem.Spec PyProof.Rows L2
def kindWords : List Str := ["set", "set", "add", "say", "say", "start", "start", "wait", "clean", "drop"]
section
variable {P : Program} {w : World} {K : PySem.W.Frag} {mg : Str → Option Value} {base : Heap}
abbrev st_law_kinds : Stmt := (topS 58)
abbrev nm_law_kinds : List Str := []
theorem sc_law_kinds : FnScope [] [] (defScope st_law_kinds) := ⟨rfl, rfl, rfl, by decide +kernel, rfl, by decide +kernel, by decide +kernel⟩
def spKinds (ws : List Str) : Sp := fun vs H Q _ => vs = [] ∧ ∀ (H' : Hp) (p : Addr), Same H H' → H p = none → H' p = some (.lst (ws.map V.str)) → Q (.ref p) H'
theorem ok_kinds {f : Addr} {fd : FuncData} (F : Fun K "_law_kinds" "_law_kinds" st_law_kinds f fd) : FnOk P w K mg base CX0 1 f fd [] (spKinds kindWords) := by
  refine F.ok sc_law_kinds (fun vs H Q E h => ?_) (fun cdv A outer s H vs Q E hr h => ?_)
  · obtain ⟨rfl, _⟩ := h
    rfl
  · obtain ⟨rfl, q⟩ := h
    refine ⟨_, (pss_one (ps_ret (pe_lst (pa_cons pe_str (pa_cons pe_str (pa_cons pe_str (pa_cons pe_str (pa_cons pe_str (pa_cons pe_str (pa_cons pe_str (pa_cons pe_str (pa_cons pe_str (pa_cons pe_str pa_nil))))))))))))), ?_⟩
    exact ⟨by show 10 ≤ sizeLine; decide, fun p np => q _ p (same_new np) np upd_same⟩
end
end Vt
namespace Vt
open PySem PySem.Spec PyProof.Rows L2
/-! ### the asker's fence at any place -/
section
variable {P : Program} {w : World} {K : PySem.W.Frag} {mg : Str → Option Value} {base : Heap}
abbrev st_law_fence : Stmt := (topS 56)
abbrev nm_law_fence : List Str := ["_law_box", "_law_board_here", "_law_line", "_law_deed_here"]
theorem sc_law_fence : FnScope ["_law_box", "_law_board_here", "_law_line", "_law_deed_here"] ["_law_box", "_law_board_here"] (defScope st_law_fence) := ⟨rfl, rfl, rfl, by decide +kernel, rfl, by decide +kernel, by decide +kernel⟩
def spLFence : Sp := fun vs H Q _ => ∃ (b l : Addr) (v : V) (B : Brd), vs = [.ref b, v] ∧ Box H b l ∧ Pd H v B.d ∧ BrdOk B ∧ ∀ (H' : Hp) (r : Addr) (x : Fc), Box H' b l → But [b, l] H H' → FcOk B x → Pd H' (.ref r) (fcD x) → Q (.ref r) H'
set_option maxHeartbeats 0 in
theorem ok_lfence {f : Addr} {fd : FuncData} (F : Fun K "_law_fence" "_law_fence" st_law_fence f fd) (c_law_take : Callee P w K mg base "_law_take" 1 2 spTake) (z_len : mg "len" = none) : FnOk P w K mg base CX0 2 f fd ["_law_box", "_law_board_here"] spLFence := by
  refine F.ok sc_law_fence (fun vs H Q E h => ?_) (fun cdv A outer s H vs Q E hr h => ?_)
  · obtain ⟨b, l, v, B, rfl, _⟩ := h
    rfl
  · obtain ⟨b, l, v, B, rfl, hB, hv, ok, q⟩ := h
    obtain ⟨a, m, o, p, os, ps, rfl, ha, hm, ho, hos, hp, hps⟩ := Brd.of hv
    have pl : ps.length = B.prog.length := by rw [hps.len, List.length_map]
    obtain ⟨n, hn⟩ : ∃ n, n = B.mem.length / 4 := ⟨_, rfl⟩
    have n4 : n ≤ 4 ∧ 1 ≤ n := by have := ok.cells; omega
    have en : (((B.mem.map nV).length : Nat) : Int) / 4 = ((n : Nat) : Int) := by rw [List.length_map, hn]; omega
    refine ⟨_, (pss_cons (ps_set (i := 2) sc_law_fence.nd rfl (Or.inl rfl) (pe_cal c_law_take hr (by first | decide | exact Nat.le_refl _) (pa_cons (pv 0) (pa_cons (pe_op op_fdiv (pe_callB call_len_seq (by rfl) z_len (by decide +kernel) (pa_cons (pe_ix ix_lt (pv 1) pe_int (fun _ _ => rfl)) pa_nil)) pe_int) pa_nil))))
  (pss_cons (ps_set (i := 3) sc_law_fence.nd rfl (Or.inl rfl) (pe_ix ix_lt (pe_lst (pa_cons (pe_tup (pa_cons pe_str pa_nil)) (pa_cons (pe_tup (pa_cons pe_str (pa_cons (pv 2) pa_nil))) (pa_cons (pe_tup (pa_cons pe_str (pa_cons (pv 2) pa_nil))) pa_nil)))) (pe_cal c_law_take hr (by first | decide | exact Nat.le_refl _) (pa_cons (pv 0) (pa_cons pe_int pa_nil))) (fun _ _ => rfl)))
  (pss_one (ps_ret (pe_tup (pa_cons (pe_cal c_law_take hr (by first | decide | exact Nat.le_refl _) (pa_cons (pv 0) (pa_cons (pe_op op_add (pe_callB call_len_seq (by rfl) z_len (by decide +kernel) (pa_cons (pe_ix ix_lt (pv 1) pe_int (fun _ _ => rfl)) pa_nil)) pe_int) pa_nil))) (pa_cons (pv 3) pa_nil))))))), ?_⟩
    refine ⟨_, rfl, _, rfl, a, _, 0, .ref m, rfl, rfl, sqA_t ha, rfl, m, _, rfl, .inr (sqT_t hm), _, _, rfl, rfl, ⟨by decide, by decide⟩, ?_⟩
    refine ⟨b, l, _, n, rfl, en, hB, by omega, by omega, fun H1 ln hB1 bt1 hln => ?_⟩
    have ha1 := But.tup bt1 hB.lsts ha
    have hp1 := But.tup bt1 hB.lsts hp
    -- [("wait",), ("clean", line), ("drop", line)]
    refine ⟨by show 1 ≤ sizeLine; decide, fun T1 n1 => ?_⟩
    have s1 := same_new (o := .tup [.str "wait"]) n1
    have h1 : (upd H1 T1 (.tup [.str "wait"])) T1 = some (.tup [.str "wait"]) := upd_same
    generalize upd H1 T1 (.tup [.str "wait"]) = G1 at s1 h1
    refine ⟨_, rfl, by show 2 ≤ sizeLine; decide, fun T2 n2 => ?_⟩
    have s2 := same_new (o := .tup [.str "clean", nV ln]) n2
    have h2 : (upd G1 T2 (.tup [.str "clean", nV ln])) T2 = some (.tup [.str "clean", nV ln]) := upd_same
    generalize upd G1 T2 (.tup [.str "clean", nV ln]) = G2 at s2 h2
    refine ⟨_, rfl, by show 2 ≤ sizeLine; decide, fun T3 n3 => ?_⟩
    have s3 := same_new (o := .tup [.str "drop", nV ln]) n3
    have h3 : (upd G2 T3 (.tup [.str "drop", nV ln])) T3 = some (.tup [.str "drop", nV ln]) := upd_same
    generalize upd G2 T3 (.tup [.str "drop", nV ln]) = G3 at s3 h3
    refine ⟨by show 3 ≤ sizeLine; decide, fun L0 n0 => ?_⟩
    have s4 := same_new (o := .lst [.ref T1, .ref T2, .ref T3]) n0
    have h4 : (upd G3 L0 (.lst [.ref T1, .ref T2, .ref T3])) L0 = some (.lst [.ref T1, .ref T2, .ref T3]) := upd_same
    have s14 := ((s1.trans s2).trans s3).trans s4
    have t1 := s4 _ _ (s3 _ _ (s2 _ _ h1))
    have t2 := s4 _ _ (s3 _ _ h2)
    have t3 := s4 _ _ h3
    have hB4 := hB1.same s14
    have nL : L0 ∉ [b, l] := fun z => by
      obtain ⟨ys, e⟩ := (hB1.same ((s1.trans s2).trans s3)).lsts _ z
      rw [n0] at e; cases e
    generalize upd G3 L0 (.lst [.ref T1, .ref T2, .ref T3]) = G4 at s4 h4 s14 t1 t2 t3 hB4
    refine ⟨_, rfl, b, l, 3, 3, rfl, rfl, hB4, by decide, by decide, fun H2 r hB2 bt2 hr3 => ?_⟩
    have h4' := bt2 _ _ nL h4
    have u1 := But.tup bt2 hB4.lsts t1
    have u2 := But.tup bt2 hB4.lsts t2
    have u3 := But.tup bt2 hB4.lsts t3
    have bt12 : But [b, l] H H2 := (bt1.trans (Same.but s14)).trans bt2
    obtain ⟨Td, d, hd, hTd, hdw, hdo⟩ : ∃ (Td : Addr) (d : Deed), ([V.ref T1, V.ref T2, V.ref T3] : List V)[r]? = some (.ref Td) ∧ H2 Td = some (.tup d.vs) ∧ (d.word = ("wait" : Str) ∨ d.word = ("clean" : Str) ∨ d.word = ("drop" : Str)) ∧ DeedOk d B.ords.length B.mem.length := by
      rcases (show r = 0 ∨ r = 1 ∨ r = 2 by omega) with rfl | rfl | rfl
      · exact ⟨T1, .wait, rfl, u1, .inl rfl, trivial⟩
      · exact ⟨T2, .clean ln, rfl, u2, .inr (.inl rfl), (by show ln < B.mem.length / 4; omega)⟩
      · exact ⟨T3, .drop ln, rfl, u3, .inr (.inr rfl), (by show ln < B.mem.length / 4; omega)⟩
    refine ⟨L0, _, (r : Nat), .ref Td, rfl, rfl, sqA_l h4', atI_nat hd, ?_⟩
    have ha2 := But.tup bt12 hB.lsts ha
    have hp2 := But.tup bt12 hB.lsts hp
    -- the place
    refine ⟨_, rfl, _, rfl, a, _, 2, .ref p, rfl, rfl, sqA_t ha2, rfl, p, _, rfl, .inr (sqT_t hp2), _, _, rfl, rfl, ?_⟩
    refine ⟨b, l, _, B.prog.length + 1, rfl, by rw [pl]; rfl, hB2, by omega, by have := ok.sixty; omega, fun H3 pl3 hB3 bt3 hpl => ?_⟩
    refine ⟨_, rfl, by show 2 ≤ sizeLine; decide, fun R nR => ?_⟩
    have sR := same_new (o := .tup [nV pl3, .ref Td]) nR
    refine q _ R (pl3, d) (hB3.same sR) ((bt12.trans bt3).trans (Same.but sR)) ⟨by omega, hdw, hdo⟩ (Fc.pd upd_same (sR _ _ (But.tup bt3 hB2.lsts hTd)))
end
end Vt
namespace Vt
open PySem PySem.Spec PyProof.Rows L2
/-! ### data compared with a written [] or a written tuple of one word -/
mutual
def D.py : D → PyData
  | .non => .none
  | .bl b => .bool b
  | .int i => .int i
  | .str x => .str x
  | .tup ds => .tuple (pys ds)
  | .lst ds => .list (pys ds)
def pys : List D → List PyData
  | [] => []
  | d :: ds => d.py :: pys ds
end
section
variable {K : PySem.W.Frag} {H : Hp}
mutual
theorem Pd.dp : ∀ {d : D} {v : V}, Pd H v d → Dp K H v d.py
  | .non, _, .non => by rw [D.py]; exact .non
  | .bl _, _, .bl b => by rw [D.py]; exact .bl b
  | .int _, _, .int b => by rw [D.py]; exact .int b
  | .str _, _, .str b => by rw [D.py]; exact .str b
  | .tup _, _, .tup h hs => by rw [D.py]; exact .tup (sqT_t h) (Pds.dp hs)
  | .lst _, _, .lst h hs => by rw [D.py]; exact .lst (sqL_l h) (Pds.dp hs)
theorem Pds.dp : ∀ {ds : List D} {vs : List V}, Pds H vs ds → DpAll K H vs (pys ds)
  | [], _, .nil => by rw [pys]; exact .nil
  | _ :: _, _, .cons h hs => by rw [pys]; exact .cons (Pd.dp h) (Pds.dp hs)
end
mutual
theorem dep_py : ∀ d : D, d.py.depth = d.dep
  | .non => by simp [D.py, PyData.depth, D.dep]
  | .bl _ => by simp [D.py, PyData.depth, D.dep]
  | .int _ => by simp [D.py, PyData.depth, D.dep]
  | .str _ => by simp [D.py, PyData.depth, D.dep]
  | .tup ds => by simp [D.py, PyData.depth, D.dep, deps_py ds]
  | .lst ds => by simp [D.py, PyData.depth, D.dep, deps_py ds]
theorem deps_py : ∀ ds : List D, PyData.depthAll (pys ds) = deps ds
  | [] => by simp [pys, PyData.depthAll, deps]
  | d :: ds => by simp [pys, PyData.depthAll, deps, dep_py d, deps_py ds]
end
end
end Vt
namespace Vt
open PySem PySem.Spec PyProof.Rows L2
/-! ### data whose texts can be -/
mutual
def D.lay : D → Bool
  | .str x => PyData.strOk x
  | .tup ds => lays ds
  | .lst ds => lays ds
  | _ => true
def lays : List D → Bool
  | [] => true
  | d :: ds => d.lay && lays ds
end
mutual
theorem can_py : ∀ d : D, PyData.canLay0 d.py = d.lay
  | .non => rfl
  | .bl _ => rfl
  | .int _ => rfl
  | .str _ => by simp [D.py, D.lay, PyData.canLay0]
  | .tup ds => by rw [D.py, PyData.canLay0, D.lay, can_pys ds]
  | .lst ds => by rw [D.py, PyData.canLay0, D.lay, can_pys ds]
theorem can_pys : ∀ ds : List D, PyData.canLayAll0 (pys ds) = lays ds
  | [] => by simp [pys, lays, PyData.canLayAll0]
  | d :: ds => by rw [pys, PyData.canLayAll0, lays, can_py d, can_pys ds]
end
theorem shp_py {d : D} (h1 : d.lay = true) (h2 : d.dep ≤ 64) : SeqAt.shaped d.py = true := by
  unfold SeqAt.shaped
  rw [can_py, dep_py, h1, decide_eq_true h2]; rfl
theorem eqv_py {d : D} (h1 : d.lay = true) : PyData.eqv d.py d.py = true := PySem.SeqAt.eqv_refl _ (by rw [can_py]; exact h1)
/-- the same data, asked whether they differ -/
theorem ne_same {K : PySem.W.Frag} {H : Hp} {u v : V} {d : D} {Q : VK} (hu : Pd H u d) (hv : Pd H v d) (h1 : d.lay = true) (h2 : d.dep ≤ 64) (q : Q (.bl false) H) : rNeD K u v H Q :=
  ⟨d.py, d.py, hu.dp, hv.dp, shp_py h1 h2, shp_py h1 h2, by rw [eqv_py h1]; exact q⟩
theorem lays_map {α : Type} {g : α → D} (h : ∀ x, (g x).lay = true) : ∀ xs : List α, lays (xs.map g) = true
  | [] => by rw [List.map_nil, lays]
  | x :: r => by rw [List.map_cons, lays, h x, lays_map h r]; rfl
theorem deps_map {α : Type} {g : α → D} {k : Nat} (h : ∀ x, (g x).dep ≤ k) : ∀ xs : List α, deps (xs.map g) ≤ k
  | [] => by rw [List.map_nil, deps]; exact Nat.zero_le _
  | x :: r => by rw [List.map_cons, deps]; exact Nat.max_le.mpr ⟨h x, deps_map h r⟩
end Vt
namespace Vt
open PySem PySem.Spec PyProof.Rows L2
section
variable {B : Brd}
theorem putTo_upto {prog : List Deed} {fs : List Fc} : ∀ i, (putTo prog fs i).length ≤ (prog.take i).length + (fs.filter fun x => decide (x.1 < i)).length
  | 0 => Nat.zero_le _
  | i + 1 => by
    have ih := putTo_upto (prog := prog) (fs := fs) i
    have e1 : (prog.take (i + 1)).length = (prog.take i).length + prog[i]?.toList.length := by rw [List.take_add_one, List.length_append]
    have e2 : ∀ fs : List Fc, (fs.filter fun x => decide (x.1 < i + 1)).length = (fs.filter fun x => decide (x.1 < i)).length + (fs.filter fun x => decide (x.1 = i)).length := by
      intro fs
      induction fs with
      | nil => rfl
      | cons x r ih =>
        simp only [List.filter_cons]
        rcases Nat.lt_trichotomy x.1 i with h | h | h
        · rw [if_pos (by simp; omega), if_pos (by simpa using h), if_neg (by simp; omega)]
          simp only [List.length_cons]; omega
        · rw [if_pos (by simp; omega), if_neg (by simp; omega), if_pos (by simpa using h)]
          simp only [List.length_cons]; omega
        · rw [if_neg (by simp; omega), if_neg (by simp; omega), if_neg (by simp; omega)]
          exact ih
    rw [putTo, List.length_append, List.length_append, List.length_map, e1, e2]
    omega
theorem putIn_len {fs : List Fc} : (putIn B fs).prog.length ≤ B.prog.length + fs.length := by
  have := putTo_upto (prog := B.prog) (fs := fs) (B.prog.length + 1)
  rw [List.take_of_length_le (by omega)] at this
  exact Nat.le_trans this (Nat.add_le_add_left (List.length_filter_le _ _) _)
theorem putTo_deeds {prog : List Deed} {fs : List Fc} : ∀ i, ∀ d ∈ putTo prog fs i, d ∈ prog ∨ ∃ x ∈ fs, x.2 = d
  | 0 => fun d h => by cases h
  | i + 1 => fun d h => by
    rw [putTo] at h
    rcases List.mem_append.mp h with h | h
    · exact putTo_deeds i d h
    · rcases List.mem_append.mp h with h | h
      · obtain ⟨x, hx, rfl⟩ := List.mem_map.mp h
        exact .inr ⟨x, (List.mem_filter.mp hx).1, rfl⟩
      · left
        cases e : prog[i]? with
        | none => rw [e] at h; cases h
        | some y =>
          rw [e] at h
          rw [show d = y from by simpa using h]
          exact List.mem_of_getElem? e
theorem putTo_starts {prog : List Deed} {fs : List Fc} (h : ∀ x ∈ fs, isStart x.2 = false) : ∀ i, (putTo prog fs i).filter isStart = (prog.take i).filter isStart
  | 0 => rfl
  | i + 1 => by
    rw [putTo, List.filter_append, putTo_starts h i, List.filter_append, List.take_add_one, List.filter_append]
    congr 1
    rw [List.filter_eq_nil_iff.mpr, List.nil_append]
    intro d hd
    obtain ⟨x, hx, rfl⟩ := List.mem_map.mp hd
    rw [h x (List.mem_filter.mp hx).1]; decide
end
end Vt
namespace Vt
open PySem PySem.Spec PyProof.Rows L2
/-! ### fences that cannot be, boards that get too long -/
theorem fc_not {B : Brd} {x : Fc} (h : FcOk B x) : isStart x.2 = false := by
  obtain ⟨p, d⟩ := x
  have hw := h.word
  cases d with
  | start k => exact absurd hw (by show ¬ (("start" : Str) = "wait" ∨ ("start" : Str) = "clean" ∨ ("start" : Str) = "drop"); decide)
  | _ => rfl
theorem putIn_okF {B : Brd} (ok : BrdOk B) {fs : List Fc} (hf : ∀ x ∈ fs, FcOk B x) (h : B.prog.length + fs.length ≤ 60) : BrdOk (putIn B fs) := by
  have l := putIn_len (B := B) (fs := fs)
  refine ⟨ok.cells, ok.nums, ok.four, ok.ords, Nat.le_trans l h, fun d hd => ?_, ?_⟩
  · rcases putTo_deeds _ d hd with h | ⟨x, hx, rfl⟩
    · exact ok.prog d h
    · exact (hf x hx).deed
  · show ((putTo B.prog fs (B.prog.length + 1)).filter isStart).length ≤ 3
    rw [putTo_starts (fun x hx => fc_not (hf x hx)), List.take_of_length_le (by omega)]
    exact ok.starts
/-- the odd ones of the law -/
def odds (many lines : Nat) (far : Int) : List RFc := [(0, ⟨"say", [0]⟩), (0, ⟨"start", [0]⟩), (0, ⟨"set", [0, 1]⟩), (-1, ⟨"wait", []⟩), (0, ⟨"drop", [-1]⟩), ((many : Int) + 1, ⟨"wait", []⟩), ((many : Int) + 1 + far, ⟨"clean", [0]⟩), (0, ⟨"clean", [(lines : Int)]⟩), (0, ⟨"wait", [0]⟩), (0, ⟨"clean", []⟩), (0, ⟨"none", [0]⟩)]
theorem odds_bad {n : Nat} {cnt cells : Nat} {far : Int} (hf : 0 ≤ far) : ∀ x ∈ odds n (cells / 4) far, fenceOk n (cnt : Int) (cells : Int) x = false := by
  have w1 : ∀ z : Str, (z = "say" ∨ z = "start" ∨ z = "set" ∨ z = "none") → ∀ (p : Int) (ns : List Int), fenceOk n (cnt : Int) (cells : Int) (p, ⟨z, ns⟩) = false := by
    intro z hz p ns
    have : ¬ (z = "wait" ∨ z = "clean" ∨ z = "drop") := by
      rcases hz with rfl | rfl | rfl | rfl <;> decide
    unfold fenceOk
    rw [decide_eq_false this]; simp
  have d1 : ∀ (p : Int) (d : RDeed), deedCan (cnt : Int) (cells : Int) d = false → fenceOk n (cnt : Int) (cells : Int) (p, d) = false := by
    intro p d e
    unfold fenceOk
    rw [e]; simp
  have p1 : ∀ (p : Int) (d : RDeed), p < 0 ∨ (n : Int) < p → fenceOk n (cnt : Int) (cells : Int) (p, d) = false := by
    intro p d e
    unfold fenceOk
    rcases e with e | e
    · rw [decide_eq_false (show ¬ (0 : Int) ≤ p by omega)]; rfl
    · rw [decide_eq_false (show ¬ p ≤ (n : Int) by omega)]; simp
  have kw : kindsOf "wait" = (some [] : Option (List Str)) := by decide
  have kc : kindsOf "clean" = (some ["line"] : Option (List Str)) := by decide
  have kd : kindsOf "drop" = (some ["line"] : Option (List Str)) := by decide
  have cl : cap (cnt : Int) (cells : Int) "line" = (cells : Int) / 4 := rfl
  intro x hx
  simp only [odds, List.mem_cons, List.not_mem_nil, or_false] at hx
  rcases hx with rfl | rfl | rfl | rfl | rfl | rfl | rfl | rfl | rfl | rfl | rfl
  · exact w1 _ (by decide) _ _
  · exact w1 _ (by decide) _ _
  · exact w1 _ (by decide) _ _
  · exact p1 _ _ (.inl (by decide))
  · exact d1 _ _ (by simp only [deedCan, kd, numsCan, cl]; rfl)
  · exact p1 _ _ (.inr (by omega))
  · exact p1 _ _ (.inr (by omega))
  · refine d1 _ _ ?_
    simp only [deedCan, kc, numsCan, cl, Bool.and_true]
    rw [decide_eq_false (show ¬ ((cells / 4 : Nat) : Int) < (cells : Int) / 4 by omega), Bool.and_false]
  · exact d1 _ _ (by simp only [deedCan, kw, numsCan])
  · exact d1 _ _ (by simp only [deedCan, kc, numsCan])
  · exact w1 _ (by decide) _ _
theorem odds_nums {n lines : Nat} {far : Int} : ∀ x ∈ odds n lines far, x.2.nums.length ≤ 1000 := by
  intro x hx
  simp only [odds, List.mem_cons, List.not_mem_nil, or_false] at hx
  rcases hx with rfl | rfl | rfl | rfl | rfl | rfl | rfl | rfl | rfl | rfl | rfl <;> simp
theorem bad_at {B : Brd} {fs : List Fc} (hf : ∀ x ∈ fs, FcOk B x) (h30 : fs.length ≤ 30) {x : RFc} (hx : fenceOk B.prog.length (B.ords.length : Nat) (B.mem.length : Nat) x = false) {n : Nat} (hn : n ≤ fs.length) (rest : List RFc) :
    firstBad B ((fs.take n).map Fc.raw ++ x :: rest) = some n := by
  have tl : ((fs.take n).map Fc.raw).length = n := by rw [List.length_map, List.length_take]; omega
  have e := fst_some (p := badFence B.prog.length (B.ords.length : Nat) (B.mem.length : Nat)) (xs := (fs.take n).map Fc.raw ++ x :: rest) (k := 0) (i := n) (x := x) (by
      rw [List.getElem?_append_right (by omega), tl, Nat.sub_self]; rfl) (by rw [badFence, hx]; simp) (fun j y hj ej => by
      rw [List.getElem?_append_left (by omega), List.getElem?_map] at ej
      obtain ⟨z, hz, rfl⟩ : ∃ z, (fs.take n)[j]? = some z ∧ z.raw = y := by simpa using ej
      rw [badFence, fence_ok (hf z (List.mem_of_mem_take (List.mem_of_getElem? hz))), decide_eq_false (by omega)]; rfl)
  rw [Nat.zero_add] at e
  exact e
theorem bad_wide {B : Brd} {x : Fc} (hx : FcOk B x) {n : Nat} (hn : 31 ≤ n) : firstBad B (List.replicate n x.raw) = some 30 := by
  have e := fst_some (p := badFence B.prog.length (B.ords.length : Nat) (B.mem.length : Nat)) (xs := List.replicate n x.raw) (k := 0) (i := 30) (x := x.raw) (by
      rw [List.getElem?_replicate, if_pos (by omega)]) (by rw [badFence]; simp) (fun j y hj ej => by
      have := List.eq_of_mem_replicate (List.mem_of_getElem? ej)
      subst this
      rw [badFence, fence_ok hx, decide_eq_false (by omega)]; rfl)
  rw [Nat.zero_add] at e
  exact e
/-- the board of 55 waits, six more put in -/
def Brd.long (B : Brd) : Brd := ⟨B.mem, B.ords, List.replicate 55 .wait⟩
def six : List Fc := List.replicate 6 (0, .wait)
theorem long_ok {B : Brd} (ok : BrdOk B) : BrdOk B.long := by
  refine ⟨ok.cells, ok.nums, ok.four, ok.ords, by show (List.replicate 55 Deed.wait).length ≤ 60; decide, fun d hd => ?_, by show ((List.replicate 55 Deed.wait).filter isStart).length ≤ 3; decide⟩
  rw [List.eq_of_mem_replicate hd]; exact True.intro
theorem six_ok {B : Brd} : ∀ x ∈ six, FcOk B.long x := fun x hx => by
  rw [List.eq_of_mem_replicate hx]
  exact ⟨Nat.zero_le _, .inl rfl, True.intro⟩
theorem put_six {B : Brd} : (putIn B.long six).prog = List.replicate 61 .wait := by
  simp only [putIn, Brd.long]
  rw [List.length_replicate]
  decide +kernel
theorem put_long {B : Brd} : putIn B.long six = ⟨B.mem, B.ords, List.replicate 61 .wait⟩ := by
  have h := put_six (B := B)
  have e : putIn B.long six = ⟨(putIn B.long six).mem, (putIn B.long six).ords, (putIn B.long six).prog⟩ := by cases putIn B.long six; rfl
  rw [e, h]
  unfold putIn Brd.long
  rfl
theorem wrong_six {B : Brd} (ok : BrdOk B) : wrongB (putIn B.long six).raw = some (("program" : Str), 60) := by
  have okL := long_ok ok
  rw [put_long]
  have em : (Brd.raw ⟨B.mem, B.ords, List.replicate 61 .wait⟩).mem = B.long.raw.mem := rfl
  have eo : (Brd.raw ⟨B.mem, B.ords, List.replicate 61 .wait⟩).ords = B.long.raw.ords := rfl
  have ep : (Brd.raw ⟨B.mem, B.ords, List.replicate 61 .wait⟩).prog = List.replicate 61 ⟨"wait", []⟩ := by
    show (List.replicate 61 Deed.wait).map Deed.raw = _
    rw [List.map_replicate]; rfl
  have h1 : B.long.raw.mem.length = B.mem.length := by simp [Brd.raw, Brd.long]
  have h2 : B.long.raw.ords.length = B.ords.length := by simp [Brd.raw, Brd.long]
  have e2 : fwOrd B.long.raw.ords B.mem.length = none := ok_ords okL
  have kw : kindsOf "wait" = (some [] : Option (List Str)) := by decide
  have e3 : fwDeed (List.replicate 61 ⟨"wait", []⟩) (B.ords.length : Nat) (B.mem.length : Nat) = some 60 := by
    have e := fst_some (p := badDeed (List.replicate 61 ⟨"wait", []⟩) (B.ords.length : Nat) (B.mem.length : Nat)) (xs := List.replicate 61 ⟨"wait", []⟩) (k := 0) (i := 60) (x := ⟨"wait", []⟩) (by
      rw [List.getElem?_replicate, if_pos (by omega)]) (by rw [badDeed]; simp) (fun j y hj ej => by
      have := List.eq_of_mem_replicate (List.mem_of_getElem? ej)
      subst this
      have es : (((List.replicate 61 (⟨"wait", []⟩ : RDeed)).take (0 + j + 1)).filter rStart) = [] := by
        refine List.filter_eq_nil_iff.mpr fun d hd => ?_
        rw [List.eq_of_mem_replicate (List.mem_of_mem_take hd)]
        decide
      rw [badDeed, es, decide_eq_false (by omega)]
      simp only [deedCan, kw, numsCan]; rfl)
    rw [Nat.zero_add] at e
    exact e
  simp only [wrongB, em, eo, ep, ok_mem okL, h1, h2, e2, e3]
theorem raw_six {K : PySem.W.Frag} {w : World} {dd : Addr} {B : Brd} (ok : BrdOk B) : RawOk K w dd (putIn B.long six).raw := by
  obtain ⟨h1, h2⟩ : (∀ d ∈ (putIn B.long six).raw.prog, d.nums.length ≤ 1000) ∧ (∀ d ∈ (putIn B.long six).raw.prog, kindsOf d.word = none → KMiss K w dd d.word) := by
    rw [put_long]
    exact raw_ok (K := K) (w := w) (dd := dd) (B := ⟨B.mem, B.ords, List.replicate 61 .wait⟩) (by show (List.replicate 61 Deed.wait).length < 1000; rw [List.length_replicate]; decide) (by show B.mem.length < 1000; have := ok.cells; omega) (by show B.ords.length < 1000; have := ok.four; omega)
  refine ⟨h1, h2, fun z n e => ?_⟩
  rw [wrong_six ok] at e
  cases e; decide
end Vt
namespace Vt
open PySem PySem.Spec PyProof.Rows L2
theorem none_same {H H' : Hp} (s : Same H H') {a : Addr} (e : H' a = none) : H a = none := by
  cases h : H a with
  | none => rfl
  | some o => rw [s _ _ h] at e; cases e
theorem nil_or_snoc {α : Type} (l : List α) : l = [] ∨ ∃ r x, l = r ++ [x] := by
  rcases List.eq_nil_or_concat l with h | ⟨r, x, h⟩
  · exact .inl h
  · exact .inr ⟨r, x, by rw [h, List.concat_eq_append]⟩
end Vt
namespace Vt
open PySem PySem.Spec PyProof.Rows L2
theorem calleeN_mk {P : Program} {w : World} {K : PySem.W.Frag} {mg : Str → Option Value} {base h : Heap} {x : Str} {st : Stmt} {k n : Nat} {sp : Sp} {ps : List Str} (X : K.In h) (G : h.Ns mainGlobals mg) (hf : ∃ f, Found K x st f)
    (ok : ∀ (f : Addr) (fd : FuncData), Fun K x x st f fd → FnOk P w K mg base (L2N.CX P w) k f fd ps sp)
    (hb : ∀ (kV doc pm : Value) (an : Option Addr) (cdv ct : Value) (us : List Value), us.length = ps.length → bindArgs (PySem.W.fnOf x x (defArgs st) (defBody st) (defScope st) .none kV doc pm an cdv ct) ⟨us, []⟩ = pure (ps.zip us)) : CalleeN P w K mg base x k n sp := by
  obtain ⟨f, oc, od, kV, doc, pm, an, cdv, ct, osl, a, l, c, kp⟩ := hf
  have F := fun_mk (st := st) l c kp
  exact ⟨f, _, ps, ok f _ F, PySem.W.mg_of X G a, kp, F.binds hb⟩
theorem calleeP_mk {P : Program} {w : World} {K : PySem.W.Frag} {mg : Str → Option Value} {base h : Heap} {x : Str} {st : Stmt} {k : Nat} {sp : Value → Option Addr → Addr → Sp} {ps : List Str} (X : K.In h) (G : h.Ns mainGlobals mg) (hf : ∃ f, Found K x st f)
    (ok : ∀ {f : Addr} {oc : Value} {od : Option Addr} {kV doc pm cdv ct : Value} {an : Option Addr} {osl : Array (Option Value)}, K.lookup f = some ⟨oc, od, .func (PySem.W.fnOf x x (defArgs st) (defBody st) (defScope st) .none kV doc pm an cdv ct), osl⟩ → PySem.W.codeIn K cdv x = true →
      ∀ (p : Addr × Obj) (cls : Value) (d : Option Addr), L2N.Zn cls d p.2 → (∃ vs, p.2.data = .fields vs) → FnP P w K mg base k f (PySem.W.fnOf x x (defArgs st) (defBody st) (defScope st) .none kV doc pm an cdv ct) ps p (sp cls d p.1))
    (hb : ∀ (kV doc pm : Value) (an : Option Addr) (cdv ct : Value) (us : List Value), us.length = ps.length → bindArgs (PySem.W.fnOf x x (defArgs st) (defBody st) (defScope st) .none kV doc pm an cdv ct) ⟨us, []⟩ = pure (ps.zip us)) : CalleeP P w K mg base x k sp := by
  obtain ⟨f, oc, od, kV, doc, pm, an, cdv, ct, osl, a, l, c, kp⟩ := hf
  have F := fun_mk (st := st) l c kp
  exact ⟨f, _, ps, PySem.W.mg_of X G a, kp, F.binds hb, fun p cls d hz hv => ok l c p cls d hz hv⟩
/-- the five classes' addresses by place -/
def five (E0 E1 E2 E3 E4 : Addr) : Nat → Addr
  | 0 => E0
  | 1 => E1
  | 2 => E2
  | 3 => E3
  | _ => E4
end Vt
namespace Vt
open PySem PySem.Spec PyProof.Rows L2 LamX
/-! ### what the top has left of exceptions with fields, and of a law that makes lambdas -/
theorem foundx_mk {P : Program} {K : PySem.W.Frag} {C D : Addr} {x q : Str} {st : Stmt} {f cda cc : Addr} {oc : Value} {od an : Option Addr} {kV doc pm ct : Value} {osl : Array (Option Value)} {cl : Value} {cld : Option Addr} {csl : Array (Option Value)} {cdD : ClassData}
    {ccl : Value} {cdd : Option Addr} {vs : Array Value} {ccs : Array (Option Value)} {file : Str} {tf : Tok}
    (a : PySem.W.findIn K (.ref C) x = some (some (.ref f))) (l : K.lookup f = some ⟨oc, od, .func (PySem.W.fnX x q (defArgs st) (defBody st) (defScope st) [("__class__", cc)] .none kV doc pm an (.ref cda) ct), osl⟩) (c : PySem.W.codeIn K (.ref cda) q = true) (i : PySem.W.isFn K (.ref f) = true)
    (l2 : K.lookup cc = some ⟨cl, cld, .cell (some (.ref D)), csl⟩) (d : PySem.W.clsIn K D = some cdD) (l3 : K.lookup cda = some ⟨ccl, cdd, .fields vs, ccs⟩) (v2 : vs[2]? = some (.str file tf)) (fe : ((P.main.file : Str) == file) = true) (t : PySem.W.typeIn K (.ref f) = some (.type "function")) :
    ∃ f cda cc, FoundS K C D x q st f cda cc ∧ CodeAt P K cda ∧ PySem.W.typeIn K (.ref f) = some (.type "function") :=
  ⟨f, cda, cc, ⟨oc, od, kV, doc, pm, an, ct, osl, cl, cld, csl, cdD, a, l, c, i, l2, d⟩, ⟨ccl, cdd, vs, ccs, file, tf, l3, v2, fe⟩, t⟩
/-- the law, with its code object and that one's table -/
structure FoundL (K : PySem.W.Frag) (st : Stmt) (f cda Pt : Addr) : Prop where
  fn : ∃ (oc : Value) (od : Option Addr) (kV doc pm : Value) (an : Option Addr) (ct : Value) (osl : Array (Option Value)), K.lookup f = some ⟨oc, od, .func (PySem.W.fnOf "law" "law" (defArgs st) (defBody st) (defScope st) .none kV doc pm an (.ref cda) ct), osl⟩
  ns : PySem.W.nsIn K mainGlobals "law" = some (some (.ref f))
  code : PySem.W.codeIn K (.ref cda) "law" = true
  obj : ∃ (dd : Option Addr) (vs : Array Value) (sl : Array (Option Value)) (file : Str) (tf : Tok) (flags : Int) (tg : Tok) (inF : Bool) (text : Int) (tt : Tok), K.lookup cda = some ⟨.type "code", dd, .fields vs, sl⟩ ∧ vs[11]? = some (.ref Pt) ∧ vs.getD 11 .none = .ref Pt ∧ vs.getD 18 .none = .str file tf ∧
    vs.getD 7 .none = .int flags tg ∧ vs.getD 9 .none = .bool inF ∧ vs.getD 10 .none = .int text tt
  ne : cda ≠ Pt
  no : K.lookup Pt = none
theorem foundl_mk {K : PySem.W.Frag} {st : Stmt} {f cda Pt : Addr} {oc : Value} {od an : Option Addr} {kV doc pm ct : Value} {osl : Array (Option Value)} {dd : Option Addr} {vs : Array Value} {sl : Array (Option Value)} {file : Str} {tf : Tok} {flags : Int} {tg : Tok} {inF : Bool} {text : Int} {tt : Tok}
    (a : PySem.W.nsIn K mainGlobals "law" = some (some (.ref f))) (l : K.lookup f = some ⟨oc, od, .func (PySem.W.fnOf "law" "law" (defArgs st) (defBody st) (defScope st) .none kV doc pm an (.ref cda) ct), osl⟩) (c : PySem.W.codeIn K (.ref cda) "law" = true) (l3 : K.lookup cda = some ⟨.type "code", dd, .fields vs, sl⟩)
    (v1 : vs[11]? = some (.ref Pt)) (v2 : vs.getD 11 .none = .ref Pt) (v3 : vs.getD 18 .none = .str file tf) (v4 : vs.getD 7 .none = .int flags tg) (v5 : vs.getD 9 .none = .bool inF) (v6 : vs.getD 10 .none = .int text tt) (ne : cda ≠ Pt) (no : K.lookup Pt = none) : ∃ f cda Pt, FoundL K st f cda Pt :=
  ⟨f, cda, Pt, ⟨⟨oc, od, kV, doc, pm, an, ct, osl, l⟩, a, c, ⟨dd, vs, sl, file, tf, flags, tg, inF, text, tt, l3, v1, v2, v3, v4, v5, v6⟩, ne, no⟩⟩
/-- what walk_ofOwn asks of the law -/
theorem law_own {l : PySem.W.OpenLaw} {w : World} {K : PySem.W.Frag} {h : Heap} {mg : Str → Option Value} {fa f cda Pt : Addr} {st : Stmt} {k : Nat} {sp : Sp} (X : K.In h) (G : h.Ns mainGlobals mg) (hfa : mg "law" = some (.ref fa)) (own : OwnTab K fa h) (F : FoundL K st f cda Pt)
    (hb : ∀ (kV doc pm : Value) (an : Option Addr) (ct : Value) (s : Shared) (u : Value), BindsTo s (PySem.W.fnOf "law" "law" (defArgs st) (defBody st) (defScope st) .none kV doc pm an (.ref cda) ct) ⟨[u], []⟩ [("_law_script", u)])
    (hsp : ∀ (H : Hp) (a : Addr) (ns : List Int), ns.length ≤ 63 → H Pt = some (.tbl #[]) → SqL K H a (ns.map V.int) → sp [.ref a] H (fun v _ => v = .bl true) fun _ _ _ => False)
    (ok : ∀ {oc : Value} {od : Option Addr} {kV doc pm ct : Value} {an : Option Addr} {osl : Array (Option Value)}, K.lookup f = some ⟨oc, od, .func (PySem.W.fnOf "law" "law" (defArgs st) (defBody st) (defScope st) .none kV doc pm an (.ref cda) ct), osl⟩ → ∀ base : Heap, TabB base mg cda Pt →
      FnOk l.prog w K mg base CX0 k f (PySem.W.fnOf "law" "law" (defArgs st) (defBody st) (defScope st) .none kV doc pm an (.ref cda) ct) ["_law_script"] sp) : LawAtS l w K CX0 k 63 "_law_script" mg fa h := by
  obtain ⟨oc, od, kV, doc, pm, an, ct, osl, lk⟩ := F.fn
  have e := hfa.symm.trans (PySem.W.mg_of X G F.ns)
  cases e
  obtain ⟨dd, vs, sl, file, tf, flags, tg, inF, text, tt, l3, v1, v2, v3, v4, v5, v6⟩ := F.obj
  have one : ∀ {p : Addr × Addr}, p ∈ [(cda, Pt)] → p = (cda, Pt) := fun {p} hp => List.mem_singleton.mp hp
  refine ⟨_, [(cda, Pt)], sp, fun p hp => ?_, fun p hp => ?_, fun p hp => ?_, hb kV doc pm an ct, fun H a ns hl _ hT hS => hsp H a ns hl (hT _ List.mem_cons_self) hS, fun base _ _ TB => ok lk base (TB _ List.mem_cons_self)⟩
  · rw [one hp]
    exact own cda Pt _ _ _ _ _ _ lk rfl rfl l3 v1
  · rw [one hp]; exact F.no
  · rw [one hp]
    exact ⟨_, vs, file, tf, flags, tg, inF, text, tt, X _ _ l3, rfl, rfl, v1, v2, v3, v4, v5, v6, F.ne⟩
end Vt
namespace Vt
open PySem PySem.Spec PyProof.Rows L2 LamX
theorem call_list_ofk {X : Cx} (K : PySem.W.Frag) (h : X.K = K := by rfl) : CallR X (.type "list") (fun xs H Q => ∃ p ys, xs = [.ref p] ∧ (SqL K H p ys ∨ SqT K H p ys) ∧ ∀ l, H l = none → Q (.ref l) (upd H l (.lst ys))) := by
  subst h
  exact call_list_of
theorem dep_fcs (fs : List Fc) : (D.lst (fs.map fcD)).dep < 4 := by
  have : deps (fs.map fcD) ≤ 2 := deps_map (fun x => by
    obtain ⟨p, d⟩ := x
    cases d <;> simp [fcD, Deed.d, Deed.args, D.dep, deps, nD]) fs
  rw [D.dep]; omega
theorem sm_fcs {fs : List Fc} (h : fs.length ≤ 100000) : (D.lst (fs.map fcD)).sm = true := by
  rw [D.sm, List.length_map, decide_eq_true h, sm_map (fun x => by
    obtain ⟨p, d⟩ := x
    cases d <;> simp [fcD, Deed.d, Deed.args, D.sm, smAll, nD])]; rfl
theorem dep_brd' (B : Brd) : B.d.dep < 4 := by
  have h1 : deps (B.ords.map Ord.d) ≤ 1 := deps_map (fun x => by
    obtain ⟨s, g, m, l⟩ := x
    cases l <;> simp [Ord.d, D.dep, deps, nD, oD]) _
  have h2 : deps (B.prog.map Deed.d) ≤ 1 := deps_map (fun d => by cases d <;> simp [Deed.d, Deed.args, D.dep, deps, nD]) _
  have h3 : deps (B.mem.map nD) ≤ 0 := deps_map (fun _ => by simp [nD, D.dep]) _
  simp only [Brd.d, nsD, D.dep, deps]
  omega
theorem sm_brd' {B : Brd} (h1 : B.mem.length ≤ 100000) (h2 : B.ords.length ≤ 100000) (h3 : B.prog.length ≤ 100000) : B.d.sm = true := by
  simp only [Brd.d, nsD, D.sm, smAll, List.length_map, decide_eq_true h1, decide_eq_true h2, decide_eq_true h3, Bool.true_and, Bool.and_true]
  rw [sm_map (fun _ => by simp [nD, D.sm]), sm_map (fun x => by
    obtain ⟨s, g, m, l⟩ := x
    cases l <;> simp [Ord.d, D.sm, smAll, nD, oD]), sm_map (fun d => by cases d <;> simp [Deed.d, Deed.args, D.sm, smAll, nD])]
  rfl
theorem lay_fc (x : Fc) : (fcD x).lay = true := by
  have c1 : PyData.strOk ("wait" : Str) = true := by decide +kernel
  have c2 : PyData.strOk ("clean" : Str) = true := by decide +kernel
  have c3 : PyData.strOk ("drop" : Str) = true := by decide +kernel
  have c4 : PyData.strOk ("set" : Str) = true := by decide +kernel
  have c5 : PyData.strOk ("add" : Str) = true := by decide +kernel
  have c6 : PyData.strOk ("say" : Str) = true := by decide +kernel
  have c7 : PyData.strOk ("start" : Str) = true := by decide +kernel
  obtain ⟨p, d⟩ := x
  cases d <;> simp [fcD, Deed.d, Deed.word, Deed.args, D.lay, lays, nD, c1, c2, c3, c4, c5, c6, c7]
theorem lay_fcs {fs : List Fc} : (D.lst (fs.map fcD)).lay = true := by
  rw [D.lay]; exact lays_map lay_fc fs
theorem noL_fcR (x : RFc) : (fcR x).noL = true := by
  have : ∀ ns : List Int, noLs (ns.map D.int) = true := by
    intro ns
    induction ns with
    | nil => simp [noLs]
    | cons n r ih => rw [List.map_cons, noLs, ih]; rfl
  simp only [fcR, RDeed.d, D.noL, noLs, Bool.true_and, Bool.and_true, this]
theorem cut_to (xs : List V) (n : Nat) : cutV xs none (some (n : Int)) = xs.take n := by
  rw [cutV, HT.sIx_none, HT.sIx_nat, List.drop_zero, Nat.sub_zero, ← List.take_take, List.take_of_length_le (Nat.le_refl _)]
theorem cut_from (xs : List V) (n : Nat) : cutV xs (some (n : Int)) none = xs.drop n := by
  rw [cutV, HT.sIx_none, HT.sIx_nat]
  rcases Nat.le_total n xs.length with h | h
  · rw [Nat.min_eq_left h, List.take_of_length_le (by rw [List.length_drop]; omega)]
  · rw [Nat.min_eq_right h, Nat.sub_self, List.take_zero, List.drop_eq_nil_of_le h]
theorem Pds.takes {H : Hp} : ∀ {vs : List V} {ds : List D} (n : Nat), Pds H vs ds → Pds H (vs.take n) (ds.take n)
  | _, _, 0, _ => .nil
  | _, _, n + 1, .nil => by rw [List.take_nil, List.take_nil]; exact .nil
  | _, _, n + 1, .cons h t => .cons h (Pds.takes n t)
theorem Pds.drops {H : Hp} : ∀ {vs : List V} {ds : List D} (n : Nat), Pds H vs ds → Pds H (vs.drop n) (ds.drop n)
  | _, _, 0, h => h
  | _, _, n + 1, .nil => by rw [List.drop_nil, List.drop_nil]; exact .nil
  | _, _, n + 1, .cons h t => Pds.drops n t
mutual
theorem Pd.ext {H H' : Hp} (e : ExtN H H') : ∀ {d : D} {v : V}, Pd H v d → Pd H' v d
  | .non, _, .non => .non
  | .bl _, _, .bl b => .bl b
  | .int _, _, .int b => .int b
  | .str _, _, .str b => .str b
  | .tup _, _, .tup h hs => .tup (e _ _ h fun ps z => by cases z) (Pds.ext e hs)
  | .lst _, _, .lst h hs => .lst (e _ _ h fun ps z => by cases z) (Pds.ext e hs)
theorem Pds.ext {H H' : Hp} (e : ExtN H H') : ∀ {ds : List D} {vs : List V}, Pds H vs ds → Pds H' vs ds
  | [], _, .nil => .nil
  | _ :: _, _, .cons h hs => .cons (Pd.ext e h) (Pds.ext e hs)
end
theorem ext_lst {H H' : Hp} (e : ExtN H H') {a : Addr} {xs : List V} (h : H a = some (.lst xs)) : H' a = some (.lst xs) := e _ _ h fun ps z => by cases z
theorem ext_tup {H H' : Hp} (e : ExtN H H') {a : Addr} {xs : List V} (h : H a = some (.tup xs)) : H' a = some (.tup xs) := e _ _ h fun ps z => by cases z
theorem Box.ext {H H' : Hp} {b l : Addr} (h : Box H b l) (e : ExtN H H') : Box H' b l := by
  obtain ⟨ns, sd, hb, hl, r⟩ := h
  exact ⟨ns, sd, ext_lst e hb, ext_lst e hl, r⟩
theorem rep_flat {α : Type} (v : α) : ∀ n : Nat, (List.replicate n [v]).flatten = List.replicate n v
  | 0 => rfl
  | n + 1 => by rw [List.replicate_succ, List.flatten_cons, rep_flat v n, List.replicate_succ]; rfl
theorem Pds.rep {H : Hp} {v : V} {d : D} (h : Pd H v d) : ∀ n : Nat, Pds H (List.replicate n v) (List.replicate n d)
  | 0 => .nil
  | n + 1 => .cons h (Pds.rep h n)
theorem rd_two {H : Hp} {x : RFc} {T U : Addr} {xs ys : List V} (hx : xs = x.2.vs) (hy : ys = [.int x.1, .ref T]) (nT : H T = none) (nU : (upd H T (.tup xs)) U = none) :
    Same H (upd (upd H T (.tup xs)) U (.tup ys)) ∧ Pd (upd (upd H T (.tup xs)) U (.tup ys)) (.ref U) (fcR x) := by
  subst hx hy
  have sT := same_new (o := .tup x.2.vs) nT
  have sU := same_new (o := .tup [.int x.1, .ref T]) nU
  refine ⟨sT.trans sU, .tup upd_same (.cons (.int _) (.cons ?_ .nil))⟩
  refine .tup (sU _ _ upd_same) (.cons (.str _) ?_)
  have : ∀ ns : List Int, Pds (upd (upd H T (.tup x.2.vs)) U (.tup [.int x.1, .ref T])) (ns.map V.int) (ns.map D.int) := by
    intro ns
    induction ns with
    | nil => exact .nil
    | cons n r ih => exact .cons (.int _) ih
  exact this _
theorem Tabs.but {T : List (Addr × Str)} {H H' : Hp} {B : List Addr} (t : Tabs T H) (bt : But B H H') (l : Lsts H B) : Tabs T H' := fun p hp => by
  obtain ⟨ps, h1, h2, h3⟩ := t p hp
  refine ⟨ps, bt _ _ (fun m => by obtain ⟨ys, e⟩ := l _ m; rw [h1] at e; cases e) h1, h2, fun pos cv hc => ?_⟩
  obtain ⟨c, e1, e2⟩ := h3 pos cv hc
  exact ⟨c, e1, bt _ _ (fun m => by obtain ⟨ys, e⟩ := l _ m; rw [e2] at e; cases e) e2⟩
section
variable {P : Program} {w : World} {K : PySem.W.Frag} {mg : Str → Option Value} {base : Heap}
abbrev st_law : Stmt := (topS 59)
abbrev nm_law : List Str := ["_law_script", "_law_box", "_law_board_here", "_law_many", "_law_fences", "_law_turn", "_law_handed", "_law_program", "_law_place", "_law_where", "_law_deed_here", "_law_whole", "_law_far", "_law_some", "_law_at", "_law_bad", "_law_work", "_law_wide", "_law_long", "_law_six"]
theorem sc_law : FnScope ["_law_script", "_law_box", "_law_board_here", "_law_many", "_law_fences", "_law_turn", "_law_handed", "_law_program", "_law_place", "_law_where", "_law_deed_here", "_law_whole", "_law_far", "_law_some", "_law_at", "_law_bad", "_law_work", "_law_wide", "_law_long", "_law_six"] ["_law_script"] (defScope st_law) := ⟨rfl, rfl, rfl, by decide +kernel, rfl, by decide +kernel, by decide +kernel⟩
def lamA : Expr := (forEs ((defBody st_law).getD 16 (.Pass ⟨0, 0, 0, 0⟩))).getD 0 (.Constant .none 0 ⟨0, 0, 0, 0⟩)
def lamB : Expr := (forEs ((defBody st_law).getD 16 (.Pass ⟨0, 0, 0, 0⟩))).getD 1 (.Constant .none 0 ⟨0, 0, 0, 0⟩)
/-- the name of the law's lambdas -/
def lawQ : Str := (envOfC "law" (defScope st_law) 0 0 .none).qual ++ "<lambda>"
def spLaw (K : PySem.W.Frag) (Pt : Addr) : Sp := fun vs H Q _ => ∃ (a : Addr) (ns : List Int), vs = [.ref a] ∧ SqL K H a (ns.map V.int) ∧ ns.length ≤ 63 ∧ H Pt = some (.tbl #[]) ∧ ∀ H', Q (.bl true) H'
set_option maxHeartbeats 0 in
theorem ok_law {f cda Pt dd CE : Addr} {C : Nat → Addr} {oc : Value} {od : Option Addr} {kV doc pm ct : Value} {an : Option Addr} {osl : Array (Option Value)} (lk : K.lookup f = some ⟨oc, od, .func (PySem.W.fnOf "law" "law" (defArgs st_law) (defBody st_law) (defScope st_law) .none kV doc pm an (.ref cda) ct), osl⟩)
    (hcd : PySem.W.codeIn K (.ref cda) "law" = true) (TB : TabB base mg cda Pt) (hRF : RefF P w K mg base C CE) (hi0 : IsCls K C 0) (hi1 : IsCls K C 1) (hx0 : PySem.W.exmOne K (.ref (C 0)) (.ref CE) = some true) (hx1 : PySem.W.exmOne K (.ref (C 1)) (.ref CE) = some true)
    (c_law_begun : Callee P w K mg base "_law_begun" 1 1 (spBegun K)) (c_law_board : Callee P w K mg base "_law_board" 3 4 spBoard) (c_law_kinds : Callee P w K mg base "_law_kinds" 1 0 (spKinds kindWords)) (c_law_take : Callee P w K mg base "_law_take" 1 2 spTake) (c_law_takeF : Callee P w K mg base "_law_take" 1 2 spTakeF)
    (c_law_fence : Callee P w K mg base "_law_fence" 2 2 spLFence) (c_law_alike : Callee P w K mg base "_law_alike" 4 2 (spAlike 4)) (c_fenced : CalleeN P w K mg base "fenced" 4 2 (spFencedX K w dd (C 0) (C 1))) (c_spare : CalleeN P w K mg base "spare" 5 2 (spSpareX K w dd (C 0) (C 1)))
    (z_range : mg "range" = none) (z_len : mg "len" = none) (z_list : mg "list" = none) (z_tuple : mg "tuple" = none) : FnOk P w K mg base CX0 9 f (PySem.W.fnOf "law" "law" (defArgs st_law) (defBody st_law) (defScope st_law) .none kV doc pm an (.ref cda) ct) ["_law_script"] (spLaw K Pt) := by
  refine fn_of lk hcd sc_law (fun vs H Q E h => ?_) (fun A outer s H vs Q E hr h => ?_)
  · obtain ⟨a, ns, rfl, _⟩ := h
    rfl
  · obtain ⟨a, ns, rfl, hS, hlen, hT0, q⟩ := h
    have hG : TabX (cxOf CX0 P w K mg base nm_law "law" (defScope st_law) f (.ref cda) A outer s H E).nox [(Pt, lawQ)] cda Pt := ⟨TB, rfl, List.mem_cons_self, fun p hp _ => by rw [List.mem_singleton.mp hp]; rfl⟩
    refine ⟨_, (PSs.nox (pss_cons (ps_set (i := 1) sc_law.nd rfl (Or.inr rfl) (pe_cal c_law_begun hr (by first | decide | exact Nat.le_refl _) (pa_cons (pv 0) pa_nil)))
  (pss_cons (ps_set (i := 2) sc_law.nd rfl (Or.inr rfl) (pe_cal c_law_board hr (by first | decide | exact Nat.le_refl _) (pa_cons (pv 1) (pa_cons pe_int (pa_cons pe_int (pa_cons (pe_cal0 c_law_kinds hr (by first | decide | exact Nat.le_refl _)) pa_nil))))))
  (pss_cons (ps_set (i := 3) sc_law.nd rfl (Or.inl rfl) (pe_callB call_len_seq (by rfl) z_len (by decide +kernel) (pa_cons (pe_ix ix_lt (pv 2) pe_int (fun _ _ => rfl)) pa_nil)))
  (pss_cons (ps_setLc (i := 4) (own := [("_law_turn", 5)]) rfl sc_law.nd rfl rfl (sw_true rfl rfl rfl (by decide +kernel)) (pi_range1 (by rfl) z_range (pa_cons (pe_cal c_law_take hr (by first | decide | exact Nat.le_refl _) (pa_cons (pv 1) (pa_cons (pe_ix ix_lt (pe_lst (pa_cons pe_int (pa_cons pe_int pa_nil))) (pe_cal c_law_take hr (by first | decide | exact Nat.le_refl _) (pa_cons (pv 1) (pa_cons pe_int pa_nil))) (fun _ _ => rfl)) pa_nil))) pa_nil)) (blkOk_by (own := [("_law_turn", 5)]) (N := nm_law) (sc := defScope (topS 59)) (by decide +kernel)) (fun _ _ _ _ _ => (pg_name (i := 5) sc_law.nd rfl (Or.inl rfl))) (fun _ _ _ _ _ => pts_nil) (fun _ _ _ _ _ => (pe_cal c_law_fence hr (by first | decide | exact Nat.le_refl _) (pa_cons (pv 1) (pa_cons (pv 2) pa_nil)))))
  (pss_cons (ps_set (i := 6) sc_law.nd rfl (Or.inl rfl) (pe_callTy (call_list_ofk K) (by rfl) z_list (by decide +kernel) (pa_cons (pv 4) pa_nil)))
  (pss_cons (ps_set (i := 7) sc_law.nd rfl (Or.inl rfl) (pe_lst pa_nil))
  (pss_cons (ps_for PassesOwn.never rfl (pi_range1 (by rfl) z_range (pa_cons (pe_op op_add (pv 3) pe_int) pa_nil)) (pg_name (i := 8) sc_law.nd rfl (Or.inr rfl))
  (pss_cons (ps_set (i := 7) sc_law.nd rfl (Or.inl rfl) (pe_op op_cat (pv 7) (pe_lc (own := [("_law_where", 9), ("_law_deed_here", 10)]) rfl sc_law.nd (pi_lt (pv 4)) (blkOk_by (own := [("_law_where", 9), ("_law_deed_here", 10)]) (N := nm_law) (sc := defScope (topS 59)) (by decide +kernel)) (fun _ _ _ _ _ => (pg_tupk K (n := 2) rfl (pgs_cons (pg_name (i := 9) sc_law.nd rfl (Or.inl rfl)) (pgs_cons (pg_name (i := 10) sc_law.nd rfl (Or.inl rfl)) pgs_nil)))) (fun _ _ _ _ _ => (pts_one (pt_cmpR op_eq (pv 9) (pv 8) (nomark _)))) (fun _ _ _ _ _ => (pv 10)))))
  (pss_one (ps_set (i := 7) sc_law.nd rfl (Or.inl rfl) (pe_op op_cat (pv 7) (pe_callTy (call_list_ofk K) (by rfl) z_list (by decide +kernel) (pa_cons (pe_slice sl_tupA (pe_ix ix_lt (pv 2) pe_int (fun _ _ => rfl)) (po_some (pv 8)) (po_some (pe_op op_add (pv 8) pe_int))) pa_nil)))))))
  (pss_cons (ps_set (i := 11) sc_law.nd rfl (Or.inl rfl) (pe_tup (pa_cons (pe_ix ix_lt (pv 2) pe_int (fun _ _ => rfl)) (pa_cons (pe_ix ix_lt (pv 2) pe_int (fun _ _ => rfl)) (pa_cons (pe_callTy call_tuple_of (by rfl) z_tuple (by decide +kernel) (pa_cons (pv 7) pa_nil)) pa_nil)))))
  (pss_cons (ps_for PassesOwn.never rfl (pi_range1 (by rfl) z_range (pa_cons pe_int pa_nil)) (pg_name (i := 5) sc_law.nd rfl (Or.inl rfl))
  (pss_one (ps_if (PW.pt (pw_or (pt_not (pt_val (pe_cal c_law_alike hr (by first | decide | exact Nat.le_refl _) (pa_cons (pe_calN c_fenced hr (by first | decide | exact Nat.le_refl _) takesN0 (pa_cons (pv 2) (pa_cons (pv 6) pa_nil))) (pa_cons (pv 11) pa_nil))))) (pw_or1 (pt_cmpR (op_neD hr.units) (pv 6) (pv 4) (nomark _))))) (pss_one (ps_ret pe_bl)) pss_nil)))
  (pss_cons (ps_set (i := 12) sc_law.nd rfl (Or.inl rfl) (pe_cal c_law_takeF hr (by first | decide | exact Nat.le_refl _) (pa_cons (pv 1) (pa_cons (pe_op op_pow pe_int pe_int) pa_nil))))
  (pss_cons (ps_set (i := 13) sc_law.nd rfl (Or.inl rfl) (pe_lst (pa_cons (pe_tup (pa_cons pe_int (pa_cons (pe_tup (pa_cons pe_str (pa_cons pe_int pa_nil))) pa_nil))) (pa_cons (pe_tup (pa_cons pe_int (pa_cons (pe_tup (pa_cons pe_str (pa_cons pe_int pa_nil))) pa_nil))) (pa_cons (pe_tup (pa_cons pe_int (pa_cons (pe_tup (pa_cons pe_str (pa_cons pe_int (pa_cons pe_int pa_nil)))) pa_nil))) (pa_cons (pe_tup (pa_cons (pe_un un_neg pe_int) (pa_cons (pe_tup (pa_cons pe_str pa_nil)) pa_nil))) (pa_cons (pe_tup (pa_cons pe_int (pa_cons (pe_tup (pa_cons pe_str (pa_cons (pe_un un_neg pe_int) pa_nil))) pa_nil))) pa_nil)))))))
  (pss_cons (ps_set (i := 13) sc_law.nd rfl (Or.inl rfl) (pe_op op_cat (pv 13) (pe_lst (pa_cons (pe_tup (pa_cons (pe_op op_add (pv 3) pe_int) (pa_cons (pe_tup (pa_cons pe_str pa_nil)) pa_nil))) (pa_cons (pe_tup (pa_cons (pe_op op_add (pe_op op_add (pv 3) pe_int) (pv 12)) (pa_cons (pe_tup (pa_cons pe_str (pa_cons pe_int pa_nil))) pa_nil))) (pa_cons (pe_tup (pa_cons pe_int (pa_cons (pe_tup (pa_cons pe_str (pa_cons (pe_op op_fdiv (pe_callB call_len_seq (by rfl) z_len (by decide +kernel) (pa_cons (pe_ix ix_lt (pv 2) pe_int (fun _ _ => rfl)) pa_nil)) pe_int) pa_nil))) pa_nil))) pa_nil))))))
  (pss_cons (ps_set (i := 13) sc_law.nd rfl (Or.inl rfl) (pe_op op_cat (pv 13) (pe_lst (pa_cons (pe_tup (pa_cons pe_int (pa_cons (pe_tup (pa_cons pe_str (pa_cons pe_int pa_nil))) pa_nil))) (pa_cons (pe_tup (pa_cons pe_int (pa_cons (pe_tup (pa_cons pe_str pa_nil)) pa_nil))) (pa_cons (pe_tup (pa_cons pe_int (pa_cons (pe_tup (pa_cons pe_str (pa_cons pe_int pa_nil))) pa_nil))) pa_nil))))))
  (pss_cons (ps_set (i := 14) sc_law.nd rfl (Or.inl rfl) (pe_cal c_law_take hr (by first | decide | exact Nat.le_refl _) (pa_cons (pv 1) (pa_cons (pe_op op_add (pe_callB call_len_seq (by rfl) z_len (by decide +kernel) (pa_cons (pv 4) pa_nil)) pe_int) pa_nil))))
  (pss_cons (ps_set (i := 15) sc_law.nd rfl (Or.inr rfl) (pe_op op_cat (pe_op op_cat (pe_slice sl_list (pv 4) po_none (po_some (pv 14))) (pe_lst (pa_cons (pe_ix ix_lt (pv 13) (pe_cal c_law_take hr (by first | decide | exact Nat.le_refl _) (pa_cons (pv 1) (pa_cons pe_int pa_nil))) (fun _ _ => rfl)) pa_nil))) (pe_slice sl_list (pv 4) (po_some (pv 14)) po_none)))
  (pss_cons (ps_set (i := 15) sc_law.nd rfl (Or.inr rfl) (pe_op op_cat (pv 15) (pe_op op_rep (pe_lst (pa_cons (pe_tup (pa_cons pe_int (pa_cons (pe_tup (pa_cons pe_str (pa_cons pe_int pa_nil))) pa_nil))) pa_nil)) (pe_cal c_law_take hr (by first | decide | exact Nat.le_refl _) (pa_cons (pv 1) (pa_cons pe_int pa_nil))))))
  (pss_cons (ps_for PassesOwn.never rfl (pi_lt (pe_lst (pa_cons (pe_lam0 hG (lamD_by (N := nm_law) (sc := defScope st_law) (by decide +kernel)) rfl) (pa_cons (pe_lamD hG (lamD_by (N := nm_law) (sc := defScope st_law) (by decide +kernel)) rfl rfl) pa_nil)))) (pg_name (i := 16) sc_law.nd rfl (Or.inl rfl))
  (pss_one (ps_if (pt_not (pt_val (pe_cal c_law_alike hr (by first | decide | exact Nat.le_refl _) (pa_cons (pe_or (pe_refused (k := 5) (params := lamP lamA) (body := lamE lamA) (scope := lamS lamA) (df := false) hRF (lamD_by (N := nm_law) (sc := defScope st_law) (by decide +kernel)) (fun _ _ _ _ => rfl) hr (fun A outer s H E f c' r => pe_calN c_fenced r (by first | decide | exact Nat.le_refl _) (L2N.takes_of rfl rfl rfl rfl) (pa_cons (pv 2) (pa_cons (pv 15) pa_nil))) (pa_cons (pv 16) pa_nil)) (pe_refused (k := 5) (params := lamP lamB) (body := lamE lamB) (scope := lamS lamB) (df := true) hRF (lamD_by (N := nm_law) (sc := defScope st_law) (by decide +kernel)) ⟨"_law_a", by decide +kernel, fun _ _ _ _ _ => ⟨_, rfl, fun _ => rfl⟩⟩ hr (fun A outer s H E f c' r => pe_calN c_spare r (by first | decide | exact Nat.le_refl _) (L2N.takes_of rfl rfl rfl rfl) (pa_cons (pv 2) (pa_cons (pv 15) pa_nil))) (pa_cons (pv 16) pa_nil))) (pa_cons (pe_tup (pa_cons pe_str (pa_cons (pv 14) pa_nil))) pa_nil))))) (pss_one (ps_ret pe_bl)) pss_nil)))
  (pss_cons (ps_set (i := 17) sc_law.nd rfl (Or.inr rfl) (pe_op op_rep (pe_lst (pa_cons (pe_tup (pa_cons (pv 3) (pa_cons (pe_tup (pa_cons pe_str pa_nil)) pa_nil))) pa_nil)) (pe_op op_add pe_int (pe_cal c_law_take hr (by first | decide | exact Nat.le_refl _) (pa_cons (pv 1) (pa_cons pe_int pa_nil))))))
  (pss_cons (ps_if (pt_not (pt_val (pe_cal c_law_alike hr (by first | decide | exact Nat.le_refl _) (pa_cons (pe_refusedL (k := 5) hRF hG (lamD_by (N := nm_law) (sc := defScope st_law) (by decide +kernel)) rfl rfl ⟨"_law_b", by decide +kernel, fun _ _ _ _ _ => ⟨_, rfl, fun _ => rfl⟩⟩ hr (fun A outer s H E f c' r => pe_calN c_fenced r (by first | decide | exact Nat.le_refl _) (L2N.takes_of rfl rfl rfl rfl) (pa_cons (pv 2) (pa_cons (pv 17) pa_nil)))) (pa_cons (pe_tup (pa_cons pe_str (pa_cons pe_int pa_nil))) pa_nil))))) (pss_one (ps_ret pe_bl)) pss_nil)
  (pss_cons (ps_set (i := 18) sc_law.nd rfl (Or.inr rfl) (pe_tup (pa_cons (pe_ix ix_lt (pv 2) pe_int (fun _ _ => rfl)) (pa_cons (pe_ix ix_lt (pv 2) pe_int (fun _ _ => rfl)) (pa_cons (pe_op op_repT (pe_tup (pa_cons (pe_tup (pa_cons pe_str pa_nil)) pa_nil)) pe_int) pa_nil)))))
  (pss_cons (ps_set (i := 19) sc_law.nd rfl (Or.inr rfl) (pe_op op_rep (pe_lst (pa_cons (pe_tup (pa_cons pe_int (pa_cons (pe_tup (pa_cons pe_str pa_nil)) pa_nil))) pa_nil)) pe_int))
  (pss_cons (ps_if (pt_not (pt_val (pe_cal c_law_alike hr (by first | decide | exact Nat.le_refl _) (pa_cons (pe_refusedL (k := 5) hRF hG (lamD_by (N := nm_law) (sc := defScope st_law) (by decide +kernel)) rfl rfl ⟨"_law_d", by decide +kernel, fun _ _ _ _ _ => ⟨_, rfl, fun _ => rfl⟩⟩ hr (fun A outer s H E f c' r => pe_calN c_spare r (by first | decide | exact Nat.le_refl _) (L2N.takes_of rfl rfl rfl rfl) (pa_cons (pv 18) (pa_cons (pv 19) pa_nil)))) (pa_cons (pe_tup (pa_cons pe_str (pa_cons pe_int pa_nil))) pa_nil))))) (pss_one (ps_ret pe_bl)) pss_nil)
  (pss_one (ps_ret (pe_cal c_law_alike hr (by first | decide | exact Nat.le_refl _) (pa_cons (pe_refusedL (k := 5) hRF hG (lamD_by (N := nm_law) (sc := defScope st_law) (by decide +kernel)) rfl rfl ⟨"_law_c", by decide +kernel, fun _ _ _ _ _ => ⟨_, rfl, fun _ => rfl⟩⟩ hr (fun A outer s H E f c' r => pe_calN c_fenced r (by first | decide | exact Nat.le_refl _) (L2N.takes_of rfl rfl rfl rfl) (pa_cons (pv 18) (pa_cons (pv 19) pa_nil)))) (pa_cons (pe_tup (pa_cons pe_str (pa_cons pe_int pa_nil))) pa_nil)))))))))))))))))))))))))))), ?_⟩
    refine ⟨_, rfl, a, ns, rfl, hS, hlen, fun H1 b l hB1 sm1 => ?_⟩
    have hT1 : Tabs [(Pt, lawQ)] H1 := fun p hp => by
      rw [List.mem_singleton.mp hp]
      exact TabS.nil (sm1 _ _ hT0)
    refine ⟨_, rfl, rfl, fun H2 KL s2 nKL hKL => ?_⟩
    have hB2 := hB1.same s2
    refine ⟨b, l, KL, 4, 10, kindWords, rfl, hB2, by decide, by decide, by decide, hKL, by decide, by decide, by decide, fun H3 v B hB3 bt3 hv3 ok m16 d10 _ hwd => ?_⟩
    have hT3 := Tabs.but (Tabs.same hT1 s2) bt3 hB2.lsts
    obtain ⟨av, m, o, p, os, ps, ev, ha3, hm3, ho3, hos3, hp3, hps3⟩ := Brd.of hv3
    subst ev
    have pl : ps.length = B.prog.length := by rw [hps3.len, List.length_map]
    -- many
    refine ⟨_, rfl, av, _, 2, .ref p, rfl, rfl, sqA_t ha3, rfl, p, _, rfl, .inr (sqT_t hp3), ?_⟩
    refine chgN (y := nV B.prog.length) (by rw [pl]; rfl) ?_
    -- fences
    refine ⟨_, rfl, by show 2 ≤ sizeLine; decide, fun L0 n0 => ?_⟩
    have s4 := same_new (o := .lst [.int 13, .int 31]) n0
    have h4 : (upd H3 L0 (.lst [.int 13, .int 31])) L0 = some (.lst [.int 13, .int 31]) := upd_same
    have hB4 := hB3.same s4
    have nL0 : L0 ∉ [b, l] := fun z => by
      obtain ⟨ys, e⟩ := hB3.lsts _ z
      rw [n0] at e; cases e
    generalize upd H3 L0 (.lst [.int 13, .int 31]) = H4 at s4 h4 hB4
    refine ⟨_, rfl, b, l, 2, 2, rfl, rfl, hB4, by decide, by decide, fun H5 r5 hB5 bt5 hr5 => ?_⟩
    obtain ⟨mx, hmx, hm31⟩ : ∃ mx : Nat, ([V.int 13, V.int 31] : List V)[r5]? = some (nV mx) ∧ (mx = 13 ∨ mx = 31) := by
      rcases (show r5 = 0 ∨ r5 = 1 by omega) with rfl | rfl
      · exact ⟨13, rfl, .inl rfl⟩
      · exact ⟨31, rfl, .inr rfl⟩
    refine ⟨L0, _, (r5 : Nat), nV mx, rfl, rfl, sqA_l (bt5 _ _ nL0 h4), atI_nat hmx, ?_⟩
    refine ⟨b, l, _, mx, rfl, rfl, hB5, by omega, by omega, fun H6 cnt hB6 bt6 hcnt => ?_⟩
    have bt36 : But [b, l] H3 H6 := ((Same.but s4).trans bt5).trans bt6
    have hv6 := Pd.but bt36 hB3.lsts (noL_brd B) hv3
    have hT6 := Tabs.but hT3 bt36 hB3.lsts
    refine ⟨_, rfl, by omega, by omega, fun L1 nL1 => ?_⟩
    have nLb : L1 ∉ [b, l] := fun z => by
      obtain ⟨ys, e⟩ := hB6.lsts _ z
      rw [nL1] at e; cases e
    refine lc_it (walk_range (lo := 0) (n := ((cnt : Nat) : Int).toNat)) (fun j H' => ∃ (ev : List V) (fs : List Fc), H' L1 = some (.lst ev) ∧ Pds H' ev (fs.map fcD) ∧ fs.length = j ∧ (∀ x ∈ fs, FcOk B x) ∧ Box H' b l ∧ But [b, l] H6 H')
      ⟨[], [], upd_same, .nil, rfl, (fun _ h => by cases h), hB6.same (same_new nL1), Same.but (same_new nL1)⟩ (fun _ _ _ _ => trivial) (fun j x Ha Hb hj hq hy => ?_) (fun H7 hq => ?_)
    · obtain ⟨ev, fs, hL, hev, hfl, hfo, hBx, btx⟩ := hq
      obtain ⟨rfl, rfl⟩ := hy
      refine ⟨rfl, ?_⟩
      have hvb := Pd.but btx hB6.lsts (noL_brd B) hv6
      refine ⟨_, rfl, _, rfl, b, l, .ref av, B, rfl, hBx, hvb, ok, fun Hc R x hBc btc hxo hxp => ?_⟩
      have hLc := btc _ _ nLb hL
      have hevc := Pds.but btc hBx.lsts (noLs_map noL_fc _) hev
      have evl : ev.length ≤ 30 := by rw [hev.len, List.length_map, hfl]; omega
      have st : But [L1] Hc (upd Hc L1 (.lst (ev ++ [.ref R]))) := But.set (by simp)
      have ls : Lsts Hc [L1] := fun c hc => ⟨ev, by rw [List.mem_singleton.mp hc]; exact hLc⟩
      refine ⟨ev, hLc, fits (by omega), ev ++ [.ref R], fs ++ [x], upd_same, ?_, by rw [List.length_append, hfl]; rfl, fun y hy => ?_, ?_, fun c u n e => ?_⟩
      · rw [List.map_append]
        exact (Pds.but st ls (noLs_map noL_fc _) hevc).app (.cons (Pd.but st ls (noL_fc x) hxp) .nil)
      · rcases List.mem_append.mp hy with h | h
        · exact hfo y h
        · rw [List.mem_singleton.mp h]; exact hxo
      · exact But.box hBc (fun z => nLb (by rw [z]; simp)) (fun z => nLb (by rw [z]; simp))
      · rw [upd_ne (ne_of_none e nL1)]
        exact btc _ _ n (btx _ _ n e)
    obtain ⟨fv, fs, hfl1, hfv1, hfl, hfo, hB7, bt67⟩ := hq
    rw [Int.toNat_natCast] at hfl
    have fs30 : fs.length ≤ 30 := by omega
    have hv7 := Pd.but bt67 hB6.lsts (noL_brd B) hv6
    have hT7 := Tabs.but hT6 bt67 hB6.lsts
    have fvl : fv.length = fs.length := by rw [hfv1.len, List.length_map]
    have bt37 := bt36.trans bt67
    have ha7 := But.tup bt37 hB3.lsts ha3
    have hm7 := But.tup bt37 hB3.lsts hm3
    have ho7 := But.tup bt37 hB3.lsts ho3
    have hp7 := But.tup bt37 hB3.lsts hp3
    have hos7 := Pds.but bt37 hB3.lsts (noLs_map noL_ord _) hos3
    have hps7 := Pds.but bt37 hB3.lsts (noLs_map noL_deed _) hps3
    -- handed
    refine ⟨_, rfl, L1, _, rfl, .inl (sqL_l hfl1), fun hl nhl => ?_⟩
    have s8 := same_new (o := .lst fv) nhl
    have hhl8 : (upd H7 hl (.lst fv)) hl = some (.lst fv) := upd_same
    generalize upd H7 hl (.lst fv) = H8 at s8 hhl8
    have hfl8 := s8 _ _ hfl1
    have hfv8 := hfv1.same s8
    have hB8 := hB7.same s8
    have hv8 := hv7.same s8
    have hT8 := Tabs.same hT7 s8
    have ha8 := s8 _ _ ha7
    have hm8 := s8 _ _ hm7
    have ho8 := s8 _ _ ho7
    have hp8 := s8 _ _ hp7
    have hos8 := hos7.same s8
    have hps8 := hps7.same s8
    -- the program with them
    refine ⟨Nat.zero_le _, fun g0 ng0 => ?_⟩
    have sg := same_new (o := .lst []) ng0
    have p60 := ok.sixty
    refine ⟨_, rfl, _, _, rfl, rfl, _, rfl, by omega, by omega, ?_⟩
    refine for_it (walk_range (lo := 0) (n := (((B.prog.length : Nat) : Int) + 1).toNat)) (fun i σ H' => ∃ (gl : Addr) (gv : List V) (y8 : Option V), σ = [some (.ref a), some (.ref b), some (.ref av), some (nV B.prog.length), some (.ref L1), none, some (.ref hl), some (.ref gl), y8, none, none, none, none, none, none, none, none, none, none, none] ∧ H' gl = some (.lst gv) ∧ Pds H' gv ((putTo B.prog fs i).map Deed.d) ∧ Same H8 H')
      ⟨g0, [], _, rfl, upd_same, .nil, sg⟩ (fun _ _ _ _ _ => trivial) (fun i x σ H9' H9 hi hp' hy => ?_) (fun σ H9 hp' => ?_)
    · obtain ⟨gl, gv, y8, rfl, hgl, hgv, s9⟩ := hp'
      obtain ⟨rfl, rfl⟩ := hy
      have pln := putTo_len (prog := B.prog) (fs := fs) i
      have ib : i ≤ 100 := by omega
      have gvl : gv.length ≤ 100 * 31 := by
        rw [hgv.len, List.length_map]
        exact Nat.le_trans pln (Nat.mul_le_mul ib (by omega))
      refine ⟨_, rfl, _, rfl, L1, rfl, .inl ⟨_, sqL_l (s9 _ _ hfl8), fun L2 nL2 => ?_⟩⟩
      refine lc_it (walk_list (xs := fv)) (fun j H' => ∃ ev : List V, H' L2 = some (.lst ev) ∧ Pds H' ev ((((fs.take j).filter fun x => decide (x.1 = i)).map Prod.snd).map Deed.d) ∧ Same H9 H')
        ⟨[], upd_same, .nil, same_new nL2⟩ (fun j H' _ hp => by obtain ⟨_, _, _, sm⟩ := hp; exact sqL_l (sm _ _ (s9 _ _ hfl8))) (fun j x Ha H7' hj hp hy => ?_) (fun H10 hp => ?_)
      · obtain ⟨ev, hL2, hev, s10⟩ := hp
        obtain ⟨rfl, hx⟩ := hy
        obtain ⟨dx, hdx, hpd⟩ := hfv8.get' hx
        rw [List.getElem?_map] at hdx
        obtain ⟨x0, hx0, rfl⟩ : ∃ x0, fs[j]? = some x0 ∧ fcD x0 = dx := by simpa using hdx
        obtain ⟨a1, da, rfl, h1, h2⟩ := Fc.of ((hpd.same s9).same s10)
        have tk : fs.take (j + 1) = fs.take j ++ [x0] := by rw [List.take_add_one, hx0]; rfl
        refine ⟨a1, _, rfl, sqT_t h1, rfl, _, _, rfl, _, _, rfl, rfl, ?_⟩
        have fl1 : (((fs.take (j + 1)).filter fun x => decide (x.1 = i)).map Prod.snd).map Deed.d = (((fs.take j).filter fun x => decide (x.1 = i)).map Prod.snd).map Deed.d ++ (if x0.1 = i then [x0.2.d] else []) := by
          rw [tk, List.filter_append, List.map_append, List.map_append]
          congr 1
          by_cases h : x0.1 = i
          · simp [h]
          · simp [h]
        have evl : ev.length ≤ 100 := by
          rw [hev.len, List.length_map, List.length_map]
          have := List.length_filter_le (fun x : Fc => decide (x.1 = i)) (fs.take j)
          have := List.length_take_le' j fs
          omega
        refine ⟨rfl, _, rfl, _, rfl, rfl, _, rfl, ite2 (fun e => ?_) (fun e => ?_)⟩
        · have ei : x0.1 = i := by
            have : (x0.1 : Int) = 0 + (i : Int) := by injection of_decide_eq_true e
            omega
          have st : But [L2] H7' (upd H7' L2 (.lst (ev ++ [.ref da]))) := But.set (by simp)
          refine ⟨_, rfl, _, hL2, fits (by omega), _, upd_same, ?_, But.new1 s10 nL2 st⟩
          rw [fl1, if_pos ei]
          refine (Pds.but st (fun c hc => ⟨ev, by rw [List.mem_singleton.mp hc]; exact hL2⟩) (noLs_map noL_deed _) hev).app (.cons (Deed.pd ?_) .nil)
          exact st _ _ (fun m => by rw [List.mem_singleton.mp m, hL2] at h2; cases h2) h2
        · have ei : ¬ x0.1 = i := fun z => e (decide_eq_true (show nV x0.1 = V.int (0 + (i : Int)) from by rw [z, Int.zero_add]; rfl))
          refine ⟨ev, hL2, ?_, s10⟩
          rw [fl1, if_neg ei, List.append_nil]; exact hev
      obtain ⟨ev, hL2, hev, s10⟩ := hp
      rw [fvl, List.take_length] at hev
      have evl : ev.length ≤ 100 := by
        rw [hev.len, List.length_map, List.length_map]
        have := List.length_filter_le (fun x : Fc => decide (x.1 = i)) fs
        omega
      refine ⟨gl, L2, gv, ev, rfl, rfl, s10 _ _ hgl, hL2, Nat.le_of_lt (fits (by omega)), fun L3 nL3 => ?_⟩
      have s11 := same_new (o := .lst (gv ++ ev)) nL3
      have hL3 : (upd H10 L3 (.lst (gv ++ ev))) L3 = some (.lst (gv ++ ev)) := upd_same
      have hd11 := ((hgv.same s10).app hev).same s11
      generalize upd H10 L3 (.lst (gv ++ ev)) = H11 at s11 hL3 hd11
      have s811 := (s9.trans s10).trans s11
      refine ⟨_, rfl, _, rfl, av, _, 2, .ref p, rfl, rfl, sqA_t (s811 _ _ ha8), rfl, _, rfl, _, rfl, _, rfl, _, _, rfl, rfl, _, rfl, ?_⟩
      refine sl_one (i := i) (j := 0 + (i : Int)) (k := 0 + (i : Int) + 1) (by omega) (by omega) (sqT_t (s811 _ _ hp8)) fun b2 H12 s12 hb2 => ?_
      have l1 : (ps[i]?.toList).length ≤ 1 := by cases ps[i]? <;> simp
      refine ⟨b2, _, rfl, .inr hb2, fun L4 nL4 => ?_⟩
      have s13 := same_new (o := .lst ps[i]?.toList) nL4
      have hL4 : (upd H12 L4 (.lst ps[i]?.toList)) L4 = some (.lst ps[i]?.toList) := upd_same
      refine ⟨L3, L4, _, _, rfl, rfl, s13 _ _ (s12 _ _ hL3), hL4, Nat.le_of_lt (fits (by rw [List.length_append]; omega)), fun L5 nL5 => ?_⟩
      have s14 := same_new (o := .lst (gv ++ ev ++ ps[i]?.toList)) nL5
      have one : Pds H8 ps[i]?.toList (B.prog[i]?.toList.map Deed.d) := by
        have := pds_one (i := i) hps8
        rw [List.getElem?_map] at this
        cases e : B.prog[i]? with
        | none => rw [e] at this; exact this
        | some d => rw [e] at this; exact this
      refine ⟨L5, _, _, rfl, upd_same, ?_, ((s811.trans s12).trans s13).trans s14⟩
      rw [putTo, List.map_append, List.map_append, ← List.append_assoc]
      exact (((hd11.same s12).same s13).same s14).app ((((one.same s811).same s12).same s13).same s14)
    obtain ⟨gl, gv, y8, rfl, hgl, hgv, s9⟩ := hp'
    have en : (((B.prog.length : Nat) : Int) + 1).toNat = B.prog.length + 1 := by omega
    rw [en] at hgv
    -- whole
    refine ⟨_, rfl, av, _, 0, .ref m, rfl, rfl, sqA_t (s9 _ _ ha8), rfl, _, rfl, av, _, 1, .ref o, rfl, rfl, sqA_t (s9 _ _ ha8), rfl, _, rfl, gl, _, rfl, .inl ⟨sqL_l hgl, fun T nT => ?_⟩⟩
    have sT := same_new (o := .tup gv) nT
    refine ⟨by show 3 ≤ sizeLine; decide, fun W nW => ?_⟩
    have sW := same_new (o := .tup [.ref m, .ref o, .ref T]) nW
    have s10 := (s9.trans sT).trans sW
    have hW : Pd (upd (upd H9 T (.tup gv)) W (.tup [.ref m, .ref o, .ref T])) (.ref W) (putIn B fs).d :=
      .tup upd_same (.cons (.tup (s10 _ _ hm8) (pds_ns _)) (.cons (.tup (s10 _ _ ho8) (hos8.same s10)) (.cons (.tup (sW _ _ upd_same) ((hgv.same sT).same sW)) .nil)))
    generalize upd (upd H9 T (.tup gv)) W (.tup [.ref m, .ref o, .ref T]) = H10 at s10 hW
    have okP : BrdOk (putIn B fs) := putIn_okF ok hfo (by omega)
    refine ⟨_, rfl, by decide, by decide, ?_⟩
    refine for_it (walk_range (lo := 0) (n := 2)) (fun i σ H' => ∃ (y5 : Option V), σ = [some (.ref a), some (.ref b), some (.ref av), some (nV B.prog.length), some (.ref L1), y5, some (.ref hl), some (.ref gl), y8, none, none, some (.ref W), none, none, none, none, none, none, none, none] ∧ Same H10 H')
      ⟨_, rfl, Same.refl _⟩ (fun _ _ _ _ _ => trivial) (fun i x σ H11' H11 hi hp' hy => ?_) (fun σ H11 hp' => ?_)
    · obtain ⟨y5, rfl, s11⟩ := hp'
      obtain ⟨rfl, rfl⟩ := hy
      have s811 := s10.trans s11
      refine ⟨_, rfl, _, rfl, .ref av, hl, fv, rfl, s811 _ _ hhl8, .inr ⟨B, hv8.same s811, ok, .inr ⟨fs, hfv8.same s811, fs30, hfo, rawOk_of okP, fun _ H12 u s12 hu => ?_, fun z n e => by rw [wrong_ok okP] at e; cases e⟩⟩⟩
      refine ⟨_, rfl, u, .ref W, (putIn B fs).d, rfl, hu, hW.same (s11.trans s12), dep_brd' _, sm_brd' (by have := okP.cells; omega) (by have := okP.four; omega) (by have := okP.sixty; omega), _, rfl, iteF ?_⟩
      have s812 := s811.trans s12
      refine ⟨_, rfl, _, rfl, ne_same (d := .lst (fs.map fcD)) (.lst (s812 _ _ hhl8) (hfv8.same s812)) (.lst (s812 _ _ hfl8) (hfv8.same s812)) lay_fcs (by have := dep_fcs fs; omega) ⟨_, rfl, iteF ?_⟩⟩
      exact ⟨_, rfl, s11.trans s12⟩
    obtain ⟨y5, rfl, s11⟩ := hp'
    have s811 := s10.trans s11
    have hB11 := hB8.same s811
    have hT11 := Tabs.same hT8 s811
    -- far
    refine ⟨_, rfl, _, _, rfl, rfl, ⟨by decide, by decide, by decide⟩, ?_⟩
    refine ⟨b, l, _, rfl, hB11, by decide +kernel, by decide +kernel, fun H12 far hB12 bt12 f0 f1 => ?_⟩
    have bt812 : But [b, l] H8 H12 := (Same.but s811).trans bt12
    have hT12 := Tabs.but hT11 bt12 hB11.lsts
    have nL1b : L1 ∉ [b, l] := nLb
    have hfl12 := bt812 _ _ nL1b hfl8
    have hfv12 := Pds.but bt812 hB8.lsts (noLs_map noL_fc _) hfv8
    have hv12 := Pd.but bt812 hB8.lsts (noL_brd B) hv8
    obtain ⟨lines, hlines⟩ : ∃ lines, lines = B.mem.length / 4 := ⟨_, rfl⟩
    have ha12 := But.tup bt812 hB8.lsts ha8
    have hm12 := But.tup bt812 hB8.lsts hm8
    -- some, its first five
    refine ⟨by show 2 ≤ sizeLine; decide, fun T1 n1 => ⟨by show 2 ≤ sizeLine; decide, fun U1 m1 => ?_⟩⟩
    obtain ⟨s1', e1⟩ := rd_two (x := (0, ⟨"say", [0]⟩)) (xs := [.str "say", .int 0]) (ys := [.int 0, .ref T1]) rfl rfl n1 m1
    generalize upd (upd H12 T1 (.tup [.str "say", .int 0])) U1 (.tup [.int 0, .ref T1]) = G1 at s1' e1
    refine ⟨by show 2 ≤ sizeLine; decide, fun T2 n2 => ⟨by show 2 ≤ sizeLine; decide, fun U2 m2 => ?_⟩⟩
    obtain ⟨s2', e2⟩ := rd_two (x := (0, ⟨"start", [0]⟩)) (xs := [.str "start", .int 0]) (ys := [.int 0, .ref T2]) rfl rfl n2 m2
    generalize upd (upd G1 T2 (.tup [.str "start", .int 0])) U2 (.tup [.int 0, .ref T2]) = G2 at s2' e2
    refine ⟨by show 3 ≤ sizeLine; decide, fun T3 n3 => ⟨by show 2 ≤ sizeLine; decide, fun U3 m3 => ?_⟩⟩
    obtain ⟨s3', e3⟩ := rd_two (x := (0, ⟨"set", [0, 1]⟩)) (xs := [.str "set", .int 0, .int 1]) (ys := [.int 0, .ref T3]) rfl rfl n3 m3
    generalize upd (upd G2 T3 (.tup [.str "set", .int 0, .int 1])) U3 (.tup [.int 0, .ref T3]) = G3 at s3' e3
    refine ⟨_, rfl, by show 1 ≤ sizeLine; decide, fun T4 n4 => ⟨by show 2 ≤ sizeLine; decide, fun U4 m4 => ?_⟩⟩
    obtain ⟨s4', e4⟩ := rd_two (x := ((-1), ⟨"wait", []⟩)) (xs := [.str "wait"]) (ys := [.int (-1), .ref T4]) rfl rfl n4 m4
    generalize upd (upd G3 T4 (.tup [.str "wait"])) U4 (.tup [.int (-1), .ref T4]) = G4 at s4' e4
    refine ⟨_, rfl, by show 2 ≤ sizeLine; decide, fun T5 n5 => ⟨by show 2 ≤ sizeLine; decide, fun U5 m5 => ?_⟩⟩
    obtain ⟨s5', e5⟩ := rd_two (x := (0, ⟨"drop", [(-1)]⟩)) (xs := [.str "drop", .int (-1)]) (ys := [.int 0, .ref T5]) rfl rfl n5 m5
    generalize upd (upd G4 T5 (.tup [.str "drop", .int (-1)])) U5 (.tup [.int 0, .ref T5]) = G5 at s5' e5
    refine ⟨by show 5 ≤ sizeLine; decide, fun S1 nS1 => ?_⟩
    have sS1 := same_new (o := .lst [.ref U1, .ref U2, .ref U3, .ref U4, .ref U5]) nS1
    have hS1 : (upd G5 S1 (.lst [.ref U1, .ref U2, .ref U3, .ref U4, .ref U5])) S1 = some (.lst [.ref U1, .ref U2, .ref U3, .ref U4, .ref U5]) := upd_same
    generalize upd G5 S1 (.lst [.ref U1, .ref U2, .ref U3, .ref U4, .ref U5]) = K1 at sS1 hS1
    have q5 := (((s1'.trans s2').trans s3').trans s4').trans s5'
    have q5K := q5.trans sS1
    -- three more
    refine ⟨_, rfl, _, rfl, _, _, rfl, rfl, by show 1 ≤ sizeLine; decide, fun T6 n6 => ⟨by show 2 ≤ sizeLine; decide, fun U6 m6 => ?_⟩⟩
    obtain ⟨s6', e6⟩ := rd_two (x := ((((B.prog.length : Nat) : Int) + 1), ⟨"wait", []⟩)) (xs := [.str "wait"]) (ys := [.int (((B.prog.length : Nat) : Int) + 1), .ref T6]) rfl rfl n6 m6
    generalize upd (upd K1 T6 (.tup [.str "wait"])) U6 (.tup [.int (((B.prog.length : Nat) : Int) + 1), .ref T6]) = G6 at s6' e6
    refine ⟨_, rfl, _, _, rfl, rfl, _, rfl, _, _, rfl, rfl, by show 2 ≤ sizeLine; decide, fun T7 n7 => ⟨by show 2 ≤ sizeLine; decide, fun U7 m7 => ?_⟩⟩
    obtain ⟨s7', e7⟩ := rd_two (x := (((((B.prog.length : Nat) : Int) + 1) + far), ⟨"clean", [0]⟩)) (xs := [.str "clean", .int 0]) (ys := [.int ((((B.prog.length : Nat) : Int) + 1) + far), .ref T7]) rfl rfl n7 m7
    generalize upd (upd G6 T7 (.tup [.str "clean", .int 0])) U7 (.tup [.int ((((B.prog.length : Nat) : Int) + 1) + far), .ref T7]) = G7 at s7' e7
    have q7 := (q5K.trans s6').trans s7'
    refine ⟨_, rfl, av, _, 0, .ref m, rfl, rfl, sqA_t (q7 _ _ ha12), rfl, m, _, rfl, .inr (sqT_t (q7 _ _ hm12)), _, _, rfl, rfl, ⟨by decide, by decide⟩, by show 2 ≤ sizeLine; decide, fun T8 n8 => ⟨by show 2 ≤ sizeLine; decide, fun U8 m8 => ?_⟩⟩
    obtain ⟨s8', e8⟩ := rd_two (x := (0, ⟨"clean", [((((B.mem.map nV).length : Nat) : Int) / 4)]⟩)) (xs := [.str "clean", .int ((((B.mem.map nV).length : Nat) : Int) / 4)]) (ys := [.int 0, .ref T8]) rfl rfl n8 m8
    generalize upd (upd G7 T8 (.tup [.str "clean", .int ((((B.mem.map nV).length : Nat) : Int) / 4)])) U8 (.tup [.int 0, .ref T8]) = G8 at s8' e8
    refine ⟨by show 3 ≤ sizeLine; decide, fun S2 nS2 => ?_⟩
    have sS2 := same_new (o := .lst [.ref U6, .ref U7, .ref U8]) nS2
    have hS2 : (upd G8 S2 (.lst [.ref U6, .ref U7, .ref U8])) S2 = some (.lst [.ref U6, .ref U7, .ref U8]) := upd_same
    generalize upd G8 S2 (.lst [.ref U6, .ref U7, .ref U8]) = K2 at sS2 hS2
    have q8 := ((s6'.trans s7').trans s8').trans sS2
    refine ⟨S1, S2, _, _, rfl, rfl, q8 _ _ hS1, hS2, by show 8 ≤ sizeLine; decide, fun S3 nS3 => ?_⟩
    have sS3 := same_new (o := .lst ([.ref U1, .ref U2, .ref U3, .ref U4, .ref U5] ++ [.ref U6, .ref U7, .ref U8])) nS3
    have hS3 : (upd K2 S3 (.lst ([.ref U1, .ref U2, .ref U3, .ref U4, .ref U5] ++ [.ref U6, .ref U7, .ref U8]))) S3 = some (.lst ([.ref U1, .ref U2, .ref U3, .ref U4, .ref U5] ++ [.ref U6, .ref U7, .ref U8])) := upd_same
    generalize upd K2 S3 (.lst ([.ref U1, .ref U2, .ref U3, .ref U4, .ref U5] ++ [.ref U6, .ref U7, .ref U8])) = K3 at sS3 hS3
    refine ⟨_, rfl, by show 2 ≤ sizeLine; decide, fun T9 n9 => ⟨by show 2 ≤ sizeLine; decide, fun U9 m9 => ?_⟩⟩
    obtain ⟨s9', e9⟩ := rd_two (x := (0, ⟨"wait", [0]⟩)) (xs := [.str "wait", .int 0]) (ys := [.int 0, .ref T9]) rfl rfl n9 m9
    generalize upd (upd K3 T9 (.tup [.str "wait", .int 0])) U9 (.tup [.int 0, .ref T9]) = G9 at s9' e9
    refine ⟨by show 1 ≤ sizeLine; decide, fun T10 n10 => ⟨by show 2 ≤ sizeLine; decide, fun U10 m10 => ?_⟩⟩
    obtain ⟨s10', e10⟩ := rd_two (x := (0, ⟨"clean", []⟩)) (xs := [.str "clean"]) (ys := [.int 0, .ref T10]) rfl rfl n10 m10
    generalize upd (upd G9 T10 (.tup [.str "clean"])) U10 (.tup [.int 0, .ref T10]) = G10 at s10' e10
    refine ⟨by show 2 ≤ sizeLine; decide, fun T11 n11 => ⟨by show 2 ≤ sizeLine; decide, fun U11 m11 => ?_⟩⟩
    obtain ⟨s11', e11⟩ := rd_two (x := (0, ⟨"none", [0]⟩)) (xs := [.str "none", .int 0]) (ys := [.int 0, .ref T11]) rfl rfl n11 m11
    generalize upd (upd G10 T11 (.tup [.str "none", .int 0])) U11 (.tup [.int 0, .ref T11]) = G11 at s11' e11
    refine ⟨by show 3 ≤ sizeLine; decide, fun S4 nS4 => ?_⟩
    have sS4 := same_new (o := .lst [.ref U9, .ref U10, .ref U11]) nS4
    have hS4 : (upd G11 S4 (.lst [.ref U9, .ref U10, .ref U11])) S4 = some (.lst [.ref U9, .ref U10, .ref U11]) := upd_same
    generalize upd G11 S4 (.lst [.ref U9, .ref U10, .ref U11]) = K4 at sS4 hS4
    have q11 := ((s9'.trans s10').trans s11').trans sS4
    refine ⟨S3, S4, _, _, rfl, rfl, q11 _ _ hS3, hS4, by show 11 ≤ sizeLine; decide, fun S5 nS5 => ?_⟩
    have sS5 := same_new (o := .lst ([.ref U1, .ref U2, .ref U3, .ref U4, .ref U5] ++ [.ref U6, .ref U7, .ref U8] ++ [.ref U9, .ref U10, .ref U11])) nS5
    have hS5 : (upd K4 S5 (.lst ([.ref U1, .ref U2, .ref U3, .ref U4, .ref U5] ++ [.ref U6, .ref U7, .ref U8] ++ [.ref U9, .ref U10, .ref U11]))) S5 = some (.lst ([.ref U1, .ref U2, .ref U3, .ref U4, .ref U5] ++ [.ref U6, .ref U7, .ref U8] ++ [.ref U9, .ref U10, .ref U11])) := upd_same
    have nS5b : S5 ∉ [b, l] := fun z => by
      obtain ⟨ys, e⟩ := (hB12.same (q5K.trans ((q8.trans sS3).trans q11))).lsts _ z
      rw [nS5] at e; cases e
    have r5 := ((q8.trans sS3).trans q11).trans sS5
    have s1213 := q5K.trans r5
    have hodd : Pds (upd K4 S5 (.lst ([.ref U1, .ref U2, .ref U3, .ref U4, .ref U5] ++ [.ref U6, .ref U7, .ref U8] ++ [.ref U9, .ref U10, .ref U11]))) [.ref U1, .ref U2, .ref U3, .ref U4, .ref U5, .ref U6, .ref U7, .ref U8, .ref U9, .ref U10, .ref U11] ((odds B.prog.length (B.mem.length / 4) far).map fcR) := by
      have e8' : fcR (0, ⟨"clean", [((((B.mem.map nV).length : Nat) : Int) / 4)]⟩) = fcR (0, ⟨"clean", [((B.mem.length / 4 : Nat) : Int)]⟩) := by
        have : ((((B.mem.map nV).length : Nat) : Int) / 4) = ((B.mem.length / 4 : Nat) : Int) := by rw [List.length_map]; omega
        rw [this]
      rw [e8'] at e8
      have t58 := sS1.trans r5
      have t8 := (sS2.trans sS3).trans (q11.trans sS5)
      refine .cons ((((((e1.same s2').same s3').same s4').same s5').same t58)) (.cons (((((e2.same s3').same s4').same s5').same t58)) (.cons ((((e3.same s4').same s5').same t58)) (.cons ((e4.same s5').same t58) (.cons (e5.same t58) ?_))))
      refine .cons (((e6.same s7').same s8').same t8) (.cons ((e7.same s8').same t8) (.cons (e8.same t8) ?_))
      exact .cons (((e9.same s10').same s11').same (sS4.trans sS5)) (.cons ((e10.same s11').same (sS4.trans sS5)) (.cons (e11.same (sS4.trans sS5)) .nil))
    generalize upd K4 S5 (.lst ([.ref U1, .ref U2, .ref U3, .ref U4, .ref U5] ++ [.ref U6, .ref U7, .ref U8] ++ [.ref U9, .ref U10, .ref U11])) = H13 at hS5 s1213 hodd
    have hB13 := hB12.same s1213
    have hT13 := Tabs.same hT12 s1213
    have hfl13 := s1213 _ _ hfl12
    have hfv13 := hfv12.same s1213
    have hv13 := hv12.same s1213
    -- at
    refine ⟨_, rfl, _, rfl, L1, _, rfl, .inl (sqL_l hfl13), _, _, rfl, rfl, ?_⟩
    refine ⟨b, l, _, fs.length + 1, rfl, by rw [fvl]; rfl, hB13, by omega, by omega, fun H14 at_ hB14 bt14 hat => ?_⟩
    have hT14 := Tabs.but hT13 bt14 hB13.lsts
    have hfl14 := bt14 _ _ nL1b hfl13
    have hfv14 := Pds.but bt14 hB13.lsts (noLs_map noL_fc _) hfv13
    have hv14 := Pd.but bt14 hB13.lsts (noL_brd B) hv13
    have hS14 := bt14 _ _ nS5b hS5
    have hodd14 := Pds.but bt14 hB13.lsts (noLs_map noL_fcR _) hodd
    -- bad
    refine ⟨_, rfl, _, rfl, _, rfl, L1, _, rfl, sqL_l hfl14, fun A1 nA1 => ?_⟩
    have sA1 := same_new (o := .lst (cutV fv none (some ((at_ : Nat) : Int)))) nA1
    have hA1 : (upd H14 A1 (.lst (cutV fv none (some ((at_ : Nat) : Int))))) A1 = some (.lst (fv.take at_)) := by rw [upd_same, cut_to]
    have hB15 := hB14.same sA1
    have nA1b : A1 ∉ [b, l] := fun z => by
      obtain ⟨ys, e⟩ := hB14.lsts _ z
      rw [nA1] at e; cases e
    generalize upd H14 A1 (.lst (cutV fv none (some ((at_ : Nat) : Int)))) = H15 at sA1 hA1 hB15
    have hT15 := Tabs.same hT14 sA1
    refine ⟨_, rfl, _, rfl, b, l, 11, 11, rfl, rfl, hB15, by decide, by decide, fun H16 rx hB16 bt16 hrx => ?_⟩
    have hT16 := Tabs.but hT15 bt16 hB15.lsts
    have hA1' := bt16 _ _ nA1b hA1
    have hfl16 := bt16 _ _ nL1b (sA1 _ _ hfl14)
    have hS16 := bt16 _ _ nS5b (sA1 _ _ hS14)
    have hfv16 := Pds.but bt16 hB15.lsts (noLs_map noL_fc _) (hfv14.same sA1)
    have hodd16 := Pds.but bt16 hB15.lsts (noLs_map noL_fcR _) (hodd14.same sA1)
    have hv16 := Pd.but bt16 hB15.lsts (noL_brd B) (hv14.same sA1)
    obtain ⟨ux, hux, xo, hxo, hpx⟩ : ∃ ux, ([V.ref U1, V.ref U2, V.ref U3, V.ref U4, V.ref U5] ++ [V.ref U6, V.ref U7, V.ref U8] ++ [V.ref U9, V.ref U10, V.ref U11])[rx]? = some ux ∧ ∃ xo, xo ∈ odds B.prog.length (B.mem.length / 4) far ∧ Pd H16 ux (fcR xo) := by
      obtain ⟨ux, hux⟩ : ∃ ux, ([V.ref U1, V.ref U2, V.ref U3, V.ref U4, V.ref U5] ++ [V.ref U6, V.ref U7, V.ref U8] ++ [V.ref U9, V.ref U10, V.ref U11])[rx]? = some ux := ⟨_, List.getElem?_eq_getElem (by show rx < 11; omega)⟩
      obtain ⟨dx, hdx, hpd⟩ := hodd16.get' hux
      rw [List.getElem?_map] at hdx
      obtain ⟨xo, hxo, rfl⟩ : ∃ xo, (odds B.prog.length (B.mem.length / 4) far)[rx]? = some xo ∧ fcR xo = dx := by simpa using hdx
      exact ⟨ux, hux, xo, List.mem_of_getElem? hxo, hpd⟩
    refine ⟨S5, _, (rx : Nat), ux, rfl, rfl, sqA_l hS16, atI_nat hux, by show 1 ≤ sizeLine; decide, fun A2 nA2 => ?_⟩
    have sA2 := same_new (o := .lst [ux]) nA2
    have hA2 : (upd H16 A2 (.lst [ux])) A2 = some (.lst [ux]) := upd_same
    generalize upd H16 A2 (.lst [ux]) = H17 at sA2 hA2
    refine ⟨A1, A2, _, _, rfl, rfl, sA2 _ _ hA1', hA2, Nat.le_of_lt (fits (by rw [List.length_take]; show min at_ fv.length + 1 ≤ 16000; omega)), fun A3 nA3 => ?_⟩
    have sA3 := same_new (o := .lst (fv.take at_ ++ [ux])) nA3
    have hA3 : (upd H17 A3 (.lst (fv.take at_ ++ [ux]))) A3 = some (.lst (fv.take at_ ++ [ux])) := upd_same
    generalize upd H17 A3 (.lst (fv.take at_ ++ [ux])) = H18 at sA3 hA3
    have q18 := sA2.trans sA3
    refine ⟨_, rfl, _, rfl, _, rfl, L1, _, rfl, sqL_l (q18 _ _ hfl16), fun A4 nA4 => ?_⟩
    have sA4 := same_new (o := .lst (cutV fv (some ((at_ : Nat) : Int)) none)) nA4
    have hA4 : (upd H18 A4 (.lst (cutV fv (some ((at_ : Nat) : Int)) none))) A4 = some (.lst (fv.drop at_)) := by rw [upd_same, cut_from]
    generalize upd H18 A4 (.lst (cutV fv (some ((at_ : Nat) : Int)) none)) = H19 at sA4 hA4
    refine ⟨A3, A4, _, _, rfl, rfl, sA4 _ _ hA3, hA4, Nat.le_of_lt (fits (by rw [List.length_append, List.length_take, List.length_drop]; show min at_ fv.length + 1 + (fv.length - at_) ≤ 16000; omega)), fun A5 nA5 => ?_⟩
    have sA5 := same_new (o := .lst (fv.take at_ ++ [ux] ++ fv.drop at_)) nA5
    have hA5 : (upd H19 A5 (.lst (fv.take at_ ++ [ux] ++ fv.drop at_))) A5 = some (.lst (fv.take at_ ++ [ux] ++ fv.drop at_)) := upd_same
    have q19 := q18.trans sA4
    have nA5b : A5 ∉ [b, l] := fun z => by
      obtain ⟨ys, e⟩ := (hB16.same q19).lsts _ z
      rw [nA5] at e; cases e
    generalize upd H19 A5 (.lst (fv.take at_ ++ [ux] ++ fv.drop at_)) = H20 at sA5 hA5
    have q20 := q19.trans sA5
    have hB20 := hB16.same q20
    -- one or none more
    refine ⟨_, rfl, by show 2 ≤ sizeLine; decide, fun T12 n12 => ⟨by show 2 ≤ sizeLine; decide, fun U12 m12 => ?_⟩⟩
    obtain ⟨s12', e12⟩ := rd_two (x := (0, ⟨"none", [0]⟩)) (xs := [.str "none", .int 0]) (ys := [.int 0, .ref T12]) rfl rfl n12 m12
    generalize upd (upd H20 T12 (.tup [.str "none", .int 0])) U12 (.tup [.int 0, .ref T12]) = G12 at s12' e12
    refine ⟨by show 1 ≤ sizeLine; decide, fun A6 nA6 => ?_⟩
    have sA6 := same_new (o := .lst [.ref U12]) nA6
    have hA6 : (upd G12 A6 (.lst [.ref U12])) A6 = some (.lst [.ref U12]) := upd_same
    have nA6b : A6 ∉ [b, l] := fun z => by
      obtain ⟨ys, e⟩ := (hB20.same s12').lsts _ z
      rw [nA6] at e; cases e
    generalize upd G12 A6 (.lst [.ref U12]) = H21 at sA6 hA6
    have q21 := s12'.trans sA6
    have hB21 := hB20.same q21
    have q1621 := q20.trans q21
    refine ⟨_, rfl, b, l, 2, 2, rfl, rfl, hB21, by decide, by decide, fun H22 r2 hB22 bt22 hr2 => ?_⟩
    have bt1622 : But [b, l] H16 H22 := (Same.but q1621).trans bt22
    have hA6' := bt22 _ _ nA6b hA6
    have hA5' := bt22 _ _ nA5b (q21 _ _ hA5)
    have e12' := Pd.but bt22 hB21.lsts (noL_fcR _) (e12.same sA6)
    refine ⟨A6, _, _, rfl, rfl, hA6', by omega, by omega, by show 1 * _ ≤ sizeLine; exact Nat.le_of_lt (fits (by omega)), fun A7 nA7 => ?_⟩
    have sA7 := same_new (o := .lst (List.replicate (((r2 : Nat) : Int)).toNat [V.ref U12]).flatten) nA7
    have hA7 : (upd H22 A7 (.lst (List.replicate (((r2 : Nat) : Int)).toNat [V.ref U12]).flatten)) A7 = some (.lst (List.replicate r2 (V.ref U12))) := by rw [upd_same, Int.toNat_natCast, rep_flat]
    generalize upd H22 A7 (.lst (List.replicate (((r2 : Nat) : Int)).toNat [V.ref U12]).flatten) = H23 at sA7 hA7
    refine ⟨A5, A7, _, _, rfl, rfl, sA7 _ _ hA5', hA7, Nat.le_of_lt (fits (by simp only [List.length_append, List.length_take, List.length_drop, List.length_replicate, List.length_cons, List.length_nil]; omega)), fun A8 nA8 => ?_⟩
    have sA8 := same_new (o := .lst (fv.take at_ ++ [ux] ++ fv.drop at_ ++ List.replicate r2 (V.ref U12))) nA8
    have hA8 : (upd H23 A8 (.lst (fv.take at_ ++ [ux] ++ fv.drop at_ ++ List.replicate r2 (V.ref U12)))) A8 = some (.lst (fv.take at_ ++ [ux] ++ fv.drop at_ ++ List.replicate r2 (V.ref U12))) := upd_same
    have q24 := sA7.trans sA8
    have hbad : Pds (upd H23 A8 (.lst (fv.take at_ ++ [ux] ++ fv.drop at_ ++ List.replicate r2 (V.ref U12)))) (fv.take at_ ++ [ux] ++ fv.drop at_ ++ List.replicate r2 (V.ref U12)) (((fs.take at_).map Fc.raw ++ xo :: ((fs.drop at_).map Fc.raw ++ List.replicate r2 (0, ⟨"none", [0]⟩))).map fcR) := by
      have emap : ∀ gs : List Fc, (gs.map Fc.raw).map fcR = gs.map fcD := fun gs => by
        rw [List.map_map]
        exact List.map_congr_left fun x _ => raw_fc x
      have f22 := (Pds.but bt1622 hB16.lsts (noLs_map noL_fc _) hfv16).same q24
      have hx22 := (Pd.but bt1622 hB16.lsts (noL_fcR xo) hpx).same q24
      have hr22 := Pds.rep (e12'.same q24) r2
      rw [List.map_append, List.map_cons, List.map_append, emap, emap, List.map_take, List.map_drop, List.map_replicate]
      have ea : ∀ (xs ys zs : List D) (z : D), xs ++ z :: (ys ++ zs) = xs ++ [z] ++ ys ++ zs := fun xs ys zs z => by simp
      rw [ea]
      exact (((Pds.takes at_ f22).app (.cons hx22 .nil)).app (Pds.drops at_ f22)).app hr22
    have hB24 := hB22.same q24
    have hT24 := Tabs.same (Tabs.but (Tabs.same hT16 q1621) bt22 hB21.lsts) q24
    have hv24 := (Pd.but bt1622 hB16.lsts (noL_brd B) hv16).same q24
    generalize upd H23 A8 (.lst (fv.take at_ ++ [ux] ++ fv.drop at_ ++ List.replicate r2 (V.ref U12))) = H24 at q24 hA8 hbad hB24 hT24 hv24
    have hfb : firstBad B ((fs.take at_).map Fc.raw ++ xo :: ((fs.drop at_).map Fc.raw ++ List.replicate r2 (0, ⟨"none", [0]⟩))) = some at_ := bad_at hfo fs30 (odds_bad f0 xo hxo) (by omega) _
    have hbl : ((fs.take at_).map Fc.raw ++ xo :: ((fs.drop at_).map Fc.raw ++ List.replicate r2 (0, ⟨"none", [0]⟩))).length ≤ 900 := by
      simp only [List.length_append, List.length_map, List.length_take, List.length_cons, List.length_drop, List.length_replicate]; omega
    have hbn : ∀ x ∈ ((fs.take at_).map Fc.raw ++ xo :: ((fs.drop at_).map Fc.raw ++ List.replicate r2 (0, ⟨"none", [0]⟩))), x.2.nums.length ≤ 1000 := by
      have rn : ∀ y : Fc, y.raw.2.nums.length ≤ 1000 := fun y => by
        have : y.2.raw.nums.length = y.2.args.length := by simp [Deed.raw]
        show (y.2.raw.nums).length ≤ 1000
        rw [this]
        cases y.2 <;> simp [Deed.args]
      intro x hx
      rcases List.mem_append.mp hx with h | h
      · obtain ⟨y, _, rfl⟩ := List.mem_map.mp h
        exact rn y
      · rcases List.mem_cons.mp h with rfl | h
        · exact odds_nums x hxo
        · rcases List.mem_append.mp h with h | h
          · obtain ⟨y, _, rfl⟩ := List.mem_map.mp h
            exact rn y
          · rw [List.eq_of_mem_replicate h]; simp
    -- the two lambdas
    refine ⟨hT24, fun f1 F1 x1 t1 l1 => ⟨t1, fun f2 F2 x2 t2 l2 => ⟨by show 2 ≤ sizeLine; decide, fun LL nLL => ?_⟩⟩⟩
    have sLL := same_new (o := .lst [.ref f1, .ref f2]) nLL
    have hLL : (upd F2 LL (.lst [.ref f1, .ref f2])) LL = some (.lst [.ref f1, .ref f2]) := upd_same
    have x24 : ExtN H24 (upd F2 LL (.lst [.ref f1, .ref f2])) := (x1.trans x2).trans (ExtN.same sLL)
    have l1' := (LamAt.ext l1 x2).ext (ExtN.same sLL)
    have l2' := LamAt.ext l2 (ExtN.same sLL)
    have t3 := Tabs.same t2 sLL
    generalize upd F2 LL (.lst [.ref f1, .ref f2]) = H25 at hLL x24 l1' l2' t3
    have hB25 := Box.ext hB24 x24
    have hv25 := Pd.ext x24 hv24
    have hbad25 := Pds.ext x24 hbad
    have hA825 := ext_lst x24 hA8
    refine ⟨LL, rfl, .inl ⟨_, sqL_l hLL, ?_⟩⟩
    refine for_it (walk_list (xs := [.ref f1, .ref f2])) (fun i σ H' => ∃ (y16 : Option V), σ = [some (.ref a), some (.ref b), some (.ref av), some (nV B.prog.length), some (.ref L1), y5, some (.ref hl), some (.ref gl), y8, none, none, some (.ref W), some (.int far), some (.ref S5), some (nV at_), some (.ref A8), y16, none, none, none] ∧ Same H25 H')
      ⟨_, rfl, Same.refl _⟩ (fun i σ H' _ hp' => by obtain ⟨_, _, sm⟩ := hp'; exact sqL_l (sm _ _ hLL)) (fun i x σ H26' H26 hi hp' hy => ?_) (fun σ H26 hp' => ?_)
    · obtain ⟨y16, rfl, s26⟩ := hp'
      obtain ⟨rfl, hx⟩ := hy
      rcases (show i = 0 ∨ i = 1 from by
        have : i < 2 := (List.getElem?_eq_some_iff.mp hx).1
        omega) with rfl | rfl
      · cases hx
        refine .inl ⟨_, rfl, f1, rfl, LamAt.ext l1' (ExtN.same s26), ?_⟩
        refine ⟨_, rfl, _, rfl, .ref av, A8, _, rfl, s26 _ _ hA825, .inr ⟨B, hv25.same s26, ok, .inl ⟨_, at_, hbad25.same s26, hbl, hbn, hfb, fun H27 d s27 hd => ?_⟩⟩⟩
        refine ⟨1, "BadFence", d, _, (at_ : Nat), .inr rfl, hi1, rfl, rfl, hx1, hd, rfl, rfl, fun H28 r s28 hr => ?_⟩
        refine ⟨_, rfl, by show 2 ≤ sizeLine; decide, fun W2 nW2 => ?_⟩
        have sW2 := same_new (o := .tup [.str "BadFence", nV at_]) nW2
        refine ⟨.ref r, .ref W2, .tup [.str "BadFence", .int (at_ : Nat)], rfl, .tup (sW2 _ _ hr) (.cons (.str _) (.cons (.int _) .nil)), .tup upd_same (.cons (.str _) (.cons (.int _) .nil)), by simp [D.dep, deps], by simp [D.sm, smAll], _, rfl, iteF ?_⟩
        exact ⟨_, rfl, ((s26.trans s27).trans s28).trans sW2⟩
      · cases hx
        refine .inr ⟨_, rfl, f2, rfl, LamAt.ext l2' (ExtN.same s26), ?_⟩
        refine ⟨_, rfl, _, rfl, .ref av, A8, _, rfl, s26 _ _ hA825, .inr ⟨B, hv25.same s26, ok, .inl ⟨_, at_, hbad25.same s26, hbl, hbn, hfb, fun H27 d s27 hd => ?_⟩⟩⟩
        refine ⟨1, "BadFence", d, _, (at_ : Nat), .inr rfl, hi1, rfl, rfl, hx1, hd, rfl, rfl, fun H28 r s28 hr => ?_⟩
        refine ⟨_, rfl, by show 2 ≤ sizeLine; decide, fun W2 nW2 => ?_⟩
        have sW2 := same_new (o := .tup [.str "BadFence", nV at_]) nW2
        refine ⟨.ref r, .ref W2, .tup [.str "BadFence", .int (at_ : Nat)], rfl, .tup (sW2 _ _ hr) (.cons (.str _) (.cons (.int _) .nil)), .tup upd_same (.cons (.str _) (.cons (.int _) .nil)), by simp [D.dep, deps], by simp [D.sm, smAll], _, rfl, iteF ?_⟩
        exact ⟨_, rfl, ((s26.trans s27).trans s28).trans sW2⟩
    obtain ⟨y16, rfl, s26⟩ := hp'
    have hB26 := hB25.same s26
    have hv26 := hv25.same s26
    have hT26 := Tabs.same t3 s26
    -- wide
    refine ⟨_, rfl, by show 1 ≤ sizeLine; decide, fun T13 n13 => ⟨by show 2 ≤ sizeLine; decide, fun U13 m13 => ?_⟩⟩
    obtain ⟨s13', e13⟩ := rd_two (x := Fc.raw (B.prog.length, .wait)) (xs := [.str "wait"]) (ys := [nV B.prog.length, .ref T13]) rfl rfl n13 m13
    generalize upd (upd H26 T13 (.tup [.str "wait"])) U13 (.tup [nV B.prog.length, .ref T13]) = G13 at s13' e13
    refine ⟨by show 1 ≤ sizeLine; decide, fun A9 nA9 => ?_⟩
    have sA9 := same_new (o := .lst [.ref U13]) nA9
    have hA9 : (upd G13 A9 (.lst [.ref U13])) A9 = some (.lst [.ref U13]) := upd_same
    have nA9b : A9 ∉ [b, l] := fun z => by
      obtain ⟨ys, e⟩ := (hB26.same s13').lsts _ z
      rw [nA9] at e; cases e
    generalize upd G13 A9 (.lst [.ref U13]) = H27 at sA9 hA9
    have q27 := s13'.trans sA9
    have hB27 := hB26.same q27
    refine ⟨_, rfl, b, l, 3, 3, rfl, rfl, hB27, by decide, by decide, fun H28 r3 hB28 bt28 hr3 => ⟨_, _, rfl, rfl, ?_⟩⟩
    have bt2628 : But [b, l] H26 H28 := (Same.but q27).trans bt28
    have e31 : ((31 : Int) + ((r3 : Nat) : Int)).toNat = 31 + r3 := by omega
    refine ⟨A9, _, _, rfl, rfl, bt28 _ _ nA9b hA9, by omega, by omega, by rw [e31]; exact Nat.le_of_lt (fits (by show 1 * (31 + r3) ≤ 16000; omega)), fun A10 nA10 => ?_⟩
    have sA10 := same_new (o := .lst (List.replicate ((31 : Int) + ((r3 : Nat) : Int)).toNat [V.ref U13]).flatten) nA10
    have hA10 : (upd H28 A10 (.lst (List.replicate ((31 : Int) + ((r3 : Nat) : Int)).toNat [V.ref U13]).flatten)) A10 = some (.lst (List.replicate (31 + r3) (V.ref U13))) := by rw [upd_same, e31, rep_flat]
    generalize upd H28 A10 (.lst (List.replicate ((31 : Int) + ((r3 : Nat) : Int)).toNat [V.ref U13]).flatten) = H29 at sA10 hA10
    have hv29 := (Pd.but bt2628 hB26.lsts (noL_brd B) hv26).same sA10
    have hT29 := Tabs.same (Tabs.but hT26 bt2628 hB26.lsts) sA10
    have e13' := (Pd.but bt28 hB27.lsts (noL_fcR _) (e13.same sA9)).same sA10
    have hwx : FcOk B (B.prog.length, .wait) := ⟨Nat.le_refl _, .inl rfl, True.intro⟩
    refine ⟨hT29, fun H30 x30 t30 => ?_⟩
    refine ⟨_, rfl, _, rfl, .ref av, A10, _, rfl, ext_lst x30 hA10, .inr ⟨B, Pd.ext x30 hv29, ok, .inl ⟨List.replicate (31 + r3) (Fc.raw (B.prog.length, .wait)), 30, ?_, by rw [List.length_replicate]; omega, fun x hx => by rw [List.eq_of_mem_replicate hx]; simp [Fc.raw, Deed.raw, Deed.args], bad_wide hwx (by omega), fun H31 d s31 hd => ?_⟩⟩⟩
    · rw [List.map_replicate]
      exact Pds.rep (Pd.ext x30 e13') _
    refine ⟨1, "BadFence", d, _, ((30 : Nat) : Int), .inr rfl, hi1, rfl, rfl, hx1, hd, rfl, rfl, fun H32 r s32 hr => ?_⟩
    refine ⟨by show 2 ≤ sizeLine; decide, fun W3 nW3 => ?_⟩
    have sW3 := same_new (o := .tup [.str "BadFence", .int 30]) nW3
    have q32 := (s31.trans s32).trans sW3
    have x33 := x30.trans (ExtN.same q32)
    refine ⟨.ref r, .ref W3, .tup [.str "BadFence", .int 30], rfl, .tup (sW3 _ _ hr) (.cons (.str _) (.cons (.int _) .nil)), .tup upd_same (.cons (.str _) (.cons (.int _) .nil)), by simp [D.dep, deps], by simp [D.sm, smAll], _, rfl, iteF ?_⟩
    have hv33 := Pd.ext x33 hv29
    have hT33 := Tabs.same t30 q32
    generalize upd H32 W3 (.tup [.str "BadFence", .int 30]) = H33 at hv33 hT33
    obtain ⟨av', m', o', p', os', ps', ev', ha33, hm33, ho33, hos33, hp33, hps33⟩ := Brd.of hv33
    cases ev'
    -- long
    refine ⟨_, rfl, av, _, 0, .ref m', rfl, rfl, sqA_t ha33, rfl, ?_⟩
    refine ⟨_, rfl, av, _, 1, .ref o', rfl, rfl, sqA_t ha33, rfl, ?_⟩
    refine ⟨by show 1 ≤ sizeLine; decide, fun T14 n14 => ?_⟩
    have s14' := same_new (o := .tup [.str "wait"]) n14
    have hT14' : (upd H33 T14 (.tup [.str "wait"])) T14 = some (.tup [.str "wait"]) := upd_same
    generalize upd H33 T14 (.tup [.str "wait"]) = H34 at s14' hT14'
    refine ⟨by show 1 ≤ sizeLine; decide, fun T15 n15 => ?_⟩
    have s15' := same_new (o := .tup [.ref T14]) n15
    have hT15' : (upd H34 T15 (.tup [.ref T14])) T15 = some (.tup [.ref T14]) := upd_same
    generalize upd H34 T15 (.tup [.ref T14]) = H35 at s15' hT15'
    refine ⟨T15, 55, [.ref T14], rfl, rfl, sqT_t hT15', by simp, by decide, by decide, by simp, fun T16 n16 => ?_⟩
    have s16' := same_new (o := .tup (List.replicate (55 : Int).toNat [V.ref T14]).flatten) n16
    have hT16' : (upd H35 T16 (.tup (List.replicate (55 : Int).toNat [V.ref T14]).flatten)) T16 = some (.tup (List.replicate 55 (V.ref T14))) := by rw [upd_same, rep_flat]; rfl
    generalize upd H35 T16 (.tup (List.replicate (55 : Int).toNat [V.ref T14]).flatten) = H36 at s16' hT16'
    refine ⟨by show 3 ≤ sizeLine; decide, fun Lg nLg => ?_⟩
    have sLg := same_new (o := .tup [.ref m', .ref o', .ref T16]) nLg
    have hLg : (upd H36 Lg (.tup [.ref m', .ref o', .ref T16])) Lg = some (.tup [.ref m', .ref o', .ref T16]) := upd_same
    generalize upd H36 Lg (.tup [.ref m', .ref o', .ref T16]) = H37 at sLg hLg
    have q37 := ((s14'.trans s15').trans s16').trans sLg
    have hwt : Pd H37 (.ref T14) Deed.wait.d := .tup (sLg _ _ (s16' _ _ (s15' _ _ hT14'))) (.cons (.str _) .nil)
    have hlong : Pd H37 (.ref Lg) B.long.d := by
      refine .tup hLg (.cons (.tup (q37 _ _ hm33) (pds_ns _)) (.cons (.tup (q37 _ _ ho33) (hos33.same q37)) (.cons (.tup (sLg _ _ hT16') ?_) .nil)))
      show Pds H37 (List.replicate 55 (V.ref T14)) ((List.replicate 55 Deed.wait).map Deed.d)
      rw [List.map_replicate]
      exact Pds.rep hwt 55
    have hT37 := Tabs.same hT33 q37
    -- six
    refine ⟨by show 1 ≤ sizeLine; decide, fun T17 n17 => ⟨by show 2 ≤ sizeLine; decide, fun U17 m17 => ?_⟩⟩
    obtain ⟨s17', e17⟩ := rd_two (x := Fc.raw (0, .wait)) (xs := [.str "wait"]) (ys := [.int 0, .ref T17]) rfl rfl n17 m17
    generalize upd (upd H37 T17 (.tup [.str "wait"])) U17 (.tup [.int 0, .ref T17]) = G17 at s17' e17
    refine ⟨by show 1 ≤ sizeLine; decide, fun A11 nA11 => ?_⟩
    have sA11 := same_new (o := .lst [.ref U17]) nA11
    have hA11 : (upd G17 A11 (.lst [.ref U17])) A11 = some (.lst [.ref U17]) := upd_same
    generalize upd G17 A11 (.lst [.ref U17]) = H38 at sA11 hA11
    refine ⟨A11, 6, _, rfl, rfl, hA11, by decide, by decide, by show 1 * 6 ≤ sizeLine; decide, fun A12 nA12 => ?_⟩
    have sA12 := same_new (o := .lst (List.replicate (6 : Int).toNat [V.ref U17]).flatten) nA12
    have hA12 : (upd H38 A12 (.lst (List.replicate (6 : Int).toNat [V.ref U17]).flatten)) A12 = some (.lst (List.replicate 6 (V.ref U17))) := by rw [upd_same, rep_flat]; rfl
    generalize upd H38 A12 (.lst (List.replicate (6 : Int).toNat [V.ref U17]).flatten) = H39 at sA12 hA12
    have q39 := (s17'.trans sA11).trans sA12
    have hlong39 := hlong.same q39
    have hT39 := Tabs.same hT37 q39
    have hsix39 : Pds H39 (List.replicate 6 (V.ref U17)) (six.map fcD) := by
      rw [six, List.map_replicate]
      have := (e17.same (sA11.trans sA12))
      rw [raw_fc] at this
      exact Pds.rep this 6
    -- spare refuses
    refine ⟨hT39, fun H40 x40 t40 => ?_⟩
    refine ⟨_, rfl, _, rfl, .ref Lg, A12, _, rfl, ext_lst x40 hA12, .inr ⟨B.long, Pd.ext x40 hlong39, long_ok ok, .inr ⟨six, Pds.ext x40 hsix39, by decide, six_ok, raw_six ok, (fun e => by rw [wrong_six ok] at e; cases e), fun z n e => ?_⟩⟩⟩
    obtain ⟨rfl, rfl⟩ : z = "program" ∧ n = 60 := by
      rw [wrong_six ok] at e
      cases e; exact ⟨rfl, rfl⟩
    intro H41 d41 s41 hd41
    refine ⟨0, "BadBoard", d41, _, ((60 : Nat) : Int), .inl rfl, hi0, rfl, rfl, hx0, hd41, rfl, rfl, fun H42 r42 s42 hr42 => ?_⟩
    refine ⟨by show 2 ≤ sizeLine; decide, fun W4 nW4 => ?_⟩
    have sW4 := same_new (o := .tup [.str "BadBoard", .int 60]) nW4
    have q42 := (s41.trans s42).trans sW4
    have x43 := x40.trans (ExtN.same q42)
    refine ⟨.ref r42, .ref W4, .tup [.str "BadBoard", .int 60], rfl, .tup (sW4 _ _ hr42) (.cons (.str _) (.cons (.int _) .nil)), .tup upd_same (.cons (.str _) (.cons (.int _) .nil)), by simp [D.dep, deps], by simp [D.sm, smAll], _, rfl, iteF ?_⟩
    have hlong43 := Pd.ext x43 hlong39
    have hsix43 := Pds.ext x43 hsix39
    have hA1243 := ext_lst x43 hA12
    have hT43 := Tabs.same t40 q42
    generalize upd H42 W4 (.tup [.str "BadBoard", .int 60]) = H43 at hlong43 hsix43 hA1243 hT43
    -- fenced refuses
    refine ⟨hT43, fun H44 x44 t44 => ?_⟩
    refine ⟨_, rfl, _, rfl, .ref Lg, A12, _, rfl, ext_lst x44 hA1243, .inr ⟨B.long, Pd.ext x44 hlong43, long_ok ok, .inr ⟨six, Pds.ext x44 hsix43, by decide, six_ok, raw_six ok, (fun e => by rw [wrong_six ok] at e; cases e), fun z n e => ?_⟩⟩⟩
    obtain ⟨rfl, rfl⟩ : z = "program" ∧ n = 60 := by
      rw [wrong_six ok] at e
      cases e; exact ⟨rfl, rfl⟩
    intro H45 d45 s45 hd45
    refine ⟨0, "BadBoard", d45, _, ((60 : Nat) : Int), .inl rfl, hi0, rfl, rfl, hx0, hd45, rfl, rfl, fun H46 r46 s46 hr46 => ?_⟩
    refine ⟨by show 2 ≤ sizeLine; decide, fun W5 nW5 => ?_⟩
    have sW5 := same_new (o := .tup [.str "BadBoard", .int 60]) nW5
    exact ⟨.ref r46, .ref W5, .tup [.str "BadBoard", .int 60], rfl, .tup (sW5 _ _ hr46) (.cons (.str _) (.cons (.int _) .nil)), .tup upd_same (.cons (.str _) (.cons (.int _) .nil)), by simp [D.dep, deps], by simp [D.sm, smAll], q _⟩
end
end Vt
namespace Vt
open PySem PySem.Spec PyProof.Rows L2 LamX
abbrev st_is_sure : Stmt := (topS 36)
set_option maxHeartbeats 0 in
theorem all_mk {l : PySem.W.OpenLaw} {w : World} {K : PySem.W.Frag} {h : Heap} {mg : Str → Option Value} {fa dd msz E0 E1 E2 E3 E4 CE : Addr} {t1 t2 t3 t4 t5 t6 : Tok} (X : K.In h) (G : h.Ns mainGlobals mg) (hfa : mg "law" = some (.ref fa)) (own : OwnTab K fa h)
    (h_first_wrong_cell : ∃ f, Found K "first_wrong_cell" st_first_wrong_cell f) (h_first_wrong_order : ∃ f, Found K "first_wrong_order" st_first_wrong_order f) (h_order_can_be : ∃ f, Found K "order_can_be" st_order_can_be f) (h_counts_of_things : ∃ f, Found K "counts_of_things" st_counts_of_things f) (h_first_wrong_deed : ∃ f, Found K "first_wrong_deed" st_first_wrong_deed f) (h_deed_can_be : ∃ f, Found K "deed_can_be" st_deed_can_be f) (h_require_board : ∃ f, Found K "require_board" st_require_board f) (h_put_in : ∃ f, Found K "put_in" st_put_in f) (h_fence_can_be : ∃ f, Found K "fence_can_be" st_fence_can_be f) (h_require_fences : ∃ f, Found K "require_fences" st_require_fences f) (h_fenced : ∃ f, Found K "fenced" st_fenced f) (h_spare : ∃ f, Found K "spare" st_spare f) (h_is_sure : ∃ f, Found K "is_sure" st_is_sure f) (h_law_begun : ∃ f, Found K "_law_begun" st_law_begun f) (h_law_take : ∃ f, Found K "_law_take" st_law_take f) (h_law_alike : ∃ f, Found K "_law_alike" st_law_alike f) (h_law_class : ∃ f, Found K "_law_class" st_law_class f) (h_law_order : ∃ f, Found K "_law_order" st_law_order f) (h_law_deed : ∃ f, Found K "_law_deed" st_law_deed f) (h_law_board : ∃ f, Found K "_law_board" st_law_board f) (h_law_fence : ∃ f, Found K "_law_fence" st_law_fence f) (h_law_refused : ∃ f, Found K "_law_refused" st_law_refused f) (h_law_kinds : ∃ f, Found K "_law_kinds" st_law_kinds f) (h_law : ∃ f cda Pt, FoundL K st_law f cda Pt)
    (gE0 : PySem.W.nsIn K mainGlobals "BadBoard" = some (some (.ref E0))) (gE1 : PySem.W.nsIn K mainGlobals "BadFence" = some (some (.ref E1))) (gE2 : PySem.W.nsIn K mainGlobals "NotSure" = some (some (.ref E2))) (gE3 : PySem.W.nsIn K mainGlobals "BadCount" = some (some (.ref E3))) (gE4 : PySem.W.nsIn K mainGlobals "BadText" = some (some (.ref E4))) (gCE : PySem.W.nsIn K mainGlobals "CarrierError" = some (some (.ref CE)))
    (xsp : PySem.W.specialIn K (.builtin "object.__class__") "__get__" = some (some (.builtin "getset_descriptor.__get__"))) (xtk : PySem.W.takesIn K (.builtin "object.__class__") = some true) (top : (l.prog.main.scope.names.lookup ("super" : Str)).isSome = false) (any : PySem.W.nsIn K cStatics "thirdparty.any" = some none)
    {nm0 q0 : Str} {N0 : Addr} {bs0 bm0 : List Value} {sn0 : List Str} {sub0 : List Value} {ab0 : Bool} {col0 : Option Bool} {dd0 : Option Addr} {ka0 kb0 kc0 kd0 ke0 : Option Value} (l0 : K.lookup E0 = some (excClassObj nm0 q0 E0 N0 bs0 bm0 true sn0 sub0 ab0 col0 dd0 ka0 kb0 kc0 kd0 ke0 "ValueError.__new__")) (r0 : PySem.HandSPX.refsVE bm0 = true) (sa0 : PySem.W.findIn K (.ref E0) "__setattr__" = some (some (.builtin "object.__setattr__"))) (ex0 : PySem.W.subIn K (.ref E0) (.type "BaseException") = some true) (ty0 : PySem.W.typeIn K (.ref E0) = some (.type "type")) (kp0 : PySem.W.keepIn K (.ref E0) = true) (xa0 : PySem.W.findIn K (.ref E0) "__getattribute__" = some (some (.builtin "BaseException.__getattribute__"))) (xb0 : PySem.W.findIn K (.ref E0) "__getattr__" = some none) (xd0 : PySem.W.hasDictIn K E0 = true) (xe0 : PySem.W.findIn K (.ref E0) "__class__" = some (some (.builtin "object.__class__"))) (xh0 : PySem.W.mroIn K E0 (.type "object") = some true) (i0_0 : PySem.W.kitOne K (.ref E0) (.ref E0) = some true) (i1_0 : PySem.W.kitOne K (.ref E0) (.ref E1) = some false) (i2_0 : PySem.W.kitOne K (.ref E0) (.ref E2) = some false) (i3_0 : PySem.W.kitOne K (.ref E0) (.ref E3) = some false) (i4_0 : PySem.W.kitOne K (.ref E0) (.ref E4) = some false) (iV_0 : PySem.W.kitOne K (.ref E0) (.type "ValueError") = some true) (xm0 : PySem.W.exmOne K (.ref E0) (.ref CE) = some true) (su0 : PySem.W.mroIn K E0 (.ref E0) = some true) (sp0 : PySem.W.ks_superIn K E0 E0 "__init__" = some (some (.builtin "ValueError.__init__"))) (ve0 : PySem.W.subIn K (.ref E0) (.type "ValueError") = some true) (no0_word : PySem.W.findIn K (.ref E0) "word" = some none) (no0_number : PySem.W.findIn K (.ref E0) "number" = some none) (hx_0 : ∃ f cda cc, FoundS K E0 E0 "__init__" "BadBoard.__init__" st_BadBoard___init__ f cda cc ∧ CodeAt l.prog K cda ∧ PySem.W.typeIn K (.ref f) = some (.type "function"))
    {nm1 q1 : Str} {N1 : Addr} {bs1 bm1 : List Value} {sn1 : List Str} {sub1 : List Value} {ab1 : Bool} {col1 : Option Bool} {dd1 : Option Addr} {ka1 kb1 kc1 kd1 ke1 : Option Value} (l1 : K.lookup E1 = some (excClassObj nm1 q1 E1 N1 bs1 bm1 true sn1 sub1 ab1 col1 dd1 ka1 kb1 kc1 kd1 ke1 "ValueError.__new__")) (r1 : PySem.HandSPX.refsVE bm1 = true) (sa1 : PySem.W.findIn K (.ref E1) "__setattr__" = some (some (.builtin "object.__setattr__"))) (ex1 : PySem.W.subIn K (.ref E1) (.type "BaseException") = some true) (ty1 : PySem.W.typeIn K (.ref E1) = some (.type "type")) (kp1 : PySem.W.keepIn K (.ref E1) = true) (xa1 : PySem.W.findIn K (.ref E1) "__getattribute__" = some (some (.builtin "BaseException.__getattribute__"))) (xb1 : PySem.W.findIn K (.ref E1) "__getattr__" = some none) (xd1 : PySem.W.hasDictIn K E1 = true) (xe1 : PySem.W.findIn K (.ref E1) "__class__" = some (some (.builtin "object.__class__"))) (xh1 : PySem.W.mroIn K E1 (.type "object") = some true) (i0_1 : PySem.W.kitOne K (.ref E1) (.ref E0) = some false) (i1_1 : PySem.W.kitOne K (.ref E1) (.ref E1) = some true) (i2_1 : PySem.W.kitOne K (.ref E1) (.ref E2) = some false) (i3_1 : PySem.W.kitOne K (.ref E1) (.ref E3) = some false) (i4_1 : PySem.W.kitOne K (.ref E1) (.ref E4) = some false) (iV_1 : PySem.W.kitOne K (.ref E1) (.type "ValueError") = some true) (xm1 : PySem.W.exmOne K (.ref E1) (.ref CE) = some true) (su1 : PySem.W.mroIn K E1 (.ref E1) = some true) (sp1 : PySem.W.ks_superIn K E1 E1 "__init__" = some (some (.builtin "ValueError.__init__"))) (ve1 : PySem.W.subIn K (.ref E1) (.type "ValueError") = some true) (no1_number : PySem.W.findIn K (.ref E1) "number" = some none) (hx_1 : ∃ f cda cc, FoundS K E1 E1 "__init__" "BadFence.__init__" st_BadFence___init__ f cda cc ∧ CodeAt l.prog K cda ∧ PySem.W.typeIn K (.ref f) = some (.type "function"))
    (g1 : PySem.W.nsIn K mainGlobals "LINE" = some (some (.int 4 t1))) (g2 : PySem.W.nsIn K mainGlobals "NUMBERS" = some (some (.int 10 t2))) (g3 : PySem.W.nsIn K mainGlobals "MOST_ORDERS" = some (some (.int 4 t3))) (g4 : PySem.W.nsIn K mainGlobals "MOST_MOVED" = some (some (.int 8 t4))) (g5 : PySem.W.nsIn K mainGlobals "MOST_DEEDS" = some (some (.int 60 t5))) (g6 : PySem.W.nsIn K mainGlobals "MOST_STARTS" = some (some (.int 3 t6)))
    (g7 : PySem.W.nsIn K mainGlobals "MEMORY_SIZES" = some (some (.ref msz))) (g8 : KTup K msz [.int 4, .int 8, .int 12, .int 16]) (g9 : PySem.W.nsIn K mainGlobals "DEEDS" = some (some (.ref dd))) (Kd : mg "DEEDS" = some (.ref dd) → Kinds K w mg dd)
    {tx0 : Tok} (x_MOST_FENCES : PySem.W.nsIn K mainGlobals "MOST_FENCES" = some (some (.int 30 tx0)))
    {at_FENCES : Addr} (x_FENCES : PySem.W.nsIn K mainGlobals "FENCES" = some (some (.ref at_FENCES))) (y_FENCES : KTup K at_FENCES [.str "wait", .str "clean", .str "drop"])
    (z_len : PySem.W.nsIn K mainGlobals "len" = some none) (z_enumerate : PySem.W.nsIn K mainGlobals "enumerate" = some none) (z_all : PySem.W.nsIn K mainGlobals "all" = some none) (z_zip : PySem.W.nsIn K mainGlobals "zip" = some none) (z_range : PySem.W.nsIn K mainGlobals "range" = some none) (z_list : PySem.W.nsIn K mainGlobals "list" = some none) (z_tuple : PySem.W.nsIn K mainGlobals "tuple" = some none) (z_int : PySem.W.nsIn K mainGlobals "int" = some none) (z_min : PySem.W.nsIn K mainGlobals "min" = some none) (z_bool : PySem.W.nsIn K mainGlobals "bool" = some none) (z_str : PySem.W.nsIn K mainGlobals "str" = some none) (z_isinstance : PySem.W.nsIn K mainGlobals "isinstance" = some none) (z_set : PySem.W.nsIn K mainGlobals "set" = some none) (z_sorted : PySem.W.nsIn K mainGlobals "sorted" = some none) (z_dict : PySem.W.nsIn K mainGlobals "dict" = some none) (z_ValueError : PySem.W.nsIn K mainGlobals "ValueError" = some none) (z_super : PySem.W.nsIn K mainGlobals "super" = some none) :
    LawAtS l w K CX0 9 63 "_law_script" mg fa h := by
  have n := fun {x : Str} (z : PySem.W.nsIn K mainGlobals x = some none) => PySem.W.mg_none_of X G z
  have Kd' := Kd (PySem.W.mg_of X G g9)
  have C_ : Consts K mg := ⟨⟨_, PySem.W.mg_of X G g1⟩, ⟨_, PySem.W.mg_of X G g2⟩, ⟨_, PySem.W.mg_of X G g3⟩, ⟨_, PySem.W.mg_of X G g4⟩, ⟨_, PySem.W.mg_of X G g5⟩, ⟨_, PySem.W.mg_of X G g6⟩, ⟨_, PySem.W.mg_of X G g7, g8⟩⟩
  obtain ⟨f, cda, Pt, hL⟩ := h_law
  refine law_own X G hfa own hL (fun _ _ _ _ _ s v => .of_eq rfl) (sp := spLaw K Pt) (fun H a ns hl hT hS => ⟨a, ns, rfl, hS, hl, hT, fun _ => rfl⟩) (fun lk base TB => ?_)
  have e_MOST_FENCES : ∃ t, mg "MOST_FENCES" = some (.int 30 t) := ⟨_, PySem.W.mg_of X G x_MOST_FENCES⟩
  have e_FENCES : ∃ a, mg "FENCES" = some (.ref a) ∧ KTup K a [.str "wait", .str "clean", .str "drop"] := ⟨_, PySem.W.mg_of X G x_FENCES, y_FENCES⟩
  have gFive : Clss mg (five E0 E1 E2 E3 E4) := ⟨PySem.W.mg_of X G gE0, PySem.W.mg_of X G gE1, PySem.W.mg_of X G gE2, PySem.W.mg_of X G gE3, PySem.W.mg_of X G gE4⟩
  have gSure : ∃ g, mg "is_sure" = some (.ref g) ∧ PySem.W.keepIn K (.ref g) = true := by
    obtain ⟨f, oc, od, kV, doc, pm, an, cdv, ct, osl, a, l, c, kp⟩ := h_is_sure
    exact ⟨f, PySem.W.mg_of X G a, kp⟩
  have oex0 : OexC K E0 := ⟨⟨_, _, _, _, _, _, _, _, _, _, _, _, _, _, _, l0, r0⟩, sa0, ex0, ty0, kp0⟩
  have xcl0 : XCls K E0 ["word", "number"] := ⟨oex0, ⟨su0, sp0, ve0⟩, List.forall_mem_cons.mpr ⟨no0_word, List.forall_mem_cons.mpr ⟨no0_number, fun _ h => by cases h⟩⟩⟩
  have is0 : IsCls K (five E0 E1 E2 E3 E4) 0 := ⟨⟨xa0, xb0, ex0, xd0, xe0, xsp, xtk, xh0⟩, i0_0, i1_0, i2_0, i3_0, i4_0, iV_0⟩
  have fld0_word : FldC K E0 "word" := ⟨⟨xa0, xb0, ex0, xd0⟩, no0_word⟩
  have fld0_number : FldC K E0 "number" := ⟨⟨xa0, xb0, ex0, xd0⟩, no0_number⟩
  obtain ⟨fx0, cdx0, ccx0, hFx0, hCx0, hTx0⟩ := hx_0
  have k_BadBoard : MakesX l.prog w K mg base "BadBoard" E0 1 (spX2 E0) := bb_make (PySem.W.mg_of X G gE0) xcl0 hFx0 hTx0 hCx0 top (n z_super) any
  have oex1 : OexC K E1 := ⟨⟨_, _, _, _, _, _, _, _, _, _, _, _, _, _, _, l1, r1⟩, sa1, ex1, ty1, kp1⟩
  have xcl1 : XCls K E1 ["number"] := ⟨oex1, ⟨su1, sp1, ve1⟩, List.forall_mem_cons.mpr ⟨no1_number, fun _ h => by cases h⟩⟩
  have is1 : IsCls K (five E0 E1 E2 E3 E4) 1 := ⟨⟨xa1, xb1, ex1, xd1, xe1, xsp, xtk, xh1⟩, i0_1, i1_1, i2_1, i3_1, i4_1, iV_1⟩
  have fld1_number : FldC K E1 "number" := ⟨⟨xa1, xb1, ex1, xd1⟩, no1_number⟩
  obtain ⟨fx1, cdx1, ccx1, hFx1, hCx1, hTx1⟩ := hx_1
  have k_BadFence : MakesX l.prog w K mg base "BadFence" E1 1 (spX1 E1 "number") := bf_make (PySem.W.mg_of X G gE1) xcl1 hFx1 hTx1 hCx1 top (n z_super) any
  have step : ∀ k, Callee l.prog w K mg base "_law_alike" k 2 (spAlike k) → Callee l.prog w K mg base "_law_alike" (k + 1) 2 (spAlike (k + 1)) := fun k c =>
    callee_mk X G h_law_alike (fun f fd F => alike_go F k c (n z_len) (n z_range) (n z_isinstance) (n z_bool) (n z_int) (n z_str) (n z_tuple) (n z_list)) (fun _ _ _ _ _ _ us hl => match us, hl with | [_, _], _ => rfl)
  have c0 : Callee l.prog w K mg base "_law_alike" 0 2 (spAlike 0) :=
    callee_mk (ps := ["_law_found", "_law_due"]) X G h_law_alike (fun f fd F => ⟨fun vs H Q E h => by obtain ⟨u, v, d, rfl, _⟩ := h; rfl, fun A outer s H args us vs Q E hr he hb hv h => by obtain ⟨u, v, d, _, _, _, hd, _⟩ := h; exact absurd hd (Nat.not_lt_zero _)⟩) (fun _ _ _ _ _ _ us hl => match us, hl with | [_, _], _ => rfl)
  have c_alike := step 3 (step 2 (step 1 (step 0 c0)))
  have c_take : Callee l.prog w K mg base "_law_take" 1 2 spTake := callee_mk X G h_law_take (fun f fd F => ok_take F) (fun _ _ _ _ _ _ us hl => match us, hl with | [_, _], _ => rfl)
  have c_order : Callee l.prog w K mg base "_law_order" 2 4 spOrder := callee_mk X G h_law_order (fun f fd F => ok_order F c_take (n z_min)) (fun _ _ _ _ _ _ us hl => match us, hl with | [_, _, _, _], _ => rfl)
  have c_deed : Callee l.prog w K mg base "_law_deed" 2 4 spDeed := callee_mk X G h_law_deed (fun f fd F => ok_deed F c_take (n z_len) (n z_int)) (fun _ _ _ _ _ _ us hl => match us, hl with | [_, _, _, _], _ => rfl)
  have c_board : Callee l.prog w K mg base "_law_board" 3 4 spBoard := callee_mk X G h_law_board (fun f fd F => ok_board F c_take c_order c_deed (n z_len) (n z_tuple) (n z_range)) (fun _ _ _ _ _ _ us hl => match us, hl with | [_, _, _, _], _ => rfl)
  have c_begun : Callee l.prog w K mg base "_law_begun" 1 1 (spBegun K) := callee_mk X G h_law_begun (fun f fd F => ok_begun F (n z_len) (n z_int) (n z_list)) (fun _ _ _ _ _ _ us hl => match us, hl with | [_], _ => rfl)
  have c_kinds : Callee l.prog w K mg base "_law_kinds" 1 0 (spKinds kindWords) := callee_mk X G h_law_kinds (fun f fd F => ok_kinds F) (fun _ _ _ _ _ _ us hl => match us, hl with | [], _ => rfl)
  have c_fwc : Callee l.prog w K mg base "first_wrong_cell" 1 1 spFwCell := callee_mk X G h_first_wrong_cell (fun f fd F => ok_fwcell F C_ (n z_len) (n z_enumerate)) (fun _ _ _ _ _ _ us hl => match us, hl with | [_], _ => rfl)
  have c_oc : Callee l.prog w K mg base "order_can_be" 1 4 spOrdCan := callee_mk X G h_order_can_be (fun f fd F => ok_ordcan F C_) (fun _ _ _ _ _ _ us hl => match us, hl with | [_, _, _, _], _ => rfl)
  have c_fwo : Callee l.prog w K mg base "first_wrong_order" 2 2 spFwOrd := callee_mk X G h_first_wrong_order (fun f fd F => ok_fword F C_ c_oc (n z_len) (n z_enumerate)) (fun _ _ _ _ _ _ us hl => match us, hl with | [_, _], _ => rfl)
  have c_dc : Callee l.prog w K mg base "deed_can_be" 1 2 (spDeedCan K w dd) := callee_mk X G h_deed_can_be (fun f fd F => ok_deedcan F Kd' (n z_len) (n z_all) (n z_zip)) (fun _ _ _ _ _ _ us hl => match us, hl with | [_, _], _ => rfl)
  have c_counts : Callee l.prog w K mg base "counts_of_things" 1 2 spCounts := callee_mk X G h_counts_of_things (fun f fd F => ok_counts F C_) (fun _ _ _ _ _ _ us hl => match us, hl with | [_, _], _ => rfl)
  have c_fwd : Callee l.prog w K mg base "first_wrong_deed" 2 3 (spFwDeed K w dd) := callee_mk X G h_first_wrong_deed (fun f fd F => ok_fwdeed F C_ c_dc c_counts (n z_enumerate)) (fun _ _ _ _ _ _ us hl => match us, hl with | [_, _, _], _ => rfl)
  have c_put_in : Callee l.prog w K mg base "put_in" 1 2 spPutIn := callee_mk X G h_put_in (fun f fd F => ok_putin F (n z_len) (n z_range) (n z_tuple)) (fun _ _ _ _ _ _ us hl => match us, hl with | [_, _], _ => rfl)
  have c_takeF : Callee l.prog w K mg base "_law_take" 1 2 spTakeF := callee_mk X G h_law_take (fun f fd F => ok_takeF F) (fun _ _ _ _ _ _ us hl => match us, hl with | [_, _], _ => rfl)
  have c_lfence : Callee l.prog w K mg base "_law_fence" 2 2 spLFence := callee_mk X G h_law_fence (fun f fd F => ok_lfence F c_take (n z_len)) (fun _ _ _ _ _ _ us hl => match us, hl with | [_, _], _ => rfl)
  have c_class : CalleeP l.prog w K mg base "_law_class" 1 (spClassD K (five E0 E1 E2 E3 E4)) := calleeP_mk X G h_law_class (fun lk hcd p cls d hz hf => ok_classD gFive lk hcd (n z_isinstance) (n z_ValueError) p cls d hz hf) (fun _ _ _ _ _ _ us hl => match us, hl with | [_], _ => rfl)
  have n_req : CalleeN l.prog w K mg base "require_board" 3 1 (spReqX K w dd E0) := calleeN_mk X G h_require_board (fun f fd F => ok_reqX F k_BadBoard c_fwc c_fwo c_fwd (n z_len)) (fun _ _ _ _ _ _ us hl => match us, hl with | [_], _ => rfl)
  have c_fcbX : Callee l.prog w K mg base "fence_can_be" 2 3 spFenceCanX := callee_mk X G h_fence_can_be (fun f fd F => ok_fencecanX F e_FENCES c_dc (n z_len)) (fun _ _ _ _ _ _ us hl => match us, hl with | [_, _, _], _ => rfl)
  have n_reqf : CalleeN l.prog w K mg base "require_fences" 3 2 (spReqFX E1) := calleeN_mk X G h_require_fences (fun f fd F => ok_reqfX F k_BadFence e_MOST_FENCES c_counts c_fcbX (n z_len) (n z_enumerate)) (fun _ _ _ _ _ _ us hl => match us, hl with | [_, _], _ => rfl)
  have n_fenced : CalleeN l.prog w K mg base "fenced" 4 2 (spFencedX K w dd E0 E1) := calleeN_mk X G h_fenced (fun f fd F => ok_fencedX F n_req n_reqf c_put_in) (fun _ _ _ _ _ _ us hl => match us, hl with | [_, _], _ => rfl)
  have n_spare : CalleeN l.prog w K mg base "spare" 5 2 (spSpareX K w dd E0 E1) := calleeN_mk X G h_spare (fun f fd F => ok_spareX F n_fenced gSure) (fun _ _ _ _ _ _ us hl => match us, hl with | [_, _], _ => rfl)
  have hRF : RefF l.prog w K mg base (five E0 E1 E2 E3 E4) CE := by
    obtain ⟨g, hg⟩ := h_law_refused
    have hg' := hg
    obtain ⟨oc, od, kV, doc, pm, an, cdv, ct, osl, a, _⟩ := hg'
    exact ⟨⟨g, hg, PySem.W.mg_of X G a⟩, c_class, PySem.W.mg_of X G gCE, fld0_number, fld1_number⟩
  exact ok_law lk hL.code TB hRF is0 is1 xm0 xm1 c_begun c_board c_kinds c_take c_takeF c_lfence c_alike n_fenced n_spare (n z_range) (n z_len) (n z_list) (n z_tuple)
end Vt
open PySem PySem.W PyProof.Rows
set_option maxHeartbeats 0 in
theorem PySem.Challenge.cw_blockcarrier_k10_fences_put_in_holds : PySem.Challenge.rw_blockcarrier_k10_fences_put_in.Holds := by
  w_on; o_law; k_head; (case hw => w_witness2)
  k_fill
  refine LamX.walk_ofOwn (l := PySem.Challenge.rw_blockcarrier_k10_fences_put_in) (n := 63) (k := 9) (x := "_law_script") (CX := fun _ => L2.CX0) rfl (by decide) rfl ⟨rfl, by decide, by decide⟩ ?hrec (fun w h Y => PySem.W.km_in_of Y) ?F (fun _ _ _ _ _ h => h)
  case hrec => first | rfl | kernel_rfl
  case F =>
    intro w mg fa h Y KX G hmg own
    refine' Vt.all_mk KX G hmg own ?h_first_wrong_cell ?h_first_wrong_order ?h_order_can_be ?h_counts_of_things ?h_first_wrong_deed ?h_deed_can_be ?h_require_board ?h_put_in ?h_fence_can_be ?h_require_fences ?h_fenced ?h_spare ?h_is_sure ?h_law_begun ?h_law_take ?h_law_alike ?h_law_class ?h_law_order ?h_law_deed ?h_law_board ?h_law_fence ?h_law_refused ?h_law_kinds ?h_law ?gE0 ?gE1 ?gE2 ?gE3 ?gE4 ?gCE ?xsp ?xtk ?top ?any ?l0 ?r0 ?sa0 ?ex0 ?ty0 ?kp0 ?xa0 ?xb0 ?xd0 ?xe0 ?xh0 ?i0_0 ?i1_0 ?i2_0 ?i3_0 ?i4_0 ?iV_0 ?xm0 ?su0 ?sp0 ?ve0 ?no0_word ?no0_number ?hx_0 ?l1 ?r1 ?sa1 ?ex1 ?ty1 ?kp1 ?xa1 ?xb1 ?xd1 ?xe1 ?xh1 ?i0_1 ?i1_1 ?i2_1 ?i3_1 ?i4_1 ?iV_1 ?xm1 ?su1 ?sp1 ?ve1 ?no1_number ?hx_1 ?g1 ?g2 ?g3 ?g4 ?g5 ?g6 ?g7 ?g8 ?g9 ?g10 ?x_MOST_FENCES ?x_FENCES ?y_FENCES ?z_len ?z_enumerate ?z_all ?z_zip ?z_range ?z_list ?z_tuple ?z_int ?z_min ?z_bool ?z_str ?z_isinstance ?z_set ?z_sorted ?z_dict ?z_ValueError ?z_super
    (case h_first_wrong_cell => (refine' Vt.found_mk ?a ?l ?c ?k; (case a => k_is); (case l => k_is); (case c => k_is); (case k => k_is)))
    (case h_first_wrong_order => (refine' Vt.found_mk ?a ?l ?c ?k; (case a => k_is); (case l => k_is); (case c => k_is); (case k => k_is)))
    (case h_order_can_be => (refine' Vt.found_mk ?a ?l ?c ?k; (case a => k_is); (case l => k_is); (case c => k_is); (case k => k_is)))
    (case h_counts_of_things => (refine' Vt.found_mk ?a ?l ?c ?k; (case a => k_is); (case l => k_is); (case c => k_is); (case k => k_is)))
    (case h_first_wrong_deed => (refine' Vt.found_mk ?a ?l ?c ?k; (case a => k_is); (case l => k_is); (case c => k_is); (case k => k_is)))
    (case h_deed_can_be => (refine' Vt.found_mk ?a ?l ?c ?k; (case a => k_is); (case l => k_is); (case c => k_is); (case k => k_is)))
    (case h_require_board => (refine' Vt.found_mk ?a ?l ?c ?k; (case a => k_is); (case l => k_is); (case c => k_is); (case k => k_is)))
    (case h_put_in => (refine' Vt.found_mk ?a ?l ?c ?k; (case a => k_is); (case l => k_is); (case c => k_is); (case k => k_is)))
    (case h_fence_can_be => (refine' Vt.found_mk ?a ?l ?c ?k; (case a => k_is); (case l => k_is); (case c => k_is); (case k => k_is)))
    (case h_require_fences => (refine' Vt.found_mk ?a ?l ?c ?k; (case a => k_is); (case l => k_is); (case c => k_is); (case k => k_is)))
    (case h_fenced => (refine' Vt.found_mk ?a ?l ?c ?k; (case a => k_is); (case l => k_is); (case c => k_is); (case k => k_is)))
    (case h_spare => (refine' Vt.found_mk ?a ?l ?c ?k; (case a => k_is); (case l => k_is); (case c => k_is); (case k => k_is)))
    (case h_is_sure => (refine' Vt.found_mk ?a ?l ?c ?k; (case a => k_is); (case l => k_is); (case c => k_is); (case k => k_is)))
    (case h_law_begun => (refine' Vt.found_mk ?a ?l ?c ?k; (case a => k_is); (case l => k_is); (case c => k_is); (case k => k_is)))
    (case h_law_take => (refine' Vt.found_mk ?a ?l ?c ?k; (case a => k_is); (case l => k_is); (case c => k_is); (case k => k_is)))
    (case h_law_alike => (refine' Vt.found_mk ?a ?l ?c ?k; (case a => k_is); (case l => k_is); (case c => k_is); (case k => k_is)))
    (case h_law_class => (refine' Vt.found_mk ?a ?l ?c ?k; (case a => k_is); (case l => k_is); (case c => k_is); (case k => k_is)))
    (case h_law_order => (refine' Vt.found_mk ?a ?l ?c ?k; (case a => k_is); (case l => k_is); (case c => k_is); (case k => k_is)))
    (case h_law_deed => (refine' Vt.found_mk ?a ?l ?c ?k; (case a => k_is); (case l => k_is); (case c => k_is); (case k => k_is)))
    (case h_law_board => (refine' Vt.found_mk ?a ?l ?c ?k; (case a => k_is); (case l => k_is); (case c => k_is); (case k => k_is)))
    (case h_law_fence => (refine' Vt.found_mk ?a ?l ?c ?k; (case a => k_is); (case l => k_is); (case c => k_is); (case k => k_is)))
    (case h_law_refused => (refine' Vt.found_mk ?a ?l ?c ?k; (case a => k_is); (case l => k_is); (case c => k_is); (case k => k_is)))
    (case h_law_kinds => (refine' Vt.found_mk ?a ?l ?c ?k; (case a => k_is); (case l => k_is); (case c => k_is); (case k => k_is)))
    (case h_law => (refine' Vt.foundl_mk ?a ?l ?c ?l3 ?v1 ?v2 ?v3 ?v4 ?v5 ?v6 ?ne ?no; (case a => k_is); (case l => k_is); (case c => k_is); (case l3 => k_is); (case v1 => rfl); (case v2 => rfl); (case v3 => rfl); (case v4 => rfl); (case v5 => rfl); (case v6 => rfl); (case ne => decide); (case no => kernel_rfl)))
    (case gE0 => k_is); (case gE1 => k_is); (case gE2 => k_is); (case gE3 => k_is); (case gE4 => k_is); (case gCE => k_is); (case xsp => k_is); (case xtk => k_is); (case any => k_is); (case top => rfl)
    (case l0 => k_is)
    (case r0 => decide +kernel)
    (case sa0 => k_is)
    (case ex0 => k_is)
    (case ty0 => k_is)
    (case kp0 => k_is)
    (case xa0 => k_is)
    (case xb0 => k_is)
    (case xd0 => k_is)
    (case xe0 => k_is)
    (case xh0 => k_is)
    (case i0_0 => kit_is)
    (case i1_0 => kit_is)
    (case i2_0 => kit_is)
    (case i3_0 => kit_is)
    (case i4_0 => kit_is)
    (case iV_0 => kit_is)
    (case xm0 => kts_exm)
    (case su0 => k_is)
    (case sp0 => ks_is)
    (case ve0 => k_is)
    (case no0_word => k_is)
    (case no0_number => k_is)
    (case hx_0 => (refine' Vt.foundx_mk ?a ?l ?c ?i ?l2 ?d ?l3 ?v2 ?fe ?t; (case a => k_is); (case l => k_is); (case c => k_is); (case i => k_is); (case l2 => k_is); (case d => k_is); (case l3 => k_is); (case v2 => rfl); (case fe => rfl); (case t => k_is)))
    (case l1 => k_is)
    (case r1 => decide +kernel)
    (case sa1 => k_is)
    (case ex1 => k_is)
    (case ty1 => k_is)
    (case kp1 => k_is)
    (case xa1 => k_is)
    (case xb1 => k_is)
    (case xd1 => k_is)
    (case xe1 => k_is)
    (case xh1 => k_is)
    (case i0_1 => kit_is)
    (case i1_1 => kit_is)
    (case i2_1 => kit_is)
    (case i3_1 => kit_is)
    (case i4_1 => kit_is)
    (case iV_1 => kit_is)
    (case xm1 => kts_exm)
    (case su1 => k_is)
    (case sp1 => ks_is)
    (case ve1 => k_is)
    (case no1_number => k_is)
    (case hx_1 => (refine' Vt.foundx_mk ?a ?l ?c ?i ?l2 ?d ?l3 ?v2 ?fe ?t; (case a => k_is); (case l => k_is); (case c => k_is); (case i => k_is); (case l2 => k_is); (case d => k_is); (case l3 => k_is); (case v2 => rfl); (case fe => rfl); (case t => k_is)))
    (case g1 => k_is); (case g2 => k_is); (case g3 => k_is); (case g4 => k_is); (case g5 => k_is); (case g6 => k_is); (case g7 => k_is)
    (case x_MOST_FENCES => k_is)
    (case z_len => k_is); (case z_enumerate => k_is); (case z_all => k_is); (case z_zip => k_is); (case z_range => k_is); (case z_list => k_is); (case z_tuple => k_is); (case z_int => k_is); (case z_min => k_is); (case z_bool => k_is); (case z_str => k_is); (case z_isinstance => k_is); (case z_set => k_is); (case z_sorted => k_is); (case z_dict => k_is); (case z_ValueError => k_is); (case z_super => k_is)
    (case x_FENCES => k_is)
    case y_FENCES => exact Vt.ktup_mk (by k_is) (by decide) (.cons ⟨_, rfl⟩ (.cons ⟨_, rfl⟩ (.cons ⟨_, rfl⟩ .nil)))
    case g8 => exact Vt.ktup_mk (by k_is) (by decide) (.cons ⟨_, rfl⟩ (.cons ⟨_, rfl⟩ (.cons ⟨_, rfl⟩ (.cons ⟨_, rfl⟩ .nil))))
    case g9 => k_is
    case g10 =>
      intro m
      refine' Vt.kinds_mk m ?low ?l ?kl ?a1 ?a2 ?a3 ?a4 ?a5 ?a6 ?a7 ?t1 ?t2 ?t3 ?t4 ?t5 ?t6 ?t7
      (case low => decide)
      (case l => k_is)
      (case a1 => k_is); (case a2 => k_is); (case a3 => k_is); (case a4 => k_is); (case a5 => k_is); (case a6 => k_is); (case a7 => k_is)
      (case t1 => exact Vt.ktup_mk (by k_is) (by decide) (.cons ⟨_, rfl⟩ (.cons ⟨_, rfl⟩ .nil)))
      (case t2 => exact Vt.ktup_mk (by k_is) (by decide) (.cons ⟨_, rfl⟩ (.cons ⟨_, rfl⟩ .nil)))
      (case t3 => exact Vt.ktup_mk (by k_is) (by decide) (.cons ⟨_, rfl⟩ .nil))
      (case t4 => exact Vt.ktup_mk (by k_is) (by decide) (.cons ⟨_, rfl⟩ .nil))
      (case t5 => exact Vt.ktup_mk (by k_is) (by decide) .nil)
      (case t6 => exact Vt.ktup_mk (by k_is) (by decide) (.cons ⟨_, rfl⟩ .nil))
      (case t7 => exact Vt.ktup_mk (by k_is) (by decide) (.cons ⟨_, rfl⟩ .nil))
      case kl => exact ⟨⟨_, _, rfl, rfl⟩, ⟨_, _, rfl, rfl⟩, ⟨_, _, rfl, rfl⟩, ⟨_, _, rfl, rfl⟩, ⟨_, _, rfl, rfl⟩, ⟨_, _, rfl, rfl⟩, ⟨_, _, rfl, rfl⟩, trivial⟩
