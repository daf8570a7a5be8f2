import PyProof.Rows.All
import Wide.All
import OpenK.AllK
import Wide.FinOn
import HandS.ForMost
import HandS.IsInst
import HandS.Zip
import HandS.Walk
import HandS.WrittenGet
import HandS.TupAny
import HandS.SetFor
import KE.GoesNew
import KE.KUnpackStar
import PySem.Challenge.RW_blockcarrier_k14_written_and_read
import HandS.Text
import HandS.StrMore
import HandS.More
import HandS.Star
set_option Elab.async false
set_option linter.all false
set_option maxRecDepth 100000
namespace Vt
open PySem PySem.Spec PyProof.Rows L2
def topS (i : Nat) : Stmt := PySem.Challenge.pw_blockcarrier_k14_written_and_read.main.body.getD i (.Pass ⟨0, 0, 0, 0⟩)
end Vt
namespace Vt
open PySem PySem.Spec PyProof.Rows L2
/-! ### calls of own defs by what they promise -/
structure Callee (P : Program) (w : World) (K : PySem.W.Frag) (mg : Str → Option Value) (base : Heap) (x : Str) (k : Nat) (n : Nat) (sp : Sp) : Prop where
  ex : ∃ (f : Addr) (fd : FuncData) (ps : List Str), FnOk P w K mg base CX0 k f fd ps sp ∧ mg x = some (.ref f) ∧ PySem.W.keepIn K (.ref f) = true ∧ Binds K fd ps []
section
variable {X : Cx} {x : Str} {k j n : Nat} {sp : Sp} {p pos : Pos} {e : Expr} {es : List Expr} {t : TA}
theorem pe_cal (C : Callee X.prog X.w X.K X.mg X.base x k n sp) (hr : Room j X.A) (hk : k ≤ j) (ha : PA X (e :: es) t) (hg : Gl X x := by rfl)
    (hdb : (x == ("__debug__" : Str)) = false := by decide) (he : starEach (e :: es) X.env = (false, eval e X.env) :: starEach es X.env := by rfl) (hpl : (backTo pos (starEach es X.env)).any (·.1) = false := by rfl) :
    PE X (.Call (.Name x p) (e :: es) [] pos) (tCall sp [] E0 t) := by
  have ⟨f, fd, ps, F, hm, hkp, hb⟩ := C.ex
  exact pe_call F (hr.mono hk) hg hm hkp hb .nil pass0 ha hdb he hpl
theorem pe_cal0 (C : Callee X.prog X.w X.K X.mg X.base x k n sp) (hr : Room j X.A) (hk : k ≤ j) (hg : Gl X x := by rfl)
    (hdb : (x == ("__debug__" : Str)) = false := by decide) : PE X (.Call (.Name x p) [] [] pos) (tCall sp [] E0 tNil) := by
  have ⟨f, fd, ps, F, hm, hkp, hb⟩ := C.ex
  exact pe_call0 F (hr.mono hk) hg hm hkp hb .nil pass0 hdb
end
/-- a statement, then the rest, with a word between them -/
def tCut (t u : TS) : TS := fun D σ H => ∃ Mid : L2.St → Hp → Prop, t { D with nx := Mid } σ H ∧ ∀ σ' H', Mid σ' H' → u D σ' H'
theorem pss_cut {X : Cx} {st : Stmt} {rest : List Stmt} {t u : TS} (h1 : PS X st t) (h2 : PSs X rest u) : PSs X (st :: rest) (tCut t u) := by
  refine ⟨fun pins s σ H D I h => ?_⟩
  obtain ⟨Mid, hm, hu⟩ := h
  refine wpAny_execs_cons (thn (h1.run pins s σ H { D with nx := Mid } I hm) fun f s1 q => ?_)
  cases f with
  | next =>
    obtain ⟨σ', H', I', q⟩ := q
    exact h2.run pins s1 σ' H' D I' (hu σ' H' q)
  | ret v => exact q
  | brk => exact q
  | cont => exact q
/-! ### lists or tuples -/
def SqA (K : PySem.W.Frag) (H : Hp) (a : Addr) (xs : List V) : Prop := SqL K H a xs ∨ SqT K H a xs
def rIxLT (K : PySem.W.Frag) : R2 := fun x y H Q => ∃ p xs i v, x = .ref p ∧ y = .int i ∧ SqA K H p xs ∧ atI xs i = some v ∧ Q v H
section
variable {X : Cx} {tg l : Expr} {tl : TE}
theorem ix_lt : IxR X (rIxLT X.K) := by
  intro value slice pins s σ H x y v u Q I rx ry h hs
  obtain ⟨p, xs, i, z, ex, ey, hq | hq, he, q⟩ := h
  · exact ix_list value slice pins s σ H x y v u Q I rx ry ⟨p, xs, i, z, ex, ey, hq, he, q⟩ hs
  · exact ix_tup value slice pins s σ H x y v u Q I rx ry ⟨p, xs, i, z, ex, ey, hq, he, q⟩ hs
theorem ix_ltk (K : PySem.W.Frag) (h : X.K = K := by rfl) : IxR X (rIxLT K) := by
  subst h
  exact ix_lt
def iLT (K : PySem.W.Frag) (tl : TE) : TI := fun σ H R => tl σ H fun x H1 => ∃ a, x = .ref a ∧ ((∃ xs, SqL K H1 a xs ∧ R (Itl K a) H1) ∨ ∃ xs, SqT K H1 a xs ∧ R (Itt K a) H1)
theorem pi_lt (hl : PE X l tl) : PI X tg l (iLT X.K tl) := by
  refine ⟨fun pins s σ H R I h => ?_⟩
  refine thn (hl.run pins s σ H _ I h) fun v s1 ⟨x, H1, I1, r1, q1⟩ => ?_
  obtain ⟨a, e, q⟩ := q1
  subst e
  cases r1
  rcases q with ⟨xs, hq, q⟩ | ⟨xs, hq, q⟩
  · obtain ⟨its, rv, p, hz⟩ := I1.list hq
    refine wpAny_pyIter_list p.isList ?_
    refine ⟨s1.heap.objs.size, [s1.heap.objs.size], _, _, H1, rfl, I1.kept (t' := s1.toks) fun b o e => Heap.get?_push_of_some _ e, turn_list a _, ⟨_, Heap.get?_push_size _ rfl, rfl, rfl⟩, fun b hb => ?_, q⟩
    have e : b = s1.heap.objs.size := by simpa using hb
    subst e
    exact I1.fpOk (Nat.le_refl _) (I1.hok.fresh (Nat.le_refl _))
  · obtain ⟨its, rv, p, hz⟩ := I1.tuple hq
    refine wpAny_pyIter_tuple (show s1.heap.IsTuple a its.toArray from p) ?_
    refine ⟨s1.heap.objs.size, [s1.heap.objs.size], _, _, H1, rfl, I1.kept (t' := s1.toks) fun b o e => Heap.get?_push_of_some _ e, turn_tuple a _, ⟨_, Heap.get?_push_size _ rfl, rfl, rfl⟩, fun b hb => ?_, q⟩
    have e : b = s1.heap.objs.size := by simpa using hb
    subst e
    exact I1.fpOk (Nat.le_refl _) (I1.hok.fresh (Nat.le_refl _))
end
theorem pg_tupk {X : Cx} (K : PySem.W.Frag) {es : List Expr} {k n : Nat} {pos : Pos} {t : TGs} (hc : X.calm = true) (h : PGs X es t) (hK : X.K = K := by rfl)
    (hn : (assignEach es X.env).length = n := by rfl) (hst : (assignEach es X.env).findIdx? (·.1) = none := by rfl) : PG X (.Tuple es k pos) (gTup K n t) := by
  subst hK
  exact pg_tup hc h hn hst
/-! ### enumerate(tuple) -/
theorem meets_enumT {v : Value} {o : Obj} {H : Heap → Prop} (B : Begins v o H) :
    Meets (Builtin.«enumerate.__new__» ⟨[.type "enumerate", v], []⟩) (fun _ R s => H s.heap ∧
      R (.ok (.ret (.ref (s.heap.push o).objs.size))) { s with heap := (s.heap.push o).push { cls := .type "enumerate", data := .fields #[.none, .bool false, .ref s.heap.objs.size, rawInt 0, .none, .none] } }) :=
  .of_wp fun prog w A R s h => by
    obtain ⟨hp, g, d, tk, os⟩ := s; obtain ⟨h1, h⟩ := h
    have hsub := sub_enumerate
    have q1 : ∀ {A E Q}, Q (.ref (Shared.heap ⟨hp, g, d, tk, os⟩).objs.size) ⟨hp.push o, g, d, tk, os⟩ → wpAny (model prog w) A (pyIter v) Q E ⟨hp, g, d, tk, os⟩ := fun {A E Q} q => B.iter prog w A E _ Q h1 q
    wp_walk using q1
    refine wpAny_stack_any fun st => wpAny_pure ?_
    split
    · rename_i c _ _ _ _ _
      cases (c == Value.type "enumerate")
      · wp_walk using q1
        exact ⟨_, rfl, h⟩
      · wp_walk using q1
        exact ⟨_, rfl, h⟩
    · wp_walk using q1
      exact ⟨_, rfl, h⟩
section
variable {prog : Program} {w : World} {A : Around} {E : Value → Shared → Prop} {s : Shared}
theorem call_enumB {v : Value} {o : Obj} {H : Heap → Prop} {Q : Value → Shared → Prop} (B : Begins v o H) (h1 : H s.heap)
    (h : ∀ h', IsEnum h' (s.heap.objs.size + 1) s.heap.objs.size 0 .none → h'.get? s.heap.objs.size = some o → h'.objs.size = s.heap.objs.size + 2 →
      (∀ b o, s.heap.get? b = some o → h'.get? b = some o) → Q (.ref (s.heap.objs.size + 1)) { s with heap := h' }) :
    wpAny (model prog w) A (call (.type "enumerate") [v]) Q E s := by
  refine callType_new F.called_enumerate (by decide) (F.typeCall_enumerate_1 _) (F.newCall_enumerate_1 _) (fun obj => F.args_object_init_2 obj _) F.entry_enumerate_new
    (meets_enumT B) ⟨h1, ?_⟩
  have hz : (s.heap.push o).objs.size = s.heap.objs.size + 1 := Heap.size_push ..
  show _ ∧ _
  rw [hz]
  have he : IsEnum ((s.heap.push o).push { cls := .type "enumerate", data := .fields #[.none, .bool false, .ref s.heap.objs.size, rawInt 0, .none, .none] }) (s.heap.objs.size + 1) s.heap.objs.size 0 .none := by
    have := Heap.get?_push_size (s.heap.push o) (o := { cls := .type "enumerate", data := .fields #[.none, .bool false, .ref s.heap.objs.size, rawInt 0, .none, .none] }) rfl
    rw [hz] at this; exact this
  refine ⟨⟨_, he, rfl⟩, h _ he (Heap.get?_push_of_some _ (Heap.get?_push_size _ B.free)) (by rw [Heap.size_push, hz]) fun b o x => Heap.get?_push_of_some _ (Heap.get?_push_of_some _ x)⟩
end
def Ien (K : PySem.W.Frag) (a : Addr) : It :=
  ⟨fun i H => ∃ (xs : List V) (x : V), SqT K H a xs ∧ xs[i]? = some x, fun i H v H' => ∃ T x, v = .ref T ∧ H T = none ∧ H' = upd H T (.tup [.int (i : Nat), x]) ∧ ∀ xs, SqT K H a xs → xs[i]? = some x, fun i H => ∃ xs : List V, SqT K H a xs ∧ xs.length = i⟩
theorem turn_enumT {P : Program} {w : World} {K : PySem.W.Frag} {elts : List Expr} {kk : Nat} {tpos : Pos} (a e it : Addr) :
    Turn P w K (.Tuple elts kk tpos) (Ien K a) [e, it] e (fun i h => (∃ old, IsEnum h e it (0 + (i : Int)) old) ∧ h.IsTupleIter it a i ∧ e ≠ it ∧ a ≠ it) where
  mem := by simp
  obj := fun i h st b hb => by
    obtain ⟨⟨old, he⟩, ⟨o, ho, hc, hd⟩, _⟩ := st
    have e' : b = e ∨ b = it := by simpa using hb
    rcases e' with z | z
    · rw [z]; exact ⟨_, he, fun v q => nomatch q⟩
    · rw [z]; exact ⟨o, ho, fun v q => by rw [hd] at q; cases q⟩
  keep := fun i h h' st k => let ⟨⟨old, he⟩, hi, hne, ha⟩ := st; ⟨⟨old, k e (by simp) _ he⟩, hi.at fun o q => k it (by simp) o q, hne, ha⟩
  item := by
    intro X hP hw hK hc i pins s σ H E I hf st hg
    subst hP hw hK
    obtain ⟨⟨old, he⟩, hit, hne, hat⟩ := st
    obtain ⟨xs, x, hq, hx⟩ := hg
    obtain ⟨its, rv, p, hz⟩ := I.tuple hq
    obtain ⟨u, hu, ru⟩ := rv.get hx
    have hel : e < s.heap.objs.size := Heap.lt_size he
    have hil : it < s.heap.objs.size := by obtain ⟨_, q, _⟩ := hit; exact Heap.lt_size q
    have hae : e ≠ a := fun z => by
      obtain ⟨o, ho, hc, _⟩ := p
      rw [← z, show s.heap.get? e = some _ from he] at ho
      cases ho
      exact absurd (show Value.type "enumerate" = Value.type "tuple" from hc) (by simp)
    have hsz : i < its.toArray.size := by
      have := (List.getElem?_eq_some_iff.mp hu).1
      simpa using this
    refine thn ((GoesN.enumFrom (elts := elts) (x1 := kk) (pos := tpos) 0 (Draws.tuple (prog := X.prog) (w := X.w) (A := X.A.in1) (I.ok.hd hc) it a hat its.toArray) e hne (by simp; exact ⟨hne, hae⟩) (by simp)).goes i s
      (fun v s2 => ∃ x H', Inv X pins σ H' s2 ∧ RelV x v ∧ (Ien X.K a).yld i H x H' ∧ ((∃ old, IsEnum s2.heap e it (0 + ((i + 1 : Nat) : Int)) old) ∧ s2.heap.IsTupleIter it a ((i + 1 : Nat) : Nat) ∧ e ≠ it ∧ a ≠ it) ∧ ∀ b ∈ [e, it], H' b = none) E hsz ⟨⟨old, he⟩, hit, p⟩ fun v h' tk hY st' hk htk => ?_) fun r s1 h1 => h1
    obtain ⟨T, t, y, ev, hT, hy, hTt⟩ := hY
    obtain ⟨he', hit', p'⟩ := st'
    subst ev
    have ey : y = u := by
      have e1 : its.toArray[i]? = some u := by simpa using hu
      rw [e1] at hy; exact (Option.some.inj hy).symm
    subst ey
    obtain ⟨oT, hoT, hcT, hdT⟩ := hTt
    have new : ObjOk X.prog X.w (upd H T (.tup [.int (i : Nat), x])) h' T (.tup [.int (i : Nat), x]) :=
      ⟨by show 2 ≤ sizeLine; decide, [.int (0 + (i : Int)) t, y], .cons ⟨t, by rw [Int.zero_add]⟩ (.cons ru .nil), ⟨oT, hoT, hcT, hdT⟩⟩
    have I1 : Inv X pins σ (upd H T (.tup [.int (i : Nat), x])) { s with heap := h', toks := tk } :=
      I.turnedNew (ch := [e, it]) (fun b ob hb q => hk b ob hb q) hf hT new
    refine ⟨.ref T, _, I1, rfl, ⟨_, x, rfl, I.hok.fresh hT, rfl, fun ys hy => by rw [I.tuple_inj hy hq]; exact hx⟩, ⟨he', hit', hne, hat⟩, fun b hb => ?_⟩
    have hb' : b < s.heap.objs.size := by
      have e' : b = e ∨ b = it := by simpa using hb
      rcases e' with z | z
      · rw [z]; exact hel
      · rw [z]; exact hil
    rw [upd_ne (Nat.ne_of_lt (Nat.lt_of_lt_of_le hb' hT))]
    exact (hf b hb).1
  done := by
    intro X hP hw hK hc i pins s σ H E I hf st hg
    subst hP hw hK
    obtain ⟨⟨old, he⟩, hit, hne, hat⟩ := st
    obtain ⟨xs, hq, hx⟩ := hg
    obtain ⟨its, rv, p, hz⟩ := I.tuple hq
    have hl := rv.length
    have hae : e ≠ a := fun z => by
      obtain ⟨o, ho, hc, _⟩ := p
      rw [← z, show s.heap.get? e = some _ from he] at ho
      cases ho
      exact absurd (show Value.type "enumerate" = Value.type "tuple" from hc) (by simp)
    have hsz : i = its.toArray.size := by simp; omega
    refine (GoesN.enumFrom (elts := elts) (x1 := kk) (pos := tpos) 0 (Draws.tuple (prog := X.prog) (w := X.w) (A := X.A.in1) (I.ok.hd hc) it a hat its.toArray) e hne (by simp; exact ⟨hne, hae⟩) (by simp)).stops s
      (fun s2 => Inv X pins σ H s2) E (by rw [← hsz]; exact ⟨⟨old, he⟩, hit, p⟩) fun h' tk hk htk => ?_
    exact I.turnedL (ch := [e, it]) (fun b ob hb q => hk b ob hb q) hf
  self := fun A i s Q E st h => let ⟨⟨_, he⟩, _⟩ := st; wpAny_pyIter_enum he h
def iEnT (K : PySem.W.Frag) (ta : TA) : TI := fun σ H R => ta σ H fun vs H1 => ∃ a, vs = [.ref a] ∧ ((∃ xs, SqL K H1 a xs ∧ R (Ite K a) H1) ∨ ∃ xs, SqT K H1 a xs ∧ R (Ien K a) H1)
theorem pi_enumT {X : Cx} {e : Expr} {ta : TA} {p pos tpos : Pos} {elts : List Expr} {kk : Nat} (hg : Gl X "enumerate") (hm : X.mg "enumerate" = none) (ha : PA X [e] ta) (hs : starEach [e] X.env = [(false, eval e X.env)] := by rfl) :
    PI X (.Tuple elts kk tpos) (.Call (.Name "enumerate" p) [e] [] pos) (iEnT X.K ta) := by
  refine ⟨fun pins s σ H R I h => ?_⟩
  refine Call_ (ld_blt I hg hm boot_enumerate (PyProof.Rows.callWith_type1 (thn (ha.run pos pins s σ H _ I h) fun us s1 ⟨vs, H1, I1, r1, q1⟩ => ?_) hs rfl))
  obtain ⟨a, ex, q⟩ := q1
  subst ex
  cases r1 with
  | cons r rr =>
    cases rr
    cases r
    have fp : ∀ b ∈ [s1.heap.objs.size + 1, s1.heap.objs.size], FpOk X pins H1 b := fun b hb => by
      have e' : b = s1.heap.objs.size + 1 ∨ b = s1.heap.objs.size := by simpa using hb
      have hle : s1.heap.objs.size ≤ b := by
        rcases e' with z | z
        · rw [z]; exact Nat.le_add_right _ _
        · rw [z]; exact Nat.le_refl _
      exact I1.fpOk hle (I1.hok.fresh hle)
    rcases q with ⟨xs, hq, q⟩ | ⟨xs, hq, q⟩
    · obtain ⟨its, rv, p', hz⟩ := I1.list hq
      refine call_enumerate_list p'.isList fun h' he hit hsz hk => wpAny_pyIter_enum he ?_
      have I2 : Inv X pins σ H1 { s1 with heap := h' } := I1.kept (t' := s1.toks) hk
      exact ⟨s1.heap.objs.size + 1, [s1.heap.objs.size + 1, s1.heap.objs.size], _, _, H1, rfl, I2, turn_enum a (s1.heap.objs.size + 1) s1.heap.objs.size, ⟨⟨.none, he⟩, hit, Nat.succ_ne_self _⟩, fp, q⟩
    · obtain ⟨its, rv, p', hz⟩ := I1.tuple hq
      have la : a < s1.heap.objs.size := p'.lt
      refine call_enumB (begins_tuple a its.toArray) p' fun h' he hit hsz hk => wpAny_pyIter_enum he ?_
      have I2 : Inv X pins σ H1 { s1 with heap := h' } := I1.kept (t' := s1.toks) hk
      exact ⟨s1.heap.objs.size + 1, [s1.heap.objs.size + 1, s1.heap.objs.size], _, _, H1, rfl, I2, turn_enumT a (s1.heap.objs.size + 1) s1.heap.objs.size, ⟨⟨.none, he⟩, ⟨_, hit, rfl, rfl⟩, Nat.succ_ne_self _, Nat.ne_of_lt la⟩, fp, q⟩
/-- the loop over enumerate(tuple) -/
theorem walk_enumT {K : PySem.W.Frag} {a : Addr} {xs : List V} : Walk (Ien K a) xs.length (fun H => SqT K H a xs) (YPair (fun i => some (.int (i : Nat))) (fun i => xs[i]?)) := by
  refine ⟨fun i _ hi q => ⟨xs, xs[i], q, by simp [hi]⟩, fun _ q => ⟨xs, q, rfl⟩, fun i H v H' _ q y => ?_⟩
  obtain ⟨T, x, h1, h2, h3, h4⟩ := y
  exact ⟨T, .int (i : Nat), x, h1, h2, h3, rfl, h4 xs q⟩
/-! ### zip(list, tuple) -/
def Izm (K : PySem.W.Frag) (a b : Addr) : It :=
  ⟨fun i H => ∃ (xs ys : List V) (x y : V), SqL K H a xs ∧ SqT K H b ys ∧ xs[i]? = some x ∧ ys[i]? = some y,
    fun i H v H' => ∃ T x y, v = .ref T ∧ H T = none ∧ H' = upd H T (.tup [x, y]) ∧ (∀ xs, SqL K H a xs → xs[i]? = some x) ∧ ∀ ys, SqT K H b ys → ys[i]? = some y,
    fun i H => ∃ xs ys : List V, SqL K H a xs ∧ SqT K H b ys ∧ min xs.length ys.length = i⟩
theorem turn_zipM {P : Program} {w : World} {K : PySem.W.Frag} {elts : List Expr} {kk : Nat} {tpos : Pos} {a b z TI TO i1 i2 : Addr} (S : ZipSep2 z TI TO i1 i2 [i1, a] [i2, b]) (h1a : a ≠ i1) (h2b : b ≠ i2) :
    Turn P w K (.Tuple elts kk tpos) (Izm K a b) [z, TI, TO, i1, i2] z (fun i h => IsZip h z TI TO .none ∧ IsTupOf2 h TI (.ref i1) (.ref i2) ∧ (∃ x y, IsTupOf2 h TO x y) ∧ h.IsListIter i1 a i ∧ h.IsTupleIter i2 b i) where
  mem := by simp
  obj := fun i h st c hc => by
    obtain ⟨hz, hTI, ⟨x, y, hTO⟩, ⟨o1, e1, _, d1⟩, ⟨o2, e2, _, d2⟩⟩ := st
    have e' : c = z ∨ c = TI ∨ c = TO ∨ c = i1 ∨ c = i2 := by simpa using hc
    rcases e' with q | q | q | q | q
    · rw [q]; exact ⟨_, hz, fun v q => nomatch q⟩
    · rw [q]; exact ⟨_, hTI, fun v q => nomatch q⟩
    · rw [q]; exact ⟨_, hTO, fun v q => nomatch q⟩
    · rw [q]; exact ⟨o1, e1, fun v q => by rw [d1] at q; cases q⟩
    · rw [q]; exact ⟨o2, e2, fun v q => by rw [d2] at q; cases q⟩
  keep := fun i h h' st k => by
    obtain ⟨hz, hTI, ⟨x, y, hTO⟩, h1, h2⟩ := st
    exact ⟨k z (by simp) _ hz, k TI (by simp) _ hTI, ⟨x, y, k TO (by simp) _ hTO⟩, h1.at fun o q => k i1 (by simp) o q, h2.at fun o q => k i2 (by simp) o q⟩
  item := by
    intro X hP hw hK hc i pins s σ H E I hf st hg
    subst hP hw hK
    obtain ⟨hz, hTI, hTO, h1, h2⟩ := st
    obtain ⟨xs, ys, x, y, hqx, hqy, hx, hy⟩ := hg
    obtain ⟨its, rv, p, _⟩ := I.list hqx
    obtain ⟨its2, rv2, p2, _⟩ := I.tuple hqy
    obtain ⟨u, hu, ru⟩ := rv.get hx
    obtain ⟨u2, hu2, ru2⟩ := rv2.get hy
    have n1 : i < its.toArray.size := by have := (List.getElem?_eq_some_iff.mp hu).1; simpa using this
    have n2 : i < its2.toArray.size := by have := (List.getElem?_eq_some_iff.mp hu2).1; simpa using this
    refine thn ((GoesN.zip2 (elts := elts) (x1 := kk) (pos := tpos) S (Draws.list (prog := X.prog) (w := X.w) (A := X.A.in1) (I.ok.hd hc) i1 a h1a its.toArray) (Draws.tuple (prog := X.prog) (w := X.w) (A := X.A.in1) (I.ok.hd hc) i2 b h2b its2.toArray)).goes i s
      (fun v s2 => ∃ x H', Inv X pins σ H' s2 ∧ RelV x v ∧ (Izm X.K a b).yld i H x H' ∧ (IsZip s2.heap z TI TO .none ∧ IsTupOf2 s2.heap TI (.ref i1) (.ref i2) ∧ (∃ x y, IsTupOf2 s2.heap TO x y) ∧ s2.heap.IsListIter i1 a ((i + 1 : Nat) : Nat) ∧ s2.heap.IsTupleIter i2 b ((i + 1 : Nat) : Nat)) ∧ ∀ b ∈ [z, TI, TO, i1, i2], H' b = none) E (by rw [Nat.lt_min]; exact ⟨n1, n2⟩)
      ⟨hz, hTI, hTO, ⟨h1, p.isList⟩, ⟨h2, p2⟩⟩ fun v h' tk hY st' hk htk => ?_) fun r s1 h1 => h1
    obtain ⟨T, v1, v2, ev, hT, hv1, hv2, hTt⟩ := hY
    obtain ⟨hz', hTI', hTO', ⟨h1', _⟩, ⟨h2', _⟩⟩ := st'
    subst ev
    have e1 : v1 = u := by
      have e1 : its.toArray[i]? = some u := by simpa using hu
      rw [e1] at hv1; exact (Option.some.inj hv1).symm
    have e2 : v2 = u2 := by
      have e1 : its2.toArray[i]? = some u2 := by simpa using hu2
      rw [e1] at hv2; exact (Option.some.inj hv2).symm
    subst e1 e2
    obtain ⟨oT, hoT, hcT, hdT⟩ := hTt
    have new : ObjOk X.prog X.w (upd H T (.tup [x, y])) h' T (.tup [x, y]) :=
      ⟨by show 2 ≤ sizeLine; decide, [v1, v2], .cons ru (.cons ru2 .nil), ⟨oT, hoT, hcT, hdT⟩⟩
    have I1 : Inv X pins σ (upd H T (.tup [x, y])) { s with heap := h', toks := tk } :=
      I.turnedNew (ch := [z, TI, TO, i1, i2]) (fun c ob hb q => hk c ob (fun m => hb (by simp only [List.mem_cons, List.not_mem_nil, or_false] at m ⊢; rcases m with h | h | h | h <;> simp [h])) q) hf hT new
    refine ⟨.ref T, _, I1, rfl, ⟨_, x, y, rfl, I.hok.fresh hT, rfl, fun ys hy => by rw [I.list_inj hy hqx]; exact hx, fun ys hy' => by rw [I.tuple_inj hy' hqy]; exact hy⟩, ⟨hz', hTI', hTO', h1', h2'⟩, fun c hb => ?_⟩
    have hn := (hf c hb).1
    have hb' : c < s.heap.objs.size := by
      obtain ⟨x0, y0, hTO0⟩ := hTO
      obtain ⟨o1, e1, _⟩ := h1
      obtain ⟨o2, e2, _⟩ := h2
      have e' : c = z ∨ c = TI ∨ c = TO ∨ c = i1 ∨ c = i2 := by simpa using hb
      rcases e' with q | q | q | q | q
      · rw [q]; exact Heap.lt_size hz
      · rw [q]; exact Heap.lt_size hTI
      · rw [q]; exact Heap.lt_size hTO0
      · rw [q]; exact Heap.lt_size e1
      · rw [q]; exact Heap.lt_size e2
    rw [upd_ne (Nat.ne_of_lt (Nat.lt_of_lt_of_le hb' hT))]
    exact hn
  done := by
    intro X hP hw hK hc i pins s σ H E I hf st hg
    subst hP hw hK
    obtain ⟨hz, hTI, hTO, h1, h2⟩ := st
    obtain ⟨xs, ys, hqx, hqy, hi⟩ := hg
    obtain ⟨its, rv, p, _⟩ := I.list hqx
    obtain ⟨its2, rv2, p2, _⟩ := I.tuple hqy
    have l1 := rv.length
    have l2 := rv2.length
    have hsz : i = min its.toArray.size its2.toArray.size := by simp; omega
    refine (GoesN.zip2 (elts := elts) (x1 := kk) (pos := tpos) S (Draws.list (prog := X.prog) (w := X.w) (A := X.A.in1) (I.ok.hd hc) i1 a h1a its.toArray) (Draws.tuple (prog := X.prog) (w := X.w) (A := X.A.in1) (I.ok.hd hc) i2 b h2b its2.toArray)).stops s
      (fun s2 => Inv X pins σ H s2) E (by rw [← hsz]; exact ⟨hz, hTI, hTO, ⟨h1, p.isList⟩, ⟨h2, p2⟩⟩) fun h' tk hk htk => ?_
    exact I.turnedL (ch := [z, TI, TO, i1, i2]) (fun c ob hb q => hk c ob (fun m => hb (by simp only [List.mem_cons, List.not_mem_nil, or_false] at m ⊢; rcases m with h | h | h | h <;> simp [h])) q) hf
  self := fun A i s Q E st h => wpAny_pyIter_zip st.1 h
theorem walk_zipM {K : PySem.W.Frag} {a b : Addr} {xs ys : List V} {n : Nat} (hn : n = min xs.length ys.length) : Walk (Izm K a b) n (fun H => SqL K H a xs ∧ SqT K H b ys) (YPair (fun i => xs[i]?) (fun i => ys[i]?)) := by
  subst hn
  refine ⟨fun i _ hi q => ?_, fun _ q => ⟨xs, ys, q.1, q.2, rfl⟩, fun i H v H' _ q y => ?_⟩
  · have h1 : i < xs.length := by omega
    have h2 : i < ys.length := by omega
    exact ⟨xs, ys, xs[i], ys[i], q.1, q.2, by simp [h1], by simp [h2]⟩
  · obtain ⟨T, x, z, h1, h2, h3, h4, h5⟩ := y
    exact ⟨T, x, z, h1, h2, h3, h4 xs q.1, h5 ys q.2⟩
def iZipM (K : PySem.W.Frag) (ta : TA) : TI := fun σ H R => ta σ H fun vs H1 => ∃ a b xs ys, vs = [.ref a, .ref b] ∧ SqL K H1 a xs ∧ SqT K H1 b ys ∧ R (Izm K a b) H1
theorem pi_zipM {X : Cx} {e e2 : Expr} {ta : TA} {p pos tpos : Pos} {elts : List Expr} {kk : Nat} (hg : Gl X "zip") (hm : X.mg "zip" = none) (ha : PA X [e, e2] ta)
    (hs : starEach [e, e2] X.env = (false, eval e X.env) :: starEach [e2] X.env := by rfl) (hpl : (backTo pos (starEach [e2] X.env)).any (·.1) = false := by rfl) :
    PI X (.Tuple elts kk tpos) (.Call (.Name "zip" p) [e, e2] [] pos) (iZipM X.K ta) := by
  refine ⟨fun pins s σ H R I h => ?_⟩
  refine Call_ (ld_blt I hg hm PyProof.Rows.boot_zip (PyProof.Rows.callWith_type1 (thn (ha.run pos pins s σ H _ I h) fun us s1 ⟨vs, H1, I1, r1, q1⟩ => ?_) hs hpl))
  obtain ⟨a, b, xs, ys, ex, hqx, hqy, q⟩ := q1
  subst ex
  cases r1 with
  | cons r rr =>
    cases rr with
    | cons r' rr =>
      cases rr
      cases r
      cases r'
      obtain ⟨its, rv, p1, _⟩ := I1.list hqx
      obtain ⟨its2, rv2, p2, _⟩ := I1.tuple hqy
      have la : a < s1.heap.objs.size := p1.lt
      have lb : b < s1.heap.objs.size := p2.lt
      refine zip_begins2 (begins_list a its.toArray) (begins_tuple b its2.toArray) p1.isList p2 fun h' hz hTI hTO h1 h2 hsz hk => wpAny_pyIter_zip hz ?_
      have I2 : Inv X pins σ H1 { s1 with heap := h' } := I1.kept (t' := s1.toks) hk
      refine ⟨s1.heap.objs.size + 4, [s1.heap.objs.size + 4, s1.heap.objs.size + 2, s1.heap.objs.size + 3, s1.heap.objs.size, s1.heap.objs.size + 1], _, _, H1, rfl, I2, turn_zipM (zip_sep2 (fun c hc => by rw [List.mem_singleton.mp hc]; exact la) (fun c hc => by rw [List.mem_singleton.mp hc]; exact lb)) (Nat.ne_of_lt la) (Nat.ne_of_lt (Nat.lt_succ_of_lt lb)), ⟨hz, hTI, ⟨_, _, hTO⟩, ⟨_, h1, rfl, rfl⟩, ⟨_, h2, rfl, rfl⟩⟩, fun c hcm => ?_, q⟩
      have e' : c = s1.heap.objs.size + 4 ∨ c = s1.heap.objs.size + 2 ∨ c = s1.heap.objs.size + 3 ∨ c = s1.heap.objs.size ∨ c = s1.heap.objs.size + 1 := by simpa using hcm
      have hle : s1.heap.objs.size ≤ c := by
        rcases e' with z | z | z | z | z
        · rw [z]; exact Nat.le_add_right _ _
        · rw [z]; exact Nat.le_add_right _ _
        · rw [z]; exact Nat.le_add_right _ _
        · rw [z]; exact Nat.le_refl _
        · rw [z]; exact Nat.le_add_right _ _
      exact I1.fpOk hle (I1.hok.fresh hle)
end Vt
namespace Vt
open PySem PySem.Spec PyProof.Rows L2
/-! ### match over tuples that begin with a text -/
def capPats : List (Str × Pos) → List Pattern
  | [] => []
  | (x, p) :: r => .MatchAs none (some x) p :: capPats r
theorem capPats_length : ∀ cs : List (Str × Pos), (capPats cs).length = cs.length
  | [] => rfl
  | _ :: r => by rw [capPats, List.length_cons, List.length_cons, capPats_length r]
theorem capPats_star : ∀ cs : List (Str × Pos), (capPats cs).findIdx? (·.isStar) = none
  | [] => rfl
  | _ :: r => by rw [capPats, List.findIdx?_cons, capPats_star r]; rfl
theorem each_caps {M : Model} {A : Around} {E : Value → Shared → Prop} {env : Env} : ∀ (cs : List (Str × Pos)) (us : List Value) (s : Shared) (Q : Option (List (Str × Value)) → Shared → Prop), us.length = cs.length → Q (some ((cs.map (·.1)).zip us)) s →
    wpAny M A (matchEach (capPats cs) env us) Q E s
  | [], us, s, Q, hl, h => by
    cases us with
    | nil => exact wpAny_matchEach_nil h
    | cons u r => simp at hl
  | (x, p) :: r, us, s, Q, hl, h => by
    cases us with
    | nil => simp at hl
    | cons u us =>
      refine wpAny_matchEach_cons (p := .MatchAs none (some x) p) (wpAny_matchPattern_Capture ?_)
      refine each_caps r us s _ (by simpa using hl) ?_
      exact h
def bindAll : L2.St → List Nat → List V → L2.St
  | σ, i :: is, x :: xs => bindAll (σ.set i (some x)) is xs
  | σ, _, _ => σ
/-- how the caught names stand in their places -/
inductive Slots (X : Cx) : List (Str × Pos) → List Nat → Prop
  | nil : Slots X [] []
  | cons {x : Str} {p : Pos} {i : Nat} {cs : List (Str × Pos)} {is : List Nat} : X.N[i]? = some x → X.env.scope.names.lookup x = some .local → Slots X cs is → Slots X ((x, p) :: cs) (i :: is)
theorem store_caps {X : Cx} {pins : List (Addr × Obj)} {H : Hp} (hN : X.N.Nodup) : ∀ {cs : List (Str × Pos)} {is : List Nat} (_ : Slots X cs is) (xs : List V) (us : List Value) (σ : L2.St) (s : Shared) (Q : Unit → Shared → Prop), Inv X pins σ H s → Vals xs us → xs.length = cs.length →
    (∀ s', Inv X pins (bindAll σ is xs) H s' → Q () s') → wpAny (model X.prog X.w) X.A (assignInOrder ((((cs.map (·.1)).zip us).map fun (n, _) => bindName X.env n)) (((cs.map (·.1)).zip us).map (·.2))) Q X.xe s
  | _, _, .nil, xs, us, σ, s, Q, I, r, hl, h => by
    cases r with
    | nil => exact wpAny_assignInOrder_none (h s I)
    | cons r1 rr => simp at hl
  | _, _, .cons (x := x) hi hx sl, xs, us, σ, s, Q, I, r, hl, h => by
    cases r with
    | nil => simp at hl
    | cons r1 rr =>
      refine wpAny_assignInOrder_more (wpAny_bindName (store_ok I hN hi (.inl hx) r1 (fun s' I' => ?_) (.inr hx)))
      exact store_caps hN sl _ _ _ s' Q I' rr (by simpa using hl) h
structure PCases (X : Cx) (cs : List MatchCase) (t : V → TS) : Prop where
  run : ∀ (first : Bool) (pins : List (Addr × Obj)) (s : Shared) (σ : L2.St) (H : Hp) (D : Ends) (v : V) (u : Value), Inv X pins σ H s → RelV v u → t v D σ H → wpAny (model X.prog X.w) X.A (matchCases cs X.env u first) (SP X pins D) X.xe s
def tCaseNil : V → TS := fun _ D σ H => D.nx σ H
theorem pc_nil {X : Cx} : PCases X [] tCaseNil := ⟨fun _ _ s σ H D _ _ I _ h => wpAny_matchCases_nil ⟨σ, H, I, h⟩⟩
def tCase (K : PySem.W.Frag) (wd : Str) (is : List Nat) (tb : TS) (tr : V → TS) : V → TS := fun v D σ H => ∃ a z xs, v = .ref a ∧ SqT K H a (.str z :: xs) ∧
  ((z = wd ∧ xs.length = is.length ∧ tb D (bindAll σ is xs) H) ∨ (¬ (z = wd ∧ xs.length = is.length) ∧ tr v D σ H))
theorem str_eq_iff {a b : Str} : (a.cps.toList == b.cps.toList) = decide (a = b) := by
  by_cases e : a = b
  · subst e; simp
  · have h : ¬ a.cps.toList = b.cps.toList := fun q => e (by
      cases a; cases b
      simp only [Str.mk.injEq]
      exact Array.toList_inj.mp q)
    rw [decide_eq_false e]
    exact beq_eq_false_iff_ne.mpr h
theorem pc_case {X : Cx} {wd : Str} {j : Nat} {p1 p2 p3 : Pos} {cs : List (Str × Pos)} {is : List Nat} {body : List Stmt} {rest : List MatchCase} {tb : TS} {tr : V → TS} (hc : X.calm = true) (hN : X.N.Nodup) (sl : Slots X cs is) (hl : cs.length = is.length) (hb : PSs X body tb) (hr : PCases X rest tr) :
    PCases X (⟨.MatchSequence (.MatchValue (.Constant (.str wd) j p1) p2 :: capPats cs) p3, none, body⟩ :: rest) (tCase X.K wd is tb tr) := by
  refine ⟨fun first pins s σ H D v u I rv h => ?_⟩
  obtain ⟨a, z, xs, ev, hq, h⟩ := h
  subst ev
  cases rv
  obtain ⟨its, rvs, ht, hz⟩ := I.tuple hq
  have hlen : its.length = xs.length + 1 := by rw [← rvs.length]; rfl
  have hsz : its.toArray.size = xs.length + 1 := by simp [hlen]
  have hfit : (its.toArray.size : Int) < 2 ^ 63 := by
    have : (sizeLine : Int) < 2 ^ 63 := by decide
    have h2 : xs.length + 1 ≤ sizeLine := by simpa using hz
    rw [hsz]; omega
  have hpl : (Pattern.MatchValue (.Constant (.str wd) j p1) p2 :: capPats cs).length = is.length + 1 := by rw [List.length_cons, capPats_length, hl]
  have hstar : (Pattern.MatchValue (.Constant (.str wd) j p1) p2 :: capPats cs).findIdx? (·.isStar) = none := by
    rw [List.findIdx?_cons, capPats_star]; rfl
  have hwild : ((Pattern.MatchValue (.Constant (.str wd) j p1) p2 :: capPats cs).all fun p => p.isWildcard || (p.isStar && p.names.isEmpty)) = false := by
    rw [List.all_cons]; rfl
  have miss : ∀ tk, ¬ (z = wd ∧ xs.length = is.length) → wpAny (model X.prog X.w) X.A (matchCases rest X.env (.ref a) false) (SP X pins D) X.xe { s with toks := tk } := fun tk hn => by
    rcases h with ⟨e1, e2, _⟩ | ⟨_, q⟩
    · exact absurd ⟨e1, e2⟩ hn
    · exact hr.run false pins _ σ H D (.ref a) _ (I.tok tk) rfl q
  refine wpAny_matchCases_cons ?_
  by_cases hn : xs.length = is.length
  · refine matchSeq_tuple_hit ht hfit (by rw [hsz, hpl, hn]) ?_ hstar hwild
    have en : (Pattern.MatchValue (.Constant (.str wd) j p1) p2 :: capPats cs).length = its.toArray.size := by rw [hpl, hsz, hn]
    rw [en]
    refine unpackItems_tuple (s := { s with toks := s.toks + 1 + 1 }) (I.ok.hd hc) ht fun h' hx => ?_
    have hk : ∀ b o, s.heap.get? b = some o → h'.get? b = some o := fun b o e => hx b o (Nat.ne_of_lt (Heap.lt_size e)) e
    have I1 : Inv X pins σ H { s with heap := h', toks := s.toks + 1 + 1 } := I.kept hk
    cases rvs with
    | cons r0 rr =>
      rename_i u0 us
      obtain ⟨t0, rfl⟩ := r0
      refine wpAny_matchEach_cons (p := .MatchValue (.Constant (.str wd) j p1) p2) (wpAny_matchPattern_Value ?_)
      refine Calls.Constant_str ?_
      refine PyProof.Rows.eq_str ?_
      rw [show (z == wd) = decide (z = wd) from rfl]
      refine wpAny_truthy_bool ?_
      by_cases e : z = wd
      · rw [decide_eq_true e]
        have hul : us.length = cs.length := by
          have := rr.length
          omega
        refine each_caps cs us _ _ hul ?_
        simp only [List.nil_append]
        refine store_caps hN sl xs us σ _ _ (I1.tok _) rr (by omega) fun s' I' => ?_
        rcases h with ⟨_, _, q⟩ | ⟨q, _⟩
        · exact hb.run pins s' _ H D I' q
        · exact absurd ⟨e, hn⟩ q
      · rw [decide_eq_false e]
        have q := hr.run false pins
        rcases h with ⟨e1, _, _⟩ | ⟨_, q⟩
        · exact absurd e1 e
        · exact hr.run false pins _ σ H D (.ref a) _ (I1.tok _) rfl q
  · refine matchSeq_tuple_miss ht hfit (by rw [hsz, hpl]; omega) ?_ hstar hwild
    exact miss _ fun q => hn q.2
def tMatch (te : TE) (t : V → TS) : TS := fun D σ H => te σ H fun v H1 => t v D σ H1
theorem ps_match {X : Cx} {e : Expr} {cs : List MatchCase} {pos : Pos} {te : TE} {t : V → TS} (he : PE X e te) (hc : PCases X cs t) : PS X (.Match e cs pos) (tMatch te t) := by
  refine ⟨fun pins s σ H D I h => ?_⟩
  exact wpAny_Match (thn (he.run pins s σ H _ I h) fun u s1 ⟨v, H1, I1, r, q⟩ => hc.run true pins s1 σ H1 D v u I1 r q)
section
variable {X : Cx} {wd x0 x1 x2 : Str} {j : Nat} {p1 p2 p3 q0 q1 q2 : Pos} {body : List Stmt} {rest : List MatchCase} {tb : TS} {tr : V → TS}
theorem pc_seq0 (hN : X.N.Nodup) (hb : PSs X body tb) (hr : PCases X rest tr) (hc : X.calm = true := by rfl) :
    PCases X (⟨.MatchSequence [.MatchValue (.Constant (.str wd) j p1) p2] p3, none, body⟩ :: rest) (tCase X.K wd [] tb tr) := pc_case (cs := []) hc hN .nil rfl hb hr
theorem pc_seq1 {i0 : Nat} (hN : X.N.Nodup) (hb : PSs X body tb) (hr : PCases X rest tr) (hc : X.calm = true := by rfl) (h0 : X.N[i0]? = some x0 := by rfl) (l0 : X.env.scope.names.lookup x0 = some .local := by rfl) :
    PCases X (⟨.MatchSequence [.MatchValue (.Constant (.str wd) j p1) p2, .MatchAs none (some x0) q0] p3, none, body⟩ :: rest) (tCase X.K wd [i0] tb tr) :=
  pc_case (cs := [(x0, q0)]) hc hN (.cons h0 l0 .nil) rfl hb hr
theorem pc_seq2 {i0 i1 : Nat} (hN : X.N.Nodup) (hb : PSs X body tb) (hr : PCases X rest tr) (hc : X.calm = true := by rfl) (h0 : X.N[i0]? = some x0 := by rfl) (l0 : X.env.scope.names.lookup x0 = some .local := by rfl) (h1 : X.N[i1]? = some x1 := by rfl) (l1 : X.env.scope.names.lookup x1 = some .local := by rfl) :
    PCases X (⟨.MatchSequence [.MatchValue (.Constant (.str wd) j p1) p2, .MatchAs none (some x0) q0, .MatchAs none (some x1) q1] p3, none, body⟩ :: rest) (tCase X.K wd [i0, i1] tb tr) :=
  pc_case (cs := [(x0, q0), (x1, q1)]) hc hN (.cons h0 l0 (.cons h1 l1 .nil)) rfl hb hr
end
end Vt
namespace Vt
open PySem PySem.Spec PyProof.Rows L2
/-! ### word, *numbers = tuple -/
section
variable {prog : Program} {w : World} {A : Around} {E : Value → Shared → Prop} {s : Shared} {env : Env}
theorem star_tuple {l : Addr} {items : Array Value} {n i : Nat} {first mids lasts : List Value} {Q : List Value → Shared → Prop} (hl : IsTup s.heap l items) (hh : A.handled = none) (hi : i < n) (hn : n ≤ items.size + 1) (hz : items.size ≤ 16384)
    (h1 : items.toList.take i = first) (h2 : (items.toList.drop i).take (items.size + 1 - n) = mids) (h3 : (items.toList.drop i).drop (items.size + 1 - n) = lasts)
    (h : ∀ (h₂ : Heap) (tk : Nat), (∀ b o, s.heap.get? b = some o → h₂.get? b = some o) → Q (first ++ [.ref h₂.objs.size] ++ lasts) { s with heap := h₂.push { cls := .type "list", data := .seq mids.toArray }, toks := tk }) : wpAny (model prog w) A (unpackItems (.ref l) n (some i)) Q E s := by
  subst h1 h2 h3
  have hlt : l ≠ s.heap.objs.size := by obtain ⟨o, ho, _⟩ := hl; exact Nat.ne_of_lt (Heap.lt_size ho)
  have hll : l < s.heap.objs.size := by obtain ⟨o, ho, _⟩ := hl; exact Heap.lt_size ho
  unfold unpackItems
  refine wpAny_bind ?_
  unfold notIterableAtAll
  refine wpAny_bind (wpAny_specialOf hl.typeIs slot_tuple_iter.lookup ?_)
  refine wpAny_pure ?_
  simp only [Bool.false_eq_true, if_false]
  refine wpAny_bind (wpAny_holding (iter_tuple hl ?_))
  refine wpAny_bind (wpAny_holding (draw_tuple hlt i 0 _ _ ⟨_, Heap.get?_push_size _ rfl, rfl, rfl⟩ (hl.push _) (by omega) fun h₁ hit₁ hs₁ => ?_))
  have hl₁ : IsTup h₁ l items := (hl.push _).extBut hs₁.extBut hlt
  rw [Nat.zero_add] at hit₁
  have hit₁' := hit₁
  obtain ⟨oi, hoi, _⟩ := hit₁'
  have hl₁' := hl₁
  obtain ⟨ol, hol, _⟩ := hl₁'
  rw [List.drop_zero]
  have hfl : (items.toList.take i).length = i := by rw [List.length_take, Array.length_toList]; omega
  rw [if_neg (show ¬ ((items.toList.take i).length < i) by rw [hfl]; omega)]
  refine wpAny_bind (wpAny_holding (PySem.W.kun_collect (s := { s with heap := h₁ }) (T := "tuple_iterator") (.inr (.inr (.inr rfl))) (Walks.tuple (A := A.in1) hh s.heap.objs.size l hlt items) (fun j u st => st.1.typeIs) (k := i) (by omega) ⟨hit₁, hl₁⟩ (Heap.lt_size hoi) (Heap.lt_size hol) (fun h₂ tk hk => ?_) (by rw [sizeLine_eq]; omega)))
  have hrl : (items.toList.drop i).length = items.size - i := by rw [List.length_drop, Array.length_toList]
  have hmid : (items.toList.drop i).length - (n - 1 - i) = items.size + 1 - n := by rw [hrl]; omega
  show wpAny _ _ (if (items.toList.drop i).length < n - 1 - i then _ else _) _ _ _
  rw [if_neg (by rw [hrl]; omega)]
  show wpAny _ _ (newList ((items.toList.drop i).take ((items.toList.drop i).length - (n - 1 - i))) >>= fun d => pure (items.toList.take i ++ [d] ++ (items.toList.drop i).drop ((items.toList.drop i).length - (n - 1 - i)))) _ _ _
  rw [hmid]
  have he : Heap.ExtBut s.heap.objs.size s.heap h₂ := fun b o hb e => hk b o hb (hs₁.extBut b o hb (Heap.get?_push_of_some _ e))
  exact wpAny_bind (wpAny_newList (s := { s with heap := h₂, toks := tk }) (wpAny_pure (h h₂ tk fun b o e => he b o (Nat.ne_of_lt (Heap.lt_size e)) e)) (by rw [List.length_take, hrl, sizeLine_eq]; omega))
end
def gStar (K : PySem.W.Frag) (i j : Nat) : TG := fun v σ H Q => ∃ a x xs, v = .ref a ∧ SqT K H a (x :: xs) ∧ xs.length ≤ 1000 ∧ ∀ p, H p = none → Q ((σ.set i (some x)).set j (some (.ref p))) (upd H p (.lst xs))
theorem pg_star {X : Cx} {i j : Nat} {x y : Str} {px py ps pos : Pos} {k : Nat} (hc : X.calm = true) (hN : X.N.Nodup) (hi : X.N[i]? = some x) (hj : X.N[j]? = some y) (hx : X.env.scope.names.lookup x = some .local) (hy : X.env.scope.names.lookup y = some .local) :
    PG X (.Tuple [.Name x px, .Starred (.Name y py) ps] k pos) (gStar X.K i j) := by
  refine ⟨fun pins s σ H v u Q I r h => ?_⟩
  obtain ⟨a, z, xs, ev, hq, hl, h⟩ := h
  subst ev
  cases r
  obtain ⟨its, rvs, ht, hz⟩ := I.tuple hq
  have hlen : its.length = xs.length + 1 := by rw [← rvs.length]; rfl
  cases rvs with
  | cons r0 rr =>
    rename_i u0 us
    have hus : us.length = xs.length := rr.length.symm
    rw [assign_Tuple]
    refine wpAny_bind (wpAny_standAt ?_)
    unfold unpack
    have e1 : (assignEach [.Name x px, .Starred (.Name y py) ps] X.env).length = 2 := rfl
    have e2 : (assignEach [.Name x px, .Starred (.Name y py) ps] X.env).findIdx? (·.1) = some 1 := rfl
    rw [e1, e2]
    refine wpAny_bind (wpAny_holding (star_tuple (first := [u0]) (mids := us) (lasts := []) ht (I.ok.hd hc) (by decide) (by simp) (by simp; omega) rfl (by simp) (by simp) fun h₂ tk hk => ?_))
    have I2 : Inv X pins σ H { s with heap := h₂, toks := tk } := I.kept hk
    have hn : H h₂.objs.size = none := I2.hok.fresh (Nat.le_refl _)
    have hz2 : xs.length ≤ sizeLine := Nat.le_trans hl (by decide)
    have I1 : Inv X pins σ (upd H h₂.objs.size (.lst xs)) { s with heap := h₂.push { cls := .type "list", data := .seq us.toArray }, toks := tk } :=
      I2.laid (t' := tk) (fun b u e => Heap.get?_push_of_some _ e) (Nat.le_refl _) ⟨hz2, us, 0, rr, Heap.get?_push_size _ rfl⟩
    show wpAny _ _ (assignInOrder [assign (.Name x px) X.env, assign (.Name y py) X.env] [u0, .ref h₂.objs.size]) _ _ _
    refine assignInOrder_cons (thn ((pg_name (pos := px) hN hi (.inl hx) (.inr hx)).run pins _ σ _ z u0 (fun σ1 H1 => σ1 = σ.set i (some z) ∧ H1 = upd H h₂.objs.size (.lst xs)) I1 r0 ⟨rfl, rfl⟩) fun _ s1 ⟨σ1, H1, I3, e3, e4⟩ => ?_)
    subst e3 e4
    refine assignInOrder_cons (thn ((pg_name (pos := py) hN hj (.inl hy) (.inr hy)).run pins _ _ _ (.ref h₂.objs.size) _ Q I3 rfl (h _ hn)) fun _ s2 q => ?_)
    exact wpAny_assignInOrder_none q
end Vt
namespace Vt
open PySem PySem.Spec PyProof.Rows L2
/-! ### word, *words = list -/
section
variable {prog : Program} {w : World} {A : Around} {E : Value → Shared → Prop} {s : Shared} {env : Env}
theorem star_list {l : Addr} {items : Array Value} {n i : Nat} {first mids lasts : List Value} {Q : List Value → Shared → Prop} (hl : s.heap.IsList l items) (hh : A.handled = none) (hi : i < n) (hn : n ≤ items.size + 1) (hz : items.size ≤ 16384)
    (h1 : items.toList.take i = first) (h2 : (items.toList.drop i).take (items.size + 1 - n) = mids) (h3 : (items.toList.drop i).drop (items.size + 1 - n) = lasts)
    (h : ∀ (h₂ : Heap) (tk : Nat), (∀ b o, s.heap.get? b = some o → h₂.get? b = some o) → Q (first ++ [.ref h₂.objs.size] ++ lasts) { s with heap := h₂.push { cls := .type "list", data := .seq mids.toArray }, toks := tk }) : wpAny (model prog w) A (unpackItems (.ref l) n (some i)) Q E s := by
  subst h1 h2 h3
  have hlt : l ≠ s.heap.objs.size := by obtain ⟨o, ho, _⟩ := hl; exact Nat.ne_of_lt (Heap.lt_size ho)
  have hll : l < s.heap.objs.size := by obtain ⟨o, ho, _⟩ := hl; exact Heap.lt_size ho
  unfold unpackItems
  refine wpAny_bind ?_
  unfold notIterableAtAll
  refine wpAny_bind (wpAny_specialOf hl.typeIs slot_list_iter.lookup ?_)
  refine wpAny_pure ?_
  simp only [Bool.false_eq_true, if_false]
  refine wpAny_bind (wpAny_holding (wpAny_pyIter_list hl ?_))
  refine wpAny_bind (wpAny_holding (PySem.W.kun_draw hlt i 0 _ _ ⟨_, Heap.get?_push_size _ rfl, rfl, rfl⟩ (hl.push _) (by omega) fun h₁ hit₁ hs₁ => ?_))
  have hl₁ : h₁.IsList l items := (hl.push _).extBut hs₁.extBut hlt
  rw [Nat.zero_add] at hit₁
  have hit₁' := hit₁
  obtain ⟨oi, hoi, _⟩ := hit₁'
  have hl₁' := hl₁
  obtain ⟨ol, hol, _⟩ := hl₁'
  rw [List.drop_zero]
  have hfl : (items.toList.take i).length = i := by rw [List.length_take, Array.length_toList]; omega
  rw [if_neg (show ¬ ((items.toList.take i).length < i) by rw [hfl]; omega)]
  refine wpAny_bind (wpAny_holding (PySem.W.kun_collect (s := { s with heap := h₁ }) (T := "list_iterator") (.inr (.inr (.inl rfl))) (Walks.list (A := A.in1) hh s.heap.objs.size l hlt items) (fun j u st => st.1.typeIs) (k := i) (by omega) ⟨hit₁, hl₁⟩ (Heap.lt_size hoi) (Heap.lt_size hol) (fun h₂ tk hk => ?_) (by rw [sizeLine_eq]; omega)))
  have hrl : (items.toList.drop i).length = items.size - i := by rw [List.length_drop, Array.length_toList]
  have hmid : (items.toList.drop i).length - (n - 1 - i) = items.size + 1 - n := by rw [hrl]; omega
  show wpAny _ _ (if (items.toList.drop i).length < n - 1 - i then _ else _) _ _ _
  rw [if_neg (by rw [hrl]; omega)]
  show wpAny _ _ (newList ((items.toList.drop i).take ((items.toList.drop i).length - (n - 1 - i))) >>= fun d => pure (items.toList.take i ++ [d] ++ (items.toList.drop i).drop ((items.toList.drop i).length - (n - 1 - i)))) _ _ _
  rw [hmid]
  have he : Heap.ExtBut s.heap.objs.size s.heap h₂ := fun b o hb e => hk b o hb (hs₁.extBut b o hb (Heap.get?_push_of_some _ e))
  exact wpAny_bind (wpAny_newList (s := { s with heap := h₂, toks := tk }) (wpAny_pure (h h₂ tk fun b o e => he b o (Nat.ne_of_lt (Heap.lt_size e)) e)) (by rw [List.length_take, hrl, sizeLine_eq]; omega))
end
def gStarL (K : PySem.W.Frag) (i j : Nat) : TG := fun v σ H Q => ∃ a x xs, v = .ref a ∧ SqL K H a (x :: xs) ∧ xs.length ≤ 1000 ∧ ∀ p, H p = none → Q ((σ.set i (some x)).set j (some (.ref p))) (upd H p (.lst xs))
theorem pg_starL {X : Cx} {i j : Nat} {x y : Str} {px py ps pos : Pos} {k : Nat} (hc : X.calm = true) (hN : X.N.Nodup) (hi : X.N[i]? = some x) (hj : X.N[j]? = some y) (hx : X.env.scope.names.lookup x = some .local) (hy : X.env.scope.names.lookup y = some .local) :
    PG X (.Tuple [.Name x px, .Starred (.Name y py) ps] k pos) (gStarL X.K i j) := by
  refine ⟨fun pins s σ H v u Q I r h => ?_⟩
  obtain ⟨a, z, xs, ev, hq, hl, h⟩ := h
  subst ev
  cases r
  obtain ⟨its, rvs, ⟨oo, nn, ho1, ho2, _, ho3⟩, hz⟩ := I.list hq
  have ht : s.heap.IsList a its.toArray := ⟨oo, ho1, ho2, nn, ho3⟩
  have hlen : its.length = xs.length + 1 := by rw [← rvs.length]; rfl
  cases rvs with
  | cons r0 rr =>
    rename_i u0 us
    have hus : us.length = xs.length := rr.length.symm
    rw [assign_Tuple]
    refine wpAny_bind (wpAny_standAt ?_)
    unfold unpack
    have e1 : (assignEach [.Name x px, .Starred (.Name y py) ps] X.env).length = 2 := rfl
    have e2 : (assignEach [.Name x px, .Starred (.Name y py) ps] X.env).findIdx? (·.1) = some 1 := rfl
    rw [e1, e2]
    refine wpAny_bind (wpAny_holding (star_list (first := [u0]) (mids := us) (lasts := []) ht (I.ok.hd hc) (by decide) (by simp) (by simp; omega) rfl (by simp) (by simp) fun h₂ tk hk => ?_))
    have I2 : Inv X pins σ H { s with heap := h₂, toks := tk } := I.kept hk
    have hn : H h₂.objs.size = none := I2.hok.fresh (Nat.le_refl _)
    have hz2 : xs.length ≤ sizeLine := Nat.le_trans hl (by decide)
    have I1 : Inv X pins σ (upd H h₂.objs.size (.lst xs)) { s with heap := h₂.push { cls := .type "list", data := .seq us.toArray }, toks := tk } :=
      I2.laid (t' := tk) (fun b u e => Heap.get?_push_of_some _ e) (Nat.le_refl _) ⟨hz2, us, 0, rr, Heap.get?_push_size _ rfl⟩
    show wpAny _ _ (assignInOrder [assign (.Name x px) X.env, assign (.Name y py) X.env] [u0, .ref h₂.objs.size]) _ _ _
    refine assignInOrder_cons (thn ((pg_name (pos := px) hN hi (.inl hx) (.inr hx)).run pins _ σ _ z u0 (fun σ1 H1 => σ1 = σ.set i (some z) ∧ H1 = upd H h₂.objs.size (.lst xs)) I1 r0 ⟨rfl, rfl⟩) fun _ s1 ⟨σ1, H1, I3, e3, e4⟩ => ?_)
    subst e3 e4
    refine assignInOrder_cons (thn ((pg_name (pos := py) hN hj (.inl hy) (.inr hy)).run pins _ _ _ (.ref h₂.objs.size) _ Q I3 rfl (h _ hn)) fun _ s2 q => ?_)
    exact wpAny_assignInOrder_none q
end Vt
namespace Vt
open PySem PySem.Spec PyProof.Rows L2
/-! ### d.get(x), d a written dict of text keys -/
def tKGet (K : PySem.W.Frag) (w : World) (td ty : TE) : TE := fun σ H Q => td σ H fun x H1 => ∃ a, x = .ref a ∧ (a == sysModules) = false ∧ (∃ es n, K.lookup a = some ⟨.type "dict", none, .dict es n, #[]⟩ ∧ PySem.W.KeysLit w.params es.toList) ∧
  ty σ H1 fun y H2 => ∃ z, y = .str z ∧ ((∃ v, KDct K w a z v ∧ Q v H2) ∨ (KMiss K w a z ∧ Q .non H2))
section
variable {X : Cx} {o e : Expr} {apos cpos : Pos} {td ty : TE}
theorem pe_kget (ho : PE X o td) (he : PE X e ty) (m : M1 X o "get" apos e cpos) : PE X (.Call (.Attribute o "get" apos) [e] [] cpos) (tKGet X.K X.w td ty) := by
  refine ⟨fun pins s σ H Q I h => ?_⟩
  refine wpAny_Call_method m.base m.few m.line PySem.F.plainAttrs_dict PySem.F.slot_dict_get PySem.F.type_dict_get (thn (ho.run pins s σ H _ I h) fun u s1 ⟨x, H1, I1, rx, a, ex, hs, ⟨es, n, hl, hk⟩, q1⟩ => ?_)
  subst ex
  obtain rfl : u = Value.ref a := rx
  have hm := PySem.W.mapOf_K (prog := X.prog) (w := X.w) I1.kIn hl hk
  refine ⟨hm.typeIs, fun b q => ⟨_, I1.kIn _ _ (by cases q; exact hl), rfl⟩, ?_⟩
  rw [m.trees]
  refine Calls.callWith_builtin rfl (Calls.evalArgs_plain (Calls.spliced_cons (thn (he.run pins s1 σ H1 _ I1 q1) fun iv s2 ⟨y, H2, I2, ry, z, ey, q2⟩ => Calls.spliced_nil ?_)))
  subst ey
  obtain ⟨t, rfl⟩ := (show ∃ t, iv = Value.str z t from ry)
  have hm2 := PySem.W.mapOf_K (prog := X.prog) (w := X.w) I2.kIn hl hk
  refine call_meetsIn PySem.F.slot_dict_get hm2.typeIs PySem.F.entry_dict_get (PySem.F.args_dict_get_2 _ _) (meets_dict_get (strKind X.prog X.w) a (strKind_is X.prog X.w z t) hs) ⟨_, hm2, ?_⟩
  rcases q2 with ⟨v, ⟨es', n', u0, hl', hk', e', ru⟩, q2⟩ | ⟨⟨es', n', hl', hk', _, e'⟩, q2⟩
  · rw [hl] at hl'
    cases hl'
    exact ⟨v, H2, I2.tok _, by rw [PySem.W.find_K hl e']; exact ru, q2⟩
  · rw [hl] at hl'
    cases hl'
    exact ⟨.non, H2, I2.tok _, by rw [PySem.W.find_K hl e']; rfl, q2⟩
end
end Vt
namespace Vt
open PySem PySem.Spec PyProof.Rows L2
/-! ### the heap's small words -/
theorem sqA_l {K : PySem.W.Frag} {H : Hp} {a : Addr} {xs : List V} (h : H a = some (.lst xs)) : SqA K H a xs := .inl (.inl (.inl h))
theorem sqA_t {K : PySem.W.Frag} {H : Hp} {a : Addr} {xs : List V} (h : H a = some (.tup xs)) : SqA K H a xs := .inr (.inl (.inl h))
theorem sqL_l {K : PySem.W.Frag} {H : Hp} {a : Addr} {xs : List V} (h : H a = some (.lst xs)) : SqL K H a xs := .inl (.inl h)
theorem sqT_t {K : PySem.W.Frag} {H : Hp} {a : Addr} {xs : List V} (h : H a = some (.tup xs)) : SqT K H a xs := .inl (.inl h)
theorem same_new {H : Hp} {p : Addr} {o : HO} (h : H p = none) : Same H (upd H p o) := fun b x e => by
  rw [upd_ne (ne_of_none e h)]
  exact e
theorem Same.sqT {K : PySem.W.Frag} {H H' : Hp} {a : Addr} {xs : List V} (e : Same H H') (h : SqT K H a xs) : SqT K H' a xs := by
  rcases h with (h | ⟨o, h⟩) | h
  · exact .inl (.inl (e _ _ h))
  · exact .inl (.inr ⟨o, e _ _ h⟩)
  · exact .inr h
/-- all that was tracked stands but for these -/
def But (B : List Addr) (H H' : Hp) : Prop := ∀ c o, c ∉ B → H c = some o → H' c = some o
theorem But.refl {B : List Addr} {H : Hp} : But B H H := fun _ _ _ h => h
theorem But.trans {B : List Addr} {H H1 H2 : Hp} (a : But B H H1) (b : But B H1 H2) : But B H H2 := fun c o n h => b c o n (a c o n h)
theorem Same.but {B : List Addr} {H H' : Hp} (a : Same H H') : But B H H' := fun c o _ h => a c o h
theorem But.set {B : List Addr} {H : Hp} {p : Addr} {o : HO} (h : p ∈ B) : But B H (upd H p o) := fun c u n e => by
  rw [upd_ne (fun q => n (by rw [q]; exact h))]; exact e
theorem But.same {H H' : Hp} (a : But [] H H') : Same H H' := fun c o h => a c o (by simp) h
theorem But.mono {B B' : List Addr} {H H' : Hp} (a : But B H H') (h : ∀ b ∈ B, b ∈ B') : But B' H H' := fun c o n e => a c o (fun m => n (h c m)) e
/-- these stand for lists -/
def Lsts (H : Hp) (B : List Addr) : Prop := ∀ b ∈ B, ∃ xs, H b = some (.lst xs)
theorem But.sqT {K : PySem.W.Frag} {B : List Addr} {H H' : Hp} {a : Addr} {xs : List V} (e : But B H H') (l : Lsts H B) (h : SqT K H a xs) : SqT K H' a xs := by
  rcases h with (h | ⟨o, h⟩) | h
  · exact .inl (.inl (e _ _ (fun m => by obtain ⟨ys, q⟩ := l _ m; rw [q] at h; cases h) h))
  · exact .inl (.inr ⟨o, e _ _ (fun m => by obtain ⟨ys, q⟩ := l _ m; rw [q] at h; cases h) h⟩)
  · exact .inr h
theorem fits {n : Nat} (h : n ≤ 16000) : n < sizeLine := Nat.lt_of_le_of_lt h (by decide)
theorem fits' {n : Nat} (h : n ≤ 16000) : n ≤ sizeLine := Nat.le_of_lt (fits h)
theorem at0 {α : Type} {x : α} {r : List α} : atI (x :: r) 0 = some x := atI_nat (j := 0) rfl
theorem ixN_of {n : Nat} {i : Int} {j : Nat} (h : i = (j : Int)) (hj : j < n) : ixN n i = some j := by
  subst h
  unfold ixN
  rw [if_pos (by omega), if_pos (by omega)]
  rfl
theorem seqIx_of {n : Nat} {i : Int} {j : Nat} (h : i = (j : Int)) (hj : j < n) : seqIndex? i n = some j := (ixN_seq (ixN_of h hj)).1
/-! ### the asker's box of draws -/
def Box (H : Hp) (b l : Addr) : Prop := ∃ (ns : List Int) (s : Int), H b = some (.lst [.ref l, .int s]) ∧ H l = some (.lst (ns.map V.int)) ∧ 0 ≤ s ∧ s < 2147483647 ∧ ns.length ≤ 63
theorem Box.ne {H : Hp} {b l : Addr} (h : Box H b l) : b ≠ l := by
  obtain ⟨ns, s, h1, h2, _⟩ := h
  refine ne_of h1 h2 fun e => ?_
  cases ns with
  | nil => cases e
  | cons x r => cases e
theorem Box.lsts {H : Hp} {b l : Addr} (h : Box H b l) : Lsts H [b, l] := by
  obtain ⟨ns, s, h1, h2, _⟩ := h
  intro c hc
  rcases List.mem_cons.mp hc with rfl | hc
  · exact ⟨_, h1⟩
  · rw [List.mem_singleton.mp hc]; exact ⟨_, h2⟩
theorem Box.same {H H' : Hp} {b l : Addr} (e : Same H H') (h : Box H b l) : Box H' b l := by
  obtain ⟨ns, s, h1, h2, h3⟩ := h
  exact ⟨ns, s, e _ _ h1, e _ _ h2, h3⟩
theorem dpInts {K : PySem.W.Frag} {H : Hp} : ∀ ns : List Int, DpAll K H (ns.map V.int) (ns.map PyData.int)
  | [] => .nil
  | n :: r => .cons (.int n) (dpInts r)
theorem shapedInts (ns : List Int) : SeqAt.shaped (.list (ns.map PyData.int)) = true := by
  have h1 : ∀ ns : List Int, PyData.canLayAll0 (ns.map PyData.int) = true := by
    intro ns
    induction ns with
    | nil => simp [PyData.canLayAll0]
    | cons n r ih => simp [PyData.canLayAll0, PyData.canLay0, ih]
  have h2 : ∀ ns : List Int, PyData.depthAll (ns.map PyData.int) ≤ 1 := by
    intro ns
    induction ns with
    | nil => simp [PyData.depthAll]
    | cons n r ih => simp [PyData.depthAll, PyData.depth]; omega
  have a := h1 ns
  have b := h2 ns
  simp [SeqAt.shaped, PyData.canLay0, PyData.depth, a]
  omega
def nV (n : Nat) : V := .int (n : Int)
theorem chgN {i : Nat} {x y : V} {σ : L2.St} {H : Hp} {Q : L2.St → Hp → Prop} (e : x = y) (h : gName i y σ H Q) : gName i x σ H Q := by rw [e]; exact h
def spTake0 : Sp := fun vs H Q _ => ∃ (b l : Addr) (m : Int), vs = [.ref b, .int m] ∧ Box H b l ∧ 0 < m ∧ m < 1000000 ∧ ∀ H' r, Box H' b l → But [b, l] H H' → 0 ≤ r → r < m → Q (.int r) H'
section
variable {P : Program} {w : World} {K : PySem.W.Frag} {mg : Str → Option Value} {base : Heap}
abbrev st_law_take : Stmt := (topS 32)
abbrev nm_law_take : List Str := ["_law_box", "_law_many", "_law_number"]
theorem sc_law_take : FnScope ["_law_box", "_law_many", "_law_number"] ["_law_box", "_law_many"] (defScope st_law_take) := ⟨rfl, rfl, rfl, by decide +kernel, rfl, by decide +kernel, by decide +kernel⟩
theorem ok_take0 {f : Addr} {fd : FuncData} (F : Fun K "_law_take" "_law_take" st_law_take f fd) : FnOk P w K mg base CX0 1 f fd ["_law_box", "_law_many"] spTake0 := by
  refine F.ok sc_law_take (fun vs H Q E h => ?_) (fun cdv A outer s H vs Q E hr h => ?_)
  · obtain ⟨b, l, m, rfl, _⟩ := h
    rfl
  · obtain ⟨b, l, m, rfl, hB, m0, m1, q⟩ := h
    have hne := hB.ne
    obtain ⟨ns, sd, hb, hl, s0, s1, hlen⟩ := hB
    refine ⟨_, (pss_cons (ps_if (pt_cmpR (op_eqD hr.units) (pe_ix ix_lt (pv 0) pe_int (fun _ _ => rfl)) (pe_lst pa_nil) (nomark _)) (pss_cons (ps_asg (pe_op op_mod (pe_op op_mul (pe_ix ix_lt (pv 0) pe_int (fun _ _ => rfl)) pe_int) pe_int) (pg_sub (pv 0) pe_int set_list))
  (pss_one (ps_ret (pe_op op_mod (pe_op op_fdiv (pe_ix ix_lt (pv 0) pe_int (fun _ _ => rfl)) pe_int) (pv 1))))) pss_nil)
  (pss_cons (ps_set (i := 2) sc_law_take.nd rfl (Or.inl rfl) (pe_ix ix_lt (pe_ix ix_lt (pv 0) pe_int (fun _ _ => rfl)) pe_int (fun _ _ => rfl)))
  (pss_cons (ps_asg (pe_op op_fdiv (pv 2) (pv 1)) (pg_sub (pe_ix ix_lt (pv 0) pe_int (fun _ _ => rfl)) pe_int set_list))
  (pss_cut (ps_if (PW.pt (pw_or (pt_cmpR op_eq (pe_ix ix_lt (pe_ix ix_lt (pv 0) pe_int (fun _ _ => rfl)) pe_int (fun _ _ => rfl)) pe_int (nomark _)) (pw_or1 (pt_cmpR op_eq (pe_ix ix_lt (pe_ix ix_lt (pv 0) pe_int (fun _ _ => rfl)) pe_int (fun _ _ => rfl)) (pe_un un_neg pe_int) (nomark _))))) (pss_one (ps_expr (pe_bm PySem.F.plainAttrs_list PySem.F.slot_list_pop PySem.F.type_list_pop mt_popAt (pe_ix ix_lt (pv 0) pe_int (fun _ _ => rfl)) (pa_cons pe_int pa_nil)))) pss_nil)
  (pss_one (ps_ret (pe_op op_mod (pv 2) (pv 1)))))))), ?_⟩
    -- if box[0] == []
    refine ⟨_, rfl, b, _, 0, .ref l, rfl, rfl, sqA_l hb, rfl, ?_⟩
    refine ⟨Nat.zero_le _, fun p np => ?_⟩
    have sm : Same H (upd H p (.lst [])) := same_new np
    refine ⟨.list (ns.map PyData.int), .list [], .lst (sqL_l (sm _ _ hl)) (dpInts ns), .lst (sqL_l upd_same) .nil, shapedInts ns, rfl, _, rfl, ?_⟩
    have hb1 := sm _ _ hb
    have hl1 := sm _ _ hl
    have nbp : b ≠ p := ne_of_none hb np
    have nlp : l ≠ p := ne_of_none hl np
    cases ns with
    | nil =>
      refine iteT ?_
      -- box[1] = box[1] * 48271 % 2147483647
      refine ⟨_, rfl, b, _, 1, .int sd, rfl, rfl, sqA_l hb1, rfl, ?_⟩
      refine ⟨_, _, rfl, rfl, .inl ⟨by omega, by omega⟩, _, _, rfl, rfl, (by show (0 : Int) < 2147483647; decide), ?_⟩
      refine ⟨_, rfl, b, _, 1, 1, rfl, rfl, hb1, rfl, ?_⟩
      -- return box[1] // 7 % many
      refine ⟨_, rfl, b, _, 1, .int (sd * 48271 % 2147483647), rfl, rfl, sqA_l upd_same, rfl, ?_⟩
      refine ⟨_, _, rfl, rfl, ⟨by decide, by decide⟩, _, rfl, _, _, rfl, rfl, m0, ?_⟩
      have e0 : 0 ≤ sd * 48271 % 2147483647 := Int.emod_nonneg _ (by decide)
      have e1 : sd * 48271 % 2147483647 < 2147483647 := Int.emod_lt_of_pos _ (by decide)
      refine q _ _ ⟨[], _, upd_same, ?_, e0, e1, hlen⟩ ?_ ?_ ?_
      · rw [upd_ne hne.symm]; exact hl1
      · exact (Same.but sm).trans (But.set (by simp))
      · exact Int.emod_nonneg _ (by omega)
      · exact Int.emod_lt_of_pos _ m0
    | cons n r =>
      refine iteF ?_
      -- number = box[0][0]
      refine ⟨_, rfl, b, _, 0, .ref l, rfl, rfl, sqA_l hb1, rfl, l, _, 0, .int n, rfl, rfl, sqA_l hl1, at0, ?_⟩
      -- box[0][0] = number // many
      refine ⟨_, rfl, _, rfl, _, _, rfl, rfl, ⟨m0, by omega⟩, ?_⟩
      refine ⟨_, rfl, b, _, 0, .ref l, rfl, rfl, sqA_l hb1, rfl, l, _, 0, 0, rfl, rfl, hl1, ixN_of rfl (by simp), ?_⟩
      have nlb : l ≠ b := hne.symm
      have hb2 : (upd (upd H p (.lst [])) l (.lst ((V.int (n / m)) :: r.map V.int))) b = some (.lst [.ref l, .int sd]) := by
        rw [upd_ne hne]; exact hb1
      have bt : But [b, l] H (upd (upd H p (.lst [])) l (.lst ((V.int (n / m)) :: r.map V.int))) := (Same.but sm).trans (But.set (by simp))
      -- if box[0][0] == 0 or box[0][0] == -1
      have hr1 : r.length ≤ 63 := by simp at hlen; omega
      refine ⟨fun σ' H' => σ' = [some (.ref b), some (.int m), some (.int n)] ∧ Box H' b l ∧ But [b, l] H H', ?_, fun σ' H' hM => ?_⟩
      · have pop : ∀ D : Ends, D.nx = (fun σ' H' => σ' = [some (.ref b), some (.int m), some (.int n)] ∧ Box H' b l ∧ But [b, l] H H') →
            tDrop (tBM K "list" rPopAt (tOp (rIxLT K) (tVar 0) (tC (.int 0))) (tCons (tC (.int 0)) tNil)) D [some (.ref b), some (.int m), some (.int n)] (upd (upd H p (.lst [])) l (.lst ((V.int (n / m)) :: r.map V.int))) := fun D hD => by
          refine ⟨_, rfl, b, _, 0, .ref l, rfl, rfl, sqA_l hb2, rfl, .inl ⟨rfl, _, sqL_l upd_same⟩, ?_⟩
          refine ⟨l, _, 0, 0, .int (n / m), rfl, rfl, upd_same, by decide, by decide, seqIx_of rfl (by simp), rfl, ?_⟩
          rw [hD]
          refine ⟨rfl, ⟨r, sd, ?_, ?_, s0, s1, hr1⟩, bt.trans (But.set (by simp))⟩
          · rw [upd_ne hne]; exact hb2
          · rw [upd_same]; rfl
        refine ⟨_, rfl, b, _, 0, .ref l, rfl, rfl, sqA_l hb2, rfl, l, _, 0, .int (n / m), rfl, rfl, sqA_l upd_same, at0, rfl, _, rfl, ite2 (fun e => ?_) (fun e => ?_)⟩
        · exact iteT (pop _ rfl)
        · refine ⟨_, rfl, b, _, 0, .ref l, rfl, rfl, sqA_l hb2, rfl, l, _, 0, .int (n / m), rfl, rfl, sqA_l upd_same, at0, 1, rfl, rfl, _, rfl, ite2 (fun e => ?_) (fun e => ?_)⟩
          · exact pop _ rfl
          · exact ⟨rfl, ⟨n / m :: r, sd, hb2, upd_same, s0, s1, hlen⟩, bt⟩
      · obtain ⟨rfl, h1, h2⟩ := hM
        refine ⟨_, rfl, _, rfl, _, _, rfl, rfl, m0, ?_⟩
        exact q _ _ h1 h2 (Int.emod_nonneg _ (by omega)) (Int.emod_lt_of_pos _ m0)
/-- a draw below many -/
def spTake : Sp := fun vs H Q _ => ∃ (b l : Addr) (e : Int) (m : Nat), vs = [.ref b, .int e] ∧ e = (m : Int) ∧ Box H b l ∧ 0 < m ∧ m < 1000000 ∧ ∀ (H' : Hp) (r : Nat), Box H' b l → But [b, l] H H' → r < m → Q (nV r) H'
theorem ok_take {f : Addr} {fd : FuncData} (F : Fun K "_law_take" "_law_take" st_law_take f fd) : FnOk P w K mg base CX0 1 f fd ["_law_box", "_law_many"] spTake :=
  (ok_take0 F).imp fun vs H Q E h => by
    obtain ⟨b, l, e, m, rfl, rfl, hB, m0, m1, q⟩ := h
    refine ⟨b, l, m, rfl, hB, by omega, by omega, fun H' r hB' bt r0 r1 => ?_⟩
    obtain ⟨k, rfl⟩ := Int.eq_ofNat_of_zero_le r0
    exact q H' k hB' bt (by omega)
end
end Vt
namespace Vt
open PySem PySem.Spec PyProof.Rows L2
/-! ### data in the heap: ints, texts, None, bools, tuples and lists of them -/
inductive D where
  | non | bl (b : Bool) | int (i : Int) | str (x : Str) | tup (ds : List D) | lst (ds : List D)
mutual
inductive Pd (H : Hp) : V → D → Prop
  | non : Pd H .non .non
  | bl (b : Bool) : Pd H (.bl b) (.bl b)
  | int (i : Int) : Pd H (.int i) (.int i)
  | str (x : Str) : Pd H (.str x) (.str x)
  | tup {a : Addr} {xs : List V} {ds : List D} : H a = some (.tup xs) → Pds H xs ds → Pd H (.ref a) (.tup ds)
  | lst {a : Addr} {xs : List V} {ds : List D} : H a = some (.lst xs) → Pds H xs ds → Pd H (.ref a) (.lst ds)
inductive Pds (H : Hp) : List V → List D → Prop
  | nil : Pds H [] []
  | cons {v : V} {vs : List V} {d : D} {ds : List D} : Pd H v d → Pds H vs ds → Pds H (v :: vs) (d :: ds)
end
mutual
def D.noL : D → Bool
  | .lst _ => false
  | .tup ds => noLs ds
  | _ => true
def noLs : List D → Bool
  | [] => true
  | d :: ds => d.noL && noLs ds
end
mutual
def D.dep : D → Nat
  | .lst ds => deps ds + 1
  | .tup ds => deps ds + 1
  | _ => 0
def deps : List D → Nat
  | [] => 0
  | d :: ds => max d.dep (deps ds)
end
section
variable {H H' : Hp}
mutual
theorem Pd.same (s : Same H H') : ∀ {d : D} {v : V}, Pd H v d → Pd H' v d
  | .non, _, .non => .non
  | .bl _, _, .bl b => .bl b
  | .int _, _, .int b => .int b
  | .str _, _, .str b => .str b
  | .tup _, _, .tup h hs => .tup (s _ _ h) (Pds.same s hs)
  | .lst _, _, .lst h hs => .lst (s _ _ h) (Pds.same s hs)
theorem Pds.same (s : Same H H') : ∀ {ds : List D} {vs : List V}, Pds H vs ds → Pds H' vs ds
  | [], _, .nil => .nil
  | _ :: _, _, .cons h hs => .cons (Pd.same s h) (Pds.same s hs)
end
mutual
theorem Pd.but {B : List Addr} (s : But B H H') (l : Lsts H B) : ∀ {d : D} {v : V}, d.noL = true → Pd H v d → Pd H' v d
  | .non, _, _, .non => .non
  | .bl _, _, _, .bl b => .bl b
  | .int _, _, _, .int b => .int b
  | .str _, _, _, .str b => .str b
  | .tup ds, _, n, .tup h hs => .tup (s _ _ (fun m => by obtain ⟨ys, q⟩ := l _ m; rw [q] at h; cases h) h) (Pds.but s l (by rw [D.noL] at n; exact n) hs)
  | .lst ds, _, n, .lst h hs => by rw [D.noL] at n; cases n
theorem Pds.but {B : List Addr} (s : But B H H') (l : Lsts H B) : ∀ {ds : List D} {vs : List V}, noLs ds = true → Pds H vs ds → Pds H' vs ds
  | [], _, _, .nil => .nil
  | d :: ds, _, n, .cons h hs => by
    rw [noLs, Bool.and_eq_true] at n
    exact .cons (Pd.but s l n.1 h) (Pds.but s l n.2 hs)
end
theorem Pds.len : ∀ {ds : List D} {vs : List V}, Pds H vs ds → vs.length = ds.length
  | _, _, .nil => rfl
  | _, _, .cons _ hs => by rw [List.length_cons, List.length_cons, Pds.len hs]
theorem Pds.get : ∀ {ds : List D} {vs : List V} {i : Nat} {d : D}, Pds H vs ds → ds[i]? = some d → ∃ v, vs[i]? = some v ∧ Pd H v d
  | _, _, _, _, .nil, e => by simp at e
  | _, _, 0, _, .cons h _, e => by
    simp only [List.getElem?_cons_zero, Option.some.injEq] at e
    subst e; exact ⟨_, rfl, h⟩
  | _, _, i + 1, _, .cons _ hs, e => by
    obtain ⟨v, h1, h2⟩ := Pds.get (i := i) hs (by simpa using e)
    exact ⟨v, by simpa using h1, h2⟩
theorem Pds.get' : ∀ {ds : List D} {vs : List V} {i : Nat} {v : V}, Pds H vs ds → vs[i]? = some v → ∃ d, ds[i]? = some d ∧ Pd H v d
  | _, _, _, _, .nil, e => by simp at e
  | _, _, 0, _, .cons h _, e => by
    simp only [List.getElem?_cons_zero, Option.some.injEq] at e
    subst e; exact ⟨_, rfl, h⟩
  | _, _, i + 1, _, .cons _ hs, e => by
    obtain ⟨v, h1, h2⟩ := Pds.get' (i := i) hs (by simpa using e)
    exact ⟨v, by simpa using h1, h2⟩
theorem Pds.app : ∀ {ds es : List D} {vs us : List V}, Pds H vs ds → Pds H us es → Pds H (vs ++ us) (ds ++ es)
  | _, _, _, _, .nil, k => k
  | _, _, _, _, .cons h hs, k => .cons h (Pds.app hs k)
theorem Pds.ints : ∀ {ns : List Int} {vs : List V}, Pds H vs (ns.map D.int) → vs = ns.map V.int
  | [], _, .nil => rfl
  | n :: r, _, .cons (.int _) hs => by rw [List.map_cons, Pds.ints hs]
theorem Pds.ofInts : ∀ ns : List Int, Pds H (ns.map V.int) (ns.map D.int)
  | [] => .nil
  | n :: r => .cons (.int n) (Pds.ofInts r)
end
theorem deps_get : ∀ {ds : List D} {i : Nat} {d : D}, ds[i]? = some d → d.dep ≤ deps ds
  | [], _, _, e => by simp at e
  | x :: r, 0, d, e => by
    simp only [List.getElem?_cons_zero, Option.some.injEq] at e
    subst e; rw [deps]; omega
  | x :: r, i + 1, d, e => by
    have := deps_get (ds := r) (i := i) (d := d) (by simpa using e)
    rw [deps]; omega
/-! ### boards -/
structure Ord where
  src : Nat
  goal : Nat
  many : Nat
  later : Option Nat
inductive Deed where
  | set (c n : Nat) | add (c o : Nat) | say (c : Nat) | start (o : Nat) | wait | clean (l : Nat) | drop (l : Nat)
  deriving DecidableEq
structure Brd where
  mem : List Nat
  ords : List Ord
  prog : List Deed
def nD (n : Nat) : D := .int (n : Int)
def oV : Option Nat → V
  | none => .non
  | some k => nV k
def oD : Option Nat → D
  | none => .non
  | some k => nD k
def Ord.vs (o : Ord) : List V := [nV o.src, nV o.goal, nV o.many, oV o.later]
def Ord.d (o : Ord) : D := .tup [nD o.src, nD o.goal, nD o.many, oD o.later]
def Deed.word : Deed → Str
  | .set _ _ => "set" | .add _ _ => "add" | .say _ => "say" | .start _ => "start" | .wait => "wait" | .clean _ => "clean" | .drop _ => "drop"
def Deed.args : Deed → List Nat
  | .set c n => [c, n] | .add c o => [c, o] | .say c => [c] | .start o => [o] | .wait => [] | .clean l => [l] | .drop l => [l]
def Deed.vs (d : Deed) : List V := .str d.word :: d.args.map nV
def Deed.d (d : Deed) : D := .tup (.str d.word :: d.args.map nD)
def nsD (ns : List Nat) : D := .tup (ns.map nD)
def Brd.d (B : Brd) : D := .tup [nsD B.mem, .tup (B.ords.map Ord.d), .tup (B.prog.map Deed.d)]
theorem pd_o {H : Hp} : ∀ o : Option Nat, Pd H (oV o) (oD o)
  | none => .non
  | some k => .int k
theorem pds_ns {H : Hp} : ∀ ns : List Nat, Pds H (ns.map nV) (ns.map nD)
  | [] => .nil
  | n :: r => .cons (.int n) (pds_ns r)
theorem pds_ns' {H : Hp} : ∀ {ns : List Nat} {vs : List V}, Pds H vs (ns.map nD) → vs = ns.map nV
  | [], _, .nil => rfl
  | n :: r, _, .cons h hs => by
    cases h
    rw [List.map_cons, pds_ns' hs]; rfl
theorem Ord.pd {H : Hp} {o : Ord} {a : Addr} (h : H a = some (.tup o.vs)) : Pd H (.ref a) o.d := .tup h (.cons (.int _) (.cons (.int _) (.cons (.int _) (.cons (pd_o _) .nil))))
theorem Ord.of {H : Hp} {o : Ord} {v : V} (h : Pd H v o.d) : ∃ a, v = .ref a ∧ H a = some (.tup o.vs) := by
  obtain ⟨s, g, m, l⟩ := o
  cases h with
  | tup h hs =>
    cases hs with
    | cons h1 hs => cases h1; cases hs with
      | cons h2 hs => cases h2; cases hs with
        | cons h3 hs => cases h3; cases hs with
          | cons h4 hs =>
            cases hs
            refine ⟨_, rfl, ?_⟩
            cases l with
            | none => cases h4; exact h
            | some k => cases h4; exact h
theorem Deed.pd {H : Hp} {d : Deed} {a : Addr} (h : H a = some (.tup d.vs)) : Pd H (.ref a) d.d := .tup h (.cons (.str _) (pds_ns _))
theorem Deed.of {H : Hp} {d : Deed} {v : V} (h : Pd H v d.d) : ∃ a, v = .ref a ∧ H a = some (.tup d.vs) := by
  cases h with
  | tup h hs =>
    cases hs with
    | cons h1 hs =>
      cases h1
      rw [pds_ns' hs] at h
      exact ⟨_, rfl, h⟩
theorem Brd.of {H : Hp} {B : Brd} {v : V} (h : Pd H v B.d) : ∃ a m o p os ps, v = .ref a ∧ H a = some (.tup [.ref m, .ref o, .ref p]) ∧ H m = some (.tup (B.mem.map nV)) ∧ H o = some (.tup os) ∧ Pds H os (B.ords.map Ord.d) ∧ H p = some (.tup ps) ∧ Pds H ps (B.prog.map Deed.d) := by
  obtain ⟨mem, ords, prog⟩ := B
  cases h with
  | tup h hs =>
    cases hs with
    | cons h1 hs => cases h1 with
      | tup e1 k1 => cases hs with
        | cons h2 hs => cases h2 with
          | tup e2 k2 => cases hs with
            | cons h3 hs => cases h3 with
              | tup e3 k3 =>
                cases hs
                rw [pds_ns' k1] at e1
                exact ⟨_, _, _, _, _, _, rfl, h, e1, e2, k2, e3, k3⟩
theorem noL_ns : ∀ ns : List Nat, noLs (ns.map nD) = true
  | [] => by rw [List.map_nil, noLs]
  | n :: r => by rw [List.map_cons, noLs, noL_ns r]; rfl
theorem noL_ord (o : Ord) : o.d.noL = true := by
  obtain ⟨s, g, m, l⟩ := o
  cases l <;> simp [Ord.d, D.noL, noLs, nD, oD]
theorem noL_deed (d : Deed) : d.d.noL = true := by
  simp only [Deed.d, D.noL, noLs, Bool.true_and]
  exact noL_ns _
theorem noLs_map {α : Type} {f : α → D} (h : ∀ x, (f x).noL = true) : ∀ xs : List α, noLs (xs.map f) = true
  | [] => by rw [List.map_nil, noLs]
  | x :: r => by rw [List.map_cons, noLs, h x, noLs_map h r]; rfl
theorem noL_brd (B : Brd) : B.d.noL = true := by
  simp only [Brd.d, nsD, D.noL, noLs, Bool.and_true, Bool.and_eq_true]
  exact ⟨noL_ns _, noLs_map noL_ord _, noLs_map noL_deed _⟩
/-- what can be -/
structure OrdOk (o : Ord) (at_ count cells : Nat) : Prop where
  one : 1 ≤ o.many
  eight : o.many ≤ 8
  src : o.src + o.many ≤ cells
  goal : o.goal + o.many ≤ cells
  later : ∀ k, o.later = some k → at_ < k ∧ k < count
def DeedOk (d : Deed) (count cells : Nat) : Prop := match d with
  | .set c n => c < cells ∧ n < 10
  | .add c o => c < cells ∧ o < cells
  | .say c => c < cells
  | .start o => o < count
  | .wait => True
  | .clean l => l < cells / 4
  | .drop l => l < cells / 4
def isStart : Deed → Bool
  | .start _ => true
  | _ => false
structure BrdOk (B : Brd) : Prop where
  cells : B.mem.length = 4 ∨ B.mem.length = 8 ∨ B.mem.length = 12 ∨ B.mem.length = 16
  nums : ∀ n ∈ B.mem, n < 10
  four : B.ords.length ≤ 4
  ords : ∀ (i : Nat) (o : Ord), B.ords[i]? = some o → OrdOk o i B.ords.length B.mem.length
  sixty : B.prog.length ≤ 60
  prog : ∀ d ∈ B.prog, DeedOk d B.ords.length B.mem.length
  starts : (B.prog.filter isStart).length ≤ 3
end Vt
namespace Vt
open PySem PySem.Spec PyProof.Rows L2
/-- a list grows by a new tuple -/
theorem grow {H3 : Hp} {p T : Addr} {xs : List V} {ds : List D} {d : D} {vs : List V} (hx : H3 p = some (.lst xs)) (hp : Pds H3 xs ds) (n : noLs ds = true) (nT : H3 T = none) (hd : ∀ (H : Hp) (a : Addr), H a = some (.tup vs) → Pd H (.ref a) d) :
    (upd H3 T (.tup vs)) p = some (.lst xs) ∧ Pds (upd (upd H3 T (.tup vs)) p (.lst (xs ++ [.ref T]))) (xs ++ [.ref T]) (ds ++ [d]) ∧ But [p] H3 (upd (upd H3 T (.tup vs)) p (.lst (xs ++ [.ref T]))) := by
  have s3 : Same H3 (upd H3 T (.tup vs)) := same_new nT
  have hx4 := s3 _ _ hx
  have pT : T ≠ p := (ne_of_none hx nT).symm
  have ls : Lsts (upd H3 T (.tup vs)) [p] := fun c hc => ⟨xs, by rw [List.mem_singleton.mp hc]; exact hx4⟩
  have sB : But [p] (upd H3 T (.tup vs)) (upd (upd H3 T (.tup vs)) p (.lst (xs ++ [.ref T]))) := But.set (by simp)
  exact ⟨hx4, (Pds.but sB ls n (hp.same s3)).app (.cons (hd _ _ (by rw [upd_ne pT, upd_same])) .nil), (Same.but s3).trans sB⟩
theorem But.pds1 {H H' : Hp} {p : Addr} {xs ys : List V} {ds : List D} (b : But [p] H H') (hx : H p = some (.lst ys)) (n : noLs ds = true) (h : Pds H xs ds) : Pds H' xs ds :=
  Pds.but b (fun c hc => ⟨ys, by rw [List.mem_singleton.mp hc]; exact hx⟩) n h
theorem But.at1 {H H' : Hp} {p q : Addr} {o : HO} (b : But [p] H H') (h : H q = some o) (ne : q ≠ p) : H' q = some o := b q o (by simp [ne]) h
theorem But.new1 {H0 H H' : Hp} {p : Addr} (s : Same H0 H) (np : H0 p = none) (b : But [p] H H') : Same H0 H' := fun c o h => b c o (by simp [ne_of_none h np]) (s c o h)
theorem set_map {mem : List Nat} {c n : Nat} {v : V} (e : v = nV n) : (mem.map nV).set c v = (mem.set c n).map nV := by rw [e, List.map_set]
theorem nat_at {mem : List Nat} {c : Nat} (h : c < mem.length) : (mem.map nV)[c]? = some (nV (mem.getD c 0)) := by
  rw [List.getElem?_map, List.getElem?_eq_getElem h, List.getD_eq_getElem?_getD, List.getElem?_eq_getElem h]; rfl
end Vt
namespace Vt
open PySem PySem.Spec PyProof.Rows L2
/-! ### readings in short -/
section
variable {K : PySem.W.Frag} {σ : L2.St} {H : Hp} {a : Addr}
/-- t[0] == "x", t a deed -/
theorem rd_word {i : Nat} {d : Deed} {x : Str} {R : Bool → Hp → Prop} (hσ : σ[i]? = some (some (.ref a))) (h : H a = some (.tup d.vs)) (hr : R (decide (d.word = x)) H) : tTest (tOp rEq (tOp (rIxLT K) (tVar i) (tC (.int 0))) (tC (.str x))) σ H R := by
  refine ⟨_, hσ, a, _, 0, .str d.word, rfl, rfl, sqA_t h, at0, rfl, _, rfl, ?_⟩
  rw [show decide (V.str d.word = V.str x) = decide (d.word = x) by
    by_cases e : d.word = x
    · rw [e, decide_eq_true rfl, decide_eq_true rfl]
    · rw [decide_eq_false e, decide_eq_false (fun z => e (by injection z))]]
  exact hr
/-- t[0] in ("x", "y") -/
theorem rd_in {i : Nat} {d : Deed} {x y : Str} {R : Bool → Hp → Prop} (hσ : σ[i]? = some (some (.ref a))) (h : H a = some (.tup d.vs)) (hr : ∀ T, H T = none → R (decide (d.word = x) || decide (d.word = y)) (upd H T (.tup [.str x, .str y]))) :
    tTest (tOp (rIn K false) (tOp (rIxLT K) (tVar i) (tC (.int 0))) (tTup (tCons (tC (.str x)) (tCons (tC (.str y)) tNil)))) σ H R := by
  refine ⟨_, hσ, a, _, 0, .str d.word, rfl, rfl, sqA_t h, at0, by show 2 ≤ sizeLine; decide, fun T nT => ⟨T, _, rfl, .inr (sqT_t upd_same), rfl, rfl, _, rfl, ?_⟩⟩
  have e : (if false = true then !inV (.str d.word) [.str x, .str y] else inV (.str d.word) [.str x, .str y]) = (decide (d.word = x) || decide (d.word = y)) := by
    rw [if_neg (by decide)]
    show (eqV (.str x) (.str d.word) || (eqV (.str y) (.str d.word) || false)) = _
    rw [Bool.or_false, show ∀ z : Str, eqV (.str z) (.str d.word) = decide (d.word = z) from fun z => by
      show decide (z = d.word) = decide (d.word = z)
      exact decide_eq_decide.mpr eq_comm]
    rw [show eqV (.str y) (.str d.word) = decide (d.word = y) from by
      show decide (y = d.word) = decide (d.word = y)
      exact decide_eq_decide.mpr eq_comm]
  rw [e]
  exact hr T nT
end
theorem But.tup {B : List Addr} {H H' : Hp} {t : Addr} {xs : List V} (b : But B H H') (l : Lsts H B) (h : H t = some (.tup xs)) : H' t = some (.tup xs) :=
  b _ _ (fun m => by obtain ⟨ys, q⟩ := l _ m; rw [q] at h; cases h) h
end Vt
namespace Vt
open PySem PySem.Spec PyProof.Rows L2
section
variable {P : Program} {w : World} {K : PySem.W.Frag} {mg : Str → Option Value} {base : Heap}
/-! ### the box begun -/
abbrev st_law_begun : Stmt := (topS 31)
abbrev nm_law_begun : List Str := ["_law_script", "_law_stirred", "_law_cell"]
theorem sc_law_begun : FnScope ["_law_script", "_law_stirred", "_law_cell"] ["_law_script"] (defScope st_law_begun) := ⟨rfl, rfl, rfl, by decide +kernel, rfl, by decide +kernel, by decide +kernel⟩
def spBegun (K : PySem.W.Frag) : Sp := fun vs H Q _ => ∃ (a : Addr) (ns : List Int), vs = [.ref a] ∧ SqL K H a (ns.map V.int) ∧ ns.length ≤ 63 ∧ ∀ (H' : Hp) (b l : Addr), Box H' b l → Same H H' → Q (.ref b) H'
theorem ok_begun {f : Addr} {fd : FuncData} (F : Fun K "_law_begun" "_law_begun" st_law_begun f fd) (z_len : mg "len" = none) (z_int : mg "int" = none) (z_list : mg "list" = none) : FnOk P w K mg base CX0 1 f fd ["_law_script"] (spBegun K) := by
  refine F.ok sc_law_begun (fun vs H Q E h => ?_) (fun cdv A outer s H vs Q E hr h => ?_)
  · obtain ⟨a, ns, rfl, _⟩ := h
    rfl
  · obtain ⟨a, ns, rfl, hS, hlen, q⟩ := h
    refine ⟨_, (pss_cons (ps_set (i := 1) sc_law_begun.nd rfl (Or.inl rfl) pe_int)
  (pss_cons (ps_for PassesOwn.never rfl (pi_lt (pv 0)) (pg_name (i := 2) sc_law_begun.nd rfl (Or.inl rfl))
  (pss_one (ps_set (i := 1) sc_law_begun.nd rfl (Or.inl rfl) (pe_op op_mod (pe_op op_add (pe_op op_add (pe_op op_mul (pv 1) pe_int) (pe_op op_mul (pv 2) pe_int)) pe_int) pe_int))))
  (pss_one (ps_ret (pe_lst (pa_cons (pe_callTy call_list_of (by rfl) z_list (by decide +kernel) (pa_cons (pv 0) pa_nil)) (pa_cons (pe_op op_mul (pv 1) (pe_callTy call_int1 (by rfl) z_int (by decide +kernel) (pa_cons (pe_cmpR op_gt (pe_callB call_len_seq (by rfl) z_len (by decide +kernel) (pa_cons (pv 0) pa_nil)) pe_int (nomark _)) pa_nil))) pa_nil))))))), ?_⟩
    refine ⟨_, rfl, a, rfl, .inl ⟨_, hS, ?_⟩⟩
    refine for_it (walk_list (xs := ns.map V.int)) (fun i σ H' => ∃ (sd : Int) (x : Option V), σ = [some (.ref a), some (.int sd), x] ∧ H' = H ∧ 0 ≤ sd ∧ sd < 2147483647)
      ⟨0, none, rfl, rfl, by decide, by decide⟩ (fun i σ H' _ hp => by obtain ⟨_, _, _, rfl, _⟩ := hp; exact hS) (fun i x σ H1 H2 hi hp hy => ?_) (fun σ H1 hp => ?_)
    · obtain ⟨sd, x0, rfl, rfl, s0, s1⟩ := hp
      obtain ⟨rfl, hx⟩ := hy
      obtain ⟨n, hn, rfl⟩ : ∃ n, ns[i]? = some n ∧ V.int n = x := by rw [List.getElem?_map] at hx; simpa using hx
      refine ⟨_, rfl, _, _, rfl, rfl, .inl ⟨by omega, by omega⟩, _, rfl, _, _, rfl, rfl, .inr ⟨by decide, by decide⟩, _, _, rfl, rfl, _, _, rfl, rfl, _, _, rfl, rfl, (by show (0 : Int) < 2147483647; decide), ?_⟩
      exact ⟨_, _, rfl, rfl, Int.emod_nonneg _ (by decide), Int.emod_lt_of_pos _ (by decide)⟩
    · obtain ⟨sd, x0, rfl, rfl, s0, s1⟩ := hp
      refine ⟨.ref a, rfl, a, _, rfl, .inl hS, fun l nl => ?_⟩
      have sm : Same H1 (upd H1 l (.lst (ns.map V.int))) := same_new nl
      refine ⟨_, rfl, .ref a, rfl, a, _, rfl, .inl (sm.seq hS), _, _, rfl, rfl, .inr ⟨_, rfl, ?_⟩⟩
      refine ⟨_, _, rfl, rfl, .inl ⟨by omega, by omega⟩, by show 2 ≤ sizeLine; decide, fun b nb => ?_⟩
      refine q _ b l ⟨ns, _, upd_same, ?_, ?_, ?_, hlen⟩ (sm.trans (same_new nb))
      · rw [upd_ne (ne_of_none upd_same nb), upd_same]
      · split <;> omega
      · split <;> omega
/-! ### an order -/
abbrev st_law_order : Stmt := (topS 34)
abbrev nm_law_order : List Str := ["_law_box", "_law_cells", "_law_number", "_law_many", "_law_count", "_law_later"]
theorem sc_law_order : FnScope ["_law_box", "_law_cells", "_law_number", "_law_many", "_law_count", "_law_later"] ["_law_box", "_law_cells", "_law_number", "_law_many"] (defScope st_law_order) := ⟨rfl, rfl, rfl, by decide +kernel, rfl, by decide +kernel, by decide +kernel⟩
def spOrder : Sp := fun vs H Q _ => ∃ (b l : Addr) (cells at_ cnt : Nat), vs = [.ref b, nV cells, nV at_, nV cnt] ∧ Box H b l ∧ 1 ≤ cells ∧ cells ≤ 16 ∧ at_ < cnt ∧ cnt ≤ 4 ∧
  ∀ (H' : Hp) (a : Addr) (o : Ord), Box H' b l → But [b, l] H H' → H' a = some (.tup o.vs) → OrdOk o at_ cnt cells → Q (.ref a) H'
theorem ok_order {f : Addr} {fd : FuncData} (F : Fun K "_law_order" "_law_order" st_law_order f fd) (c_law_take : Callee P w K mg base "_law_take" 1 2 spTake) (z_min : mg "min" = none) :
    FnOk P w K mg base CX0 2 f fd ["_law_box", "_law_cells", "_law_number", "_law_many"] spOrder := by
  refine F.ok sc_law_order (fun vs H Q E h => ?_) (fun cdv A outer s H vs Q E hr h => ?_)
  · obtain ⟨b, l, cells, at_, cnt, rfl, _⟩ := h
    rfl
  · obtain ⟨b, l, cells, at_, cnt, rfl, hB, c1, c16, hat, h4, q⟩ := h
    refine ⟨_, (pss_cons (ps_set (i := 4) sc_law_order.nd rfl (Or.inl rfl) (pe_op op_add pe_int (pe_cal c_law_take hr (by first | decide | exact Nat.le_refl _) (pa_cons (pv 0) (pa_cons (pe_callB (call_min2 rfl) (by rfl) z_min (by decide +kernel) (pa_cons pe_int (pa_cons (pv 1) pa_nil))) pa_nil)))))
  (pss_cons (ps_set (i := 5) sc_law_order.nd rfl (Or.inl rfl) pe_non)
  (pss_cut (ps_if (PW.pt (pw_and (pt_cmpR op_lt (pe_op op_add (pv 2) pe_int) (pv 3) (nomark _)) (pw_and1 (pt_cmpR op_eq (pe_cal c_law_take hr (by first | decide | exact Nat.le_refl _) (pa_cons (pv 0) (pa_cons pe_int pa_nil))) pe_int (nomark _))))) (pss_one (ps_set (i := 5) sc_law_order.nd rfl (Or.inl rfl) (pe_op op_add (pe_op op_add (pv 2) pe_int) (pe_cal c_law_take hr (by first | decide | exact Nat.le_refl _) (pa_cons (pv 0) (pa_cons (pe_op op_sub (pe_op op_sub (pv 3) (pv 2)) pe_int) pa_nil)))))) pss_nil)
  (pss_one (ps_ret (pe_tup (pa_cons (pe_cal c_law_take hr (by first | decide | exact Nat.le_refl _) (pa_cons (pv 0) (pa_cons (pe_op op_add (pe_op op_sub (pv 1) (pv 4)) pe_int) pa_nil))) (pa_cons (pe_cal c_law_take hr (by first | decide | exact Nat.le_refl _) (pa_cons (pv 0) (pa_cons (pe_op op_add (pe_op op_sub (pv 1) (pv 4)) pe_int) pa_nil))) (pa_cons (pv 4) (pa_cons (pv 5) pa_nil)))))))))), ?_⟩
    -- count = 1 + take(box, min(8, cells))
    refine ⟨_, rfl, _, rfl, 8, cells, rfl, b, l, _, min 8 cells, rfl, (by split <;> omega), hB, by omega, by omega, fun H1 r hB1 bt1 hr1 => ?_⟩
    refine ⟨_, _, rfl, rfl, ?_⟩
    -- later
    refine ⟨fun σ' H' => ∃ lt : Option Nat, σ' = [some (.ref b), some (nV cells), some (nV at_), some (nV cnt), some (.int (1 + (r : Int))), some (oV lt)] ∧ Box H' b l ∧ But [b, l] H H' ∧ ∀ k, lt = some k → at_ < k ∧ k < cnt, ?_, fun σ' H' hM => ?_⟩
    · refine ⟨_, rfl, _, _, rfl, rfl, _, rfl, _, _, rfl, rfl, _, rfl, ite2 (fun e => ?_) (fun e => iteF ⟨none, rfl, hB1, bt1, fun k z => nomatch z⟩)⟩
      have e' : at_ + 1 < cnt := by have := of_decide_eq_true e; omega
      refine ⟨_, rfl, b, l, _, 2, rfl, rfl, hB1, by decide, by decide, fun H2 r2 hB2 bt2 hr2 => ?_⟩
      refine ⟨rfl, _, rfl, ite2 (fun e2 => ?_) (fun e2 => ⟨none, rfl, hB2, bt1.trans bt2, fun k z => nomatch z⟩)⟩
      refine ⟨_, rfl, _, _, rfl, rfl, _, rfl, _, rfl, _, rfl, _, _, rfl, rfl, _, _, rfl, rfl, b, l, _, cnt - at_ - 1, rfl, by omega, hB2, by omega, by omega, fun H3 r3 hB3 bt3 hr3 => ?_⟩
      refine ⟨_, _, rfl, rfl, some (at_ + 1 + r3), ?_, hB3, (bt1.trans bt2).trans bt3, fun k z => by cases z; omega⟩
      show _ = [some (.ref b), some (nV cells), some (nV at_), some (nV cnt), some (.int (1 + (r : Int))), some (nV (at_ + 1 + r3))]
      rw [show nV (at_ + 1 + r3) = .int ((at_ : Int) + 1 + (r3 : Int)) by simp [nV]]
      rfl
    · obtain ⟨lt, rfl, hB2, bt2, hlt⟩ := hM
      -- return (take(..), take(..), count, later)
      refine ⟨_, rfl, _, rfl, _, rfl, _, _, rfl, rfl, _, _, rfl, rfl, b, l, _, cells - (1 + r) + 1, rfl, by omega, hB2, by omega, by omega, fun H3 r3 hB3 bt3 hr3 => ?_⟩
      refine ⟨_, rfl, _, rfl, _, rfl, _, _, rfl, rfl, _, _, rfl, rfl, b, l, _, cells - (1 + r) + 1, rfl, by omega, hB3, by omega, by omega, fun H4 r4 hB4 bt4 hr4 => ?_⟩
      refine ⟨_, rfl, _, rfl, by show 4 ≤ sizeLine; decide, fun p np => ?_⟩
      have sm := same_new (o := .tup [nV r3, nV r4, .int (1 + (r : Int)), oV lt]) np
      refine q _ p ⟨r3, r4, 1 + r, lt⟩ (hB4.same sm) (((bt2.trans bt3).trans bt4).trans (Same.but sm)) ?_ ⟨?_, ?_, ?_, ?_, hlt⟩
      · rw [upd_same]
        show _ = some (HO.tup [nV r3, nV r4, nV (1 + r), oV lt])
        rw [show nV (1 + r) = .int (1 + (r : Int)) by simp [nV]]
      all_goals (dsimp only; omega)
end
end Vt
namespace Vt
open PySem PySem.Spec PyProof.Rows L2
theorem But.newset {B : List Addr} {H H' : Hp} {p : Addr} {o : HO} (n : H p = none) (h : But B H H') : But B H (upd H' p o) := fun c u m e => by
  rw [upd_ne (ne_of_none e n)]; exact h c u m e
theorem But.box {H : Hp} {b l p : Addr} {o : HO} (h : Box H b l) (n1 : p ≠ b) (n2 : p ≠ l) : Box (upd H p o) b l := by
  obtain ⟨ns, s, h1, h2, h3⟩ := h
  exact ⟨ns, s, by rw [upd_ne n1.symm]; exact h1, by rw [upd_ne n2.symm]; exact h2, h3⟩
def allWords : List Str := ["set", "add", "say", "start", "wait", "clean", "drop"]
section
variable {P : Program} {w : World} {K : PySem.W.Frag} {mg : Str → Option Value} {base : Heap}
abbrev st_law_deed : Stmt := (topS 35)
abbrev nm_law_deed : List Str := ["_law_box", "_law_cells", "_law_orders", "_law_kinds_here", "_law_word", "_law_cell"]
theorem sc_law_deed : FnScope ["_law_box", "_law_cells", "_law_orders", "_law_kinds_here", "_law_word", "_law_cell"] ["_law_box", "_law_cells", "_law_orders", "_law_kinds_here"] (defScope st_law_deed) := ⟨rfl, rfl, rfl, by decide +kernel, rfl, by decide +kernel, by decide +kernel⟩
def spDeed : Sp := fun vs H Q _ => ∃ (b l kl : Addr) (cells cnt : Nat) (ws : List Str), vs = [.ref b, nV cells, nV cnt, .ref kl] ∧ Box H b l ∧ 4 ≤ cells ∧ cells ≤ 16 ∧ 1 ≤ cnt ∧ cnt ≤ 4 ∧
  H kl = some (.lst (ws.map V.str)) ∧ ws ≠ [] ∧ ws.length ≤ 100 ∧ (∀ x ∈ ws, x ∈ allWords) ∧
  ∀ (H' : Hp) (a : Addr) (d : Deed), Box H' b l → But [b, l] H H' → H' a = some (.tup d.vs) → DeedOk d cnt cells → d.word ∈ ws → Q (.ref a) H'
theorem ok_deed {f : Addr} {fd : FuncData} (F : Fun K "_law_deed" "_law_deed" st_law_deed f fd) (c_law_take : Callee P w K mg base "_law_take" 1 2 spTake) (z_len : mg "len" = none) (z_int : mg "int" = none) :
    FnOk P w K mg base CX0 2 f fd ["_law_box", "_law_cells", "_law_orders", "_law_kinds_here"] spDeed := by
  refine F.ok sc_law_deed (fun vs H Q E h => ?_) (fun cdv A outer s H vs Q E hr h => ?_)
  · obtain ⟨b, l, kl, cells, cnt, ws, rfl, _⟩ := h
    rfl
  · obtain ⟨b, l, kl, cells, cnt, ws, rfl, hB, c4, c16, n1, n4, hk, hne, hlen, hws, q⟩ := h
    have hpos : 0 < ws.length := List.length_pos_iff.mpr hne
    have kb : kl ≠ b := by
      obtain ⟨ns, sd, e1, _⟩ := hB
      refine ne_of hk e1 fun z => ?_
      cases ws with
      | nil => exact hne rfl
      | cons x r => cases z
    have kl' : kl ≠ l := by
      obtain ⟨ns, sd, _, e2, _⟩ := hB
      refine ne_of hk e2 fun z => ?_
      cases ws with
      | nil => exact hne rfl
      | cons x r => cases ns with
        | nil => cases z
        | cons y t => cases z
    refine ⟨_, (pss_cons (ps_set (i := 4) sc_law_deed.nd rfl (Or.inl rfl) (pe_ix ix_lt (pv 3) (pe_cal c_law_take hr (by first | decide | exact Nat.le_refl _) (pa_cons (pv 0) (pa_cons (pe_callB call_len_seq (by rfl) z_len (by decide +kernel) (pa_cons (pv 3) pa_nil)) pa_nil))) (fun _ _ => rfl)))
  (pss_cons (ps_if (pt_cmpR op_eq (pv 4) pe_str (nomark _)) (pss_one (ps_ret (pe_tup (pa_cons (pv 4) pa_nil)))) pss_nil)
  (pss_cons (ps_if (pt_cmpR op_in_seq (pv 4) (pe_tup (pa_cons pe_str (pa_cons pe_str pa_nil))) (by rfl)) (pss_one (ps_ret (pe_tup (pa_cons (pv 4) (pa_cons (pe_cal c_law_take hr (by first | decide | exact Nat.le_refl _) (pa_cons (pv 0) (pa_cons (pe_op op_fdiv (pv 1) pe_int) pa_nil))) pa_nil))))) pss_nil)
  (pss_cons (ps_if (pt_cmpR op_eq (pv 4) pe_str (nomark _)) (pss_one (ps_ret (pe_tup (pa_cons (pv 4) (pa_cons (pe_cal c_law_take hr (by first | decide | exact Nat.le_refl _) (pa_cons (pv 0) (pa_cons (pv 2) pa_nil))) pa_nil))))) pss_nil)
  (pss_cons (ps_set (i := 5) sc_law_deed.nd rfl (Or.inl rfl) (pe_cal c_law_take hr (by first | decide | exact Nat.le_refl _) (pa_cons (pv 0) (pa_cons (pv 1) pa_nil))))
  (pss_cons (ps_if (pt_cmpR op_eq (pv 4) pe_str (nomark _)) (pss_one (ps_ret (pe_tup (pa_cons (pv 4) (pa_cons (pv 5) pa_nil))))) pss_nil)
  (pss_one (ps_ret (pe_tup (pa_cons (pv 4) (pa_cons (pv 5) (pa_cons (pe_cal c_law_take hr (by first | decide | exact Nat.le_refl _) (pa_cons (pv 0) (pa_cons (pe_ix ix_lt (pe_lst (pa_cons pe_int (pa_cons (pv 1) pa_nil))) (pe_callTy call_int1 (by rfl) z_int (by decide +kernel) (pa_cons (pe_cmpR op_eq (pv 4) pe_str (nomark _)) pa_nil)) (fun _ _ => rfl)) pa_nil))) pa_nil)))))))))))), ?_⟩
    refine ⟨_, rfl, _, rfl, _, rfl, _, _, rfl, .inl (sqL_l hk), b, l, _, ws.length, rfl, by simp, hB, hpos, by omega, fun H1 r hB1 bt1 hr1 => ?_⟩
    have hk1 : H1 kl = some (.lst (ws.map V.str)) := bt1 _ _ (by simp [kb, kl']) hk
    have hx : (ws.map V.str)[r]? = some (.str ws[r]) := by rw [List.getElem?_map, List.getElem?_eq_getElem hr1]; rfl
    have hmem : ws[r] ∈ ws := List.getElem_mem hr1
    have hall := hws _ hmem
    generalize ws[r] = wd at hx hmem hall
    refine ⟨kl, _, (r : Int), .str wd, rfl, rfl, sqA_l hk1, atI_nat hx, ?_⟩
    -- if word == "wait"
    refine ⟨_, rfl, rfl, _, rfl, ite2 (fun e => ?_) (fun e1 => ?_)⟩
    · cases of_decide_eq_true e
      refine ⟨_, rfl, by show 1 ≤ sizeLine; decide, fun p np => ?_⟩
      exact q _ p .wait (hB1.same (same_new np)) (bt1.trans (Same.but (same_new np))) upd_same trivial hmem
    -- if word in ("clean", "drop")
    refine ⟨_, rfl, by show 2 ≤ sizeLine; decide, fun p np => ?_⟩
    have hB2 := hB1.same (same_new (o := .tup [.str "clean", .str "drop"]) np)
    have bt2 := bt1.trans (Same.but (same_new (o := .tup [.str "clean", .str "drop"]) np))
    refine ⟨p, _, rfl, .inr (sqT_t upd_same), rfl, rfl, _, rfl, ite2 (fun e => ?_) (fun e2 => ?_)⟩
    · refine ⟨_, rfl, _, rfl, _, rfl, _, _, rfl, rfl, ⟨by decide, by decide⟩, b, l, _, cells / 4, rfl, by simp, hB2, by omega, by omega, fun H3 r3 hB3 bt3 hr3 => ?_⟩
      refine ⟨by show 2 ≤ sizeLine; decide, fun p2 np2 => ?_⟩
      have e' : (Str.ofString "clean") = wd ∨ (Str.ofString "drop") = wd := by
        simp only [inV, eqV, List.any_cons, List.any_nil, Bool.or_false, Bool.or_eq_true] at e
        simpa using e
      rcases e' with rfl | rfl
      · exact q _ p2 (.clean r3) (hB3.same (same_new np2)) ((bt2.trans bt3).trans (Same.but (same_new np2))) upd_same hr3 hmem
      · exact q _ p2 (.drop r3) (hB3.same (same_new np2)) ((bt2.trans bt3).trans (Same.but (same_new np2))) upd_same hr3 hmem
    -- if word == "start"
    refine ⟨_, rfl, rfl, _, rfl, ite2 (fun e => ?_) (fun e3 => ?_)⟩
    · cases of_decide_eq_true e
      refine ⟨_, rfl, _, rfl, _, rfl, b, l, _, cnt, rfl, rfl, hB2, by omega, by omega, fun H3 r3 hB3 bt3 hr3 => ?_⟩
      refine ⟨by show 2 ≤ sizeLine; decide, fun p2 np2 => ?_⟩
      exact q _ p2 (.start r3) (hB3.same (same_new np2)) ((bt2.trans bt3).trans (Same.but (same_new np2))) upd_same hr3 hmem
    refine ⟨_, rfl, _, rfl, b, l, _, cells, rfl, rfl, hB2, by omega, by omega, fun H3 r3 hB3 bt3 hr3 => ?_⟩
    -- if word == "say"
    refine ⟨_, rfl, rfl, _, rfl, ite2 (fun e => ?_) (fun e4 => ?_)⟩
    · cases of_decide_eq_true e
      refine ⟨_, rfl, _, rfl, by show 2 ≤ sizeLine; decide, fun p2 np2 => ?_⟩
      exact q _ p2 (.say r3) (hB3.same (same_new np2)) ((bt2.trans bt3).trans (Same.but (same_new np2))) upd_same hr3 hmem
    have hsa : wd = "set" ∨ wd = "add" := by
      have f1 : ¬ wd = "wait" := fun z => e1 (by rw [z]; exact decide_eq_true rfl)
      have f3 : ¬ wd = "start" := fun z => e3 (by rw [z]; exact decide_eq_true rfl)
      have f4 : ¬ wd = "say" := fun z => e4 (by rw [z]; exact decide_eq_true rfl)
      have f2 : ¬ (wd = "clean" ∨ wd = "drop") := fun z => e2 (by rcases z with rfl | rfl <;> decide)
      simp only [allWords, List.mem_cons, List.not_mem_nil, or_false] at hall
      rcases hall with h | h | h | h | h | h | h
      · exact .inl h
      · exact .inr h
      · exact absurd h f4
      · exact absurd h f3
      · exact absurd h f1
      · exact absurd (.inl h) f2
      · exact absurd (.inr h) f2
    refine ⟨_, rfl, _, rfl, _, rfl, _, rfl, by show 2 ≤ sizeLine; decide, fun p2 np2 => ?_⟩
    have hB4 := hB3.same (same_new (o := .lst [.int 10, nV cells]) np2)
    have bt4 := (bt2.trans bt3).trans (Same.but (same_new (o := .lst [.int 10, nV cells]) np2))
    refine ⟨_, rfl, rfl, .inr ⟨_, rfl, ?_⟩⟩
    rcases hsa with rfl | rfl
    · refine ⟨p2, [.int 10, nV cells], 0, .int 10, rfl, (by decide), sqA_l upd_same, rfl, b, l, _, 10, rfl, rfl, hB4, by decide, by decide, fun H5 r5 hB5 bt5 hr5 => ?_⟩
      refine ⟨by show 3 ≤ sizeLine; decide, fun p3 np3 => ?_⟩
      exact q _ p3 (.set r3 r5) (hB5.same (same_new np3)) ((bt4.trans bt5).trans (Same.but (same_new np3))) upd_same ⟨hr3, hr5⟩ hmem
    · refine ⟨p2, [.int 10, nV cells], 1, nV cells, rfl, (by decide), sqA_l upd_same, rfl, b, l, _, cells, rfl, rfl, hB4, by omega, by omega, fun H5 r5 hB5 bt5 hr5 => ?_⟩
      refine ⟨by show 3 ≤ sizeLine; decide, fun p3 np3 => ?_⟩
      exact q _ p3 (.add r3 r5) (hB5.same (same_new np3)) ((bt4.trans bt5).trans (Same.but (same_new np3))) upd_same ⟨hr3, hr5⟩ hmem
end
end Vt
namespace Vt
open PySem PySem.Spec PyProof.Rows L2
theorem nV_add (a b : Nat) : (V.int ((a : Int) + (b : Int))) = nV (a + b) := by simp [nV]
theorem filter_app {α : Type} (p : α → Bool) (xs : List α) (x : α) : ((xs ++ [x]).filter p).length = (xs.filter p).length + (if p x then 1 else 0) := by
  rw [List.filter_append, List.length_append]
  congr 1
  cases h : p x <;> simp [h]
theorem word_start (d : Deed) : (d.word = "start") ↔ isStart d = true := by
  cases d <;> simp [Deed.word, isStart] <;> decide
section
variable {P : Program} {w : World} {K : PySem.W.Frag} {mg : Str → Option Value} {base : Heap}
abbrev st_law_board : Stmt := (topS 36)
abbrev nm_law_board : List Str := ["_law_box", "_law_lines", "_law_deeds", "_law_kinds_here", "_law_cells", "_law_memory", "_law_cell", "_law_many", "_law_orders", "_law_number", "_law_program", "_law_turn", "_law_deed_here", "_law_one"]
theorem sc_law_board : FnScope ["_law_box", "_law_lines", "_law_deeds", "_law_kinds_here", "_law_cells", "_law_memory", "_law_cell", "_law_many", "_law_orders", "_law_number", "_law_program", "_law_turn", "_law_deed_here", "_law_one"] ["_law_box", "_law_lines", "_law_deeds", "_law_kinds_here"] (defScope st_law_board) := ⟨rfl, rfl, rfl, by decide +kernel, rfl, by decide +kernel, by decide +kernel⟩
def spBoard : Sp := fun vs H Q _ => ∃ (b l kl : Addr) (lines deeds : Nat) (ws : List Str), vs = [.ref b, nV lines, nV deeds, .ref kl] ∧ Box H b l ∧ 1 ≤ lines ∧ lines ≤ 4 ∧ deeds ≤ 60 ∧
  H kl = some (.lst (ws.map V.str)) ∧ ws ≠ [] ∧ ws.length ≤ 100 ∧ (∀ x ∈ ws, x ∈ allWords) ∧
  ∀ (H' : Hp) (v : V) (B : Brd), Box H' b l → But [b, l] H H' → Pd H' v B.d → BrdOk B → B.mem.length ≤ 4 * lines → B.prog.length ≤ deeds → 1 ≤ B.ords.length → (∀ d ∈ B.prog, d.word ∈ ws ∨ d.word = "say") → Q v H'
theorem ok_board {f : Addr} {fd : FuncData} (F : Fun K "_law_board" "_law_board" st_law_board f fd) (c_law_take : Callee P w K mg base "_law_take" 1 2 spTake) (c_law_order : Callee P w K mg base "_law_order" 2 4 spOrder) (c_law_deed : Callee P w K mg base "_law_deed" 2 4 spDeed)
    (z_len : mg "len" = none) (z_tuple : mg "tuple" = none) (z_range : mg "range" = none) : FnOk P w K mg base CX0 3 f fd ["_law_box", "_law_lines", "_law_deeds", "_law_kinds_here"] spBoard := by
  refine F.ok sc_law_board (fun vs H Q E h => ?_) (fun cdv A outer s H vs Q E hr h => ?_)
  · obtain ⟨b, l, kl, lines, deeds, ws, rfl, _⟩ := h
    rfl
  · obtain ⟨b, l, kl, lines, deeds, ws, rfl, hB, l1, l4, d60, hk, hne, hlen, hws, q⟩ := h
    have kb : kl ≠ b := by
      obtain ⟨ns, sd, e1, _⟩ := hB
      refine ne_of hk e1 fun z => ?_
      cases ws with
      | nil => exact hne rfl
      | cons x r => cases z
    have kl' : kl ≠ l := by
      obtain ⟨ns, sd, _, e2, _⟩ := hB
      refine ne_of hk e2 fun z => ?_
      cases ws with
      | nil => exact hne rfl
      | cons x r => cases ns with
        | nil => cases z
        | cons y t => cases z
    have hknot : kl ∉ [b, l] := by simp [kb, kl']
    have nonb : ∀ p, H p = none → p ≠ b ∧ p ≠ l := fun p np => by
      obtain ⟨ns, sd, e1, e2, _⟩ := hB
      exact ⟨(ne_of_none e1 np).symm, (ne_of_none e2 np).symm⟩
    refine ⟨_, (pss_cons (ps_set (i := 4) sc_law_board.nd rfl (Or.inr rfl) (pe_op op_mul pe_int (pe_op op_add pe_int (pe_cal c_law_take hr (by first | decide | exact Nat.le_refl _) (pa_cons (pv 0) (pa_cons (pv 1) pa_nil))))))
  (pss_cons (ps_set (i := 5) sc_law_board.nd rfl (Or.inl rfl) (pe_callTy call_tuple_of (by rfl) z_tuple (by decide +kernel) (pa_cons (pe_lc (own := [("_law_cell", 6)]) rfl sc_law_board.nd (pi_range1 (by rfl) z_range (pa_cons (pv 4) pa_nil)) (blkOk_by (own := [("_law_cell", 6)]) (N := nm_law_board) (sc := defScope (topS 36)) (by decide +kernel)) (fun _ _ _ _ _ => (pg_name (i := 6) sc_law_board.nd rfl (Or.inl rfl))) (fun _ _ _ _ _ => pts_nil) (fun _ _ _ _ _ => (pe_cal c_law_take hr (by first | decide | exact Nat.le_refl _) (pa_cons (pv 0) (pa_cons pe_int pa_nil))))) pa_nil)))
  (pss_cons (ps_set (i := 7) sc_law_board.nd rfl (Or.inr rfl) (pe_op op_add pe_int (pe_cal c_law_take hr (by first | decide | exact Nat.le_refl _) (pa_cons (pv 0) (pa_cons pe_int pa_nil)))))
  (pss_cons (ps_set (i := 8) sc_law_board.nd rfl (Or.inl rfl) (pe_callTy call_tuple_of (by rfl) z_tuple (by decide +kernel) (pa_cons (pe_lc (own := [("_law_number", 9)]) rfl sc_law_board.nd (pi_range1 (by rfl) z_range (pa_cons (pv 7) pa_nil)) (blkOk_by (own := [("_law_number", 9)]) (N := nm_law_board) (sc := defScope (topS 36)) (by decide +kernel)) (fun _ _ _ _ _ => (pg_name (i := 9) sc_law_board.nd rfl (Or.inl rfl))) (fun _ _ _ _ _ => pts_nil) (fun _ _ _ _ _ => (pe_cal c_law_order hr (by first | decide | exact Nat.le_refl _) (pa_cons (pv 0) (pa_cons (pv 4) (pa_cons (pv 9) (pa_cons (pv 7) pa_nil))))))) pa_nil)))
  (pss_cons (ps_set (i := 10) sc_law_board.nd rfl (Or.inl rfl) (pe_lst pa_nil))
  (pss_cons (ps_for PassesOwn.never rfl (pi_range1 (by rfl) z_range (pa_cons (pe_cal c_law_take hr (by first | decide | exact Nat.le_refl _) (pa_cons (pv 0) (pa_cons (pe_op op_add (pv 2) pe_int) pa_nil))) pa_nil)) (pg_name (i := 11) sc_law_board.nd rfl (Or.inl rfl))
  (pss_cons (ps_set (i := 12) sc_law_board.nd rfl (Or.inl rfl) (pe_cal c_law_deed hr (by first | decide | exact Nat.le_refl _) (pa_cons (pv 0) (pa_cons (pv 4) (pa_cons (pv 7) (pa_cons (pv 3) pa_nil))))))
  (pss_cut (ps_if (PW.pt (pw_and (pt_cmpR op_eq (pe_ix ix_lt (pv 12) pe_int (fun _ _ => rfl)) pe_str (nomark _)) (pw_and1 (pt_cmpR op_eq (pe_callB call_len_seq (by rfl) z_len (by decide +kernel) (pa_cons (pe_lc (own := [("_law_one", 13)]) rfl sc_law_board.nd (pi_lt (pv 10)) (blkOk_by (own := [("_law_one", 13)]) (N := nm_law_board) (sc := defScope (topS 36)) (by decide +kernel)) (fun _ _ _ _ _ => (pg_name (i := 13) sc_law_board.nd rfl (Or.inl rfl))) (fun _ _ _ _ _ => (pts_one (pt_cmpR op_eq (pe_ix (ix_ltk K) (pv 13) pe_int (fun _ _ => rfl)) pe_str (nomark _)))) (fun _ _ _ _ _ => (pv 13))) pa_nil)) pe_int (nomark _))))) (pss_one (ps_set (i := 12) sc_law_board.nd rfl (Or.inl rfl) (pe_tup (pa_cons pe_str (pa_cons (pe_cal c_law_take hr (by first | decide | exact Nat.le_refl _) (pa_cons (pv 0) (pa_cons (pv 4) pa_nil))) pa_nil))))) pss_nil)
  (pss_one (ps_expr (pe_bm PySem.F.plainAttrs_list PySem.F.slot_list_append PySem.F.type_list_append mt_append (pv 10) (pa_cons (pv 12) pa_nil)))))))
  (pss_one (ps_ret (pe_tup (pa_cons (pv 5) (pa_cons (pv 8) (pa_cons (pe_callTy call_tuple_of (by rfl) z_tuple (by decide +kernel) (pa_cons (pv 10) pa_nil)) pa_nil)))))))))))), ?_⟩
    -- cells = 4 * (1 + take(box, lines))
    refine ⟨_, rfl, _, rfl, b, l, _, lines, rfl, rfl, hB, by omega, by omega, fun H1 r1 hB1 bt1 hr1 => ?_⟩
    refine ⟨_, _, rfl, rfl, _, _, rfl, rfl, .inl ⟨by decide, by decide⟩, ?_⟩
    have ec : (4 : Int) * (1 + (r1 : Int)) = ((4 * (1 + r1) : Nat) : Int) := by omega
    refine chgN (y := nV (4 * (1 + r1))) (congrArg V.int ec) ?_
    generalize hc : 4 * (1 + r1) = cells
    have c16 : cells ≤ 16 := by omega
    have cN : cells = 4 ∨ cells = 8 ∨ cells = 12 ∨ cells = 16 := by omega
    -- memory
    refine ⟨_, rfl, _, rfl, by omega, by omega, fun D1 nD1 => ?_⟩
    refine lc_it (walk_range (lo := 0) (n := (cells : Int).toNat)) (fun i H' => ∃ ns : List Nat, ns.length = i ∧ (∀ n ∈ ns, n < 10) ∧ H' D1 = some (.lst (ns.map nV)) ∧ Box H' b l ∧ But [b, l] H1 H')
      ⟨[], rfl, by simp, upd_same, hB1.same (same_new nD1), Same.but (same_new nD1)⟩ (fun _ _ _ _ => trivial) (fun i x H2 H3 hi hp hy => ?_) (fun H2 hp => ?_)
    · obtain ⟨ns, e1, e2, e3, hB2, bt2⟩ := hp
      obtain ⟨rfl, rfl⟩ := hy
      refine ⟨rfl, ?_⟩
      refine ⟨_, rfl, b, l, _, 10, rfl, rfl, hB2, by decide, by decide, fun H4 r hB4 bt4 hr => ?_⟩
      have nD : D1 ≠ b ∧ D1 ≠ l := by
        obtain ⟨ns', sd, f1, f2, _⟩ := hB1
        exact ⟨(ne_of_none f1 nD1).symm, (ne_of_none f2 nD1).symm⟩
      have e3' := bt4 _ _ (by simp [nD.1, nD.2]) e3
      refine ⟨_, e3', by rw [List.length_map]; exact fits (by omega), ns ++ [r], by simp [e1], fun n hn => ?_, by rw [upd_same, List.map_append]; rfl, But.box hB4 nD.1 nD.2, But.newset nD1 (bt2.trans bt4)⟩
      rcases List.mem_append.mp hn with h | h
      · exact e2 n h
      · rw [List.mem_singleton.mp h]; exact hr
    obtain ⟨mem, m1, m2, m3, hB2, bt2⟩ := hp
    refine ⟨D1, _, rfl, .inl ⟨sqL_l m3, fun M nM => ?_⟩⟩
    have hM : (upd H2 M (.tup (mem.map nV))) M = some (.tup (mem.map nV)) := upd_same
    have hB3 := hB2.same (same_new (o := .tup (mem.map nV)) nM)
    have bt3 := (bt1.trans bt2).trans (Same.but (same_new (o := .tup (mem.map nV)) nM))
    have mlen : mem.length = cells := by omega
    generalize upd H2 M (.tup (mem.map nV)) = H3 at hM hB3 bt3
    -- many = 1 + take(box, 4)
    refine ⟨_, rfl, b, l, _, 4, rfl, rfl, hB3, by decide, by decide, fun H4 r4 hB4 bt4 hr4 => ?_⟩
    refine ⟨_, _, rfl, rfl, ?_⟩
    refine chgN (y := nV (1 + r4)) (congrArg V.int (by omega)) ?_
    generalize hcnt : 1 + r4 = cnt
    have nMb : M ∉ [b, l] := fun m => by
      obtain ⟨ys, e⟩ := hB3.lsts _ m
      rw [hM] at e; cases e
    have hM4 := bt4 _ _ nMb hM
    -- orders
    refine ⟨_, rfl, _, rfl, by omega, by omega, fun D2 nD2 => ?_⟩
    have nD2' : D2 ≠ b ∧ D2 ≠ l := by
      obtain ⟨ns', sd, f1, f2, _⟩ := hB4
      exact ⟨(ne_of_none f1 nD2).symm, (ne_of_none f2 nD2).symm⟩
    refine lc_it (walk_range (lo := 0) (n := (cnt : Int).toNat)) (fun i H' => ∃ (os : List Ord) (vs : List V), os.length = i ∧ (∀ (j : Nat) (o : Ord), os[j]? = some o → OrdOk o j cnt cells) ∧ Pds H' vs (os.map Ord.d) ∧ H' D2 = some (.lst vs) ∧ Box H' b l ∧ But [b, l] H4 H')
      ⟨[], [], rfl, by simp, .nil, upd_same, hB4.same (same_new nD2), Same.but (same_new nD2)⟩ (fun _ _ _ _ => trivial) (fun i x H5 H6 hi hp hy => ?_) (fun H5 hp => ?_)
    · obtain ⟨os, vs, e1, e2, e3, e4, hB5, bt5⟩ := hp
      obtain ⟨rfl, rfl⟩ := hy
      refine ⟨rfl, ?_⟩
      refine ⟨_, rfl, _, rfl, _, rfl, _, rfl, b, l, cells, i, cnt, by simp [nV], hB5, by omega, c16, by omega, by omega, fun H7 a o hB7 bt7 ha ho => ?_⟩
      have e4' := bt7 _ _ (by simp [nD2'.1, nD2'.2]) e4
      have hs5 : Pds H7 vs (os.map Ord.d) := Pds.but bt7 hB5.lsts (noLs_map noL_ord _) e3
      have aD : a ≠ D2 := fun z => by rw [z, e4'] at ha; cases ha
      have lsD : Lsts H7 [D2] := fun c hc => ⟨vs, by rw [List.mem_singleton.mp hc]; exact e4'⟩
      have stepB : But [D2] H7 (upd H7 D2 (.lst (vs ++ [.ref a]))) := But.set (by simp)
      have vlen := e3.len
      refine ⟨_, e4', by rw [vlen, List.length_map]; exact fits (by omega), os ++ [o], vs ++ [.ref a], by simp [e1], fun j o' hj => ?_, ?_, upd_same, But.box hB7 nD2'.1 nD2'.2, But.newset nD2 (bt5.trans bt7)⟩
      · rcases Nat.lt_or_ge j os.length with h | h
        · rw [List.getElem?_append_left h] at hj
          exact e2 j o' hj
        · rw [List.getElem?_append_right h] at hj
          have : j - os.length = 0 := by
            have := (List.getElem?_eq_some_iff.mp hj).1
            simp at this; omega
          rw [this] at hj
          cases hj
          have ej : j = i := by omega
          rw [ej]; exact ho
      · rw [List.map_append]
        exact (Pds.but stepB lsD (noLs_map noL_ord _) hs5).app (.cons (Ord.pd (by rw [upd_ne aD]; exact ha)) .nil)
    obtain ⟨os, ovs, o1, o2, o3, o4, hB5, bt5⟩ := hp
    refine ⟨D2, _, rfl, .inl ⟨sqL_l o4, fun O nO => ?_⟩⟩
    have hM5 := bt5 _ _ nMb hM4
    have sO : Same H5 (upd H5 O (.tup ovs)) := same_new nO
    have hO : (upd H5 O (.tup ovs)) O = some (.tup ovs) := upd_same
    have hOs := Pds.same sO o3
    have hM6 := sO _ _ hM5
    have hB6 := hB5.same sO
    have bt6 := ((bt3.trans bt4).trans bt5).trans (Same.but sO)
    have olen : os.length = cnt := by omega
    generalize upd H5 O (.tup ovs) = H6 at hO hOs hM6 hB6 bt6 sO
    have nOb : O ∉ [b, l] := fun m => by
      obtain ⟨ys, e⟩ := hB6.lsts _ m
      rw [hO] at e; cases e
    -- program = []
    refine ⟨Nat.zero_le _, fun pl npl => ?_⟩
    have hB7 := hB6.same (same_new (o := .lst []) npl)
    have npl' : pl ≠ b ∧ pl ≠ l := by
      obtain ⟨ns', sd, f1, f2, _⟩ := hB6
      exact ⟨(ne_of_none f1 npl).symm, (ne_of_none f2 npl).symm⟩
    -- for turn in range(take(box, deeds + 1))
    refine ⟨_, rfl, _, rfl, _, _, rfl, rfl, b, l, _, deeds + 1, rfl, by omega, hB7, by omega, by omega, fun H8 r8 hB8 bt8 hr8 => ?_⟩
    refine ⟨_, rfl, by omega, by omega, ?_⟩
    have hpl8 : H8 pl = some (.lst []) := bt8 _ _ (by simp [npl'.1, npl'.2]) upd_same
    have btx : But [b, l] H6 H8 := (Same.but (same_new npl)).trans bt8
    refine for_it (walk_range (lo := 0) (n := (r8 : Int).toNat)) (fun i σ H' => ∃ (ds : List Deed) (vs : List V) (y1 y2 : Option V), σ = [some (.ref b), some (nV lines), some (nV deeds), some (.ref kl), some (nV cells), some (.ref M), none, some (nV cnt), some (.ref O), none, some (.ref pl), y1, y2, none] ∧
        ds.length = i ∧ (∀ d ∈ ds, DeedOk d cnt cells ∧ (d.word ∈ ws ∨ d.word = "say")) ∧ (ds.filter isStart).length ≤ 3 ∧ Pds H' vs (ds.map Deed.d) ∧ H' pl = some (.lst vs) ∧ Box H' b l ∧ But [b, l] H6 H')
      ⟨[], [], _, _, rfl, rfl, by simp, by simp, .nil, hpl8, hB8, btx⟩ (fun _ _ _ _ _ => trivial) (fun i x σ H9 H10 hi hp hy => ?_) (fun σ H9 hp => ?_)
    · obtain ⟨ds, vs, y1, y2, rfl, e1, e2, e3, e4, e5, hB9, bt9⟩ := hp
      obtain ⟨rfl, rfl⟩ := hy
      have hk9 := (bt6.trans bt9) _ _ hknot hk
      refine ⟨_, rfl, _, rfl, _, rfl, _, rfl, b, l, kl, cells, cnt, ws, rfl, hB9, by omega, c16, by omega, by omega, hk9, hne, hlen, hws, fun H11 a d hB11 bt11 ha hd hw => ?_⟩
      have e5' := bt11 _ _ (by simp [npl'.1, npl'.2]) e5
      have e4' : Pds H11 vs (ds.map Deed.d) := Pds.but bt11 hB9.lsts (noLs_map noL_deed _) e4
      -- if deed[0] == "start" and len([..]) == 3
      refine ⟨fun σ' H' => ∃ (a' : Addr) (d' : Deed), σ' = [some (.ref b), some (nV lines), some (nV deeds), some (.ref kl), some (nV cells), some (.ref M), none, some (nV cnt), some (.ref O), none, some (.ref pl), some (.int (0 + (i : Int))), some (.ref a'), none] ∧
          H' a' = some (.tup d'.vs) ∧ DeedOk d' cnt cells ∧ (d'.word ∈ ws ∨ d'.word = "say") ∧ ((ds ++ [d']).filter isStart).length ≤ 3 ∧ Pds H' vs (ds.map Deed.d) ∧ H' pl = some (.lst vs) ∧ Box H' b l ∧ But [b, l] H6 H', ?_, fun σ' H' hM => ?_⟩
      · refine ⟨_, rfl, a, _, 0, .str d.word, rfl, rfl, sqA_t ha, at0, rfl, _, rfl, ite2 (fun e => ?_) (fun e => iteF ?_)⟩
        · have ew : d.word = "start" := by injection of_decide_eq_true e
          have es : isStart d = true := (word_start d).mp ew
          -- the comprehension
          refine ⟨_, rfl, pl, rfl, .inl ⟨_, sqL_l e5', fun D3 nD3 => ?_⟩⟩
          have plD : pl ≠ D3 := ne_of_none e5' nD3
          refine lc_it (walk_list (xs := vs)) (fun j H' => ∃ acc : List V, acc.length = ((ds.take j).filter isStart).length ∧ H' D3 = some (.lst acc) ∧ Same H11 H')
            ⟨[], rfl, upd_same, same_new nD3⟩ (fun j H' _ hp => by obtain ⟨_, _, _, sm⟩ := hp; exact sqL_l (sm _ _ e5')) (fun j x H12 H13 hj hp hy => ?_) (fun H12 hp => ?_)
          · obtain ⟨acc, a1, a2, sm⟩ := hp
            obtain ⟨rfl, hx⟩ := hy
            obtain ⟨dd, hdd, hpd⟩ := e4'.get' hx
            rw [List.getElem?_map] at hdd
            obtain ⟨d0, hd0, rfl⟩ : ∃ d0, ds[j]? = some d0 ∧ d0.d = dd := by simpa using hdd
            obtain ⟨a0, rfl, ha0⟩ := Deed.of hpd
            have tk : ((ds.take (j + 1)).filter isStart).length = ((ds.take j).filter isStart).length + (if isStart d0 then 1 else 0) := by
              rw [List.take_add_one, hd0]
              exact filter_app _ _ _
            refine ⟨rfl, _, rfl, a0, _, 0, .str d0.word, rfl, rfl, sqA_t (sm _ _ ha0), at0, rfl, _, rfl, ite2 (fun e => ?_) (fun e => ?_)⟩
            · have ew : d0.word = "start" := by injection of_decide_eq_true e
              have alen : acc.length ≤ 60 := by
                have := List.length_filter_le isStart (ds.take j)
                have := List.length_take_le' j ds
                omega
              refine ⟨_, rfl, acc, a2, fits (by omega), acc ++ [.ref a0], ?_, upd_same, fun c u hc => ?_⟩
              · rw [tk, (word_start d0).mp ew, List.length_append, a1]; rfl
              · rw [upd_ne (ne_of_none hc nD3)]; exact sm _ _ hc
            · have ew : ¬ isStart d0 = true := fun z => e (by rw [(word_start d0).mpr z]; exact decide_eq_true rfl)
              exact ⟨acc, by rw [tk, if_neg ew]; exact a1, a2, sm⟩
          · obtain ⟨acc, a1, a2, sm⟩ := hp
            have vlen : vs.length = ds.length := by rw [e4'.len, List.length_map]
            rw [vlen, List.take_length] at a1
            refine ⟨D3, _, rfl, .inl (sqL_l a2), rfl, _, rfl, ite2 (fun e7 => ?_) (fun e7 => ?_)⟩
            · refine ⟨_, rfl, _, rfl, b, l, _, cells, rfl, rfl, hB11.same sm, by omega, by omega, fun H14 r14 hB14 bt14 hr14 => ?_⟩
              refine ⟨by show 2 ≤ sizeLine; decide, fun a' na' => ?_⟩
              have s4 : Pds H14 vs (ds.map Deed.d) := Pds.but bt14 (hB11.same sm).lsts (noLs_map noL_deed _) (Pds.same sm e4')
              have s5 := bt14 _ _ (by simp [npl'.1, npl'.2]) (sm _ _ e5')
              refine ⟨a', .say r14, rfl, upd_same, hr14, .inr rfl, ?_, Pds.same (same_new na') s4, same_new na' _ _ s5, hB14.same (same_new na'), (((bt9.trans bt11).trans (Same.but sm)).trans bt14).trans (Same.but (same_new na'))⟩
              rw [filter_app]; exact e3
            · refine ⟨a, d, rfl, sm _ _ ha, hd, .inl hw, ?_, Pds.same sm e4', sm _ _ e5', hB11.same sm, (bt9.trans bt11).trans (Same.but sm)⟩
              rw [filter_app, if_pos es]
              have : ¬ acc.length = 3 := fun z => e7 (by rw [z]; rfl)
              omega
        · refine ⟨a, d, rfl, ha, hd, .inl hw, ?_, e4', e5', hB11, bt9.trans bt11⟩
          have ew : ¬ isStart d = true := fun z => e (by rw [(word_start d).mpr z]; exact decide_eq_true rfl)
          rw [filter_app, if_neg ew]; exact e3
      · obtain ⟨a', d', rfl, f1, f2, f3, f4, f5, f6, hB14, bt14⟩ := hM
        have vlen : vs.length = ds.length := by rw [f5.len, List.length_map]
        refine ⟨_, rfl, .inl ⟨rfl, _, sqL_l f6⟩, _, rfl, pl, _, _, rfl, rfl, f6, fits (by omega), ?_⟩
        have ap : a' ≠ pl := fun z => by rw [z, f6] at f1; cases f1
        have lsD : Lsts H' [pl] := fun c hc => ⟨vs, by rw [List.mem_singleton.mp hc]; exact f6⟩
        have stepB : But [pl] H' (upd H' pl (.lst (vs ++ [.ref a']))) := But.set (by simp)
        refine ⟨ds ++ [d'], vs ++ [.ref a'], _, _, rfl, by simp [e1], fun d hd => ?_, f4, ?_, upd_same, But.box hB14 npl'.1 npl'.2, But.newset npl bt14⟩
        · rcases List.mem_append.mp hd with h | h
          · exact e2 d h
          · rw [List.mem_singleton.mp h]; exact ⟨f2, f3⟩
        · rw [List.map_append]
          exact (Pds.but stepB lsD (noLs_map noL_deed _) f5).app (.cons (Deed.pd (by rw [upd_ne ap]; exact f1)) .nil)
    · obtain ⟨ds, vs, y1, y2, rfl, e1, e2, e3, e4, e5, hB9, bt9⟩ := hp
      refine ⟨_, rfl, _, rfl, _, rfl, pl, _, rfl, .inl ⟨sqL_l e5, fun Pt nPt => ?_⟩⟩
      refine ⟨by show 3 ≤ sizeLine; decide, fun v nv => ?_⟩
      have s1 : Same H9 (upd H9 Pt (.tup vs)) := same_new nPt
      have s2 := same_new (o := .tup [.ref M, .ref O, .ref Pt]) nv
      have s12 := s1.trans s2
      have gM := s12 _ _ (bt9 _ _ nMb hM6)
      have gO := s12 _ _ (bt9 _ _ nOb hO)
      have gP := s2 _ _ (show (upd H9 Pt (.tup vs)) Pt = some (.tup vs) from upd_same)
      refine q _ (.ref v) ⟨mem, os, ds⟩ (hB9.same s12) ((bt6.trans bt9).trans (Same.but s12)) ?_ ⟨?_, m2, ?_, fun j o hj => ?_, ?_, ?_, e3⟩ ?_ ?_ ?_ ?_
      · exact .tup upd_same (.cons (.tup gM (pds_ns _)) (.cons (.tup gO (Pds.same s12 (Pds.but bt9 hB6.lsts (noLs_map noL_ord _) hOs))) (.cons (.tup gP (Pds.same s12 e4)) .nil)))
      · dsimp only; rw [mlen]; exact cN
      · dsimp only; omega
      · dsimp only at hj ⊢; rw [olen, mlen]; exact o2 j o hj
      · dsimp only; omega
      · intro d hd; dsimp only at hd ⊢; rw [olen, mlen]; exact (e2 d hd).1
      · dsimp only; omega
      · dsimp only; omega
      · dsimp only; omega
      · intro d hd; exact (e2 d hd).2
end
end Vt
namespace Vt
open PySem PySem.Spec PyProof.Rows L2
/-! ### boards as they are handed in, and what is first wrong in them -/
structure ROrd where
  src : Int
  goal : Int
  many : Int
  later : Option Int
structure RDeed where
  word : Str
  nums : List Int
structure RBrd where
  mem : List Int
  ords : List ROrd
  prog : List RDeed
def iV : Option Int → V
  | none => .non
  | some k => .int k
def iD : Option Int → D
  | none => .non
  | some k => .int k
def ROrd.vs (o : ROrd) : List V := [.int o.src, .int o.goal, .int o.many, iV o.later]
def ROrd.d (o : ROrd) : D := .tup [.int o.src, .int o.goal, .int o.many, iD o.later]
def RDeed.vs (d : RDeed) : List V := .str d.word :: d.nums.map V.int
def RDeed.d (d : RDeed) : D := .tup (.str d.word :: d.nums.map D.int)
def RBrd.d (B : RBrd) : D := .tup [.tup (B.mem.map D.int), .tup (B.ords.map ROrd.d), .tup (B.prog.map RDeed.d)]
def Ord.raw (o : Ord) : ROrd := ⟨o.src, o.goal, o.many, o.later.map fun k => (k : Int)⟩
def Deed.raw (d : Deed) : RDeed := ⟨d.word, d.args.map fun (k : Nat) => (k : Int)⟩
def Brd.raw (B : Brd) : RBrd := ⟨B.mem.map (fun (k : Nat) => (k : Int)), B.ords.map Ord.raw, B.prog.map Deed.raw⟩
theorem raw_ord (o : Ord) : o.raw.d = o.d := by
  obtain ⟨s, g, m, l⟩ := o
  cases l <;> rfl
theorem raw_deed (d : Deed) : d.raw.d = d.d := by
  simp only [Deed.raw, RDeed.d, Deed.d, List.map_map]; rfl
theorem raw_brd (B : Brd) : B.raw.d = B.d := by
  simp only [Brd.raw, RBrd.d, Brd.d, nsD, List.map_map]
  have h1 : (ROrd.d ∘ Ord.raw) = Ord.d := funext raw_ord
  have h2 : (RDeed.d ∘ Deed.raw) = Deed.d := funext raw_deed
  rw [h1, h2]; rfl
section
variable {H : Hp}
theorem ROrd.of {o : ROrd} {v : V} (h : Pd H v o.d) : ∃ a, v = .ref a ∧ H a = some (.tup o.vs) := by
  obtain ⟨s, g, m, l⟩ := o
  cases h with
  | tup h hs =>
    cases hs with
    | cons h1 hs => cases h1; cases hs with
      | cons h2 hs => cases h2; cases hs with
        | cons h3 hs => cases h3; cases hs with
          | cons h4 hs =>
            cases hs
            refine ⟨_, rfl, ?_⟩
            cases l with
            | none => cases h4; exact h
            | some k => cases h4; exact h
theorem RDeed.of {d : RDeed} {v : V} (h : Pd H v d.d) : ∃ a, v = .ref a ∧ H a = some (.tup d.vs) := by
  cases h with
  | tup h hs =>
    cases hs with
    | cons h1 hs =>
      cases h1
      rw [hs.ints] at h
      exact ⟨_, rfl, h⟩
theorem RBrd.of {B : RBrd} {v : V} (h : Pd H v B.d) : ∃ a m o p os ps, v = .ref a ∧ H a = some (.tup [.ref m, .ref o, .ref p]) ∧ H m = some (.tup (B.mem.map V.int)) ∧ H o = some (.tup os) ∧ Pds H os (B.ords.map ROrd.d) ∧ H p = some (.tup ps) ∧ Pds H ps (B.prog.map RDeed.d) := by
  obtain ⟨mem, ords, prog⟩ := B
  cases h with
  | tup h hs =>
    cases hs with
    | cons h1 hs => cases h1 with
      | tup e1 k1 => cases hs with
        | cons h2 hs => cases h2 with
          | tup e2 k2 => cases hs with
            | cons h3 hs => cases h3 with
              | tup e3 k3 =>
                cases hs
                rw [k1.ints] at e1
                exact ⟨_, _, _, _, _, _, rfl, h, e1, e2, k2, e3, k3⟩
end
/-- the first place at which p stands -/
def fst {α : Type} (p : Nat → α → Bool) : Nat → List α → Option Nat
  | _, [] => none
  | i, x :: r => if p i x = true then some i else fst p (i + 1) r
theorem fst_none {α : Type} {p : Nat → α → Bool} : ∀ {xs : List α} {k : Nat}, (∀ i x, xs[i]? = some x → p (k + i) x = false) → fst p k xs = none
  | [], _, _ => rfl
  | x :: r, k, h => by
    rw [fst, if_neg (by rw [show p k x = false from h 0 x rfl]; simp)]
    exact fst_none fun i y e => by
      have := h (i + 1) y (by simpa using e)
      rw [show k + 1 + i = k + (i + 1) by omega]; exact this
theorem fst_some {α : Type} {p : Nat → α → Bool} : ∀ {xs : List α} {k i : Nat} {x : α}, xs[i]? = some x → p (k + i) x = true → (∀ j y, j < i → xs[j]? = some y → p (k + j) y = false) → fst p k xs = some (k + i)
  | [], _, _, _, e, _, _ => by simp at e
  | y :: r, k, 0, x, e, h, _ => by
    simp only [List.getElem?_cons_zero, Option.some.injEq] at e
    subst e
    rw [fst, if_pos (by simpa using h)]; rfl
  | y :: r, k, i + 1, x, e, h, hj => by
    rw [fst, if_neg (by rw [show p k y = false from hj 0 y (by omega) rfl]; simp)]
    rw [fst_some (k := k + 1) (i := i) (x := x) (by simpa using e) (by rw [show k + 1 + i = k + (i + 1) by omega]; exact h) fun j z hji ez => by
      rw [show k + 1 + j = k + (j + 1) by omega]
      exact hj (j + 1) z (by omega) (by simpa using ez)]
    congr 1; omega
theorem of_fst_none {α : Type} {p : Nat → α → Bool} : ∀ {xs : List α} {k : Nat}, fst p k xs = none → ∀ i x, xs[i]? = some x → p (k + i) x = false
  | [], _, _, i, x, e => by simp at e
  | y :: r, k, h, 0, x, e => by
    simp only [List.getElem?_cons_zero, Option.some.injEq] at e
    subst e
    rw [fst] at h
    split at h
    · cases h
    · rename_i hn; simpa using hn
  | y :: r, k, h, i + 1, x, e => by
    rw [fst] at h
    split at h
    · cases h
    · have := of_fst_none (k := k + 1) h i x (by simpa using e)
      rw [show k + (i + 1) = k + 1 + i by omega]; exact this
def badNum (_ : Nat) (n : Int) : Bool := !(decide (0 ≤ n) && decide (n < 10))
def fwCell (mem : List Int) : Option Nat :=
  if mem.length = 4 ∨ mem.length = 8 ∨ mem.length = 12 ∨ mem.length = 16 then fst badNum 0 mem else some 0
def laterCan (cnt : Int) (at_ : Nat) : Option Int → Bool
  | none => true
  | some k => decide ((at_ : Int) < k) && decide (k < cnt)
def ordCan (cnt cells : Int) (at_ : Nat) (o : ROrd) : Bool :=
  decide (1 ≤ o.many) && decide (o.many ≤ 8) && laterCan cnt at_ o.later &&
  decide (0 ≤ o.src) && decide (o.src ≤ cells - o.many) && decide (0 ≤ o.goal) && decide (o.goal ≤ cells - o.many)
def badOrd (cnt cells : Int) (at_ : Nat) (o : ROrd) : Bool := decide (at_ = 4) || !ordCan cnt cells at_ o
def fwOrd (ords : List ROrd) (cells : Int) : Option Nat := fst (badOrd ords.length cells) 0 ords
def kindsOf (z : Str) : Option (List Str) :=
  if z = "set" then some ["cell", "number"] else if z = "add" then some ["cell", "cell"] else if z = "say" then some ["cell"] else if z = "start" then some ["order"] else
  if z = "wait" then some [] else if z = "clean" then some ["line"] else if z = "drop" then some ["line"] else none
def cap (cnt cells : Int) (k : Str) : Int := if k = "cell" then cells else if k = "number" then 10 else if k = "order" then cnt else cells / 4
def numsCan (cnt cells : Int) : List Int → List Str → Bool
  | [], [] => true
  | n :: ns, k :: ks => (decide (0 ≤ n) && decide (n < cap cnt cells k)) && numsCan cnt cells ns ks
  | _, _ => false
def deedCan (cnt cells : Int) (d : RDeed) : Bool := match kindsOf d.word with
  | none => false
  | some ks => numsCan cnt cells d.nums ks
def rStart (d : RDeed) : Bool := decide (d.word = "start")
def badDeed (prog : List RDeed) (cnt cells : Int) (at_ : Nat) (d : RDeed) : Bool := decide (at_ = 60) || !deedCan cnt cells d || decide (3 < ((prog.take (at_ + 1)).filter rStart).length)
def fwDeed (prog : List RDeed) (cnt cells : Int) : Option Nat := fst (badDeed prog cnt cells) 0 prog
/-- a tuple of the written part -/
def KTup (K : PySem.W.Frag) (a : Addr) (xs : List V) : Prop := ∃ (o : Obj) (its : Array Value) (n : Nat), K.lookup a = some o ∧ o.cls = .type "tuple" ∧ o.data = .seq its n ∧ its.size ≤ sizeLine ∧ Vals xs its.toList
theorem KTup.sq {K : PySem.W.Frag} {a : Addr} {xs : List V} (h : KTup K a xs) (H : Hp) : SqT K H a xs := .inr h
/-- an enumerate's pair -/
theorem pair_at {H H' : Hp} {v : V} {x y : Nat → Option V} {i : Nat} (h : YPair x y i H v H') : ∃ T a b, v = .ref T ∧ H T = none ∧ H' = upd H T (.tup [a, b]) ∧ x i = some a ∧ y i = some b ∧ Same H H' ∧ H' T = some (.tup [a, b]) := by
  obtain ⟨T, a, b, h1, h2, h3, h4, h5⟩ := h
  subst h3
  exact ⟨T, a, b, h1, h2, rfl, h4, h5, same_new h2, upd_same⟩
section
variable {P : Program} {w : World} {K : PySem.W.Frag} {mg : Str → Option Value} {base : Heap}
/-- the module's numbers -/
structure Consts (K : PySem.W.Frag) (mg : Str → Option Value) : Prop where
  line : ∃ t, mg "LINE" = some (.int 4 t)
  numbers : ∃ t, mg "NUMBERS" = some (.int 10 t)
  orders : ∃ t, mg "MOST_ORDERS" = some (.int 4 t)
  moved : ∃ t, mg "MOST_MOVED" = some (.int 8 t)
  deeds : ∃ t, mg "MOST_DEEDS" = some (.int 60 t)
  starts : ∃ t, mg "MOST_STARTS" = some (.int 3 t)
  sizes : ∃ a, mg "MEMORY_SIZES" = some (.ref a) ∧ KTup K a [.int 4, .int 8, .int 12, .int 16]
abbrev st_first_wrong_cell : Stmt := (topS 14)
abbrev nm_first_wrong_cell : List Str := ["memory", "cell", "number"]
theorem sc_first_wrong_cell : FnScope ["memory", "cell", "number"] ["memory"] (defScope st_first_wrong_cell) := ⟨rfl, rfl, rfl, by decide +kernel, rfl, by decide +kernel, by decide +kernel⟩
def spFwCell : Sp := fun vs H Q _ => ∃ (m : Addr) (mem : List Int), vs = [.ref m] ∧ H m = some (.tup (mem.map V.int)) ∧ ∀ H', Same H H' → Q (oV (fwCell mem)) H'
theorem ok_fwcell {f : Addr} {fd : FuncData} (F : Fun K "first_wrong_cell" "first_wrong_cell" st_first_wrong_cell f fd) (C : Consts K mg) (z_len : mg "len" = none) (z_enumerate : mg "enumerate" = none) :
    FnOk P w K mg base CX0 1 f fd ["memory"] spFwCell := by
  obtain ⟨tN, mc_NUMBERS⟩ := C.numbers
  obtain ⟨ms, mc_MEMORY_SIZES, hms⟩ := C.sizes
  refine F.ok sc_first_wrong_cell (fun vs H Q E h => ?_) (fun cdv A outer s H vs Q E hr h => ?_)
  · obtain ⟨m, mem, rfl, _⟩ := h
    rfl
  · obtain ⟨m, mem, rfl, hm, q⟩ := h
    refine ⟨_, (pss_cons (ps_if (pt_cmpR op_notIn_seq (pe_callB call_len_seq (by rfl) z_len (by decide +kernel) (pa_cons (pv 0) pa_nil)) (pe_glob (v := .ref _) rfl mc_MEMORY_SIZES rfl) (by rfl)) (pss_one (ps_ret pe_int)) pss_nil)
  (pss_cons (ps_for PassesOwn.never rfl (pi_enumT (by rfl) z_enumerate (pa_cons (pv 0) pa_nil)) (pg_tup rfl (pgs_cons (pg_name (i := 1) sc_first_wrong_cell.nd rfl (Or.inl rfl)) (pgs_cons (pg_name (i := 2) sc_first_wrong_cell.nd rfl (Or.inl rfl)) pgs_nil)))
  (pss_one (ps_if (pt_not (pt_chain op_le op_lt pe_int (pv 2) (pe_glob (v := .int 10) rfl mc_NUMBERS ⟨_, rfl⟩))) (pss_one (ps_ret (pv 1))) pss_nil)))
  (pss_one (ps_ret pe_non)))), ?_⟩
    refine ⟨_, rfl, m, _, rfl, .inr (sqT_t hm), ms, _, rfl, .inr (hms.sq _), rfl, rfl, _, rfl, ite2 (fun e => ?_) (fun e => ?_)⟩
    · have hn : ¬ (mem.length = 4 ∨ mem.length = 8 ∨ mem.length = 12 ∨ mem.length = 16) := by
        simp only [inV, eqV, List.any_cons, List.any_nil, List.length_map] at e
        simp at e
        omega
      have := q H (Same.refl H)
      rw [fwCell, if_neg hn] at this
      exact this
    · have hn : mem.length = 4 ∨ mem.length = 8 ∨ mem.length = 12 ∨ mem.length = 16 := by
        simp only [inV, eqV, List.any_cons, List.any_nil, List.length_map] at e
        simp at e
        omega
      refine ⟨_, rfl, m, rfl, .inr ⟨_, sqT_t hm, ?_⟩⟩
      refine for_it (walk_enumT (xs := mem.map V.int)) (fun i σ H' => ∃ y1 y2, σ = [some (.ref m), y1, y2] ∧ Same H H' ∧ ∀ (j : Nat) (n : Int), j < i → mem[j]? = some n → badNum j n = false)
        ⟨_, _, rfl, Same.refl H, fun j n hj => absurd hj (by omega)⟩ (fun i σ H' _ hp => by obtain ⟨_, _, _, sm, _⟩ := hp; exact sqT_t (sm _ _ hm)) (fun i x σ H1 H2 hi hp hy => ?_) (fun σ H1 hp => ?_)
      · obtain ⟨y1, y2, rfl, sm, hall⟩ := hp
        obtain ⟨T, a, b, rfl, nT, _, ha, hb, s2, hT⟩ := pair_at hy
        cases ha
        obtain ⟨n, hn2, rfl⟩ : ∃ n, mem[i]? = some n ∧ V.int n = b := by rw [List.getElem?_map] at hb; simpa using hb
        refine ⟨T, _, rfl, sqT_t hT, rfl, _, _, rfl, _, _, rfl, rfl, ?_⟩
        have ret : badNum i n = true → Q (nV i) H2 := fun hb => by
          have := q H2 (sm.trans s2)
          rw [fwCell, if_pos hn, fst_some (i := i) hn2 (by rw [Nat.zero_add]; exact hb) fun j y hj ej => by rw [Nat.zero_add]; exact hall j y hj ej, Nat.zero_add] at this
          exact this
        have nxt : badNum i n = false → ∃ y1 y2, [some (V.ref m), some (V.int (i : Nat)), some (V.int n)] = [some (.ref m), y1, y2] ∧ Same H H2 ∧ ∀ (j : Nat) (n : Int), j < i + 1 → mem[j]? = some n → badNum j n = false := fun hb => by
          refine ⟨_, _, rfl, sm.trans s2, fun j y hj ej => ?_⟩
          by_cases hji : j < i
          · exact hall j y hji ej
          · have : j = i := by omega
            subst this
            rw [hn2] at ej; cases ej
            exact hb
        refine ⟨_, rfl, _, _, rfl, rfl, _, rfl, ?_⟩
        by_cases h0 : (0 : Int) ≤ n
        · rw [decide_eq_true h0]
          refine iteT ⟨_, _, rfl, rfl, _, rfl, ite2 (fun e => ⟨_, rfl, ret ?_⟩) (fun e => nxt ?_)⟩
          · simp [badNum, h0] at e ⊢; omega
          · simp [badNum, h0] at e ⊢; omega
        · rw [decide_eq_false h0]
          exact iteF ⟨_, rfl, ⟨_, rfl, ret (by simp [badNum, h0])⟩⟩
      · obtain ⟨y1, y2, rfl, sm, hall⟩ := hp
        have := q H1 sm
        rw [fwCell, if_pos hn, fst_none fun i x e => by
          rw [Nat.zero_add]
          exact hall i x (by have := (List.getElem?_eq_some_iff.mp e).1; simpa using this) e] at this
        exact this
end
end Vt
namespace Vt
open PySem PySem.Spec PyProof.Rows L2
/-! ### an order, a deed, the board -/
theorem valV_hit {k : Key} {v : V} {r : List (Key × V)} : valV ((k, v) :: r) k = some v := valV_pos rfl
/-- what a dict of four says -/
theorem counts_at {H : Hp} {a : Addr} {cnt cells : Int} {ks : List Str} {k : Str} (h : H a = some (.dK [(.inr "cell", .int cells), (.inr "number", .int 10), (.inr "order", .int cnt), (.inr "line", .int (cells / 4))]))
    (hk : k = "cell" ∨ k = "number" ∨ k = "order" ∨ k = "line") : DGet H a (.str k) (some (.int (cap cnt cells k))) := by
  have g := DGet.k (k := .inr k) h
  rcases hk with rfl | rfl | rfl | rfl
  · exact g
  · exact g
  · exact g
  · exact g
theorem kinds_known {z : Str} {ks : List Str} (h : kindsOf z = some ks) : ∀ k ∈ ks, k = "cell" ∨ k = "number" ∨ k = "order" ∨ k = "line" := by
  intro k hk
  unfold kindsOf at h
  repeat' split at h
  all_goals first
    | cases h
    | skip
  all_goals simp at hk
  all_goals first
    | (rcases hk with rfl | rfl <;> simp)
    | (subst hk; simp)
theorem kinds_len {z : Str} {ks : List Str} (h : kindsOf z = some ks) : ks.length ≤ 2 := by
  unfold kindsOf at h
  repeat' split at h
  all_goals first
    | (cases h; simp)
    | cases h
theorem numsCan_len {cnt cells : Int} : ∀ {ns : List Int} {ks : List Str}, ns.length ≠ ks.length → numsCan cnt cells ns ks = false
  | [], [], h => absurd rfl h
  | [], _ :: _, _ => by rw [numsCan]; all_goals simp
  | _ :: _, [], _ => by rw [numsCan]; all_goals simp
  | n :: ns, k :: ks, h => by
    rw [numsCan, numsCan_len (ns := ns) (ks := ks) (by simpa using h), Bool.and_false]
theorem numsCan_all {cnt cells : Int} : ∀ {ns : List Int} {ks : List Str}, ns.length = ks.length → ∀ (bs : List Bool), bs.length = ns.length → (∀ (i : Nat) (n : Int) (k : Str), ns[i]? = some n → ks[i]? = some k → bs[i]? = some (decide (0 ≤ n) && decide (n < cap cnt cells k))) → bs.all id = numsCan cnt cells ns ks
  | [], [], _, bs, hb, _ => by
    have : bs = [] := List.length_eq_zero_iff.mp hb
    subst this; rfl
  | [], _ :: _, h, _, _, _ => by simp at h
  | _ :: _, [], h, _, _, _ => by simp at h
  | n :: ns, k :: ks, h, bs, hb, hi => by
    cases bs with
    | nil => simp at hb
    | cons b bs =>
      have e0 := hi 0 n k rfl rfl
      simp only [List.getElem?_cons_zero, Option.some.injEq] at e0
      rw [numsCan, List.all_cons, numsCan_all (ns := ns) (ks := ks) (by simpa using h) bs (by simpa using hb) fun i n' k' e1 e2 => by
        have := hi (i + 1) n' k' (by simpa using e1) (by simpa using e2)
        simpa using this]
      rw [e0]; rfl
/-- the table of deeds -/
structure Kinds (K : PySem.W.Frag) (w : World) (mg : Str → Option Value) (dd : Addr) : Prop where
  at_ : mg "DEEDS" = some (.ref dd)
  low : (dd == sysModules) = false
  obj : ∃ es n, K.lookup dd = some ⟨.type "dict", none, .dict es n, #[]⟩ ∧ PySem.W.KeysLit w.params es.toList
  hit : ∀ z ks, kindsOf z = some ks → ∃ kt, KDct K w dd z (.ref kt) ∧ KTup K kt (ks.map V.str)
section
variable {P : Program} {w : World} {K : PySem.W.Frag} {mg : Str → Option Value} {base : Heap}
abbrev st_order_can_be : Stmt := (topS 16)
abbrev nm_order_can_be : List Str := ["order", "at", "order_count", "cell_count", "source", "goal", "many", "later"]
theorem sc_order_can_be : FnScope ["order", "at", "order_count", "cell_count", "source", "goal", "many", "later"] ["order", "at", "order_count", "cell_count"] (defScope st_order_can_be) := ⟨rfl, rfl, rfl, by decide +kernel, rfl, by decide +kernel, by decide +kernel⟩
def spOrdCan : Sp := fun vs H Q _ => ∃ (a : Addr) (o : ROrd) (at_ : Nat) (cnt cells : Int), vs = [.ref a, nV at_, .int cnt, .int cells] ∧ H a = some (.tup o.vs) ∧ Q (.bl (ordCan cnt cells at_ o)) H
theorem ok_ordcan {f : Addr} {fd : FuncData} (F : Fun K "order_can_be" "order_can_be" st_order_can_be f fd) (C : Consts K mg) : FnOk P w K mg base CX0 1 f fd ["order", "at", "order_count", "cell_count"] spOrdCan := by
  obtain ⟨tM, mc_MOST_MOVED⟩ := C.moved
  refine F.ok sc_order_can_be (fun vs H Q E h => ?_) (fun cdv A outer s H vs Q E hr h => ?_)
  · obtain ⟨a, o, at_, cnt, cells, rfl, _⟩ := h
    rfl
  · obtain ⟨a, ⟨src, goal, many, later⟩, at_, cnt, cells, rfl, ha, q⟩ := h
    refine ⟨_, (pss_cons (ps_asg (pv 0) (pg_tup rfl (pgs_cons (pg_name (i := 4) sc_order_can_be.nd rfl (Or.inl rfl)) (pgs_cons (pg_name (i := 5) sc_order_can_be.nd rfl (Or.inl rfl)) (pgs_cons (pg_name (i := 6) sc_order_can_be.nd rfl (Or.inl rfl)) (pgs_cons (pg_name (i := 7) sc_order_can_be.nd rfl (Or.inl rfl)) pgs_nil))))))
  (pss_cons (ps_if (pt_not (pt_chain op_le op_le pe_int (pv 6) (pe_glob (v := .int 8) rfl mc_MOST_MOVED ⟨_, rfl⟩))) (pss_one (ps_ret pe_bl)) pss_nil)
  (pss_cons (ps_if (PW.pt (pw_and (pt_cmpR op_notN (pv 7) pe_non (nomark _)) (pw_and1 (pt_not (pt_chain op_lt op_lt (pv 1) (pv 7) (pv 2)))))) (pss_one (ps_ret pe_bl)) pss_nil)
  (pss_one (ps_ret (pe_and (pe_chain op_le op_le pe_int (pv 4) (pe_op op_sub (pv 3) (pv 6))) (pe_one (pe_chain op_le op_le pe_int (pv 5) (pe_op op_sub (pv 3) (pv 6)))))))))), ?_⟩
    refine ⟨_, rfl, a, _, rfl, sqT_t ha, rfl, _, _, rfl, _, _, rfl, _, _, rfl, _, _, rfl, rfl, ?_⟩
    -- not 1 <= many <= MOST_MOVED
    refine ⟨_, rfl, _, _, rfl, rfl, _, rfl, ?_⟩
    by_cases h1 : (1 : Int) ≤ many
    · rw [decide_eq_true h1]
      refine iteT ⟨_, _, rfl, rfl, _, rfl, ite2 (fun e => ?_) (fun e => ?_)⟩
      · rw [show ordCan cnt cells at_ ⟨src, goal, many, later⟩ = false by simp [ordCan, laterCan] at e ⊢; omega] at q
        exact q
      · have h8 : many ≤ 8 := by simpa using e
        have rest : ∀ σ, σ = [some (.ref a), some (nV at_), some (.int cnt), some (.int cells), some (.int src), some (.int goal), some (.int many), some (iV later)] → laterCan cnt at_ later = true →
            tRet (tAndV (tChain (rI0 fun i j => V.bl (decide (i ≤ j))) (rI0 fun i j => V.bl (decide (i ≤ j))) (tC (.int 0)) (tVar 4) (tOp (rI0 fun i j => V.int (i - j)) (tVar 3) (tVar 6)))
              (tChain (rI0 fun i j => V.bl (decide (i ≤ j))) (rI0 fun i j => V.bl (decide (i ≤ j))) (tC (.int 0)) (tVar 5) (tOp (rI0 fun i j => V.int (i - j)) (tVar 3) (tVar 6)))) { nx := fun _ H' => Q .non H', rt := Q } σ H := fun σ hσ hl => by
          subst hσ
          have ev : ordCan cnt cells at_ ⟨src, goal, many, later⟩ = ((decide (0 ≤ src) && decide (src ≤ cells - many)) && (decide (0 ≤ goal) && decide (goal ≤ cells - many))) := by
            simp only [ordCan, decide_eq_true h1, decide_eq_true h8, hl, Bool.true_and, Bool.and_assoc]
          rw [ev] at q
          refine ⟨_, rfl, _, _, rfl, rfl, _, rfl, ?_⟩
          by_cases g1 : (0 : Int) ≤ src
          · rw [decide_eq_true g1] at q ⊢
            refine iteT ⟨_, rfl, _, rfl, _, _, rfl, rfl, _, _, rfl, rfl, _, rfl, ?_⟩
            by_cases g2 : src ≤ cells - many
            · rw [decide_eq_true g2] at q ⊢
              refine iteT ⟨_, rfl, _, _, rfl, rfl, _, rfl, ?_⟩
              by_cases g3 : (0 : Int) ≤ goal
              · rw [decide_eq_true g3] at q ⊢
                refine iteT ⟨_, rfl, _, rfl, _, _, rfl, rfl, _, _, rfl, rfl, ?_⟩
                exact q
              · rw [decide_eq_false g3] at q ⊢
                exact iteF q
            · rw [decide_eq_false g2] at q ⊢
              exact iteF q
          · rw [decide_eq_false g1] at q ⊢
            exact iteF ⟨_, rfl, iteF q⟩
        cases later with
        | none => exact ⟨_, rfl, rfl, _, rfl, iteF (rest _ rfl rfl)⟩
        | some k =>
          refine ⟨_, rfl, rfl, _, rfl, iteT ⟨_, rfl, _, rfl, _, _, rfl, rfl, _, rfl, ?_⟩⟩
          by_cases g1 : (at_ : Int) < k
          · rw [decide_eq_true g1]
            refine iteT ⟨_, rfl, _, _, rfl, rfl, _, rfl, ite2 (fun e => ?_) (fun e => rest _ rfl ?_)⟩
            · rw [show ordCan cnt cells at_ ⟨src, goal, many, some k⟩ = false by simp [ordCan, laterCan] at e ⊢; omega] at q
              exact q
            · simp [laterCan] at e ⊢; exact ⟨g1, e⟩
          · rw [decide_eq_false g1]
            refine iteF ⟨_, rfl, iteT ?_⟩
            rw [show ordCan cnt cells at_ ⟨src, goal, many, some k⟩ = false by simp [ordCan, laterCan, g1]] at q
            exact q
    · rw [decide_eq_false h1]
      refine iteF ⟨_, rfl, iteT ?_⟩
      rw [show ordCan cnt cells at_ ⟨src, goal, many, later⟩ = false by simp [ordCan, h1]] at q
      exact q
abbrev st_first_wrong_order : Stmt := (topS 15)
abbrev nm_first_wrong_order : List Str := ["orders", "cell_count", "at", "order"]
theorem sc_first_wrong_order : FnScope ["orders", "cell_count", "at", "order"] ["orders", "cell_count"] (defScope st_first_wrong_order) := ⟨rfl, rfl, rfl, by decide +kernel, rfl, by decide +kernel, by decide +kernel⟩
def spFwOrd : Sp := fun vs H Q _ => ∃ (a : Addr) (os : List V) (ords : List ROrd) (cells : Int), vs = [.ref a, .int cells] ∧ H a = some (.tup os) ∧ Pds H os (ords.map ROrd.d) ∧ ∀ H', Same H H' → Q (oV (fwOrd ords cells)) H'
theorem ok_fword {f : Addr} {fd : FuncData} (F : Fun K "first_wrong_order" "first_wrong_order" st_first_wrong_order f fd) (C : Consts K mg) (c_order_can_be : Callee P w K mg base "order_can_be" 1 4 spOrdCan) (z_len : mg "len" = none) (z_enumerate : mg "enumerate" = none) :
    FnOk P w K mg base CX0 2 f fd ["orders", "cell_count"] spFwOrd := by
  obtain ⟨tM, mc_MOST_ORDERS⟩ := C.orders
  refine F.ok sc_first_wrong_order (fun vs H Q E h => ?_) (fun cdv A outer s H vs Q E hr h => ?_)
  · obtain ⟨a, os, ords, cells, rfl, _⟩ := h
    rfl
  · obtain ⟨a, os, ords, cells, rfl, ha, hs, q⟩ := h
    have olen : os.length = ords.length := by rw [hs.len, List.length_map]
    refine ⟨_, (pss_cons (ps_for PassesOwn.never rfl (pi_enumT (by rfl) z_enumerate (pa_cons (pv 0) pa_nil)) (pg_tup rfl (pgs_cons (pg_name (i := 2) sc_first_wrong_order.nd rfl (Or.inl rfl)) (pgs_cons (pg_name (i := 3) sc_first_wrong_order.nd rfl (Or.inl rfl)) pgs_nil)))
  (pss_one (ps_if (PW.pt (pw_or (pt_cmpR op_eq (pv 2) (pe_glob (v := .int 4) rfl mc_MOST_ORDERS ⟨_, rfl⟩) (nomark _)) (pw_or1 (pt_not (pt_val (pe_cal c_order_can_be hr (by first | decide | exact Nat.le_refl _) (pa_cons (pv 3) (pa_cons (pv 2) (pa_cons (pe_callB call_len_seq (by rfl) z_len (by decide +kernel) (pa_cons (pv 0) pa_nil)) (pa_cons (pv 1) pa_nil)))))))))) (pss_one (ps_ret (pv 2))) pss_nil)))
  (pss_one (ps_ret pe_non))), ?_⟩
    refine ⟨_, rfl, a, rfl, .inr ⟨_, sqT_t ha, ?_⟩⟩
    refine for_it (walk_enumT (xs := os)) (fun i σ H' => ∃ y1 y2, σ = [some (.ref a), some (.int cells), y1, y2] ∧ Same H H' ∧ ∀ (j : Nat) (o : ROrd), j < i → ords[j]? = some o → badOrd ords.length cells j o = false)
      ⟨_, _, rfl, Same.refl H, fun j n hj => absurd hj (by omega)⟩ (fun i σ H' _ hp => by obtain ⟨_, _, _, sm, _⟩ := hp; exact sqT_t (sm _ _ ha)) (fun i x σ H1 H2 hi hp hy => ?_) (fun σ H1 hp => ?_)
    · obtain ⟨y1, y2, rfl, sm, hall⟩ := hp
      obtain ⟨T, a1, b, rfl, nT, _, h1, hb, s2, hT⟩ := pair_at hy
      cases h1
      obtain ⟨dd, hd, hpd⟩ := hs.get' hb
      rw [List.getElem?_map] at hd
      obtain ⟨o, ho, rfl⟩ : ∃ o, ords[i]? = some o ∧ o.d = dd := by simpa using hd
      obtain ⟨oa, rfl, hoa⟩ := ROrd.of ((hpd.same sm).same s2)
      have ret : badOrd ords.length cells i o = true → Q (nV i) H2 := fun hb => by
        have := q H2 (sm.trans s2)
        rw [fwOrd, fst_some (i := i) ho (by rw [Nat.zero_add]; exact hb) fun j y hj ej => by rw [Nat.zero_add]; exact hall j y hj ej, Nat.zero_add] at this
        exact this
      have nxt : badOrd ords.length cells i o = false → ∃ y1 y2, [some (V.ref a), some (.int cells), some (V.int (i : Nat)), some (V.ref oa)] = [some (.ref a), some (.int cells), y1, y2] ∧ Same H H2 ∧ ∀ (j : Nat) (o : ROrd), j < i + 1 → ords[j]? = some o → badOrd ords.length cells j o = false := fun hb => by
        refine ⟨_, _, rfl, sm.trans s2, fun j y hj ej => ?_⟩
        by_cases hji : j < i
        · exact hall j y hji ej
        · have : j = i := by omega
          subst this
          rw [ho] at ej; cases ej
          exact hb
      refine ⟨T, _, rfl, sqT_t hT, rfl, _, _, rfl, _, _, rfl, rfl, ?_⟩
      refine ⟨_, rfl, rfl, _, rfl, ite2 (fun e => iteT ?_) (fun e => ?_)⟩
      · have e4 : (i : Int) = 4 := by injection of_decide_eq_true e
        have e4' : i = 4 := by omega
        exact ⟨_, rfl, ret (by simp [badOrd, e4'])⟩
      · have n4 : ¬ i = 4 := fun z => e (by rw [z]; rfl)
        refine ⟨_, rfl, _, rfl, _, rfl, a, _, rfl, .inr (sqT_t ((sm.trans s2) _ _ ha)), _, rfl, oa, o, i, _, _, rfl, hoa, _, rfl, ite2 (fun e => ⟨_, rfl, ret ?_⟩) (fun e => nxt ?_)⟩
        · rw [olen] at e; simp only [badOrd, e, Bool.or_true]
        · rw [olen] at e
          have e' : (!ordCan ords.length cells i o) = false := by simpa using e
          simp only [badOrd, e', decide_eq_false n4, Bool.or_false]
    · obtain ⟨y1, y2, rfl, sm, hall⟩ := hp
      have := q H1 sm
      rw [fwOrd, fst_none fun i x e => by
        rw [Nat.zero_add]
        exact hall i x (by have := (List.getElem?_eq_some_iff.mp e).1; omega) e] at this
      exact this
end
end Vt
namespace Vt
open PySem PySem.Spec PyProof.Rows L2
section
variable {P : Program} {w : World} {K : PySem.W.Frag} {mg : Str → Option Value} {base : Heap}
def countsK (cnt cells : Int) : List (Key × V) := [(.inr "cell", .int cells), (.inr "number", .int 10), (.inr "order", .int cnt), (.inr "line", .int (cells / 4))]
abbrev st_deed_can_be : Stmt := (topS 19)
abbrev nm_deed_can_be : List Str := ["deed", "counts", "word", "numbers", "kinds", "number", "kind"]
theorem sc_deed_can_be : FnScope ["deed", "counts", "word", "numbers", "kinds", "number", "kind"] ["deed", "counts"] (defScope st_deed_can_be) := ⟨rfl, rfl, rfl, by decide +kernel, rfl, by decide +kernel, by decide +kernel⟩
def spDeedCan (K : PySem.W.Frag) (w : World) (dd : Addr) : Sp := fun vs H Q _ => ∃ (a c : Addr) (d : RDeed) (cnt cells : Int), vs = [.ref a, .ref c] ∧ H a = some (.tup d.vs) ∧ d.nums.length ≤ 1000 ∧ H c = some (.dK (countsK cnt cells)) ∧
  (kindsOf d.word = none → KMiss K w dd d.word) ∧ ∀ H', Same H H' → Q (.bl (deedCan cnt cells d)) H'
theorem ok_deedcan {f dd : Addr} {fd : FuncData} (F : Fun K "deed_can_be" "deed_can_be" st_deed_can_be f fd) (Kd : Kinds K w mg dd) (z_len : mg "len" = none) (z_all : mg "all" = none) (z_zip : mg "zip" = none) :
    FnOk P w K mg base CX0 1 f fd ["deed", "counts"] (spDeedCan K w dd) := by
  have mc_DEEDS := Kd.at_
  refine F.ok sc_deed_can_be (fun vs H Q E h => ?_) (fun cdv A outer s H vs Q E hr h => ?_)
  · obtain ⟨a, c, d, cnt, cells, rfl, _⟩ := h
    rfl
  · obtain ⟨a, c, ⟨wd, nums⟩, cnt, cells, rfl, ha, hl, hc, hmiss, q⟩ := h
    dsimp only at hl hmiss
    refine ⟨_, (pss_cons (ps_asg (pv 0) (pg_star (i := 2) (j := 3) rfl sc_deed_can_be.nd rfl rfl rfl rfl))
  (pss_cons (ps_set (i := 4) sc_deed_can_be.nd rfl (Or.inl rfl) (pe_kget (pe_glob (v := .ref _) rfl mc_DEEDS rfl) (pv 2) ⟨rfl, rfl, rfl, rfl⟩))
  (pss_cons (ps_if (PW.pt (pw_or (pt_cmpR op_isN (pv 4) pe_non (nomark _)) (pw_or1 (pt_cmpR op_ne (pe_callB call_len_seq (by rfl) z_len (by decide +kernel) (pa_cons (pv 3) pa_nil)) (pe_callB call_len_seq (by rfl) z_len (by decide +kernel) (pa_cons (pv 4) pa_nil)) (nomark _))))) (pss_one (ps_ret pe_bl)) pss_nil)
  (pss_one (ps_ret (pe_callB (cr_all rfl) (by rfl) z_all (by decide +kernel) (pa_cons (pe_lc (own := [("number", 5), ("kind", 6)]) rfl sc_deed_can_be.nd (pi_zipM (by rfl) z_zip (pa_cons (pv 3) (pa_cons (pv 4) pa_nil))) (blkOk_by (own := [("number", 5), ("kind", 6)]) (N := nm_deed_can_be) (sc := defScope (topS 19)) (by decide +kernel)) (fun _ _ _ _ _ => (pg_tupk K (n := 2) rfl (pgs_cons (pg_name (i := 5) sc_deed_can_be.nd rfl (Or.inl rfl)) (pgs_cons (pg_name (i := 6) sc_deed_can_be.nd rfl (Or.inl rfl)) pgs_nil)))) (fun _ _ _ _ _ => pts_nil) (fun _ _ _ _ _ => (pe_chain op_le op_lt pe_int (pv 5) (pe_dget (hu_of hr) (pv 1) (pv 6) (fun _ _ => rfl))))) pa_nil))))))), ?_⟩
    refine ⟨_, rfl, a, .str wd, nums.map V.int, rfl, sqT_t ha, by rw [List.length_map]; exact hl, fun p np => ?_⟩
    have s1 : Same H (upd H p (.lst (nums.map V.int))) := same_new np
    have hp1 : (upd H p (.lst (nums.map V.int))) p = some (.lst (nums.map V.int)) := upd_same
    generalize upd H p (.lst (nums.map V.int)) = H1 at s1 hp1
    obtain ⟨es, n, hobj, hlit⟩ := Kd.obj
    refine ⟨dd, rfl, Kd.low, ⟨es, n, hobj, hlit⟩, _, rfl, wd, rfl, ?_⟩
    cases hk : kindsOf wd with
    | none =>
      refine .inr ⟨hmiss hk, ?_⟩
      refine ⟨_, rfl, rfl, _, rfl, iteT (iteT ?_)⟩
      have := q H1 s1
      rw [show deedCan cnt cells ⟨wd, nums⟩ = false by simp [deedCan, hk]] at this
      exact this
    | some ks =>
      obtain ⟨kt, hkd, hkt⟩ := Kd.hit wd ks hk
      have k2 := kinds_len hk
      refine .inl ⟨.ref kt, hkd, ?_⟩
      refine ⟨_, rfl, rfl, _, rfl, iteF ⟨_, rfl, p, _, rfl, .inl (sqL_l hp1), _, rfl, kt, _, rfl, .inr (hkt.sq _), rfl, _, rfl, ite2 (fun e => ?_) (fun e => ?_)⟩⟩
      · have hne : nums.length ≠ ks.length := fun z => by
          simp only [List.length_map, z] at e
          simp at e
        have := q H1 s1
        rw [show deedCan cnt cells ⟨wd, nums⟩ = false by simp only [deedCan, hk]; exact numsCan_len hne] at this
        exact this
      · have heq : nums.length = ks.length := by
          simp only [List.length_map] at e
          simp at e
          omega
        have hc1 := s1 _ _ hc
        refine ⟨_, rfl, _, rfl, p, kt, nums.map V.int, ks.map V.str, rfl, sqL_l hp1, hkt.sq _, fun D nD => ?_⟩
        have pD : p ≠ D := ne_of_none hp1 nD
        refine lc_it (walk_zipM (xs := nums.map V.int) (ys := ks.map V.str) (n := nums.length) (by simp [heq])) (fun i H' => ∃ bs : List Bool, bs.length = i ∧ H' D = some (.lst (bs.map V.bl)) ∧ Same H1 H' ∧
            ∀ (j : Nat) (n : Int) (k : Str), j < i → nums[j]? = some n → ks[j]? = some k → bs[j]? = some (decide (0 ≤ n) && decide (n < cap cnt cells k)))
          ⟨[], rfl, upd_same, same_new nD, fun j _ _ hj => absurd hj (by omega)⟩ (fun i H' _ hp => by obtain ⟨_, _, _, sm, _⟩ := hp; exact ⟨sqL_l (sm _ _ hp1), hkt.sq _⟩) (fun i x H2 H3 hi hp hy => ?_) (fun H2 hp => ?_)
        · obtain ⟨bs, b1, b2, sm, ball⟩ := hp
          obtain ⟨T, v1, v2, rfl, nT, _, e1, e2, s3, hT⟩ := pair_at hy
          obtain ⟨n, hn, rfl⟩ : ∃ n, nums[i]? = some n ∧ V.int n = v1 := by rw [List.getElem?_map] at e1; simpa using e1
          obtain ⟨k, hk2, rfl⟩ : ∃ k, ks[i]? = some k ∧ V.str k = v2 := by rw [List.getElem?_map] at e2; simpa using e2
          have TD : D ≠ T := ne_of_none b2 nT
          have hb3 : H3 D = some (.lst (bs.map V.bl)) := s3 _ _ b2
          have hget : DGet H3 c (.str k) (some (.int (cap cnt cells k))) := counts_at (ks := ks) (s3 _ _ (sm _ _ hc1)) (kinds_known hk k (List.mem_of_getElem? hk2))
          have fin : ∀ r : Bool, r = (decide (0 ≤ n) && decide (n < cap cnt cells k)) → ∃ acc, H3 D = some (.lst acc) ∧ acc.length < sizeLine ∧ ∃ bs : List Bool, bs.length = i + 1 ∧ (upd H3 D (.lst (acc ++ [.bl r]))) D = some (.lst (bs.map V.bl)) ∧ Same H1 (upd H3 D (.lst (acc ++ [.bl r]))) ∧
              ∀ (j : Nat) (n : Int) (k : Str), j < i + 1 → nums[j]? = some n → ks[j]? = some k → bs[j]? = some (decide (0 ≤ n) && decide (n < cap cnt cells k)) := fun r hr => by
            refine ⟨_, hb3, by rw [List.length_map]; exact fits (by omega), bs ++ [r], by simp [b1], by rw [upd_same, List.map_append]; rfl, fun u o hu => ?_, fun j n' k' hj f1 f2 => ?_⟩
            · rw [upd_ne (ne_of_none hu nD)]; exact s3 _ _ (sm _ _ hu)
            · by_cases hji : j < i
              · rw [List.getElem?_append_left (by omega)]
                exact ball j n' k' hji f1 f2
              · have : j = i := by omega
                subst this
                rw [hn] at f1; cases f1
                rw [hk2] at f2; cases f2
                rw [List.getElem?_append_right (by omega), b1, Nat.sub_self, hr]; rfl
          refine ⟨T, _, rfl, sqT_t hT, rfl, _, _, rfl, _, _, rfl, rfl, rfl, ?_⟩
          refine ⟨_, rfl, _, _, rfl, rfl, _, rfl, ?_⟩
          by_cases h0 : (0 : Int) ≤ n
          · rw [decide_eq_true h0]
            refine iteT ⟨_, rfl, _, rfl, c, _, rfl, hget, _, _, rfl, rfl, ?_⟩
            exact fin _ (by rw [decide_eq_true h0]; rfl)
          · rw [decide_eq_false h0]
            exact iteF (fin _ (by rw [decide_eq_false h0]; rfl))
        · obtain ⟨bs, b1, b2, sm, ball⟩ := hp
          refine ⟨D, bs, rfl, sqL_l b2, ?_⟩
          have := q H2 (s1.trans sm)
          rw [show deedCan cnt cells ⟨wd, nums⟩ = bs.all id by
            simp only [deedCan, hk]
            exact (numsCan_all heq bs b1 fun j n k e1 e2 => ball j n k (by have := (List.getElem?_eq_some_iff.mp e1).1; omega) e1 e2).symm] at this
          exact this
theorem starts_take {prog : List RDeed} {i : Nat} {d : RDeed} (h : prog[i]? = some d) : ((prog.take (i + 1)).filter rStart).length = ((prog.take i).filter rStart).length + (if rStart d then 1 else 0) := by
  rw [List.take_add_one, h]
  exact filter_app _ _ _
abbrev st_counts_of_things : Stmt := (topS 18)
abbrev nm_counts_of_things : List Str := ["order_count", "cell_count"]
theorem sc_counts_of_things : FnScope ["order_count", "cell_count"] ["order_count", "cell_count"] (defScope st_counts_of_things) := ⟨rfl, rfl, rfl, by decide +kernel, rfl, by decide +kernel, by decide +kernel⟩
def spCounts : Sp := fun vs H Q _ => ∃ (cnt cells : Int), vs = [.int cnt, .int cells] ∧ ∀ (c : Addr) H', H c = none → H' c = some (.dK (countsK cnt cells)) → Same H H' → Q (.ref c) H'
theorem ok_counts {f : Addr} {fd : FuncData} (F : Fun K "counts_of_things" "counts_of_things" st_counts_of_things f fd) (C : Consts K mg) : FnOk P w K mg base CX0 1 f fd ["order_count", "cell_count"] spCounts := by
  obtain ⟨tN, mc_NUMBERS⟩ := C.numbers
  obtain ⟨tL, mc_LINE⟩ := C.line
  refine F.ok sc_counts_of_things (fun vs H Q E h => ?_) (fun cdv A outer s H vs Q E hr h => ?_)
  · obtain ⟨cnt, cells, rfl, _⟩ := h
    rfl
  · obtain ⟨cnt, cells, rfl, q⟩ := h
    refine ⟨_, (pss_one (ps_ret (pe_disp (pps_cons pe_str (pv 1) (pps_cons pe_str (pe_glob (v := .int 10) rfl mc_NUMBERS ⟨_, rfl⟩) (pps_cons pe_str (pv 0) (pps_cons pe_str (pe_op op_fdiv (pv 1) (pe_glob (v := .int 4) rfl mc_LINE ⟨_, rfl⟩)) pps_nil)))) (by rfl) (by rfl) (fun z => by cases z) (by decide)))), ?_⟩
    refine fun c nc => ?_
    refine ⟨_, rfl, _, rfl, _, rfl, _, _, rfl, rfl, ⟨by decide, by decide⟩, upd_same, countsK cnt cells, rfl, (by show 4 ≤ 15; decide), ?_⟩
    refine q c _ nc ?_ ?_
    · rw [upd_same]; rfl
    · rw [upd_upd]; exact same_new nc
abbrev st_first_wrong_deed : Stmt := (topS 17)
abbrev nm_first_wrong_deed : List Str := ["program", "order_count", "cell_count", "counts", "starts", "at", "deed"]
theorem sc_first_wrong_deed : FnScope ["program", "order_count", "cell_count", "counts", "starts", "at", "deed"] ["program", "order_count", "cell_count"] (defScope st_first_wrong_deed) := ⟨rfl, rfl, rfl, by decide +kernel, rfl, by decide +kernel, by decide +kernel⟩
def spFwDeed (K : PySem.W.Frag) (w : World) (dd : Addr) : Sp := fun vs H Q _ => ∃ (a : Addr) (ps : List V) (prog : List RDeed) (cnt cells : Int), vs = [.ref a, .int cnt, .int cells] ∧ H a = some (.tup ps) ∧ Pds H ps (prog.map RDeed.d) ∧ (∀ d ∈ prog, d.nums.length ≤ 1000) ∧
  (∀ d ∈ prog, kindsOf d.word = none → KMiss K w dd d.word) ∧ ∀ H', Same H H' → Q (oV (fwDeed prog cnt cells)) H'
theorem ok_fwdeed {f dd : Addr} {fd : FuncData} (F : Fun K "first_wrong_deed" "first_wrong_deed" st_first_wrong_deed f fd) (C : Consts K mg) (c_deed_can_be : Callee P w K mg base "deed_can_be" 1 2 (spDeedCan K w dd)) (c_counts_of_things : Callee P w K mg base "counts_of_things" 1 2 spCounts) (z_enumerate : mg "enumerate" = none) :
    FnOk P w K mg base CX0 2 f fd ["program", "order_count", "cell_count"] (spFwDeed K w dd) := by
  obtain ⟨tN, mc_NUMBERS⟩ := C.numbers
  obtain ⟨tL, mc_LINE⟩ := C.line
  obtain ⟨tD, mc_MOST_DEEDS⟩ := C.deeds
  obtain ⟨tS, mc_MOST_STARTS⟩ := C.starts
  refine F.ok sc_first_wrong_deed (fun vs H Q E h => ?_) (fun cdv A outer s H vs Q E hr h => ?_)
  · obtain ⟨a, ps, prog, cnt, cells, rfl, _⟩ := h
    rfl
  · obtain ⟨a, ps, prog, cnt, cells, rfl, ha, hs, hnum, hmiss, q⟩ := h
    have plen : ps.length = prog.length := by rw [hs.len, List.length_map]
    refine ⟨_, (pss_cons (ps_set (i := 3) sc_first_wrong_deed.nd rfl (Or.inl rfl) (pe_cal c_counts_of_things hr (by first | decide | exact Nat.le_refl _) (pa_cons (pv 1) (pa_cons (pv 2) pa_nil))))
  (pss_cons (ps_set (i := 4) sc_first_wrong_deed.nd rfl (Or.inl rfl) pe_int)
  (pss_cons (ps_for PassesOwn.never rfl (pi_enumT (by rfl) z_enumerate (pa_cons (pv 0) pa_nil)) (pg_tup rfl (pgs_cons (pg_name (i := 5) sc_first_wrong_deed.nd rfl (Or.inl rfl)) (pgs_cons (pg_name (i := 6) sc_first_wrong_deed.nd rfl (Or.inl rfl)) pgs_nil)))
  (pss_cons (ps_if (PW.pt (pw_or (pt_cmpR op_eq (pv 5) (pe_glob (v := .int 60) rfl mc_MOST_DEEDS ⟨_, rfl⟩) (nomark _)) (pw_or1 (pt_not (pt_val (pe_cal c_deed_can_be hr (by first | decide | exact Nat.le_refl _) (pa_cons (pv 6) (pa_cons (pv 3) pa_nil)))))))) (pss_one (ps_ret (pv 5))) pss_nil)
  (pss_cut (ps_if (pt_cmpR op_eq (pe_ix ix_lt (pv 6) pe_int (fun _ _ => rfl)) pe_str (nomark _)) (pss_one (ps_aug (i := 4) sc_first_wrong_deed.nd rfl (Or.inl rfl) pe_int ip_add)) pss_nil)
  (pss_one (ps_if (pt_cmpR op_gt (pv 4) (pe_glob (v := .int 3) rfl mc_MOST_STARTS ⟨_, rfl⟩) (nomark _)) (pss_one (ps_ret (pv 5))) pss_nil)))))
  (pss_one (ps_ret pe_non))))), ?_⟩
    -- counts
    refine ⟨_, rfl, _, rfl, cnt, cells, rfl, fun c H1 nc hc1 s1 => ?_⟩
    refine ⟨_, rfl, a, rfl, .inr ⟨_, sqT_t (s1 _ _ ha), ?_⟩⟩
    refine for_it (walk_enumT (xs := ps)) (fun i σ H' => ∃ y1 y2, σ = [some (.ref a), some (.int cnt), some (.int cells), some (.ref c), some (.int (((prog.take i).filter rStart).length : Nat)), y1, y2] ∧ Same H1 H' ∧
        ∀ (j : Nat) (d : RDeed), j < i → prog[j]? = some d → badDeed prog cnt cells j d = false)
      ⟨_, _, rfl, Same.refl _, fun j n hj => absurd hj (by omega)⟩ (fun i σ H' _ hp => by obtain ⟨_, _, _, sm, _⟩ := hp; exact sqT_t ((s1.trans sm) _ _ ha)) (fun i x σ H2 H3 hi hp hy => ?_) (fun σ H2 hp => ?_)
    · obtain ⟨y1, y2, rfl, sm, hall⟩ := hp
      obtain ⟨T, a1, b, rfl, nT, _, h1, hb, s2, hT⟩ := pair_at hy
      cases h1
      obtain ⟨dx, hd, hpd⟩ := hs.get' hb
      rw [List.getElem?_map] at hd
      obtain ⟨d, ho, rfl⟩ : ∃ d, prog[i]? = some d ∧ d.d = dx := by simpa using hd
      have hmem : d ∈ prog := List.mem_of_getElem? ho
      have s13 : Same H H3 := (s1.trans sm).trans s2
      obtain ⟨oa, rfl, hoa⟩ := RDeed.of (hpd.same s13)
      have ret : ∀ H', Same H3 H' → badDeed prog cnt cells i d = true → Q (nV i) H' := fun H' s4 hb => by
        have := q H' (s13.trans s4)
        rw [fwDeed, fst_some (i := i) ho (by rw [Nat.zero_add]; exact hb) fun j y hj ej => by rw [Nat.zero_add]; exact hall j y hj ej, Nat.zero_add] at this
        exact this
      refine ⟨T, _, rfl, sqT_t hT, rfl, _, _, rfl, _, _, rfl, rfl, ?_⟩
      refine ⟨_, rfl, rfl, _, rfl, ite2 (fun e => iteT ?_) (fun e => ?_)⟩
      · have e4 : (i : Int) = 60 := by injection of_decide_eq_true e
        have e4' : i = 60 := by omega
        exact ⟨_, rfl, ret H3 (Same.refl _) (by simp [badDeed, e4'])⟩
      · have n4 : ¬ i = 60 := fun z => e (by rw [z]; rfl)
        refine ⟨_, rfl, _, rfl, oa, c, d, cnt, cells, rfl, hoa, hnum d hmem, (sm.trans s2) _ _ hc1, hmiss d hmem, fun H4 s4 => ⟨_, rfl, ite2 (fun e => ⟨_, rfl, ret H4 s4 ?_⟩) (fun e => ?_)⟩⟩
        · simp only [badDeed, e, Bool.or_true, Bool.true_or]
        have can : deedCan cnt cells d = true := by simpa using e
        -- if deed[0] == "start": starts += 1
        refine ⟨fun σ' H' => σ' = [some (.ref a), some (.int cnt), some (.int cells), some (.ref c), some (.int (((prog.take (i + 1)).filter rStart).length : Nat)), some (.int (i : Nat)), some (.ref oa)] ∧ H' = H4, ?_, fun σ' H' hM => ?_⟩
        · refine ⟨_, rfl, oa, _, 0, .str d.word, rfl, rfl, sqA_t (s4 _ _ hoa), at0, rfl, _, rfl, ite2 (fun e => ?_) (fun e => ?_)⟩
          · have ew : d.word = "start" := by injection of_decide_eq_true e
            refine ⟨_, rfl, _, _, rfl, rfl, ?_, rfl⟩
            rw [starts_take ho, if_pos (by simp [rStart, ew])]
            rfl
          · have ew : ¬ d.word = "start" := fun z => e (by rw [z]; exact decide_eq_true rfl)
            refine ⟨?_, rfl⟩
            rw [starts_take ho, if_neg (by simp [rStart, ew])]
            rfl
        · obtain ⟨rfl, rfl⟩ := hM
          refine ⟨_, rfl, _, _, rfl, rfl, _, rfl, ite2 (fun e => ⟨_, rfl, ret _ s4 ?_⟩) (fun e => ?_)⟩
          · have h3 : 3 < ((prog.take (i + 1)).filter rStart).length := by have := of_decide_eq_true e; omega
            simp only [badDeed, decide_eq_true h3, Bool.or_true]
          · have h3 : ¬ 3 < ((prog.take (i + 1)).filter rStart).length := fun z => e (decide_eq_true (by omega))
            refine ⟨_, _, rfl, (sm.trans s2).trans s4, fun j y hj ej => ?_⟩
            by_cases hji : j < i
            · exact hall j y hji ej
            · have : j = i := by omega
              subst this
              rw [ho] at ej; cases ej
              simp only [badDeed, can, decide_eq_false n4, decide_eq_false h3]; rfl
    · obtain ⟨y1, y2, rfl, sm, hall⟩ := hp
      have := q H2 (s1.trans sm)
      rw [fwDeed, fst_none fun i x e => by
        rw [Nat.zero_add]
        exact hall i x (by have := (List.getElem?_eq_some_iff.mp e).1; omega) e] at this
      exact this
end
end Vt
namespace Vt
open PySem PySem.Spec PyProof.Rows L2
/-! ### boards that can be -/
theorem kinds_deed (d : Deed) : ∃ ks, kindsOf d.word = some ks ∧ ks.length = d.args.length := by
  cases d
  · exact ⟨["cell", "number"], rfl, rfl⟩
  · exact ⟨["cell", "cell"], rfl, rfl⟩
  · exact ⟨["cell"], rfl, rfl⟩
  · exact ⟨["order"], rfl, rfl⟩
  · exact ⟨[], rfl, rfl⟩
  · exact ⟨["line"], rfl, rfl⟩
  · exact ⟨["line"], rfl, rfl⟩
theorem can_deed {d : Deed} {cnt cells : Nat} (h : DeedOk d cnt cells) : deedCan cnt cells d.raw = true := by
  have c1 : ∀ a b : Int, cap a b "cell" = b := fun _ _ => rfl
  have c2 : ∀ a b : Int, cap a b "number" = 10 := fun _ _ => rfl
  have c3 : ∀ a b : Int, cap a b "order" = a := fun _ _ => rfl
  have c4 : ∀ a b : Int, cap a b "line" = b / 4 := fun _ _ => rfl
  cases d with
  | set c n =>
    obtain ⟨h1, h2⟩ := h
    have e : kindsOf "set" = (some ["cell", "number"] : Option (List Str)) := by decide
    simp only [deedCan, Deed.raw, Deed.word, Deed.args, e, List.map_cons, List.map_nil, numsCan, c1, c2, Bool.and_true, Bool.and_eq_true, decide_eq_true_eq]
    omega
  | add c n =>
    obtain ⟨h1, h2⟩ := h
    have e : kindsOf "add" = (some ["cell", "cell"] : Option (List Str)) := by decide
    simp only [deedCan, Deed.raw, Deed.word, Deed.args, e, List.map_cons, List.map_nil, numsCan, c1, c2, Bool.and_true, Bool.and_eq_true, decide_eq_true_eq]
    omega
  | say c =>
    have h1 : c < cells := h
    have e : kindsOf "say" = (some ["cell"] : Option (List Str)) := by decide
    simp only [deedCan, Deed.raw, Deed.word, Deed.args, e, List.map_cons, List.map_nil, numsCan, c1, c2, Bool.and_true, Bool.and_eq_true, decide_eq_true_eq]
    omega
  | start c =>
    have h1 : c < cnt := h
    have e : kindsOf "start" = (some ["order"] : Option (List Str)) := by decide
    simp only [deedCan, Deed.raw, Deed.word, Deed.args, e, List.map_cons, List.map_nil, numsCan, c3, Bool.and_true, Bool.and_eq_true, decide_eq_true_eq]
    omega
  | wait =>
    have e : kindsOf "wait" = (some [] : Option (List Str)) := by decide
    simp only [deedCan, Deed.raw, Deed.word, Deed.args, e, List.map_nil, numsCan]
  | clean c =>
    have h1 : c < cells / 4 := h
    have e : kindsOf "clean" = (some ["line"] : Option (List Str)) := by decide
    simp only [deedCan, Deed.raw, Deed.word, Deed.args, e, List.map_cons, List.map_nil, numsCan, c4, Bool.and_true, Bool.and_eq_true, decide_eq_true_eq]
    omega
  | drop c =>
    have h1 : c < cells / 4 := h
    have e : kindsOf "drop" = (some ["line"] : Option (List Str)) := by decide
    simp only [deedCan, Deed.raw, Deed.word, Deed.args, e, List.map_cons, List.map_nil, numsCan, c4, Bool.and_true, Bool.and_eq_true, decide_eq_true_eq]
    omega
theorem can_ord {o : Ord} {at_ cnt cells : Nat} (h : OrdOk o at_ cnt cells) : ordCan cnt cells at_ o.raw = true := by
  obtain ⟨h1, h2, h3, h4, h5⟩ := h
  have hl : laterCan cnt at_ o.raw.later = true := by
    obtain ⟨s, g, m, l⟩ := o
    cases l with
    | none => rfl
    | some k =>
      have := h5 k rfl
      show (decide ((at_ : Int) < (k : Int)) && decide ((k : Int) < (cnt : Int))) = true
      rw [Bool.and_eq_true, decide_eq_true_eq, decide_eq_true_eq]
      omega
  simp only [ordCan, hl, Bool.and_true, Bool.and_eq_true, decide_eq_true_eq]
  simp only [Ord.raw]
  refine ⟨⟨⟨⟨⟨?_, ?_⟩, ?_⟩, ?_⟩, ?_⟩, ?_⟩ <;> omega
theorem ok_mem {B : Brd} (h : BrdOk B) : fwCell B.raw.mem = none := by
  have hl : B.raw.mem.length = B.mem.length := by simp [Brd.raw]
  rw [fwCell, if_pos (by rw [hl]; exact h.cells)]
  refine fst_none fun i x e => ?_
  obtain ⟨n, hn, rfl⟩ : ∃ n, B.mem[i]? = some n ∧ (n : Int) = x := by
    simp only [Brd.raw, List.getElem?_map] at e
    simpa using e
  have := h.nums n (List.mem_of_getElem? hn)
  simp [badNum]; omega
theorem ok_ords {B : Brd} (h : BrdOk B) : fwOrd B.raw.ords B.mem.length = none := by
  refine fst_none fun i x e => ?_
  obtain ⟨o, ho, rfl⟩ : ∃ o, B.ords[i]? = some o ∧ o.raw = x := by
    simp only [Brd.raw, List.getElem?_map] at e
    simpa using e
  have hl : B.raw.ords.length = B.ords.length := by simp [Brd.raw]
  have hi : i < B.ords.length := (List.getElem?_eq_some_iff.mp ho).1
  have := h.four
  rw [Nat.zero_add, badOrd, hl, can_ord (h.ords i o ho)]
  simp; omega
theorem rstart_raw (d : Deed) : rStart d.raw = isStart d := by
  have := word_start d
  simp only [rStart, Deed.raw]
  cases h : isStart d with
  | true => exact decide_eq_true (this.mpr h)
  | false => exact decide_eq_false fun z => by rw [this.mp z] at h; cases h
theorem ok_prog {B : Brd} (h : BrdOk B) : fwDeed B.raw.prog B.ords.length B.mem.length = none := by
  refine fst_none fun i x e => ?_
  obtain ⟨d, hd, rfl⟩ : ∃ d, B.prog[i]? = some d ∧ d.raw = x := by
    simp only [Brd.raw, List.getElem?_map] at e
    simpa using e
  have hi : i < B.prog.length := (List.getElem?_eq_some_iff.mp hd).1
  have h60 := h.sixty
  have hs : ((B.raw.prog.take (i + 1)).filter rStart).length ≤ 3 := by
    have e1 : (B.raw.prog.take (i + 1)).filter rStart = ((B.prog.take (i + 1)).filter isStart).map Deed.raw := by
      simp only [Brd.raw, ← List.map_take, List.filter_map]
      congr 1
      exact List.filter_congr fun d _ => rstart_raw d
    rw [e1, List.length_map]
    exact Nat.le_trans (List.Sublist.length_le ((List.take_sublist _ _).filter _)) h.starts
  rw [Nat.zero_add, badDeed, can_deed (h.prog d (List.mem_of_getElem? hd)), decide_eq_false (show ¬ i = 60 by omega), decide_eq_false (show ¬ 3 < _ by omega)]
  rfl
section
variable {P : Program} {w : World} {K : PySem.W.Frag} {mg : Str → Option Value} {base : Heap}
abbrev st_require_board : Stmt := (topS 13)
abbrev nm_require_board : List Str := ["board", "memory", "orders", "program", "wrong"]
theorem sc_require_board : FnScope ["board", "memory", "orders", "program", "wrong"] ["board"] (defScope st_require_board) := ⟨rfl, rfl, rfl, by decide +kernel, rfl, by decide +kernel, by decide +kernel⟩
/-- a board that can be is let through -/
def spReq : Sp := fun vs H Q _ => ∃ (v : V) (B : Brd), vs = [v] ∧ Pd H v B.d ∧ BrdOk B ∧ ∀ H', Same H H' → Q .non H'
theorem ok_req {f dd : Addr} {fd : FuncData} (F : Fun K "require_board" "require_board" st_require_board f fd) (c_first_wrong_cell : Callee P w K mg base "first_wrong_cell" 1 1 spFwCell) (c_first_wrong_order : Callee P w K mg base "first_wrong_order" 2 2 spFwOrd)
    (c_first_wrong_deed : Callee P w K mg base "first_wrong_deed" 2 3 (spFwDeed K w dd)) (z_len : mg "len" = none) : FnOk P w K mg base CX0 3 f fd ["board"] spReq := by
  refine F.ok sc_require_board (fun vs H Q E h => ?_) (fun cdv A outer s H vs Q E hr h => ?_)
  · obtain ⟨v, B, rfl, _⟩ := h
    rfl
  · obtain ⟨v, B, rfl, hB, ok, q⟩ := h
    rw [← raw_brd] at hB
    obtain ⟨a, m, o, p, os, ps, rfl, ha, hm, ho, hos, hp, hps⟩ := RBrd.of hB
    refine ⟨_, (pss_cons (ps_asg (pv 0) (pg_tup rfl (pgs_cons (pg_name (i := 1) sc_require_board.nd rfl (Or.inl rfl)) (pgs_cons (pg_name (i := 2) sc_require_board.nd rfl (Or.inl rfl)) (pgs_cons (pg_name (i := 3) sc_require_board.nd rfl (Or.inl rfl)) pgs_nil)))))
  (pss_cons (ps_set (i := 4) sc_require_board.nd rfl (Or.inl rfl) (pe_cal c_first_wrong_cell hr (by first | decide | exact Nat.le_refl _) (pa_cons (pv 1) pa_nil)))
  (pss_cons (ps_if (pt_cmpR op_notN (pv 4) pe_non (nomark _)) (pss_one ps_never) pss_nil)
  (pss_cons (ps_set (i := 4) sc_require_board.nd rfl (Or.inl rfl) (pe_cal c_first_wrong_order hr (by first | decide | exact Nat.le_refl _) (pa_cons (pv 2) (pa_cons (pe_callB call_len_seq (by rfl) z_len (by decide +kernel) (pa_cons (pv 1) pa_nil)) pa_nil))))
  (pss_cons (ps_if (pt_cmpR op_notN (pv 4) pe_non (nomark _)) (pss_one ps_never) pss_nil)
  (pss_cons (ps_set (i := 4) sc_require_board.nd rfl (Or.inl rfl) (pe_cal c_first_wrong_deed hr (by first | decide | exact Nat.le_refl _) (pa_cons (pv 3) (pa_cons (pe_callB call_len_seq (by rfl) z_len (by decide +kernel) (pa_cons (pv 2) pa_nil)) (pa_cons (pe_callB call_len_seq (by rfl) z_len (by decide +kernel) (pa_cons (pv 1) pa_nil)) pa_nil)))))
  (pss_one (ps_if (pt_cmpR op_notN (pv 4) pe_non (nomark _)) (pss_one ps_never) pss_nil)))))))), ?_⟩
    refine ⟨_, rfl, a, _, rfl, sqT_t ha, rfl, _, _, rfl, _, _, rfl, _, _, rfl, rfl, ?_⟩
    have ml : (B.raw.mem.map V.int).length = B.mem.length := by simp [Brd.raw]
    have ol : os.length = B.ords.length := by rw [hos.len]; simp [Brd.raw]
    refine ⟨_, rfl, m, _, rfl, hm, fun H1 s1 => ?_⟩
    rw [ok_mem ok]
    refine ⟨_, rfl, rfl, _, rfl, iteF ?_⟩
    refine ⟨_, rfl, _, rfl, m, _, rfl, .inr (sqT_t (s1 _ _ hm)), o, os, B.raw.ords, _, rfl, s1 _ _ ho, hos.same s1, fun H2 s2 => ?_⟩
    rw [show fwOrd B.raw.ords ((B.raw.mem.map V.int).length : Nat) = none by rw [ml]; exact ok_ords ok]
    refine ⟨_, rfl, rfl, _, rfl, iteF ?_⟩
    have s12 := s1.trans s2
    refine ⟨_, rfl, _, rfl, o, _, rfl, .inr (sqT_t (s12 _ _ ho)), _, rfl, m, _, rfl, .inr (sqT_t (s12 _ _ hm)), p, ps, B.raw.prog, _, _, rfl, s12 _ _ hp, hps.same s12, fun d hd => ?_, fun d hd hk => ?_, fun H3 s3 => ?_⟩
    · obtain ⟨d0, _, rfl⟩ := List.mem_map.mp hd
      have : d0.raw.nums.length = d0.args.length := by simp [Deed.raw]
      rw [this]
      cases d0 <;> simp [Deed.args]
    · obtain ⟨d0, _, rfl⟩ := List.mem_map.mp hd
      obtain ⟨ks, e, _⟩ := kinds_deed d0
      rw [show d0.raw.word = d0.word from rfl, e] at hk; cases hk
    rw [show fwDeed B.raw.prog (os.length : Nat) ((B.raw.mem.map V.int).length : Nat) = none by rw [ml, ol]; exact ok_prog ok]
    exact ⟨_, rfl, rfl, _, rfl, iteF (q H3 (s12.trans s3))⟩
end
end Vt
namespace Vt
open PySem PySem.Spec PyProof.Rows L2
/-! ### data that is alike -/
mutual
def D.sm : D → Bool
  | .lst ds => decide (ds.length ≤ 100000) && smAll ds
  | .tup ds => decide (ds.length ≤ 100000) && smAll ds
  | _ => true
def smAll : List D → Bool
  | [] => true
  | d :: ds => d.sm && smAll ds
end
theorem sm_get : ∀ {ds : List D} {i : Nat} {d : D}, smAll ds = true → ds[i]? = some d → d.sm = true
  | [], _, _, _, e => by simp at e
  | x :: r, 0, d, h, e => by
    simp only [List.getElem?_cons_zero, Option.some.injEq] at e
    rw [smAll, Bool.and_eq_true] at h
    subst e; exact h.1
  | x :: r, i + 1, d, h, e => by
    rw [smAll, Bool.and_eq_true] at h
    exact sm_get (ds := r) (i := i) h.2 (by simpa using e)
theorem sm_map {α : Type} {f : α → D} (h : ∀ x, (f x).sm = true) : ∀ xs : List α, smAll (xs.map f) = true
  | [] => by rw [List.map_nil, smAll]
  | x :: r => by rw [List.map_cons, smAll, h x, sm_map h r]; rfl
theorem sm_nD (n : Nat) : (nD n).sm = true := by simp [nD, D.sm]
end Vt
namespace Vt
open PySem PySem.Spec PyProof.Rows L2
section
variable {P : Program} {w : World} {K : PySem.W.Frag} {mg : Str → Option Value} {base : Heap}
abbrev st_law_alike : Stmt := (topS 33)
abbrev nm_law_alike : List Str := ["_law_found", "_law_due", "_law_k"]
theorem sc_law_alike : FnScope ["_law_found", "_law_due", "_law_k"] ["_law_found", "_law_due"] (defScope st_law_alike) := ⟨rfl, rfl, rfl, by decide +kernel, rfl, by decide +kernel, by decide +kernel⟩
def spAlike (n : Nat) : Sp := fun vs H Q _ => ∃ (u v : V) (d : D), vs = [u, v] ∧ Pd H u d ∧ Pd H v d ∧ d.dep < n ∧ d.sm = true ∧ Q (.bl true) H
/-- the alike of tuples or lists, from their lengths on -/
theorem alike_go {f : Addr} {fd : FuncData} (F : Fun K "_law_alike" "_law_alike" st_law_alike f fd) (n : Nat) (c_law_alike : Callee P w K mg base "_law_alike" n 2 (spAlike n)) (z_len : mg "len" = none) (z_range : mg "range" = none) (z_isinstance : mg "isinstance" = none)
    (z_bool : mg "bool" = none) (z_int : mg "int" = none) (z_str : mg "str" = none) (z_tuple : mg "tuple" = none) (z_list : mg "list" = none) : FnOk P w K mg base CX0 (n + 1) f fd ["_law_found", "_law_due"] (spAlike (n + 1)) := by
  refine F.ok sc_law_alike (fun vs H Q E h => ?_) (fun cdv A outer s H vs Q E hr h => ?_)
  · obtain ⟨u, v, d, rfl, _⟩ := h
    rfl
  · obtain ⟨u, v, d, rfl, hu, hv, hd, hs, q⟩ := h
    refine ⟨_, (pss_cons (ps_if (pt_cmpR op_isN (pv 1) pe_non (nomark _)) (pss_one (ps_ret (pe_cmpR op_isN (pv 0) pe_non (nomark _)))) pss_nil)
  (pss_cons (ps_if (pt_val (pe_callB call_isi (by rfl) z_isinstance (by decide +kernel) (pa_cons (pv 1) (pa_cons (pe_bltn (v := .ty "bool") rfl z_bool (by decide +kernel) rfl) pa_nil)))) (pss_one (ps_ret (pe_and (pe_callB call_isi (by rfl) z_isinstance (by decide +kernel) (pa_cons (pv 0) (pa_cons (pe_bltn (v := .ty "bool") rfl z_bool (by decide +kernel) rfl) pa_nil))) (pe_one (pe_cmpR op_eq (pv 0) (pv 1) (nomark _)))))) pss_nil)
  (pss_cons (ps_if (pt_val (pe_callB call_isi (by rfl) z_isinstance (by decide +kernel) (pa_cons (pv 1) (pa_cons (pe_bltn (v := .ty "int") rfl z_int (by decide +kernel) rfl) pa_nil)))) (pss_one (ps_ret (pe_and (pe_callB call_isi (by rfl) z_isinstance (by decide +kernel) (pa_cons (pv 0) (pa_cons (pe_bltn (v := .ty "int") rfl z_int (by decide +kernel) rfl) pa_nil))) (pe_and (pe_not (pe_callB call_isi (by rfl) z_isinstance (by decide +kernel) (pa_cons (pv 0) (pa_cons (pe_bltn (v := .ty "bool") rfl z_bool (by decide +kernel) rfl) pa_nil)))) (pe_one (pe_cmpR op_eq (pv 0) (pv 1) (nomark _))))))) pss_nil)
  (pss_cons (ps_if (pt_val (pe_callB call_isi (by rfl) z_isinstance (by decide +kernel) (pa_cons (pv 1) (pa_cons (pe_bltn (v := .ty "str") rfl z_str (by decide +kernel) rfl) pa_nil)))) (pss_one (ps_ret (pe_and (pe_callB call_isi (by rfl) z_isinstance (by decide +kernel) (pa_cons (pv 0) (pa_cons (pe_bltn (v := .ty "str") rfl z_str (by decide +kernel) rfl) pa_nil))) (pe_one (pe_cmpR op_eq (pv 0) (pv 1) (nomark _)))))) pss_nil)
  (pss_cons (ps_if (PW.pt (pw_or (pt_cmpR op_ne (pe_callB call_isi (by rfl) z_isinstance (by decide +kernel) (pa_cons (pv 1) (pa_cons (pe_bltn (v := .ty "tuple") rfl z_tuple (by decide +kernel) rfl) pa_nil))) (pe_callB call_isi (by rfl) z_isinstance (by decide +kernel) (pa_cons (pv 0) (pa_cons (pe_bltn (v := .ty "tuple") rfl z_tuple (by decide +kernel) rfl) pa_nil))) (nomark _)) (pw_or1 (pt_cmpR op_ne (pe_callB call_isi (by rfl) z_isinstance (by decide +kernel) (pa_cons (pv 1) (pa_cons (pe_bltn (v := .ty "list") rfl z_list (by decide +kernel) rfl) pa_nil))) (pe_callB call_isi (by rfl) z_isinstance (by decide +kernel) (pa_cons (pv 0) (pa_cons (pe_bltn (v := .ty "list") rfl z_list (by decide +kernel) rfl) pa_nil))) (nomark _))))) (pss_one (ps_ret pe_bl)) pss_nil)
  (pss_cons (ps_if (pt_cmpR op_ne (pe_callB call_len_seq (by rfl) z_len (by decide +kernel) (pa_cons (pv 0) pa_nil)) (pe_callB call_len_seq (by rfl) z_len (by decide +kernel) (pa_cons (pv 1) pa_nil)) (nomark _)) (pss_one (ps_ret pe_bl)) pss_nil)
  (pss_cons (ps_for PassesOwn.never rfl (pi_range1 (by rfl) z_range (pa_cons (pe_callB call_len_seq (by rfl) z_len (by decide +kernel) (pa_cons (pv 1) pa_nil)) pa_nil)) (pg_name (i := 2) sc_law_alike.nd rfl (Or.inl rfl))
  (pss_one (ps_if (pt_not (pt_val (pe_cal c_law_alike hr (by first | decide | exact Nat.le_refl _) (pa_cons (pe_ix ix_lt (pv 0) (pv 2) (fun _ _ => rfl)) (pa_cons (pe_ix ix_lt (pv 1) (pv 2) (fun _ _ => rfl)) pa_nil))))) (pss_one (ps_ret pe_bl)) pss_nil)))
  (pss_one (ps_ret pe_bl))))))))), ?_⟩
    cases d with
    | non =>
      cases hu; cases hv
      exact ⟨_, rfl, rfl, _, rfl, iteT ⟨_, rfl, rfl, q⟩⟩
    | bl b =>
      cases hu; cases hv
      refine ⟨_, rfl, rfl, _, rfl, iteF ?_⟩
      refine ⟨_, rfl, _, _, .type "bool", _, true, rfl, .ty _, .base (.bl b), kit_ty (by decide +kernel), _, rfl, iteT ?_⟩
      refine ⟨_, rfl, _, _, .type "bool", _, true, rfl, .ty _, .base (.bl b), kit_ty (by decide +kernel), _, rfl, iteT ?_⟩
      refine ⟨_, rfl, _, rfl, rfl, ?_⟩
      rw [decide_eq_true rfl]; exact q
    | int i =>
      cases hu; cases hv
      refine ⟨_, rfl, rfl, _, rfl, iteF ?_⟩
      refine ⟨_, rfl, _, _, .type "int", _, false, rfl, .ty _, .base (.int i), kit_ty (by decide +kernel), _, rfl, iteF ?_⟩
      refine ⟨_, rfl, _, _, .type "int", _, true, rfl, .ty _, .base (.int i), kit_ty (by decide +kernel), _, rfl, iteT ?_⟩
      refine ⟨_, rfl, _, _, .type "int", _, true, rfl, .ty _, .base (.int i), kit_ty (by decide +kernel), _, rfl, iteT ?_⟩
      refine ⟨_, rfl, _, _, .type "int", _, false, rfl, .ty _, .base (.int i), kit_ty (by decide +kernel), _, rfl, _, rfl, iteT ?_⟩
      refine ⟨_, rfl, _, rfl, rfl, ?_⟩
      rw [decide_eq_true rfl]; exact q
    | str x =>
      cases hu; cases hv
      refine ⟨_, rfl, rfl, _, rfl, iteF ?_⟩
      refine ⟨_, rfl, _, _, .type "str", _, false, rfl, .ty _, .base (.str x), kit_ty (by decide +kernel), _, rfl, iteF ?_⟩
      refine ⟨_, rfl, _, _, .type "str", _, false, rfl, .ty _, .base (.str x), kit_ty (by decide +kernel), _, rfl, iteF ?_⟩
      refine ⟨_, rfl, _, _, .type "str", _, true, rfl, .ty _, .base (.str x), kit_ty (by decide +kernel), _, rfl, iteT ?_⟩
      refine ⟨_, rfl, _, _, .type "str", _, true, rfl, .ty _, .base (.str x), kit_ty (by decide +kernel), _, rfl, iteT ?_⟩
      refine ⟨_, rfl, _, rfl, rfl, ?_⟩
      rw [decide_eq_true rfl]; exact q
    | tup ds =>
      simp only [D.sm, Bool.and_eq_true, decide_eq_true_eq] at hs
      rw [D.dep] at hd
      cases hu with
      | tup ha hxs =>
        cases hv with
        | tup hb hys =>
          rename_i a xs b ys
          refine ⟨_, rfl, rfl, _, rfl, iteF ?_⟩
          refine ⟨_, rfl, _, _, .type "tuple", _, false, rfl, .ty _, .base (.tup hb), kit_ty (by decide +kernel), _, rfl, iteF ?_⟩
          refine ⟨_, rfl, _, _, .type "tuple", _, false, rfl, .ty _, .base (.tup hb), kit_ty (by decide +kernel), _, rfl, iteF ?_⟩
          refine ⟨_, rfl, _, _, .type "tuple", _, false, rfl, .ty _, .base (.tup hb), kit_ty (by decide +kernel), _, rfl, iteF ?_⟩
          refine ⟨_, rfl, _, _, .type "tuple", _, true, rfl, .ty _, .base (.tup hb), kit_ty (by decide +kernel), _, rfl, _, _, .type "tuple", _, true, rfl, .ty _, .base (.tup ha), kit_ty (by decide +kernel), rfl, _, rfl, iteF ?_⟩
          refine ⟨_, rfl, _, _, .type "tuple", _, false, rfl, .ty _, .base (.tup hb), kit_ty (by decide +kernel), _, rfl, _, _, .type "tuple", _, false, rfl, .ty _, .base (.tup ha), kit_ty (by decide +kernel), rfl, _, rfl, iteF ?_⟩
          refine ⟨_, rfl, a, _, rfl, .inr (sqT_t ha), _, rfl, b, _, rfl, .inr (sqT_t hb), rfl, _, rfl, ite2 (fun e => ?_) (fun _ => ?_)⟩
          · rw [hxs.len, hys.len] at e
            simp at e
          · refine ⟨_, rfl, b, _, rfl, .inr (sqT_t hb), _, rfl, by omega, by have := hys.len; omega, ?_⟩
            refine for_it (walk_range (lo := 0) (n := (ys.length : Int).toNat)) (fun i σ H' => ∃ y, σ = [some (.ref a), some (.ref b), y] ∧ H' = H) ⟨_, rfl, rfl⟩ (fun _ _ _ _ _ => trivial) (fun i x σ H1 H2 hi hp hy => ?_) (fun σ H1 hp => ?_)
            · obtain ⟨y, rfl, rfl⟩ := hp
              obtain ⟨rfl, rfl⟩ := hy
              have hi' : i < ys.length := by simpa using hi
              obtain ⟨d, hd1, py⟩ := hys.get' (List.getElem?_eq_getElem hi')
              obtain ⟨x, hx, px⟩ := hxs.get hd1
              have e0 : ((0 : Int) + (i : Int)) = (i : Nat) := by omega
              refine ⟨_, rfl, _, rfl, a, xs, (0 + (i : Int)), x, rfl, rfl, sqA_t ha, by rw [e0]; exact atI_nat hx, _, rfl, _, rfl, b, ys, (0 + (i : Int)), _, rfl, rfl, sqA_t hb, by rw [e0]; exact atI_nat (List.getElem?_eq_getElem hi'), ?_⟩
              refine ⟨_, _, d, rfl, px, py, by have := deps_get hd1; omega, sm_get hs.2 hd1, _, rfl, iteF ?_⟩
              exact ⟨_, rfl, rfl⟩
            · obtain ⟨y, rfl, rfl⟩ := hp
              exact q
    | lst ds =>
      simp only [D.sm, Bool.and_eq_true, decide_eq_true_eq] at hs
      rw [D.dep] at hd
      cases hu with
      | lst ha hxs =>
        cases hv with
        | lst hb hys =>
          rename_i a xs b ys
          refine ⟨_, rfl, rfl, _, rfl, iteF ?_⟩
          refine ⟨_, rfl, _, _, .type "list", _, false, rfl, .ty _, .base (.lst hb), kit_ty (by decide +kernel), _, rfl, iteF ?_⟩
          refine ⟨_, rfl, _, _, .type "list", _, false, rfl, .ty _, .base (.lst hb), kit_ty (by decide +kernel), _, rfl, iteF ?_⟩
          refine ⟨_, rfl, _, _, .type "list", _, false, rfl, .ty _, .base (.lst hb), kit_ty (by decide +kernel), _, rfl, iteF ?_⟩
          refine ⟨_, rfl, _, _, .type "list", _, false, rfl, .ty _, .base (.lst hb), kit_ty (by decide +kernel), _, rfl, _, _, .type "list", _, false, rfl, .ty _, .base (.lst ha), kit_ty (by decide +kernel), rfl, _, rfl, iteF ?_⟩
          refine ⟨_, rfl, _, _, .type "list", _, true, rfl, .ty _, .base (.lst hb), kit_ty (by decide +kernel), _, rfl, _, _, .type "list", _, true, rfl, .ty _, .base (.lst ha), kit_ty (by decide +kernel), rfl, _, rfl, iteF ?_⟩
          refine ⟨_, rfl, a, _, rfl, .inl (sqL_l ha), _, rfl, b, _, rfl, .inl (sqL_l hb), rfl, _, rfl, ite2 (fun e => ?_) (fun _ => ?_)⟩
          · rw [hxs.len, hys.len] at e
            simp at e
          · refine ⟨_, rfl, b, _, rfl, .inl (sqL_l hb), _, rfl, by omega, by have := hys.len; omega, ?_⟩
            refine for_it (walk_range (lo := 0) (n := (ys.length : Int).toNat)) (fun i σ H' => ∃ y, σ = [some (.ref a), some (.ref b), y] ∧ H' = H) ⟨_, rfl, rfl⟩ (fun _ _ _ _ _ => trivial) (fun i x σ H1 H2 hi hp hy => ?_) (fun σ H1 hp => ?_)
            · obtain ⟨y, rfl, rfl⟩ := hp
              obtain ⟨rfl, rfl⟩ := hy
              have hi' : i < ys.length := by simpa using hi
              obtain ⟨d, hd1, py⟩ := hys.get' (List.getElem?_eq_getElem hi')
              obtain ⟨x, hx, px⟩ := hxs.get hd1
              have e0 : ((0 : Int) + (i : Int)) = (i : Nat) := by omega
              refine ⟨_, rfl, _, rfl, a, xs, (0 + (i : Int)), x, rfl, rfl, sqA_l ha, by rw [e0]; exact atI_nat hx, _, rfl, _, rfl, b, ys, (0 + (i : Int)), _, rfl, rfl, sqA_l hb, by rw [e0]; exact atI_nat (List.getElem?_eq_getElem hi'), ?_⟩
              refine ⟨_, _, d, rfl, px, py, by have := deps_get hd1; omega, sm_get hs.2 hd1, _, rfl, iteF ?_⟩
              exact ⟨_, rfl, rfl⟩
            · obtain ⟨y, rfl, rfl⟩ := hp
              exact q
end
end Vt
namespace Vt
open PySem PySem.Spec PyProof.Rows L2
def kindWords : List Str := ["set", "set", "add", "say", "say", "start", "start", "wait", "clean", "drop"]
section
variable {P : Program} {w : World} {K : PySem.W.Frag} {mg : Str → Option Value} {base : Heap}
abbrev st_law_kinds : Stmt := (topS 38)
abbrev nm_law_kinds : List Str := []
theorem sc_law_kinds : FnScope [] [] (defScope st_law_kinds) := ⟨rfl, rfl, rfl, by decide +kernel, rfl, by decide +kernel, by decide +kernel⟩
def spKinds (ws : List Str) : Sp := fun vs H Q _ => vs = [] ∧ ∀ (H' : Hp) (p : Addr), Same H H' → H p = none → H' p = some (.lst (ws.map V.str)) → Q (.ref p) H'
theorem ok_kinds {f : Addr} {fd : FuncData} (F : Fun K "_law_kinds" "_law_kinds" st_law_kinds f fd) : FnOk P w K mg base CX0 1 f fd [] (spKinds kindWords) := by
  refine F.ok sc_law_kinds (fun vs H Q E h => ?_) (fun cdv A outer s H vs Q E hr h => ?_)
  · obtain ⟨rfl, _⟩ := h
    rfl
  · obtain ⟨rfl, q⟩ := h
    refine ⟨_, (pss_one (ps_ret (pe_lst (pa_cons pe_str (pa_cons pe_str (pa_cons pe_str (pa_cons pe_str (pa_cons pe_str (pa_cons pe_str (pa_cons pe_str (pa_cons pe_str (pa_cons pe_str (pa_cons pe_str pa_nil))))))))))))), ?_⟩
    exact ⟨by show 10 ≤ sizeLine; decide, fun p np => q _ p (same_new np) np upd_same⟩
end
end Vt
namespace Vt
open PySem PySem.Spec PyProof.Rows L2
/-! ### the defs as they stand behind the top -/
def Found (K : PySem.W.Frag) (x : Str) (st : Stmt) (f : Addr) : Prop := ∃ (oc : Value) (od : Option Addr) (kV doc pm : Value) (an : Option Addr) (cdv ct : Value) (osl : Array (Option Value)),
  PySem.W.nsIn K mainGlobals x = some (some (.ref f)) ∧ K.lookup f = some ⟨oc, od, .func (PySem.W.fnOf x x (defArgs st) (defBody st) (defScope st) .none kV doc pm an cdv ct), osl⟩ ∧ PySem.W.codeIn K cdv x = true ∧ PySem.W.keepIn K (.ref f) = true
theorem found_mk {K : PySem.W.Frag} {x : Str} {st : Stmt} {f : Addr} {oc : Value} {od an : Option Addr} {kV doc pm cdv ct : Value} {osl : Array (Option Value)} (a : PySem.W.nsIn K mainGlobals x = some (some (.ref f)))
    (l : K.lookup f = some ⟨oc, od, .func (PySem.W.fnOf x x (defArgs st) (defBody st) (defScope st) .none kV doc pm an cdv ct), osl⟩) (c : PySem.W.codeIn K cdv x = true) (k : PySem.W.keepIn K (.ref f) = true) : ∃ f, Found K x st f :=
  ⟨f, oc, od, kV, doc, pm, an, cdv, ct, osl, a, l, c, k⟩
theorem callee_mk {P : Program} {w : World} {K : PySem.W.Frag} {mg : Str → Option Value} {base h : Heap} {x : Str} {st : Stmt} {k n : Nat} {sp : Sp} {ps : List Str} (X : K.In h) (G : h.Ns mainGlobals mg) (hf : ∃ f, Found K x st f)
    (ok : ∀ (f : Addr) (fd : FuncData), Fun K x x st f fd → FnOk P w K mg base CX0 k f fd ps sp)
    (hb : ∀ (kV doc pm : Value) (an : Option Addr) (cdv ct : Value) (us : List Value), us.length = ps.length → bindArgs (PySem.W.fnOf x x (defArgs st) (defBody st) (defScope st) .none kV doc pm an cdv ct) ⟨us, []⟩ = pure (ps.zip us)) : Callee P w K mg base x k n sp := by
  obtain ⟨f, oc, od, kV, doc, pm, an, cdv, ct, osl, a, l, c, kp⟩ := hf
  have F := fun_mk (st := st) l c kp
  exact ⟨f, _, ps, ok f _ F, PySem.W.mg_of X G a, kp, F.binds hb⟩
/-- a tuple of the written part, as it stands -/
theorem ktup_mk {K : PySem.W.Frag} {a : Addr} {xs : List V} {od : Option Addr} {its : Array Value} {n : Nat} {sl : Array (Option Value)} (l : K.lookup a = some ⟨.type "tuple", od, .seq its n, sl⟩) (hz : its.size ≤ sizeLine) (hv : Vals xs its.toList) : KTup K a xs :=
  ⟨_, its, n, l, rfl, rfl, hz, hv⟩
theorem kinds_mk {K : PySem.W.Frag} {w : World} {mg : Str → Option Value} {dd k1 k2 k3 k4 k5 k6 k7 : Addr} {es : Array DictEntry} {n : Nat} (m : mg "DEEDS" = some (.ref dd)) (low : (dd == sysModules) = false) (l : K.lookup dd = some ⟨.type "dict", none, .dict es n, #[]⟩) (kl : PySem.W.KeysLit w.params es.toList)
    (a1 : PySem.W.nsIn K dd "set" = some (some (.ref k1))) (a2 : PySem.W.nsIn K dd "add" = some (some (.ref k2))) (a3 : PySem.W.nsIn K dd "say" = some (some (.ref k3))) (a4 : PySem.W.nsIn K dd "start" = some (some (.ref k4)))
    (a5 : PySem.W.nsIn K dd "wait" = some (some (.ref k5))) (a6 : PySem.W.nsIn K dd "clean" = some (some (.ref k6))) (a7 : PySem.W.nsIn K dd "drop" = some (some (.ref k7)))
    (t1 : KTup K k1 [.str "cell", .str "number"]) (t2 : KTup K k2 [.str "cell", .str "cell"]) (t3 : KTup K k3 [.str "cell"]) (t4 : KTup K k4 [.str "order"]) (t5 : KTup K k5 []) (t6 : KTup K k6 [.str "line"]) (t7 : KTup K k7 [.str "line"]) : Kinds K w mg dd := by
  refine ⟨m, low, ⟨es, n, l, kl⟩, fun z ks h => ?_⟩
  have kd : ∀ (x : Str) (k : Addr), PySem.W.nsIn K dd x = some (some (.ref k)) → KDct K w dd x (.ref k) := fun x k e => ⟨es, n, _, l, kl, e, rfl⟩
  unfold kindsOf at h
  split at h
  · rename_i e; subst e; cases h; exact ⟨k1, kd _ _ a1, t1⟩
  split at h
  · rename_i e; subst e; cases h; exact ⟨k2, kd _ _ a2, t2⟩
  split at h
  · rename_i e; subst e; cases h; exact ⟨k3, kd _ _ a3, t3⟩
  split at h
  · rename_i e; subst e; cases h; exact ⟨k4, kd _ _ a4, t4⟩
  split at h
  · rename_i e; subst e; cases h; exact ⟨k5, kd _ _ a5, t5⟩
  split at h
  · rename_i e; subst e; cases h; exact ⟨k6, kd _ _ a6, t6⟩
  split at h
  · rename_i e; subst e; cases h; exact ⟨k7, kd _ _ a7, t7⟩
  cases h
end Vt
namespace Vt
open PySem PySem.Spec PyProof.Rows L2
theorem sl_tupk {X : Cx} (K : PySem.W.Frag) (h : X.K = K := by rfl) : SlR X (rSlT K) := by
  subst h
  exact sl_tup
/-! ### boards as texts -/
def nT (n : Nat) : Str := Str.ofString (toString (n : Int))
def oT : Option Nat → Str
  | none => "-"
  | some n => nT n
def Small (os : List (Option Nat)) : Prop := ∀ o ∈ os, ∀ n, o = some n → n < 17
def rowT (w : Str) (os : List (Option Nat)) : Str := Txt.join " " (w :: os.map oT)
def Ord.nums (o : Ord) : List (Option Nat) := [some o.src, some o.goal, some o.many, o.later]
def ordRow (o : Ord) : Str := rowT "order" o.nums
def deedRow (d : Deed) : Str := rowT d.word (d.args.map some)
def rowsT (B : Brd) : List Str := rowT "memory" (B.mem.map some) :: (B.ords.map ordRow ++ B.prog.map deedRow)
def textT (B : Brd) : Str := Txt.join "\n" (rowsT B)
def plainW (z : Str) : Bool := (TL.tl z).all fun c => decide (33 ≤ c) && decide (c < 128)
theorem num_plain : ∀ n : Nat, n < 17 → plainW (nT n) = true := by decide +kernel
theorem num_len : ∀ n : Nat, n < 17 → (nT n).length ≤ 2 ∧ 0 < (nT n).length := by decide +kernel
theorem num_int : ∀ n : Nat, n < 17 → intText? (nT n) = some (n : Int) := by decide +kernel
theorem num_digit : ∀ n : Nat, n < 17 → Txt.isdigit (nT n) = true ∧ Txt.isascii (nT n) = true := by decide +kernel
theorem num_dash : ∀ n : Nat, n < 17 → decide (nT n = ("-" : Str)) = false := by decide +kernel
theorem num_head : ∀ n : Nat, n < 17 → ∃ c, (nT n).cps.toList[0]? = some c ∧ (decide (nT n = ("0" : Str)) = true ∨ decide ((⟨#[c]⟩ : Str) = ("0" : Str)) = false) := by
  intro n hn
  have h : ∀ n : Nat, n < 17 → ((nT n).cps.toList.headD 0 = 48 → decide (nT n = ("0" : Str)) = true) := by decide +kernel
  cases e : (nT n).cps.toList with
  | nil =>
    have := (num_len n hn).2
    rw [TL.len_tl] at this
    simp [e] at this
  | cons c r =>
    refine ⟨c, rfl, ?_⟩
    by_cases hc : c = 48
    · have := h n hn
      rw [e] at this
      exact .inl (this hc)
    · refine .inr (decide_eq_false fun z => hc ?_)
      have e0 : ("0" : Str) = ⟨#[48]⟩ := by decide +kernel
      rw [e0] at z
      injection z with z
      simpa using z
theorem oT_plain {os : List (Option Nat)} (h : Small os) : ∀ p ∈ os.map oT, plainW p = true := fun p hp => by
  obtain ⟨o, ho, rfl⟩ := List.mem_map.mp hp
  cases o with
  | none => decide +kernel
  | some n => exact num_plain n (h _ ho n rfl)
theorem oT_len {os : List (Option Nat)} (h : Small os) : ∀ p ∈ os.map oT, p.length ≤ 2 := fun p hp => by
  obtain ⟨o, ho, rfl⟩ := List.mem_map.mp hp
  cases o with
  | none => decide +kernel
  | some n => exact (num_len n (h _ ho n rfl)).1
theorem plain_no {z : Str} (h : plainW z = true) {c : Nat} (hc : c < 33) : ¬ c ∈ TL.tl z := fun m => by
  have := List.all_eq_true.mp h c m
  simp at this; omega
theorem word_plain (d : Deed) : plainW d.word = true ∧ d.word.length ≤ 6 := by
  have h : ∀ w ∈ (["set", "add", "say", "start", "wait", "clean", "drop"] : List Str), plainW w = true ∧ w.length ≤ 6 := by decide +kernel
  refine h _ ?_
  cases d <;> simp [Deed.word]
theorem split_row {w : Str} {os : List (Option Nat)} (hw : plainW w = true) (h : Small os) : Txt.split (rowT w os) " " = w :: os.map oT := by
  refine TL.split_join (y := " ") (s := 32) (S := []) (by decide +kernel) (by decide +kernel) (by simp) fun p hp => ?_
  rcases List.mem_cons.mp hp with rfl | hp
  · exact plain_no hw (by decide)
  · exact plain_no (oT_plain h p hp) (by decide)
theorem join_one (y p : Str) : Txt.join y [p] = p := rfl
theorem join_two (y p q : Str) (r : List Str) : Txt.join y (p :: q :: r) = Txt.join y ((p ++ y ++ q) :: r) := rfl
theorem join_snoc (y : Str) : ∀ (ps : List Str) (p q : Str), Txt.join y (p :: (ps ++ [q])) = Txt.join y (p :: ps) ++ y ++ q
  | [], p, q => rfl
  | a :: r, p, q => by
    rw [List.cons_append, join_two, join_two, join_snoc y r]
theorem app_len (a b : Str) : (a ++ b).length = a.length + b.length := by
  show (Str.append a b).cps.size = a.cps.size + b.cps.size
  simp [Str.append]
theorem tl_app (a b : Str) : TL.tl (a ++ b) = TL.tl a ++ TL.tl b := by
  show (Str.append a b).cps.toList = a.cps.toList ++ b.cps.toList
  simp [Str.append]
theorem join_len (y : Str) (k : Nat) : ∀ (ps : List Str) (p : Str), (∀ q ∈ ps, q.length ≤ k) → (Txt.join y (p :: ps)).length ≤ p.length + ps.length * (k + y.length)
  | [], p, _ => by rw [join_one]; simp
  | a :: r, p, h => by
    rw [join_two]
    have h1 := join_len y k r (p ++ y ++ a) fun q hq => h q (List.mem_cons_of_mem _ hq)
    have h2 := h a (List.mem_cons_self ..)
    rw [app_len, app_len] at h1
    have e : (a :: r).length * (k + y.length) = r.length * (k + y.length) + (k + y.length) := by rw [List.length_cons, Nat.succ_mul]
    omega
theorem join_mem (y : Str) (c : Nat) (hy : ¬ c ∈ TL.tl y) : ∀ (ps : List Str) (p : Str), ¬ c ∈ TL.tl p → (∀ q ∈ ps, ¬ c ∈ TL.tl q) → ¬ c ∈ TL.tl (Txt.join y (p :: ps))
  | [], p, hp, _ => by rw [join_one]; exact hp
  | a :: r, p, hp, h => by
    rw [join_two]
    refine join_mem y c hy r _ ?_ fun q hq => h q (List.mem_cons_of_mem _ hq)
    rw [tl_app, tl_app]
    intro m
    rcases List.mem_append.mp m with m | m
    · rcases List.mem_append.mp m with m | m
      · exact hp m
      · exact hy m
    · exact h a (List.mem_cons_self ..) m
theorem row_line {w : Str} {os : List (Option Nat)} (hw : plainW w = true) (h : Small os) : ¬ 10 ∈ TL.tl (rowT w os) :=
  join_mem " " 10 (by decide +kernel) _ _ (plain_no hw (by decide)) fun q hq => plain_no (oT_plain h q hq) (by decide)
theorem row_len {w : Str} {os : List (Option Nat)} (hw : w.length ≤ 6) (h : Small os) : (rowT w os).length ≤ 6 + 3 * os.length := by
  have := join_len " " 2 (os.map oT) w (oT_len h)
  rw [List.length_map, show (" " : Str).length = 1 by decide +kernel] at this
  unfold rowT; omega
theorem row_snoc {w : Str} {os : List (Option Nat)} {o : Option Nat} : rowT w (os ++ [o]) = rowT w os ++ " " ++ oT o := by
  unfold rowT
  rw [List.map_append]; exact join_snoc _ _ _ _
/-- boards' numbers are small -/
theorem mem_small {B : Brd} (ok : BrdOk B) : Small (B.mem.map some) := fun o ho n e => by
  obtain ⟨m, hm, rfl⟩ := List.mem_map.mp ho
  cases e
  have := ok.nums _ hm; omega
theorem ord_small {B : Brd} (ok : BrdOk B) {i : Nat} {o : Ord} (h : B.ords[i]? = some o) : Small o.nums := fun x hx n e => by
  have k := ok.ords i o h
  have c : B.mem.length ≤ 16 := by
    rcases ok.cells with h | h | h | h <;> omega
  have f := ok.four
  obtain ⟨k1, k2, k3, k4, k5⟩ := k
  simp only [Ord.nums, List.mem_cons, List.not_mem_nil, or_false] at hx
  rcases hx with rfl | rfl | rfl | rfl
  · cases e; omega
  · cases e; omega
  · cases e; omega
  · have := k5 n e; omega
theorem deed_small {B : Brd} (ok : BrdOk B) {d : Deed} (h : d ∈ B.prog) : Small (d.args.map some) := fun x hx n e => by
  have k := ok.prog d h
  have c : B.mem.length ≤ 16 := by rcases ok.cells with h | h | h | h <;> omega
  have f := ok.four
  obtain ⟨m, hm, rfl⟩ := List.mem_map.mp hx
  cases e
  cases d <;> simp only [Deed.args, List.mem_cons, List.not_mem_nil, or_false] at hm <;> simp only [DeedOk] at k
  all_goals first | omega | (rcases hm with rfl | rfl <;> omega)
theorem rows_all {B : Brd} (ok : BrdOk B) : ∀ r ∈ rowsT B, ¬ 10 ∈ TL.tl r ∧ r.length ≤ 54 := fun r hr => by
  have c : B.mem.length ≤ 16 := by
    rcases ok.cells with h | h | h | h <;> omega
  unfold rowsT at hr
  rcases List.mem_cons.mp hr with rfl | hr
  · have h := mem_small ok
    have l := row_len (w := "memory") (by decide +kernel) h
    rw [List.length_map] at l
    exact ⟨row_line (by decide +kernel) h, by omega⟩
  · rcases List.mem_append.mp hr with hr | hr
    · obtain ⟨o, ho, rfl⟩ := List.mem_map.mp hr
      obtain ⟨i, hi⟩ := List.mem_iff_getElem?.mp ho
      have h := ord_small ok hi
      have l := row_len (w := "order") (by decide +kernel) h
      simp only [Ord.nums, List.length_cons, List.length_nil] at l
      exact ⟨row_line (by decide +kernel) h, by unfold ordRow Ord.nums; omega⟩
    · obtain ⟨d, hd, rfl⟩ := List.mem_map.mp hr
      have h := deed_small ok hd
      obtain ⟨w1, w2⟩ := word_plain d
      have l := row_len w2 h
      have a : d.args.length ≤ 2 := by cases d <;> simp [Deed.args]
      rw [List.length_map] at l
      exact ⟨row_line w1 h, by unfold deedRow; omega⟩
theorem split_text {B : Brd} (ok : BrdOk B) : Txt.split (textT B) "\n" = rowsT B :=
  TL.split_join (y := "\n") (s := 10) (S := []) (by decide +kernel) (by decide +kernel) (by simp [rowsT]) fun p hp => (rows_all ok p hp).1
theorem rows_len {B : Brd} (ok : BrdOk B) : (rowsT B).length ≤ 65 := by
  have := ok.four
  have := ok.sixty
  simp only [rowsT, List.length_cons, List.length_append, List.length_map]; omega
theorem text_len {B : Brd} (ok : BrdOk B) : (textT B).length ≤ 4000 := by
  have h := join_len "\n" 54 (B.ords.map ordRow ++ B.prog.map deedRow) (rowT "memory" (B.mem.map some)) fun q hq => (rows_all ok q (List.mem_cons_of_mem _ hq)).2
  have h2 := (rows_all ok (rowT "memory" (B.mem.map some)) (List.mem_cons_self ..)).2
  have h3 := rows_len ok
  rw [show ("\n" : Str).length = 1 by decide +kernel] at h
  unfold textT rowsT
  simp only [rowsT, List.length_cons] at h3
  omega
theorem sum_le (k : Nat) : ∀ ps : List Str, (∀ q ∈ ps, q.length ≤ k) → (ps.map (·.length)).sum ≤ ps.length * k
  | [], _ => by simp
  | a :: r, h => by
    have h1 := sum_le k r fun q hq => h q (List.mem_cons_of_mem _ hq)
    have h2 := h a (List.mem_cons_self ..)
    simp only [List.map_cons, List.sum_cons, List.length_cons, Nat.succ_mul]
    omega
end Vt
namespace Vt
open PySem PySem.Spec PyProof.Rows L2
section
variable {P : Program} {w : World} {K : PySem.W.Frag} {mg : Str → Option Value} {base : Heap}
theorem nT_log {n : Nat} (h : n < 17) : ((n : Int)).natAbs.log2 < 1920 := by
  have : ∀ n : Nat, n < 17 → ((n : Int)).natAbs.log2 < 1920 := by decide +kernel
  exact this n h
abbrev st_row_of : Stmt := (topS 24)
abbrev nm_row_of : List Str := ["word", "numbers", "words", "number"]
theorem sc_row_of : FnScope ["word", "numbers", "words", "number"] ["word", "numbers"] (defScope st_row_of) := ⟨rfl, rfl, rfl, by decide +kernel, rfl, by decide +kernel, by decide +kernel⟩
def spRowOf : Sp := fun vs H Q _ => ∃ (z : Str) (a : Addr) (os : List (Option Nat)), vs = [.str z, .ref a] ∧ H a = some (.tup (os.map oV)) ∧ Small os ∧ os.length ≤ 100 ∧ z.length ≤ 6 ∧ ∀ H', Same H H' → Q (.str (rowT z os)) H'
theorem ok_rowof {f : Addr} {fd : FuncData} (F : Fun K "row_of" "row_of" st_row_of f fd) (z_str : mg "str" = none) : FnOk P w K mg base CX0 1 f fd ["word", "numbers"] spRowOf := by
  refine F.ok sc_row_of (fun vs H Q E h => ?_) (fun cdv A outer s H vs Q E hr h => ?_)
  · obtain ⟨z, a, os, rfl, _⟩ := h
    rfl
  · obtain ⟨z, a, os, rfl, ha, sm, hl, hz, q⟩ := h
    refine ⟨_, (pss_cons (ps_set (i := 2) sc_row_of.nd rfl (Or.inl rfl) (pe_lst (pa_cons (pv 0) pa_nil)))
  (pss_cons (ps_for PassesOwn.never rfl (pi_lt (pv 1)) (pg_name (i := 3) sc_row_of.nd rfl (Or.inl rfl))
  (pss_one (ps_expr (pe_bm PySem.F.plainAttrs_list PySem.F.slot_list_append PySem.F.type_list_append mt_append (pv 2) (pa_cons (pe_ifExp (pt_cmpR op_isN (pv 3) pe_non (nomark _)) pe_str (pe_callTy call_str_int (by rfl) z_str (by decide +kernel) (pa_cons (pv 3) pa_nil))) pa_nil)))))
  (pss_one (ps_ret (pe_join pe_str (pv 2)))))), ?_⟩
    refine ⟨_, rfl, by show 1 ≤ sizeLine; decide, fun W nW => ?_⟩
    have s1 := same_new (o := .lst [.str z]) nW
    refine ⟨_, rfl, a, rfl, .inr ⟨_, sqT_t (s1 _ _ ha), ?_⟩⟩
    refine for_it (walk_tup (xs := os.map oV)) (fun i σ H' => ∃ y3 : Option V, σ = [some (.str z), some (.ref a), some (.ref W), y3] ∧ H' W = some (.lst ((z :: (os.take i).map oT).map V.str)) ∧ Same H H')
      ⟨_, rfl, upd_same, s1⟩ (fun i σ H' _ hp => by obtain ⟨_, _, _, sm⟩ := hp; exact sqT_t (sm _ _ ha)) (fun i x σ H2 H3 hi hp hy => ?_) (fun σ H2 hp => ?_)
    · obtain ⟨y3, rfl, hW, s2⟩ := hp
      obtain ⟨rfl, hx⟩ := hy
      rw [List.getElem?_map] at hx
      obtain ⟨o, ho, rfl⟩ : ∃ o, os[i]? = some o ∧ oV o = x := by simpa using hx
      have hm : o ∈ os := List.mem_of_getElem? ho
      have tk : os.take (i + 1) = os.take i ++ [o] := by rw [List.take_add_one, ho]; rfl
      have len : ((z :: (os.take i).map oT).map V.str).length < sizeLine := fits (by
        have := List.length_take_le' i os
        simp only [List.length_map, List.length_cons]; omega)
      have fin : ∃ y3 : Option V, [some (.str z), some (.ref a), some (.ref W), some (oV o)] = [some (.str z), some (.ref a), some (.ref W), y3] ∧ (upd H3 W (.lst ((z :: (os.take i).map oT).map V.str ++ [.str (oT o)]))) W = some (.lst ((z :: (os.take (i + 1)).map oT).map V.str)) ∧ Same H (upd H3 W (.lst ((z :: (os.take i).map oT).map V.str ++ [.str (oT o)]))) :=
        ⟨_, rfl, by rw [upd_same, tk]; simp, fun b u e => by rw [upd_ne (ne_of_none e nW)]; exact s2 _ _ e⟩
      refine ⟨_, rfl, .inl ⟨rfl, _, sqL_l hW⟩, _, rfl, rfl, _, rfl, ?_⟩
      cases o with
      | none => exact iteT ⟨W, _, _, rfl, rfl, hW, len, fin⟩
      | some n => exact iteF ⟨_, rfl, _, rfl, nT_log (sm _ hm n rfl), W, _, _, rfl, rfl, hW, len, fin⟩
    · obtain ⟨y3, rfl, hW, s2⟩ := hp
      rw [List.length_map, List.take_length] at hW
      have h1 := sum_le 6 (z :: os.map oT) (fun q hq => by
        rcases List.mem_cons.mp hq with rfl | hq
        · exact hz
        · have := oT_len sm q hq; omega)
      rw [List.length_cons, List.length_map] at h1
      refine ⟨⟨_, rfl⟩, _, rfl, " ", W, z :: os.map oT, rfl, rfl, .inl (sqL_l hW), ?_, q _ s2⟩
      rw [List.length_cons, List.length_map, show (" " : Str).length = 1 by decide +kernel]
      omega
abbrev st_written : Stmt := (topS 23)
abbrev nm_written : List Str := ["board", "memory", "orders", "program", "rows", "order", "deed"]
theorem sc_written : FnScope ["board", "memory", "orders", "program", "rows", "order", "deed"] ["board"] (defScope st_written) := ⟨rfl, rfl, rfl, by decide +kernel, rfl, by decide +kernel, by decide +kernel⟩
def spWritten : Sp := fun vs H Q _ => ∃ (v : V) (B : Brd), vs = [v] ∧ Pd H v B.d ∧ BrdOk B ∧ ∀ H', Same H H' → Q (.str (textT B)) H'
theorem ok_written {f : Addr} {fd : FuncData} (F : Fun K "written" "written" st_written f fd) (c_require_board : Callee P w K mg base "require_board" 3 1 spReq) (c_row_of : Callee P w K mg base "row_of" 1 2 spRowOf) : FnOk P w K mg base CX0 4 f fd ["board"] spWritten := by
  refine F.ok sc_written (fun vs H Q E h => ?_) (fun cdv A outer s H vs Q E hr h => ?_)
  · obtain ⟨v, B, rfl, _⟩ := h
    rfl
  · obtain ⟨v, B, rfl, hB, ok, q⟩ := h
    refine ⟨_, (pss_cons (ps_expr (pe_cal c_require_board hr (by first | decide | exact Nat.le_refl _) (pa_cons (pv 0) pa_nil)))
  (pss_cons (ps_asg (pv 0) (pg_tup rfl (pgs_cons (pg_name (i := 1) sc_written.nd rfl (Or.inl rfl)) (pgs_cons (pg_name (i := 2) sc_written.nd rfl (Or.inl rfl)) (pgs_cons (pg_name (i := 3) sc_written.nd rfl (Or.inl rfl)) pgs_nil)))))
  (pss_cons (ps_set (i := 4) sc_written.nd rfl (Or.inl rfl) (pe_lst (pa_cons (pe_cal c_row_of hr (by first | decide | exact Nat.le_refl _) (pa_cons pe_str (pa_cons (pv 1) pa_nil))) pa_nil)))
  (pss_cons (ps_expr (pe_bm PySem.F.plainAttrs_list PySem.F.slot_list_extend PySem.F.type_list_extend mt_extend (pv 4) (pa_cons (pe_lc (own := [("order", 5)]) rfl sc_written.nd (pi_lt (pv 2)) (blkOk_by (own := [("order", 5)]) (N := nm_written) (sc := defScope (topS 23)) (by decide +kernel)) (fun _ _ _ _ _ => (pg_name (i := 5) sc_written.nd rfl (Or.inl rfl))) (fun _ _ _ _ _ => pts_nil) (fun _ _ _ _ _ => (pe_cal c_row_of hr (by first | decide | exact Nat.le_refl _) (pa_cons pe_str (pa_cons (pv 5) pa_nil))))) pa_nil)))
  (pss_cons (ps_expr (pe_bm PySem.F.plainAttrs_list PySem.F.slot_list_extend PySem.F.type_list_extend mt_extend (pv 4) (pa_cons (pe_lc (own := [("deed", 6)]) rfl sc_written.nd (pi_lt (pv 3)) (blkOk_by (own := [("deed", 6)]) (N := nm_written) (sc := defScope (topS 23)) (by decide +kernel)) (fun _ _ _ _ _ => (pg_name (i := 6) sc_written.nd rfl (Or.inl rfl))) (fun _ _ _ _ _ => pts_nil) (fun _ _ _ _ _ => (pe_cal c_row_of hr (by first | decide | exact Nat.le_refl _) (pa_cons (pe_ix (ix_ltk K) (pv 6) pe_int (fun _ _ => rfl)) (pa_cons (pe_slice (sl_tupk K) (pv 6) (po_some pe_int) po_none) pa_nil))))) pa_nil)))
  (pss_one (ps_ret (pe_join pe_str (pv 4))))))))), ?_⟩
    refine ⟨_, rfl, v, B, rfl, hB, ok, fun H1 s1 => ?_⟩
    obtain ⟨a, mm, o, p, os, ps, rfl, ha, hm, ho, hos, hp', hps⟩ := Brd.of (hB.same s1)
    refine ⟨_, rfl, a, _, rfl, sqT_t ha, rfl, _, _, rfl, _, _, rfl, _, _, rfl, rfl, ?_⟩
    have c16 : B.mem.length ≤ 16 := by rcases ok.cells with h | h | h | h <;> omega
    -- rows = [row_of("memory", memory)]
    refine ⟨_, rfl, "memory", mm, B.mem.map some, rfl, ?_, mem_small ok, by rw [List.length_map]; omega, by decide +kernel, fun H2 s2 => ?_⟩
    · rw [hm, List.map_map]; rfl
    refine ⟨by show 1 ≤ sizeLine; decide, fun W nW => ?_⟩
    have s3 : Same H1 (upd H2 W (.lst [.str (rowT "memory" (B.mem.map some))])) := s2.trans (same_new nW)
    have hW3 : (upd H2 W (.lst [.str (rowT "memory" (B.mem.map some))])) W = some (.lst [.str (rowT "memory" (B.mem.map some))]) := upd_same
    have nW1 : H1 W = none := by
      cases z : H1 W with
      | none => rfl
      | some u => rw [s2 _ _ z] at nW; cases nW
    generalize upd H2 W (.lst [.str (rowT "memory" (B.mem.map some))]) = H3 at s3 hW3
    have olen : os.length = B.ords.length := by rw [hos.len, List.length_map]
    have plen : ps.length = B.prog.length := by rw [hps.len, List.length_map]
    -- rows.extend([row_of("order", order) ..])
    refine ⟨_, rfl, .inl ⟨rfl, _, sqL_l hW3⟩, _, rfl, o, rfl, .inr ⟨_, sqT_t (s3 _ _ ho), fun D nD => ?_⟩⟩
    have DW : D ≠ W := fun z => by rw [z, hW3] at nD; cases nD
    refine lc_it (walk_tup (xs := os)) (fun j H' => H' D = some (.lst (((B.ords.take j).map ordRow).map V.str)) ∧ Same H3 H')
      ⟨upd_same, same_new nD⟩ (fun j H' _ hp => sqT_t (hp.2 _ _ (s3 _ _ ho))) (fun j x H4 H5 hj hp hy => ?_) (fun H4 hp => ?_)
    · obtain ⟨hD, s4⟩ := hp
      obtain ⟨rfl, hx⟩ := hy
      obtain ⟨dd, hdd, hpd⟩ := hos.get' hx
      rw [List.getElem?_map] at hdd
      obtain ⟨o0, ho0, rfl⟩ : ∃ o0, B.ords[j]? = some o0 ∧ o0.d = dd := by simpa using hdd
      obtain ⟨oa, rfl, hoa⟩ := Ord.of hpd
      have tk : B.ords.take (j + 1) = B.ords.take j ++ [o0] := by rw [List.take_add_one, ho0]; rfl
      refine ⟨rfl, iteT (B := True) ⟨_, rfl, "order", oa, o0.nums, rfl, s4 _ _ (s3 _ _ hoa), ord_small ok ho0, by simp [Ord.nums], by decide +kernel, fun H6 s6 => ?_⟩⟩
      refine ⟨_, s6 _ _ hD, fits ?_, ?_, fun b u e => ?_⟩
      · have := List.length_take_le' j B.ords
        have := ok.four
        simp only [List.length_map]; omega
      · rw [upd_same, tk]; simp [ordRow]
      · rw [upd_ne (ne_of_none e nD)]; exact s6 _ _ (s4 _ _ e)
    obtain ⟨hD, s4⟩ := hp
    rw [olen, List.take_length] at hD
    have hW4 := s4 _ _ hW3
    refine ⟨W, D, _, _, rfl, rfl, hW4, hD, fits' ?_, ?_⟩
    · have := ok.four
      simp only [List.length_map, List.length_cons, List.length_nil]; omega
    have s5 : Same H1 (upd H4 W (.lst ([.str (rowT "memory" (B.mem.map some))] ++ (B.ords.map ordRow).map V.str))) := fun b u e => by rw [upd_ne (ne_of_none e nW1)]; exact s4 _ _ (s3 _ _ e)
    have hW5 : (upd H4 W (.lst ([.str (rowT "memory" (B.mem.map some))] ++ (B.ords.map ordRow).map V.str))) W = some (.lst ([.str (rowT "memory" (B.mem.map some))] ++ (B.ords.map ordRow).map V.str)) := upd_same
    generalize upd H4 W (.lst ([.str (rowT "memory" (B.mem.map some))] ++ (B.ords.map ordRow).map V.str)) = H5 at s5 hW5
    -- rows.extend([row_of(deed[0], deed[1:]) ..])
    refine ⟨_, rfl, .inl ⟨rfl, _, sqL_l hW5⟩, _, rfl, p, rfl, .inr ⟨_, sqT_t (s5 _ _ hp'), fun D2 nD2 => ?_⟩⟩
    refine lc_it (walk_tup (xs := ps)) (fun j H' => H' D2 = some (.lst (((B.prog.take j).map deedRow).map V.str)) ∧ Same H5 H')
      ⟨upd_same, same_new nD2⟩ (fun j H' _ hp => sqT_t (hp.2 _ _ (s5 _ _ hp'))) (fun j x H6 H7 hj hp hy => ?_) (fun H6 hp => ?_)
    · obtain ⟨hD, s6⟩ := hp
      obtain ⟨rfl, hx⟩ := hy
      obtain ⟨dd, hdd, hpd⟩ := hps.get' hx
      rw [List.getElem?_map] at hdd
      obtain ⟨d0, hd0, rfl⟩ : ∃ d0, B.prog[j]? = some d0 ∧ d0.d = dd := by simpa using hdd
      obtain ⟨da, rfl, hda⟩ := Deed.of hpd
      have tk : B.prog.take (j + 1) = B.prog.take j ++ [d0] := by rw [List.take_add_one, hd0]; rfl
      have hda7 := s6 _ _ (s5 _ _ hda)
      have al : d0.args.length ≤ 2 := by cases d0 <;> simp [Deed.args]
      refine ⟨rfl, iteT (B := True) ⟨_, rfl, da, _, 0, .str d0.word, rfl, rfl, sqA_t hda7, at0, ?_⟩⟩
      refine ⟨_, rfl, 1, rfl, da, _, rfl, sqT_t hda7, (fun z => absurd z.1 (by simp [HT.sIx, Deed.vs])), fun T nT => ?_⟩
      have cut : cutV d0.vs (some 1) none = d0.args.map nV := by
        cases d0 <;> rfl
      have s7 := same_new (o := .tup (cutV d0.vs (some 1) none)) nT
      refine ⟨d0.word, T, d0.args.map some, rfl, ?_, deed_small ok (List.mem_of_getElem? hd0), by rw [List.length_map]; omega, (word_plain d0).2, fun H8 s8 => ?_⟩
      · rw [upd_same, cut, List.map_map]; rfl
      refine ⟨_, s8 _ _ (s7 _ _ hD), fits ?_, ?_, fun b u e => ?_⟩
      · have := List.length_take_le' j B.prog
        have := ok.sixty
        simp only [List.length_map]; omega
      · rw [upd_same, tk]; simp [deedRow]
      · rw [upd_ne (ne_of_none e nD2)]; exact s8 _ _ (s7 _ _ (s6 _ _ e))
    obtain ⟨hD2, s6⟩ := hp
    rw [plen, List.take_length] at hD2
    have rl := rows_len ok
    refine ⟨W, D2, _, _, rfl, rfl, s6 _ _ hW5, hD2, fits' ?_, ?_⟩
    · simp only [rowsT, List.length_cons, List.length_append, List.length_map] at rl
      simp only [List.length_map, List.length_cons, List.length_append, List.length_nil]; omega
    have e9 : [V.str (rowT "memory" (B.mem.map some))] ++ (B.ords.map ordRow).map V.str ++ (B.prog.map deedRow).map V.str = (rowsT B).map V.str := by simp [rowsT]
    rw [e9]
    have h1 := sum_le 54 (rowsT B) fun q hq => (rows_all ok q hq).2
    refine ⟨⟨_, rfl⟩, _, rfl, "\n", W, rowsT B, rfl, rfl, .inl (sqL_l upd_same), ?_, q _ fun b u e => ?_⟩
    · rw [show ("\n" : Str).length = 1 by decide +kernel]; omega
    · rw [upd_ne (ne_of_none (s1 _ _ e) nW1)]; exact s6 _ _ (s5 _ _ (s1 _ _ e))
end
end Vt
namespace Vt
open PySem PySem.Spec PyProof.Rows L2
section
variable {P : Program} {w : World} {K : PySem.W.Frag} {mg : Str → Option Value} {base : Heap}
theorem num_cmp : ∀ n : Nat, n < 17 → decide ((9 : Int) < ((nT n).length : Int)) = false := by decide +kernel
abbrev st_is_number : Stmt := (topS 28)
abbrev nm_is_number : List Str := ["word"]
theorem sc_is_number : FnScope ["word"] ["word"] (defScope st_is_number) := ⟨rfl, rfl, rfl, by decide +kernel, rfl, by decide +kernel, by decide +kernel⟩
def spIsNum : Sp := fun vs H Q _ => ∃ n : Nat, vs = [.str (nT n)] ∧ n < 17 ∧ Q (.bl true) H
theorem ok_isnum {f : Addr} {fd : FuncData} (F : Fun K "is_number" "is_number" st_is_number f fd) (m_fig : ∃ t, mg "MOST_FIGURES" = some (.int 9 t)) (z_len : mg "len" = none) : FnOk P w K mg base CX0 1 f fd ["word"] spIsNum := by
  obtain ⟨tF, mc_MOST_FIGURES⟩ := m_fig
  refine F.ok sc_is_number (fun vs H Q E h => ?_) (fun cdv A outer s H vs Q E hr h => ?_)
  · obtain ⟨n, rfl, _⟩ := h
    rfl
  · obtain ⟨n, rfl, hn, q⟩ := h
    refine ⟨_, (pss_cons (ps_if (PW.pt (pw_or (pt_not (pt_val (pe_m0 PySem.F.slot_str_isascii PySem.F.type_str_isascii mt_isascii (pv 0)))) (pw_or (pt_not (pt_val (pe_m0 PySem.F.slot_str_isdigit PySem.F.type_str_isdigit mt_isdigit (pv 0)))) (pw_or1 (pt_cmpR op_gt (pe_callB call_len_str (by rfl) z_len (by decide +kernel) (pa_cons (pv 0) pa_nil)) (pe_glob (v := .int 9) rfl mc_MOST_FIGURES ⟨_, rfl⟩) (nomark _)))))) (pss_one (ps_ret pe_bl)) pss_nil)
  (pss_one (ps_ret (pe_or (pe_cmpR op_eq (pv 0) pe_str (nomark _)) (pe_one (pe_cmpR op_ne (pe_ix ix_str (pv 0) pe_int (fun _ _ => rfl)) pe_str (nomark _))))))), ?_⟩
    obtain ⟨d1, d2⟩ := num_digit n hn
    obtain ⟨c, c1, c2⟩ := num_head n hn
    have l2 := (num_len n hn).1
    have e9 := num_cmp n hn
    have ln : (nT n).length ≤ sizeLine := fits' (by omega)
    have a0 : atI (nT n).cps.toList 0 = some c := atI_nat (j := 0) c1
    generalize nT n = z at *
    refine ⟨_, rfl, ⟨_, rfl⟩, z, rfl, rfl, trivial, ?_⟩
    rw [d2]
    refine ⟨_, rfl, iteF ?_⟩
    refine ⟨_, rfl, ⟨_, rfl⟩, z, rfl, rfl, trivial, ?_⟩
    rw [d1]
    refine ⟨_, rfl, iteF ?_⟩
    refine ⟨_, rfl, z, rfl, ln, _, _, rfl, rfl, _, rfl, ?_⟩
    rw [e9]
    refine iteF ?_
    refine ⟨_, rfl, rfl, _, rfl, ite2 (fun e => q) (fun e => ?_)⟩
    rcases c2 with c2 | c2
    · exact absurd (by rw [of_decide_eq_true c2]; rfl) e
    · refine ⟨_, rfl, z, 0, c, rfl, rfl, ln, a0, rfl, ?_⟩
      have : decide (V.str (⟨#[c]⟩ : Str) = V.str "0") = false := decide_eq_false fun z => of_decide_eq_false c2 (by injection z)
      rw [this]
      exact q
abbrev st_all_are_numbers : Stmt := (topS 27)
abbrev nm_all_are_numbers : List Str := ["words", "word"]
theorem sc_all_are_numbers : FnScope ["words", "word"] ["words"] (defScope st_all_are_numbers) := ⟨rfl, rfl, rfl, by decide +kernel, rfl, by decide +kernel, by decide +kernel⟩
def spAllNum : Sp := fun vs H Q _ => ∃ (l : Addr) (ns : List Nat), vs = [.ref l] ∧ H l = some (.lst ((ns.map nT).map V.str)) ∧ (∀ n ∈ ns, n < 17) ∧ ns.length ≤ 100 ∧ ∀ H', Same H H' → Q (.bl true) H'
theorem ok_allnum {f : Addr} {fd : FuncData} (F : Fun K "all_are_numbers" "all_are_numbers" st_all_are_numbers f fd) (c_is_number : Callee P w K mg base "is_number" 1 1 spIsNum) (z_all : mg "all" = none) : FnOk P w K mg base CX0 2 f fd ["words"] spAllNum := by
  refine F.ok sc_all_are_numbers (fun vs H Q E h => ?_) (fun cdv A outer s H vs Q E hr h => ?_)
  · obtain ⟨l, ns, rfl, _⟩ := h
    rfl
  · obtain ⟨l, ns, rfl, hl, hs, hlen, q⟩ := h
    refine ⟨_, (pss_one (ps_ret (pe_callB (cr_all rfl) (by rfl) z_all (by decide +kernel) (pa_cons (pe_lc (own := [("word", 1)]) rfl sc_all_are_numbers.nd (pi_lt (pv 0)) (blkOk_by (own := [("word", 1)]) (N := nm_all_are_numbers) (sc := defScope (topS 27)) (by decide +kernel)) (fun _ _ _ _ _ => (pg_name (i := 1) sc_all_are_numbers.nd rfl (Or.inl rfl))) (fun _ _ _ _ _ => pts_nil) (fun _ _ _ _ _ => (pe_cal c_is_number hr (by first | decide | exact Nat.le_refl _) (pa_cons (pv 1) pa_nil)))) pa_nil)))), ?_⟩
    refine ⟨_, rfl, l, rfl, .inl ⟨_, sqL_l hl, fun D nD => ?_⟩⟩
    refine lc_it (walk_list (xs := (ns.map nT).map V.str)) (fun j H' => H' D = some (.lst ((List.replicate j true).map V.bl)) ∧ Same H H')
      ⟨upd_same, same_new nD⟩ (fun j H' _ hp => sqL_l (hp.2 _ _ hl)) (fun j x H4 H5 hj hp hy => ?_) (fun H4 hp => ?_)
    · obtain ⟨hD, s4⟩ := hp
      obtain ⟨rfl, hx⟩ := hy
      rw [List.getElem?_map, List.getElem?_map] at hx
      obtain ⟨n, hn, rfl⟩ : ∃ n, ns[j]? = some n ∧ V.str (nT n) = x := by
        cases e : ns[j]? with
        | none => rw [e] at hx; cases hx
        | some n => rw [e] at hx; exact ⟨n, rfl, by simpa using hx⟩
      have hj' : j < ns.length := (List.getElem?_eq_some_iff.mp hn).1
      refine ⟨rfl, iteT (B := True) ⟨_, rfl, n, rfl, hs n (List.mem_of_getElem? hn), _, hD, fits ?_, ?_, fun b u e => ?_⟩⟩
      · simp only [List.length_map, List.length_replicate]; omega
      · rw [upd_same, List.replicate_succ', List.map_append]; rfl
      · rw [upd_ne (ne_of_none e nD)]; exact s4 _ _ e
    · obtain ⟨hD, s4⟩ := hp
      refine ⟨D, _, rfl, sqL_l hD, ?_⟩
      have e : ((List.replicate ((ns.map nT).map V.str).length true).all id) = true := by
        rw [List.all_replicate]; simp
      rw [e]
      exact q _ s4
/-- what stands in a row of a board's text -/
inductive RowOk : Str → List (Option Nat) → Prop
  | mem (ns : List Nat) : ns.length ≤ 16 → RowOk "memory" (ns.map some)
  | ord (o : Ord) : RowOk "order" o.nums
  | deed (d : Deed) : RowOk d.word (d.args.map some)
theorem words_some (ns : List Nat) : (ns.map some).map oT = ns.map nT := by rw [List.map_map]; rfl
theorem small_some {ns : List Nat} (h : Small (ns.map some)) : ∀ n ∈ ns, n < 17 := fun n hn => h _ (List.mem_map.mpr ⟨n, hn, rfl⟩) n rfl
theorem deed_no (d : Deed) : decide (V.str d.word = V.str "order") = false ∧ decide (V.str d.word = V.str "memory") = false := by
  cases d <;> exact ⟨rfl, rfl⟩
abbrev st_words_are_so : Stmt := (topS 26)
abbrev nm_words_are_so : List Str := ["word", "words"]
theorem sc_words_are_so : FnScope ["word", "words"] ["word", "words"] (defScope st_words_are_so) := ⟨rfl, rfl, rfl, by decide +kernel, rfl, by decide +kernel, by decide +kernel⟩
def spWords : Sp := fun vs H Q _ => ∃ (z : Str) (l : Addr) (os : List (Option Nat)), vs = [.str z, .ref l] ∧ H l = some (.lst ((os.map oT).map V.str)) ∧ RowOk z os ∧ Small os ∧ ∀ H', Same H H' → Q (.bl true) H'
theorem ok_words {f dd : Addr} {fd : FuncData} (F : Fun K "words_are_so" "words_are_so" st_words_are_so f fd) (Kd : Kinds K w mg dd) (c_all_are_numbers : Callee P w K mg base "all_are_numbers" 2 1 spAllNum) (c_is_number : Callee P w K mg base "is_number" 1 1 spIsNum)
    (m_ord : ∃ t, mg "ORDER_NUMBERS" = some (.int 4 t)) (z_len : mg "len" = none) : FnOk P w K mg base CX0 3 f fd ["word", "words"] spWords := by
  obtain ⟨tO, mc_ORDER_NUMBERS⟩ := m_ord
  obtain ⟨mc_DEEDS, low, ⟨es, nn, hlk, hkl⟩, hit⟩ := Kd
  have DD : KDict K w dd es nn := ⟨hlk, hkl, low⟩
  refine F.ok sc_words_are_so (fun vs H Q E h => ?_) (fun cdv A outer s H vs Q E hr h => ?_)
  · obtain ⟨z, l, os, rfl, _⟩ := h
    rfl
  · obtain ⟨z, l, os, rfl, hl, row, sm, q⟩ := h
    refine ⟨_, (pss_cons (ps_if (pt_cmpR op_eq (pv 0) pe_str (nomark _)) (pss_cons (ps_if (pt_cmpR op_ne (pe_callB call_len_seq (by rfl) z_len (by decide +kernel) (pa_cons (pv 1) pa_nil)) (pe_glob (v := .int 4) rfl mc_ORDER_NUMBERS ⟨_, rfl⟩) (nomark _)) (pss_one (ps_ret pe_bl)) pss_nil)
  (pss_one (ps_ret (pe_and (pe_cal c_all_are_numbers hr (by first | decide | exact Nat.le_refl _) (pa_cons (pe_slice sl_list (pv 1) po_none (po_some (pe_un un_neg pe_int))) pa_nil)) (pe_one (pe_or (pe_cmpR op_eq (pe_ix ix_lt (pv 1) (pe_un un_neg pe_int) (fun _ _ => rfl)) pe_str (nomark _)) (pe_one (pe_cal c_is_number hr (by first | decide | exact Nat.le_refl _) (pa_cons (pe_ix ix_lt (pv 1) (pe_un un_neg pe_int) (fun _ _ => rfl)) pa_nil))))))))) pss_nil)
  (pss_cons (ps_if (pt_cmpR op_eq (pv 0) pe_str (nomark _)) (pss_one (ps_ret (pe_cal c_all_are_numbers hr (by first | decide | exact Nat.le_refl _) (pa_cons (pv 1) pa_nil)))) pss_nil)
  (pss_one (ps_ret (pe_and (pe_cmpR (op_in_kd DD) (pv 0) (pe_glob (v := .ref _) rfl mc_DEEDS rfl) (by rfl)) (pe_and (pe_cmpR op_eq (pe_callB call_len_seq (by rfl) z_len (by decide +kernel) (pa_cons (pv 1) pa_nil)) (pe_callB call_len_seq (by rfl) z_len (by decide +kernel) (pa_cons (pe_ix ix_kdict (pe_glob (v := .ref _) rfl mc_DEEDS rfl) (pv 0) (fun _ _ => rfl)) pa_nil)) (nomark _)) (pe_one (pe_cal c_all_are_numbers hr (by first | decide | exact Nat.le_refl _) (pa_cons (pv 1) pa_nil))))))))), ?_⟩
    cases row with
    | mem ns h16 =>
      rw [words_some] at hl
      refine ⟨_, rfl, rfl, _, rfl, iteF ?_⟩
      refine ⟨_, rfl, rfl, _, rfl, iteT ?_⟩
      exact ⟨_, rfl, l, ns, rfl, hl, small_some sm, by omega, q⟩
    | ord o =>
      refine ⟨_, rfl, rfl, _, rfl, iteT ?_⟩
      refine ⟨_, rfl, l, _, rfl, .inl (sqL_l hl), rfl, _, rfl, iteF ?_⟩
      -- words[:-1]
      refine ⟨_, rfl, _, rfl, _, rfl, l, _, rfl, sqL_l hl, fun p np => ?_⟩
      have s1 := same_new (o := .lst (cutV ((o.nums.map oT).map V.str) none (some (-1)))) np
      have cut : cutV ((o.nums.map oT).map V.str) none (some (-1)) = ([o.src, o.goal, o.many].map nT).map V.str := rfl
      rw [cut] at s1 ⊢
      have s3 := small_some (ns := [o.src, o.goal, o.many]) fun x hx => sm x (by
        simp only [List.map_cons, List.map_nil, List.mem_cons, List.not_mem_nil, or_false] at hx
        simp only [Ord.nums, List.mem_cons, List.not_mem_nil, or_false]
        rcases hx with h | h | h
        · exact .inl h
        · exact .inr (.inl h)
        · exact .inr (.inr (.inl h)))
      refine ⟨p, [o.src, o.goal, o.many], rfl, upd_same, s3, by simp, fun H2 s2 => ?_⟩
      have s12 := s1.trans s2
      have hl2 := s12 _ _ hl
      refine ⟨_, rfl, iteT ?_⟩
      have at3 : atI ((o.nums.map oT).map V.str) (-1) = some (.str (oT o.later)) := rfl
      refine ⟨_, rfl, _, rfl, l, _, (-1), _, rfl, rfl, sqA_l hl2, at3, rfl, ?_⟩
      cases hlt : o.later with
      | none => exact ⟨_, rfl, iteT (q _ s12)⟩
      | some n =>
        have hn : n < 17 := sm _ (by simp [Ord.nums]) n hlt
        rw [hlt] at at3
        have e : decide (V.str (oT (some n)) = V.str "-") = false := decide_eq_false fun z => of_decide_eq_false (num_dash n hn) (by injection z)
        rw [e]
        exact ⟨_, rfl, iteF ⟨_, rfl, _, rfl, l, _, (-1), _, rfl, rfl, sqA_l hl2, at3, n, rfl, hn, q _ s12⟩⟩
    | deed d =>
      obtain ⟨e1, e2⟩ := deed_no d
      rw [words_some] at hl
      obtain ⟨ks, hk, hkl2⟩ := kinds_deed d
      obtain ⟨kt, kd, kt2⟩ := hit _ ks hk
      have kd' := kd
      obtain ⟨es', n', u, _, _, hu, _⟩ := kd'
      refine ⟨_, rfl, rfl, _, rfl, ?_⟩
      rw [e1]
      refine iteF ⟨_, rfl, rfl, _, rfl, ?_⟩
      rw [e2]
      refine iteF ⟨_, rfl, _, _, rfl, rfl, hu, _, rfl, iteT ?_⟩
      refine ⟨_, rfl, l, _, rfl, .inl (sqL_l hl), _, rfl, dd, d.word, .ref kt, rfl, rfl, kd, kt, _, rfl, .inr (kt2.sq _), rfl, ?_⟩
      have e3 : decide (V.int (((d.args.map nT).map V.str).length : Nat) = V.int ((ks.map V.str).length : Nat)) = true := by
        rw [List.length_map, List.length_map, List.length_map, hkl2]; exact decide_eq_true rfl
      rw [e3]
      refine ⟨_, rfl, iteT ?_⟩
      exact ⟨_, rfl, l, d.args, rfl, hl, small_some sm, by cases d <;> simp [Deed.args], q⟩
abbrev st_number_of : Stmt := (topS 29)
abbrev nm_number_of : List Str := ["figures"]
theorem sc_number_of : FnScope ["figures"] ["figures"] (defScope st_number_of) := ⟨rfl, rfl, rfl, by decide +kernel, rfl, by decide +kernel, by decide +kernel⟩
def spNumOf : Sp := fun vs H Q _ => ∃ o : Option Nat, vs = [.str (oT o)] ∧ (∀ n, o = some n → n < 17) ∧ Q (oV o) H
theorem ok_numof {f : Addr} {fd : FuncData} (F : Fun K "number_of" "number_of" st_number_of f fd) (z_int : mg "int" = none) : FnOk P w K mg base CX0 1 f fd ["figures"] spNumOf := by
  refine F.ok sc_number_of (fun vs H Q E h => ?_) (fun cdv A outer s H vs Q E hr h => ?_)
  · obtain ⟨o, rfl, _⟩ := h
    rfl
  · obtain ⟨o, rfl, hs, q⟩ := h
    refine ⟨_, (pss_one (ps_ret (pe_ifExp (pt_cmpR op_eq (pv 0) pe_str (nomark _)) pe_non (pe_callTy call_int_str (by rfl) z_int (by decide +kernel) (pa_cons (pv 0) pa_nil))))), ?_⟩
    refine ⟨_, rfl, rfl, _, rfl, ?_⟩
    cases o with
    | none => exact iteT q
    | some n =>
      have hn := hs n rfl
      have e : decide (V.str (oT (some n)) = V.str "-") = false := decide_eq_false fun z => of_decide_eq_false (num_dash n hn) (by injection z)
      rw [e]
      exact iteF ⟨_, rfl, nT n, (n : Int), rfl, num_int n hn, by have := (num_len n hn).1; omega, q⟩
end
end Vt
namespace Vt
open PySem PySem.Spec PyProof.Rows L2
theorem rows_at {B : Brd} {i : Nat} {r : Str} (h : (rowsT B)[i]? = some r) : (i = 0 ∧ r = rowT "memory" (B.mem.map some)) ∨ (∃ o, 1 ≤ i ∧ i ≤ B.ords.length ∧ B.ords[i - 1]? = some o ∧ r = ordRow o) ∨ (∃ d, B.ords.length + 1 ≤ i ∧ B.prog[i - 1 - B.ords.length]? = some d ∧ r = deedRow d) := by
  cases i with
  | zero =>
    simp only [rowsT, List.getElem?_cons_zero, Option.some.injEq] at h
    exact .inl ⟨rfl, h.symm⟩
  | succ i =>
    simp only [rowsT, List.getElem?_cons_succ] at h
    rcases Nat.lt_or_ge i B.ords.length with hi | hi
    · rw [List.getElem?_append_left (by rw [List.length_map]; exact hi), List.getElem?_map] at h
      obtain ⟨o, ho, rfl⟩ : ∃ o, B.ords[i]? = some o ∧ ordRow o = r := by simpa using h
      exact .inr (.inl ⟨o, by omega, by omega, ho, rfl⟩)
    · rw [List.getElem?_append_right (by rw [List.length_map]; exact hi), List.length_map, List.getElem?_map] at h
      obtain ⟨d, hd, rfl⟩ : ∃ d, B.prog[i - B.ords.length]? = some d ∧ deedRow d = r := by simpa using h
      exact .inr (.inr ⟨d, by omega, by rw [show i + 1 - 1 - B.ords.length = i - B.ords.length by omega]; exact hd, rfl⟩)
section
variable {P : Program} {w : World} {K : PySem.W.Frag} {mg : Str → Option Value} {base : Heap}
abbrev st_read_board : Stmt := (topS 25)
abbrev nm_read_board : List Str := ["text", "memory", "orders", "program", "at", "row", "word", "words", "numbers", "figures", "board"]
theorem sc_read_board : FnScope ["text", "memory", "orders", "program", "at", "row", "word", "words", "numbers", "figures", "board"] ["text"] (defScope st_read_board) := ⟨rfl, rfl, rfl, by decide +kernel, rfl, by decide +kernel, by decide +kernel⟩
def spReadB : Sp := fun vs H Q _ => ∃ B : Brd, vs = [.str (textT B)] ∧ BrdOk B ∧ ∀ (H' : Hp) (v : V), Same H H' → Pd H' v B.d → Q v H'
theorem ok_readb {f : Addr} {fd : FuncData} (F : Fun K "read_board" "read_board" st_read_board f fd) (c_words_are_so : Callee P w K mg base "words_are_so" 3 2 spWords) (c_number_of : Callee P w K mg base "number_of" 1 1 spNumOf) (c_require_board : Callee P w K mg base "require_board" 3 1 spReq)
    (z_enumerate : mg "enumerate" = none) (z_tuple : mg "tuple" = none) : FnOk P w K mg base CX0 4 f fd ["text"] spReadB := by
  refine F.ok sc_read_board (fun vs H Q E h => ?_) (fun cdv A outer s H vs Q E hr h => ?_)
  · obtain ⟨B, rfl, _⟩ := h
    rfl
  · obtain ⟨B, rfl, ok, q⟩ := h
    refine ⟨_, (pss_cons (ps_set (i := 1) sc_read_board.nd rfl (Or.inl rfl) (pe_tup pa_nil))
  (pss_cons (ps_set (i := 2) sc_read_board.nd rfl (Or.inl rfl) (pe_lst pa_nil))
  (pss_cons (ps_set (i := 3) sc_read_board.nd rfl (Or.inl rfl) (pe_lst pa_nil))
  (pss_cons (ps_for PassesOwn.never rfl (pi_enumT (by rfl) z_enumerate (pa_cons (pe_split (pv 0) pe_str) pa_nil)) (pg_tup rfl (pgs_cons (pg_name (i := 4) sc_read_board.nd rfl (Or.inl rfl)) (pgs_cons (pg_name (i := 5) sc_read_board.nd rfl (Or.inl rfl)) pgs_nil)))
  (pss_cons (ps_asg (pe_split (pv 5) pe_str) (pg_starL (i := 6) (j := 7) rfl sc_read_board.nd rfl rfl rfl rfl))
  (pss_cons (ps_if (PW.pt (pw_or (pt_not (pt_val (pe_cal c_words_are_so hr (by first | decide | exact Nat.le_refl _) (pa_cons (pv 6) (pa_cons (pv 7) pa_nil))))) (pw_or1 (pt_cmpR op_ne (pe_cmpR op_eq (pv 6) pe_str (nomark _)) (pe_cmpR op_eq (pv 4) pe_int (nomark _)) (nomark _))))) (pss_one ps_never) pss_nil)
  (pss_cons (ps_set (i := 8) sc_read_board.nd rfl (Or.inl rfl) (pe_callTy call_tuple_of (by rfl) z_tuple (by decide +kernel) (pa_cons (pe_lc (own := [("figures", 9)]) rfl sc_read_board.nd (pi_lt (pv 7)) (blkOk_by (own := [("figures", 9)]) (N := nm_read_board) (sc := defScope (topS 25)) (by decide +kernel)) (fun _ _ _ _ _ => (pg_name (i := 9) sc_read_board.nd rfl (Or.inl rfl))) (fun _ _ _ _ _ => pts_nil) (fun _ _ _ _ _ => (pe_cal c_number_of hr (by first | decide | exact Nat.le_refl _) (pa_cons (pv 9) pa_nil)))) pa_nil)))
  (pss_one (ps_if (pt_cmpR op_eq (pv 6) pe_str (nomark _)) (pss_one (ps_set (i := 1) sc_read_board.nd rfl (Or.inl rfl) (pv 8))) (pss_one (ps_if (pt_cmpR op_ne (pv 6) pe_str (nomark _)) (pss_one (ps_expr (pe_bm PySem.F.plainAttrs_list PySem.F.slot_list_append PySem.F.type_list_append mt_append (pv 3) (pa_cons (pe_tup (pa_cons (pv 6) (StX.pa_star (pv 8) pa_nil))) pa_nil)))) (pss_one (ps_if (pt_truth (pv 3) (fun _ => rfl)) (pss_one ps_never) (pss_one (ps_expr (pe_bm PySem.F.plainAttrs_list PySem.F.slot_list_append PySem.F.type_list_append mt_append (pv 2) (pa_cons (pv 8) pa_nil))))))))))))))
  (pss_cons (ps_set (i := 10) sc_read_board.nd rfl (Or.inl rfl) (pe_tup (pa_cons (pv 1) (pa_cons (pe_callTy call_tuple_of (by rfl) z_tuple (by decide +kernel) (pa_cons (pv 2) pa_nil)) (pa_cons (pe_callTy call_tuple_of (by rfl) z_tuple (by decide +kernel) (pa_cons (pv 3) pa_nil)) pa_nil)))))
  (pss_cons (ps_expr (pe_cal c_require_board hr (by first | decide | exact Nat.le_refl _) (pa_cons (pv 10) pa_nil)))
  (pss_one (ps_ret (pv 10))))))))), ?_⟩
    have tl := text_len ok
    have sp := split_text ok
    have rl := rows_len ok
    refine ⟨Nat.zero_le _, fun M nM => ⟨Nat.zero_le _, fun O nO => ⟨Nat.zero_le _, fun G nG => ?_⟩⟩⟩
    have e1 := same_new (o := .tup []) nM
    have e2 := same_new (o := .lst []) nO
    have e3 := same_new (o := .lst []) nG
    have hO : (upd (upd (upd H M (.tup [])) O (.lst [])) G (.lst [])) O = some (.lst []) := e3 _ _ upd_same
    have hG : (upd (upd (upd H M (.tup [])) O (.lst [])) G (.lst [])) G = some (.lst []) := upd_same
    have OG : O ≠ G := fun z => by rw [← z, upd_same] at nG; cases nG
    have nO0 : H O = none := by
      cases z : H O with
      | none => rfl
      | some u => rw [e1 _ _ z] at nO; cases nO
    have nG0 : H G = none := by
      cases z : H G with
      | none => rfl
      | some u => rw [e2 _ _ (e1 _ _ z)] at nG; cases nG
    have s1 : Same H (upd (upd (upd H M (.tup [])) O (.lst [])) G (.lst [])) := (e1.trans e2).trans e3
    generalize upd (upd (upd H M (.tup [])) O (.lst [])) G (.lst []) = H1 at hO hG s1
    refine ⟨_, rfl, ⟨_, rfl⟩, textT B, "\n", rfl, rfl, by decide +kernel, fits' (by omega), fun p np => ?_⟩
    rw [sp]
    have s2 := same_new (o := .lst ((rowsT B).map V.str)) np
    refine ⟨p, rfl, .inl ⟨_, sqL_l upd_same, ?_⟩⟩
    have hO2 := s2 _ _ hO
    have hG2 := s2 _ _ hG
    have hp2 : (upd H1 p (.lst ((rowsT B).map V.str))) p = some (.lst ((rowsT B).map V.str)) := upd_same
    have pO : p ≠ O := (ne_of_none hO np).symm
    have pG : p ≠ G := (ne_of_none hG np).symm
    generalize upd H1 p (.lst ((rowsT B).map V.str)) = H2 at s2 hO2 hG2 hp2
    refine for_it (walk_enum (xs := (rowsT B).map V.str)) (fun i σ H' => ∃ (y1 : V) (y4 y5 y6 y7 y8 y9 y10 : Option V) (os ps : List V), σ = [some (.str (textT B)), some y1, some (.ref O), some (.ref G), y4, y5, y6, y7, y8, y9, y10] ∧ (1 ≤ i → Pd H' y1 (nsD B.mem)) ∧
        H' O = some (.lst os) ∧ Pds H' os ((B.ords.take (i - 1)).map Ord.d) ∧ H' G = some (.lst ps) ∧ Pds H' ps ((B.prog.take (i - 1 - B.ords.length)).map Deed.d) ∧ But [O, G] H2 H')
      ⟨_, _, _, _, _, _, _, _, [], [], rfl, fun z => absurd z (by omega), hO2, .nil, hG2, by simpa using Pds.nil, But.refl⟩ (fun i σ H' _ hp => by obtain ⟨_, _, _, _, _, _, _, _, _, _, _, _, _, _, _, _, bt⟩ := hp; exact sqL_l (bt _ _ (by simp [pO, pG]) hp2)) (fun i x σ H3 H4 hi hp hy => ?_) (fun σ H3 hp => ?_)
    · obtain ⟨y1, y4, y5, y6, y7, y8, y9, y10, os, ps, rfl, hm, hO3, hos, hG3, hps, bt⟩ := hp
      obtain ⟨T, a1, b, rfl, nT, _, h1, hb, s4, hT⟩ := pair_at hy
      cases h1
      rw [List.getElem?_map] at hb
      obtain ⟨r, hr, rfl⟩ : ∃ r, (rowsT B)[i]? = some r ∧ V.str r = b := by simpa using hb
      have bt4 : But [O, G] H2 H4 := bt.trans (Same.but s4)
      have hm4 : 1 ≤ i → Pd H4 y1 (nsD B.mem) := fun z => (hm z).same s4
      have hos4 := hos.same s4
      have hps4 := hps.same s4
      have hO4 := s4 _ _ hO3
      have hG4 := s4 _ _ hG3
      have rm := (rows_all ok r (List.mem_of_getElem? hr)).2
      -- what the row is
      obtain ⟨z, xs, rfl, row, sm, pw, x16, kind⟩ : ∃ z xs, r = rowT z xs ∧ RowOk z xs ∧ Small xs ∧ plainW z = true ∧ xs.length ≤ 16 ∧ ((i = 0 ∧ z = "memory" ∧ xs = B.mem.map some) ∨ (∃ o, 1 ≤ i ∧ i ≤ B.ords.length ∧ B.ords[i - 1]? = some o ∧ z = "order" ∧ xs = o.nums) ∨
          ∃ d, B.ords.length + 1 ≤ i ∧ B.prog[i - 1 - B.ords.length]? = some d ∧ z = d.word ∧ xs = d.args.map some) := by
        rcases rows_at hr with ⟨h0, rfl⟩ | ⟨o, h1, h2, ho, rfl⟩ | ⟨d, h1, hd, rfl⟩
        · have c16 : B.mem.length ≤ 16 := by rcases ok.cells with h | h | h | h <;> omega
          exact ⟨_, _, rfl, .mem _ c16, mem_small ok, by decide +kernel, by rw [List.length_map]; exact c16, .inl ⟨h0, rfl, rfl⟩⟩
        · exact ⟨_, _, rfl, .ord o, ord_small ok ho, by decide +kernel, by simp [Ord.nums], .inr (.inl ⟨o, h1, h2, ho, rfl, rfl⟩)⟩
        · exact ⟨_, _, rfl, .deed d, deed_small ok (List.mem_of_getElem? hd), (word_plain d).1, by cases d <;> simp [Deed.args], .inr (.inr ⟨d, h1, hd, rfl, rfl⟩)⟩
      refine ⟨T, _, rfl, sqT_t hT, rfl, _, _, rfl, _, _, rfl, rfl, ?_⟩
      -- word, *words = row.split(" ")
      refine ⟨_, rfl, ⟨_, rfl⟩, _, " ", rfl, rfl, by decide +kernel, fits' (by omega), fun q1 nq1 => ?_⟩
      rw [split_row pw sm]
      have s5 := same_new (o := .lst ((z :: xs.map oT).map V.str)) nq1
      refine ⟨q1, .str z, (xs.map oT).map V.str, rfl, sqL_l upd_same, by rw [List.length_map, List.length_map]; omega, fun q2 nq2 => ?_⟩
      have s6 := same_new (o := .lst ((xs.map oT).map V.str)) nq2
      have hq2 : (upd (upd H4 q1 (.lst ((z :: xs.map oT).map V.str))) q2 (.lst ((xs.map oT).map V.str))) q2 = some (.lst ((xs.map oT).map V.str)) := upd_same
      have s56 : Same H4 (upd (upd H4 q1 (.lst ((z :: xs.map oT).map V.str))) q2 (.lst ((xs.map oT).map V.str))) := s5.trans s6
      generalize upd (upd H4 q1 (.lst ((z :: xs.map oT).map V.str))) q2 (.lst ((xs.map oT).map V.str)) = H6 at s56 hq2
      refine ⟨_, rfl, _, rfl, z, q2, xs, rfl, hq2, row, sm, fun H7 s7 => ⟨_, rfl, iteF ?_⟩⟩
      have first : decide (V.bl (decide (V.str z = V.str "memory")) = V.bl (decide (V.int (i : Nat) = V.int 0))) = true := by
        rcases kind with ⟨rfl, rfl, _⟩ | ⟨o, h1, _, _, rfl, _⟩ | ⟨d, h1, _, rfl, _⟩
        · rfl
        · rw [decide_eq_false (show ¬ V.int (i : Nat) = V.int 0 from fun z => by injection z with z; omega)]; rfl
        · rw [decide_eq_false (show ¬ V.int (i : Nat) = V.int 0 from fun z => by injection z with z; omega), (deed_no d).2]; rfl
      refine ⟨_, rfl, rfl, _, rfl, rfl, rfl, _, rfl, ?_⟩
      rw [first]
      refine iteF ?_
      -- numbers = tuple([number_of(figures) ..])
      have hq27 := s7 _ _ hq2
      refine ⟨_, rfl, q2, rfl, .inl ⟨_, sqL_l hq27, fun D nD => ?_⟩⟩
      refine lc_it (walk_list (xs := (xs.map oT).map V.str)) (fun j H' => H' D = some (.lst ((xs.take j).map oV)) ∧ Same H7 H')
        ⟨upd_same, same_new nD⟩ (fun j H' _ hp => sqL_l (hp.2 _ _ hq27)) (fun j x H8 H9 hj hp hy => ?_) (fun H8 hp => ?_)
      · obtain ⟨hD, s8⟩ := hp
        obtain ⟨rfl, hx⟩ := hy
        rw [List.getElem?_map, List.getElem?_map] at hx
        obtain ⟨o, ho, rfl⟩ : ∃ o, xs[j]? = some o ∧ V.str (oT o) = x := by
          cases e : xs[j]? with
          | none => rw [e] at hx; cases hx
          | some n => rw [e] at hx; exact ⟨n, rfl, by simpa using hx⟩
        have tk : xs.take (j + 1) = xs.take j ++ [o] := by rw [List.take_add_one, ho]; rfl
        refine ⟨rfl, iteT (B := True) ⟨_, rfl, o, rfl, sm o (List.mem_of_getElem? ho), _, hD, fits ?_, ?_, fun b u e => ?_⟩⟩
        · have := List.length_take_le' j xs
          simp only [List.length_map]; omega
        · rw [upd_same, tk, List.map_append]; rfl
        · rw [upd_ne (ne_of_none e nD)]; exact s8 _ _ e
      obtain ⟨hD, s8⟩ := hp
      rw [List.length_map, List.length_map, List.take_length] at hD
      refine ⟨D, _, rfl, .inl ⟨sqL_l hD, fun N nN => ?_⟩⟩
      have s9 := same_new (o := .tup (xs.map oV)) nN
      have hN : (upd H8 N (.tup (xs.map oV))) N = some (.tup (xs.map oV)) := upd_same
      have s49 : Same H4 (upd H8 N (.tup (xs.map oV))) := ((s56.trans s7).trans s8).trans s9
      generalize upd H8 N (.tup (xs.map oV)) = H9 at s49 hN
      have bt9 : But [O, G] H2 H9 := bt4.trans (Same.but s49)
      have hO9 := s49 _ _ hO4
      have hG9 := s49 _ _ hG4
      have hos9 := hos4.same s49
      have hps9 := hps4.same s49
      have hm9 : 1 ≤ i → Pd H9 y1 (nsD B.mem) := fun z => (hm4 z).same s49
      have osl : os.length ≤ 4 := by
        rw [hos9.len, List.length_map]
        have := List.length_take_le' (i - 1) B.ords
        have := ok.four; omega
      have psl : ps.length ≤ 60 := by
        rw [hps9.len, List.length_map]
        have := List.length_take_le' (i - 1 - B.ords.length) B.prog
        have := ok.sixty; omega
      clear first
      rcases kind with ⟨rfl, rfl, rfl⟩ | ⟨o, h1, h2, ho, rfl, rfl⟩ | ⟨d, h1, hd, rfl, rfl⟩
      · refine ⟨_, rfl, rfl, _, rfl, iteT ⟨_, rfl, ?_⟩⟩
        refine ⟨_, _, _, _, _, _, _, _, os, ps, rfl, fun _ => .tup hN ?_, hO9, by simpa using hos9, hG9, by simpa using hps9, bt9⟩
        rw [List.map_map]; exact pds_ns _
      · refine ⟨_, rfl, rfl, _, rfl, iteF ?_⟩
        refine ⟨_, rfl, rfl, _, rfl, iteF ?_⟩
        have pn : ps = [] := by
          have h := hps9.len
          rw [show i - 1 - B.ords.length = 0 by omega] at h
          exact List.length_eq_zero_iff.mp (by simpa using h)
        subst pn
        refine ⟨_, rfl, _, .inl ⟨[], sqL_l hG9, rfl⟩, iteF ?_⟩
        refine ⟨_, rfl, .inl ⟨rfl, _, sqL_l hO9⟩, _, rfl, O, os, _, rfl, rfl, hO9, fits (by omega), ?_⟩
        have bO : But [O] H9 (upd H9 O (.lst (os ++ [.ref N]))) := But.set (by simp)
        have ls : Lsts H9 [O] := fun c hc => ⟨os, by rw [List.mem_singleton.mp hc]; exact hO9⟩
        have tk : B.ords.take (i + 1 - 1) = B.ords.take (i - 1) ++ [o] := by
          rw [show i + 1 - 1 = i - 1 + 1 by omega, List.take_add_one, ho]; rfl
        refine ⟨_, _, _, _, _, _, _, _, os ++ [.ref N], [], rfl, fun _ => Pd.but bO ls (noL_ns _) (hm9 h1), upd_same, ?_, bO.at1 hG9 OG.symm, ?_, bt9.trans (bO.mono (by simp))⟩
        · rw [tk, List.map_append]
          exact Pds.app (Pds.but bO ls (noLs_map noL_ord _) hos9) (.cons (.tup (bO _ _ (fun m => by
            rw [List.mem_singleton.mp m, hO9] at hN; cases hN) hN) (.cons (.int _) (.cons (.int _) (.cons (.int _) (.cons (pd_o _) .nil))))) .nil)
        · rw [show i + 1 - 1 - B.ords.length = 0 by omega]; exact .nil
      · obtain ⟨n1, n2⟩ := deed_no d
        refine ⟨_, rfl, rfl, _, rfl, ?_⟩
        rw [n2]
        refine iteF ⟨_, rfl, rfl, _, rfl, ?_⟩
        rw [n1]
        refine iteT ⟨_, rfl, .inl ⟨rfl, _, sqL_l hG9⟩, _, rfl, _, rfl, N, _, rfl, .inl (sqT_t hN), fits' (by cases d <;> simp [Deed.args]), fun U nU => ?_⟩
        have s10 := same_new (o := .tup (.str d.word :: ((d.args.map some).map oV ++ []))) nU
        have bG : But [G] (upd H9 U (.tup (.str d.word :: ((d.args.map some).map oV ++ [])))) (upd (upd H9 U (.tup (.str d.word :: ((d.args.map some).map oV ++ [])))) G (.lst (ps ++ [.ref U]))) := But.set (by simp)
        have hG10 := s10 _ _ hG9
        have ls : Lsts (upd H9 U (.tup (.str d.word :: ((d.args.map some).map oV ++ [])))) [G] := fun c hc => ⟨ps, by rw [List.mem_singleton.mp hc]; exact hG10⟩
        have UG : U ≠ G := (ne_of_none hG9 nU).symm
        refine ⟨G, ps, _, rfl, rfl, hG10, fits (by omega), ?_⟩
        have tk : B.prog.take (i + 1 - 1 - B.ords.length) = B.prog.take (i - 1 - B.ords.length) ++ [d] := by
          rw [show i + 1 - 1 - B.ords.length = i - 1 - B.ords.length + 1 by omega, List.take_add_one, hd]; rfl
        have ot : B.ords.take (i + 1 - 1) = B.ords.take (i - 1) := by
          rw [List.take_of_length_le (by omega), List.take_of_length_le (by omega)]
        refine ⟨_, _, _, _, _, _, _, _, os, ps ++ [.ref U], rfl, fun _ => Pd.but bG ls (noL_ns _) ((hm9 (by omega)).same s10), bG.at1 (s10 _ _ hO9) OG, ?_, upd_same, ?_, (bt9.trans (Same.but s10)).trans (bG.mono (by simp))⟩
        · rw [ot]; exact Pds.but bG ls (noLs_map noL_ord _) (hos9.same s10)
        · rw [tk, List.map_append]
          refine Pds.app (Pds.but bG ls (noLs_map noL_deed _) (hps9.same s10)) (.cons (.tup (by rw [upd_ne UG]; exact upd_same) (.cons (.str _) ?_)) .nil)
          rw [List.append_nil, List.map_map]
          exact pds_ns _
    · obtain ⟨y1, y4, y5, y6, y7, y8, y9, y10, os, ps, rfl, hm, hO3, hos, hG3, hps, bt⟩ := hp
      have rlen : ((rowsT B).map V.str).length = B.ords.length + B.prog.length + 1 := by simp [rowsT]
      rw [rlen] at hm hos hps
      rw [List.take_of_length_le (by omega)] at hos hps
      have y1p := hm (by omega)
      refine ⟨_, rfl, _, rfl, O, _, rfl, .inl ⟨sqL_l hO3, fun N1 nN1 => ?_⟩⟩
      have t1 := same_new (o := .tup os) nN1
      refine ⟨_, rfl, G, _, rfl, .inl ⟨sqL_l (t1 _ _ hG3), fun N2 nN2 => ?_⟩⟩
      have t2 := same_new (o := .tup ps) nN2
      refine ⟨by show 3 ≤ sizeLine; decide, fun N3 nN3 => ?_⟩
      have t3 := same_new (o := .tup [y1, .ref N1, .ref N2]) nN3
      have t13 := (t1.trans t2).trans t3
      have hB : Pd (upd (upd (upd H3 N1 (.tup os)) N2 (.tup ps)) N3 (.tup [y1, .ref N1, .ref N2])) (.ref N3) B.d :=
        .tup upd_same (.cons (y1p.same t13) (.cons (.tup (t3 _ _ (t2 _ _ upd_same)) (hos.same t13)) (.cons (.tup (t3 _ _ upd_same) (hps.same t13)) .nil)))
      refine ⟨_, rfl, .ref N3, B, rfl, hB, ok, fun H5 s5 => ?_⟩
      refine ⟨_, rfl, q H5 (.ref N3) (fun b u e => ?_) (hB.same s5)⟩
      exact s5 _ _ (t13 _ _ (bt b u (by
        intro m
        rcases List.mem_cons.mp m with rfl | m
        · rw [nO0] at e; cases e
        · rw [List.mem_singleton.mp m, nG0] at e; cases e) (s2 _ _ (s1 _ _ e))))
end
end Vt
namespace Vt
open PySem PySem.Spec PyProof.Rows L2
theorem app_assoc (a b c : Str) : a ++ b ++ c = a ++ (b ++ c) := by
  show Str.append (Str.append a b) c = Str.append a (Str.append b c)
  simp [Str.append, Array.append_assoc]
theorem pre_len {p : Str} {ps : List Str} (hp : p.length ≤ 54) (h : ∀ q ∈ ps, q.length ≤ 54) (hl : ps.length ≤ 64) : (Txt.join "\n" (p :: ps)).length ≤ 3600 := by
  have h1 := join_len "\n" 54 ps p h
  rw [show ("\n" : Str).length = 1 by decide +kernel] at h1
  omega
section
variable {P : Program} {w : World} {K : PySem.W.Frag} {mg : Str → Option Value} {base : Heap}
abbrev st_law_text : Stmt := (topS 37)
abbrev nm_law_text : List Str := ["_law_board_here", "_law_text_here", "_law_number", "_law_order_here", "_law_deed_here"]
theorem sc_law_text : FnScope ["_law_board_here", "_law_text_here", "_law_number", "_law_order_here", "_law_deed_here"] ["_law_board_here"] (defScope st_law_text) := ⟨rfl, rfl, rfl, by decide +kernel, rfl, by decide +kernel, by decide +kernel⟩
def spLText : Sp := fun vs H Q _ => ∃ (v : V) (B : Brd), vs = [v] ∧ Pd H v B.d ∧ BrdOk B ∧ ∀ H', Same H H' → Q (.str (textT B)) H'
theorem ok_ltext {f : Addr} {fd : FuncData} (F : Fun K "_law_text" "_law_text" st_law_text f fd) (z_str : mg "str" = none) : FnOk P w K mg base CX0 1 f fd ["_law_board_here"] spLText := by
  refine F.ok sc_law_text (fun vs H Q E h => ?_) (fun cdv A outer s H vs Q E hr h => ?_)
  · obtain ⟨v, B, rfl, _⟩ := h
    rfl
  · obtain ⟨v, B, rfl, hB, ok, q⟩ := h
    refine ⟨_, (pss_cons (ps_set (i := 1) sc_law_text.nd rfl (Or.inl rfl) pe_str)
  (pss_cons (ps_for PassesOwn.never rfl (pi_lt (pe_ix ix_lt (pv 0) pe_int (fun _ _ => rfl))) (pg_name (i := 2) sc_law_text.nd rfl (Or.inl rfl))
  (pss_one (ps_set (i := 1) sc_law_text.nd rfl (Or.inl rfl) (pe_op op_add_str (pe_op op_add_str (pv 1) pe_str) (pe_callTy call_str_int (by rfl) z_str (by decide +kernel) (pa_cons (pv 2) pa_nil))))))
  (pss_cons (ps_for PassesOwn.never rfl (pi_lt (pe_ix ix_lt (pv 0) pe_int (fun _ _ => rfl))) (pg_name (i := 3) sc_law_text.nd rfl (Or.inl rfl))
  (pss_cons (ps_set (i := 1) sc_law_text.nd rfl (Or.inl rfl) (pe_op op_add_str (pv 1) pe_str))
  (pss_one (ps_for PassesOwn.never rfl (pi_lt (pv 3)) (pg_name (i := 2) sc_law_text.nd rfl (Or.inl rfl))
  (pss_one (ps_set (i := 1) sc_law_text.nd rfl (Or.inl rfl) (pe_op op_add_str (pe_op op_add_str (pv 1) pe_str) (pe_ifExp (pt_cmpR op_isN (pv 2) pe_non (nomark _)) pe_str (pe_callTy call_str_int (by rfl) z_str (by decide +kernel) (pa_cons (pv 2) pa_nil))))))))))
  (pss_cons (ps_for PassesOwn.never rfl (pi_lt (pe_ix ix_lt (pv 0) pe_int (fun _ _ => rfl))) (pg_name (i := 4) sc_law_text.nd rfl (Or.inl rfl))
  (pss_one (ps_set (i := 1) sc_law_text.nd rfl (Or.inl rfl) (pe_op op_add_str (pe_op op_add_str (pv 1) pe_str) (pe_join pe_str (pe_op op_cat (pe_lst (pa_cons (pe_ix ix_lt (pv 4) pe_int (fun _ _ => rfl)) pa_nil)) (pe_lc (own := [("_law_number", 2)]) rfl sc_law_text.nd (pi_lt (pe_slice sl_tup (pv 4) (po_some pe_int) po_none)) (blkOk_by (own := [("_law_number", 2)]) (N := nm_law_text) (sc := defScope (topS 37)) (by decide +kernel)) (fun _ _ _ _ _ => (pg_name (i := 2) sc_law_text.nd rfl (Or.inl rfl))) (fun _ _ _ _ _ => pts_nil) (fun _ _ _ _ _ => (pe_callTy call_str_int (by rfl) z_str (by decide +kernel) (pa_cons (pv 2) pa_nil))))))))))
  (pss_one (ps_ret (pv 1))))))), ?_⟩
    obtain ⟨a, mm, o, p, os, ps, rfl, ha, hm, ho, hos, hp', hps⟩ := Brd.of hB
    have c16 : B.mem.length ≤ 16 := by rcases ok.cells with h | h | h | h <;> omega
    have rall := rows_all ok
    have o4 := ok.four
    have p60 := ok.sixty
    have olen : os.length = B.ords.length := by rw [hos.len, List.length_map]
    have plen : ps.length = B.prog.length := by rw [hps.len, List.length_map]
    have b1 : (" " : Str).length = 1 := by decide +kernel
    have b2 : ("\n" : Str).length = 1 := by decide +kernel
    have m54 : (rowT "memory" (B.mem.map some)).length ≤ 54 := (rall _ (List.mem_cons_self ..)).2
    refine ⟨_, rfl, a, _, 0, .ref mm, rfl, rfl, sqA_t ha, at0, mm, rfl, .inr ⟨_, sqT_t hm, ?_⟩⟩
    refine for_it (walk_tup (xs := B.mem.map nV)) (fun i σ H' => ∃ (y2 y3 y4 : Option V), σ = [some (.ref a), some (.str (rowT "memory" ((B.mem.take i).map some))), y2, y3, y4] ∧ H' = H)
      ⟨_, _, _, rfl, rfl⟩ (fun i σ H' _ hp => by obtain ⟨_, _, _, _, rfl⟩ := hp; exact sqT_t hm) (fun i x σ H2 H3 hi hp hy => ?_) (fun σ H2 hp => ?_)
    · obtain ⟨y2, y3, y4, rfl, rfl⟩ := hp
      obtain ⟨rfl, hx⟩ := hy
      rw [List.getElem?_map] at hx
      obtain ⟨n, hn, rfl⟩ : ∃ n, B.mem[i]? = some n ∧ nV n = x := by simpa using hx
      have n17 : n < 17 := by have := ok.nums n (List.mem_of_getElem? hn); omega
      have tk : (B.mem.take (i + 1)).map some = (B.mem.take i).map some ++ [some n] := by rw [List.take_add_one, hn, List.map_append]; rfl
      have sm : Small ((B.mem.take i).map some) := fun x hx => mem_small ok x (by
        obtain ⟨y, hy, rfl⟩ := List.mem_map.mp hx
        exact List.mem_map.mpr ⟨y, List.mem_of_mem_take hy, rfl⟩)
      have l1 := row_len (w := "memory") (by decide +kernel) sm
      have l2 := (num_len n n17).1
      have l3 := List.length_take_le' i B.mem
      rw [List.length_map] at l1
      rw [tk, row_snoc]
      refine ⟨_, rfl, _, _, rfl, rfl, fits' (by rw [b1]; omega), _, rfl, _, rfl, nT_log n17, _, _, rfl, rfl, fits' (by rw [app_len, b1]; show _ + (nT n).length ≤ _; omega), ?_⟩
      exact ⟨_, _, _, rfl, rfl⟩
    obtain ⟨y2, y3, y4, rfl, rfl⟩ := hp
    rw [List.length_map, List.take_length]
    -- orders
    refine ⟨_, rfl, a, _, 1, .ref o, rfl, rfl, sqA_t ha, rfl, o, rfl, .inr ⟨_, sqT_t ho, ?_⟩⟩
    refine for_it (walk_tup (xs := os)) (fun i σ H' => ∃ (y2 y3 y4 : Option V), σ = [some (.ref a), some (.str (Txt.join "\n" (rowT "memory" (B.mem.map some) :: (B.ords.take i).map ordRow))), y2, y3, y4] ∧ H' = H2)
      ⟨_, _, _, rfl, rfl⟩ (fun i σ H' _ hp => by obtain ⟨_, _, _, _, rfl⟩ := hp; exact sqT_t ho) (fun i x σ H4 H5 hi hp hy => ?_) (fun σ H4 hp => ?_)
    · obtain ⟨y2, y3, y4, rfl, rfl⟩ := hp
      obtain ⟨rfl, hx⟩ := hy
      obtain ⟨dd, hdd, hpd⟩ := hos.get' hx
      rw [List.getElem?_map] at hdd
      obtain ⟨o0, ho0, rfl⟩ : ∃ o0, B.ords[i]? = some o0 ∧ o0.d = dd := by simpa using hdd
      obtain ⟨oa, rfl, hoa⟩ := Ord.of hpd
      have hoa' : H5 oa = some (.tup (o0.nums.map oV)) := hoa
      have tk : (B.ords.take (i + 1)).map ordRow = (B.ords.take i).map ordRow ++ [ordRow o0] := by rw [List.take_add_one, ho0, List.map_append]; rfl
      have pl := pre_len m54 (ps := (B.ords.take i).map ordRow) (fun q hq => by
        obtain ⟨y, hy, rfl⟩ := List.mem_map.mp hq
        exact (rall _ (List.mem_cons_of_mem _ (List.mem_append.mpr (.inl (List.mem_map.mpr ⟨y, List.mem_of_mem_take hy, rfl⟩))))).2) (by
        have := List.length_take_le' i B.ords
        rw [List.length_map]; omega)
      rw [tk, join_snoc]
      generalize Txt.join "\n" (rowT "memory" (B.mem.map some) :: (B.ords.take i).map ordRow) = T at *
      have sm := ord_small ok ho0
      refine ⟨_, rfl, _, _, rfl, rfl, fits' (by rw [show ("\norder" : Str).length = 6 by decide +kernel]; omega), ?_⟩
      refine ⟨_, rfl, oa, rfl, .inr ⟨_, sqT_t hoa', ?_⟩⟩
      refine for_it (walk_tup (xs := o0.nums.map oV)) (fun j σ H' => ∃ (y2 : Option V), σ = [some (.ref a), some (.str (T ++ "\n" ++ rowT "order" (o0.nums.take j))), y2, some (.ref oa), y4] ∧ H' = H5)
        ⟨y2, ?_, rfl⟩ (fun i σ H' _ hp => by obtain ⟨_, _, rfl⟩ := hp; exact sqT_t hoa') (fun j x σ H6 H7 hj hp hy => ?_) (fun σ H6 hp => ?_)
      · rw [app_assoc, List.take_zero]
        rfl
      · obtain ⟨y2, rfl, rfl⟩ := hp
        obtain ⟨rfl, hx⟩ := hy
        rw [List.getElem?_map] at hx
        obtain ⟨n, hn, rfl⟩ : ∃ n, o0.nums[j]? = some n ∧ oV n = x := by simpa using hx
        have hmem := List.mem_of_getElem? hn
        have tj : o0.nums.take (j + 1) = o0.nums.take j ++ [n] := by rw [List.take_add_one, hn]; rfl
        have smj : Small (o0.nums.take j) := fun x hx => sm x (List.mem_of_mem_take hx)
        have l1 := row_len (w := "order") (by decide +kernel) smj
        have l3 := List.length_take_le' j o0.nums
        have l4 : o0.nums.length = 4 := rfl
        have l0 : (T ++ "\n" ++ rowT "order" (o0.nums.take j)).length ≤ 3700 := by rw [app_len, app_len, b2]; omega
        have fin : T ++ "\n" ++ rowT "order" (o0.nums.take (j + 1)) = T ++ "\n" ++ rowT "order" (o0.nums.take j) ++ " " ++ oT n := by
          rw [tj, row_snoc]
          simp only [app_assoc]
        rw [fin]
        generalize T ++ "\n" ++ rowT "order" (o0.nums.take j) = U at *
        refine ⟨_, rfl, _, _, rfl, rfl, fits' (by rw [b1]; omega), _, rfl, rfl, _, rfl, ?_⟩
        cases n with
        | none => exact iteT ⟨_, _, rfl, rfl, fits' (by rw [app_len, b1, show ("-" : Str).length = 1 by decide +kernel]; omega), _, rfl, rfl⟩
        | some n =>
          have n17 : n < 17 := sm _ hmem n rfl
          have l2 := (num_len n n17).1
          exact iteF ⟨_, rfl, _, rfl, nT_log n17, _, _, rfl, rfl, fits' (by rw [app_len, b1]; show _ + (nT n).length ≤ _; omega), _, rfl, rfl⟩
      · obtain ⟨y2, rfl, rfl⟩ := hp
        rw [List.length_map, List.take_length]
        exact ⟨_, _, _, rfl, rfl⟩
    obtain ⟨y2, y3, y4, rfl, rfl⟩ := hp
    rw [olen, List.take_length]
    -- deeds
    refine ⟨_, rfl, a, _, 2, .ref p, rfl, rfl, sqA_t ha, rfl, p, rfl, .inr ⟨_, sqT_t hp', ?_⟩⟩
    refine for_it (walk_tup (xs := ps)) (fun i σ H' => ∃ (y2 y3 y4 : Option V), σ = [some (.ref a), some (.str (Txt.join "\n" (rowT "memory" (B.mem.map some) :: (B.ords.map ordRow ++ (B.prog.take i).map deedRow)))), y2, y3, y4] ∧ Same H4 H')
      ⟨y2, y3, y4, by simp, Same.refl _⟩ (fun i σ H' _ hp => by obtain ⟨_, _, _, _, s⟩ := hp; exact sqT_t (s _ _ hp')) (fun i x σ H6 H7 hi hp hy => ?_) (fun σ H6 hp => ?_)
    · obtain ⟨y2, y3, y4, rfl, s6⟩ := hp
      obtain ⟨rfl, hx⟩ := hy
      obtain ⟨dd, hdd, hpd⟩ := hps.get' hx
      rw [List.getElem?_map] at hdd
      obtain ⟨d0, hd0, rfl⟩ : ∃ d0, B.prog[i]? = some d0 ∧ d0.d = dd := by simpa using hdd
      obtain ⟨da, rfl, hda⟩ := Deed.of hpd
      have tk : B.ords.map ordRow ++ (B.prog.take (i + 1)).map deedRow = (B.ords.map ordRow ++ (B.prog.take i).map deedRow) ++ [deedRow d0] := by rw [List.take_add_one, hd0, List.map_append, List.append_assoc]; rfl
      have pl := pre_len m54 (ps := B.ords.map ordRow ++ (B.prog.take i).map deedRow) (fun q hq => by
        rcases List.mem_append.mp hq with hq | hq
        · exact (rall _ (List.mem_cons_of_mem _ (List.mem_append.mpr (.inl hq)))).2
        · obtain ⟨y, hy, rfl⟩ := List.mem_map.mp hq
          exact (rall _ (List.mem_cons_of_mem _ (List.mem_append.mpr (.inr (List.mem_map.mpr ⟨y, List.mem_of_mem_take hy, rfl⟩))))).2) (by
        have := List.length_take_le' i B.prog
        rw [List.length_append, List.length_map, List.length_map]; omega)
      rw [tk, join_snoc]
      generalize Txt.join "\n" (rowT "memory" (B.mem.map some) :: (B.ords.map ordRow ++ (B.prog.take i).map deedRow)) = T at *
      have sm := deed_small ok (List.mem_of_getElem? hd0)
      have al : d0.args.length ≤ 2 := by cases d0 <;> simp [Deed.args]
      have hda7 := s6 _ _ hda
      refine ⟨_, rfl, _, _, rfl, rfl, fits' (by rw [b2]; omega), ⟨_, rfl⟩, _, rfl, da, _, 0, .str d0.word, rfl, rfl, sqA_t hda7, at0, by show 1 ≤ sizeLine; decide, fun L nL => ?_⟩
      have t1 := same_new (o := .lst [.str d0.word]) nL
      refine ⟨_, rfl, 1, rfl, da, _, rfl, sqT_t (t1 _ _ hda7), (fun z => absurd z.1 (by simp [HT.sIx, Deed.vs])), fun S nS => ?_⟩
      have cut : cutV d0.vs (some 1) none = d0.args.map nV := by
        cases d0 <;> rfl
      rw [cut]
      have t2 := same_new (o := .tup (d0.args.map nV)) nS
      have hL : (upd (upd H7 L (.lst [.str d0.word])) S (.tup (d0.args.map nV))) L = some (.lst [.str d0.word]) := t2 _ _ upd_same
      have hS : (upd (upd H7 L (.lst [.str d0.word])) S (.tup (d0.args.map nV))) S = some (.tup (d0.args.map nV)) := upd_same
      have t12 := t1.trans t2
      generalize upd (upd H7 L (.lst [.str d0.word])) S (.tup (d0.args.map nV)) = H8 at hL hS t12
      refine ⟨S, rfl, .inr ⟨_, sqT_t hS, fun D nD => ?_⟩⟩
      refine lc_it (walk_tup (xs := d0.args.map nV)) (fun j H' => H' D = some (.lst (((d0.args.take j).map nT).map V.str)) ∧ Same H8 H')
        ⟨upd_same, same_new nD⟩ (fun j H' _ hp => sqT_t (hp.2 _ _ hS)) (fun j x H9 H10 hj hp hy => ?_) (fun H9 hp => ?_)
      · obtain ⟨hD, s8⟩ := hp
        obtain ⟨rfl, hx⟩ := hy
        rw [List.getElem?_map] at hx
        obtain ⟨n, hn, rfl⟩ : ∃ n, d0.args[j]? = some n ∧ nV n = x := by simpa using hx
        have n17 := small_some sm n (List.mem_of_getElem? hn)
        have tj : d0.args.take (j + 1) = d0.args.take j ++ [n] := by rw [List.take_add_one, hn]; rfl
        refine ⟨rfl, iteT (B := True) ⟨_, rfl, _, rfl, nT_log n17, _, hD, fits ?_, ?_, fun b u e => ?_⟩⟩
        · have := List.length_take_le' j d0.args
          simp only [List.length_map]; omega
        · rw [upd_same, tj, List.map_append, List.map_append]; rfl
        · rw [upd_ne (ne_of_none e nD)]; exact s8 _ _ e
      obtain ⟨hD, s8⟩ := hp
      rw [List.length_map, List.take_length] at hD
      refine ⟨L, D, _, _, rfl, rfl, s8 _ _ hL, hD, fits' (by simp only [List.length_map, List.length_cons, List.length_nil]; omega), fun p3 np3 => ?_⟩
      have e3 : [V.str d0.word] ++ (d0.args.map nT).map V.str = (d0.word :: (d0.args.map nT)).map V.str := rfl
      rw [e3]
      have hrow : Txt.join " " (d0.word :: d0.args.map nT) = deedRow d0 := by
        unfold deedRow rowT
        rw [words_some]
      have rl : (deedRow d0).length ≤ 54 := (rall _ (List.mem_cons_of_mem _ (List.mem_append.mpr (.inr (List.mem_map.mpr ⟨d0, List.mem_of_getElem? hd0, rfl⟩))))).2
      refine ⟨" ", p3, d0.word :: d0.args.map nT, rfl, rfl, .inl (sqL_l upd_same), ?_, ?_⟩
      · have h1 := sum_le 6 (d0.word :: d0.args.map nT) (fun q hq => by
          rcases List.mem_cons.mp hq with rfl | hq
          · exact (word_plain d0).2
          · obtain ⟨n, hn, rfl⟩ := List.mem_map.mp hq
            have := (num_len n (small_some sm n hn)).1; omega)
        rw [b1]
        simp only [List.length_cons, List.length_map] at h1 ⊢
        omega
      rw [hrow]
      refine ⟨_, _, rfl, rfl, fits' (by rw [app_len, b2]; omega), ?_⟩
      exact ⟨_, _, _, rfl, ((s6.trans t12).trans s8).trans (same_new np3)⟩
    · obtain ⟨y2, y3, y4, rfl, s6⟩ := hp
      rw [plen, List.take_length]
      exact ⟨_, rfl, q _ s6⟩
end
end Vt
namespace Vt
open PySem PySem.Spec PyProof.Rows L2
theorem dep_le {α : Type} {f : α → D} {k : Nat} (h : ∀ x, (f x).dep ≤ k) : ∀ xs : List α, deps (xs.map f) ≤ k
  | [] => by simp [deps]
  | x :: r => by
    have h1 := h x
    have h2 := dep_le h r
    simp only [List.map_cons, deps]; omega
theorem dep_oD (o : Option Nat) : (oD o).dep = 0 := by cases o <;> rfl
theorem dep_brd (B : Brd) : B.d.dep < 4 := by
  have h1 := dep_le (f := nD) (k := 0) (fun x => by simp [nD, D.dep]) B.mem
  have h2 := dep_le (f := Ord.d) (k := 1) (fun x => by simp [Ord.d, nD, D.dep, deps, dep_oD]) B.ords
  have h3 := dep_le (f := Deed.d) (k := 1) (fun x => by
    have := dep_le (f := nD) (k := 0) (fun x => by simp [nD, D.dep]) x.args
    simp only [Deed.d, D.dep, deps]; omega) B.prog
  simp only [Brd.d, nsD, D.dep, deps]; omega
theorem sm_oD (o : Option Nat) : (oD o).sm = true := by cases o <;> rfl
theorem sm_tup {α : Type} {f : α → D} (h : ∀ x, (f x).sm = true) {xs : List α} (hl : xs.length ≤ 100000) : (D.tup (xs.map f)).sm = true := by
  simp only [D.sm, List.length_map, Bool.and_eq_true, decide_eq_true_eq]
  exact ⟨hl, sm_map h _⟩
theorem sm_brd {B : Brd} (h1 : B.mem.length ≤ 100000) (h2 : B.ords.length ≤ 100000) (h3 : B.prog.length ≤ 100000) : B.d.sm = true := by
  have g1 := sm_tup sm_nD h1
  have g2 := sm_tup (f := Ord.d) (fun x => by simp [Ord.d, D.sm, smAll, nD, sm_oD]) h2
  have g3 := sm_tup (f := Deed.d) (fun x => by
    have a : x.args.length ≤ 2 := by cases x <;> simp [Deed.args]
    simp only [Deed.d, D.sm, smAll, List.length_cons, List.length_map, Bool.and_eq_true, decide_eq_true_eq]
    exact ⟨by omega, trivial, sm_map sm_nD _⟩) h3
  rw [Brd.d, D.sm]
  simp only [smAll, nsD, g1, g2, g3]
  rfl
section
variable {P : Program} {w : World} {K : PySem.W.Frag} {mg : Str → Option Value} {base : Heap}
/-- a list of boards -/
def AllB (H : Hp) (vs : List V) : Prop := ∀ v ∈ vs, ∃ B : Brd, Pd H v B.d ∧ BrdOk B
theorem AllB.same {H H' : Hp} {vs : List V} (h : AllB H vs) (s : Same H H') : AllB H' vs := fun v hv => by
  obtain ⟨B, h1, h2⟩ := h v hv
  exact ⟨B, h1.same s, h2⟩
abbrev st_law : Stmt := (topS 39)
abbrev nm_law : List Str := ["_law_script", "_law_box", "_law_boards", "_law_turn", "_law_board_here", "_law_text_here"]
theorem sc_law : FnScope ["_law_script", "_law_box", "_law_boards", "_law_turn", "_law_board_here", "_law_text_here"] ["_law_script"] (defScope st_law) := ⟨rfl, rfl, rfl, by decide +kernel, rfl, by decide +kernel, by decide +kernel⟩
def spLaw (K : PySem.W.Frag) : Sp := fun vs H Q _ => ∃ (a : Addr) (ns : List Int), vs = [.ref a] ∧ SqL K H a (ns.map V.int) ∧ ns.length ≤ 63 ∧ ∀ H', Q (.bl true) H'
theorem ok_law {f : Addr} {fd : FuncData} (F : Fun K "law" "law" st_law f fd) (c_law_begun : Callee P w K mg base "_law_begun" 1 1 (spBegun K)) (c_law_board : Callee P w K mg base "_law_board" 3 4 spBoard)
    (c_law_kinds : Callee P w K mg base "_law_kinds" 1 0 (spKinds kindWords)) (c_law_alike : Callee P w K mg base "_law_alike" 4 2 (spAlike 4)) (c_law_text : Callee P w K mg base "_law_text" 1 1 spLText)
    (c_written : Callee P w K mg base "written" 4 1 spWritten) (c_read_board : Callee P w K mg base "read_board" 4 1 spReadB) (z_range : mg "range" = none) : FnOk P w K mg base CX0 5 f fd ["_law_script"] (spLaw K) := by
  refine F.ok sc_law (fun vs H Q E h => ?_) (fun cdv A outer s H vs Q E hr h => ?_)
  · obtain ⟨a, ns, rfl, _⟩ := h
    rfl
  · obtain ⟨a, ns, rfl, hS, hlen, q⟩ := h
    refine ⟨_, (pss_cons (ps_set (i := 1) sc_law.nd rfl (Or.inr rfl) (pe_cal c_law_begun hr (by first | decide | exact Nat.le_refl _) (pa_cons (pv 0) pa_nil)))
  (pss_cons (ps_setLc (i := 2) (own := [("_law_turn", 3)]) rfl sc_law.nd rfl rfl (sw_true rfl rfl rfl (by decide +kernel)) (pi_range1 (by rfl) z_range (pa_cons pe_int pa_nil)) (blkOk_by (own := [("_law_turn", 3)]) (N := nm_law) (sc := defScope (topS 39)) (by decide +kernel)) (fun _ _ _ _ _ => (pg_name (i := 3) sc_law.nd rfl (Or.inl rfl))) (fun _ _ _ _ _ => pts_nil) (fun _ _ _ _ _ => (pe_cal c_law_board hr (by first | decide | exact Nat.le_refl _) (pa_cons (pv 1) (pa_cons pe_int (pa_cons pe_int (pa_cons (pe_cal0 c_law_kinds hr (by first | decide | exact Nat.le_refl _)) pa_nil)))))))
  (pss_cons (ps_for PassesOwn.never rfl (pi_lt (pe_op op_cat (pv 2) (pe_slice sl_list (pv 2) po_none (po_some pe_int)))) (pg_name (i := 4) sc_law.nd rfl (Or.inl rfl))
  (pss_cons (ps_set (i := 5) sc_law.nd rfl (Or.inl rfl) (pe_cal c_written hr (by first | decide | exact Nat.le_refl _) (pa_cons (pv 4) pa_nil)))
  (pss_one (ps_if (PW.pt (pw_or (pt_not (pt_val (pe_cal c_law_alike hr (by first | decide | exact Nat.le_refl _) (pa_cons (pv 5) (pa_cons (pe_cal c_law_text hr (by first | decide | exact Nat.le_refl _) (pa_cons (pv 4) pa_nil)) pa_nil))))) (pw_or1 (pt_not (pt_val (pe_cal c_law_alike hr (by first | decide | exact Nat.le_refl _) (pa_cons (pe_cal c_read_board hr (by first | decide | exact Nat.le_refl _) (pa_cons (pv 5) pa_nil)) (pa_cons (pv 4) pa_nil)))))))) (pss_one (ps_ret pe_bl)) pss_nil))))
  (pss_one (ps_ret pe_bl))))), ?_⟩
    refine ⟨_, rfl, a, ns, rfl, hS, hlen, fun H1 b l hB2 sm1 => ?_⟩
    refine ⟨2, rfl, by decide, by decide, fun D nD => ?_⟩
    have Db : D ∉ [b, l] := fun m => by
      obtain ⟨ys, e⟩ := hB2.lsts _ m
      rw [nD] at e; cases e
    refine lc_it (walk_range (lo := 0) (n := (2 : Int).toNat)) (fun j H' => ∃ vs : List V, H' D = some (.lst vs) ∧ vs.length = j ∧ AllB H' vs ∧ Box H' b l)
      ⟨[], upd_same, rfl, fun v hv => (by cases hv), hB2.same (same_new nD)⟩ (fun _ _ _ _ => trivial) (fun j x H2 H3 hj hp hy => ?_) (fun H2 hp => ?_)
    · obtain ⟨vs, hD, vl, hall, hB3⟩ := hp
      obtain ⟨rfl, rfl⟩ := hy
      have hj2 : j < 2 := hj
      refine ⟨rfl, iteT (B := True) ⟨_, rfl, rfl, fun H6 kl sm6 nk hk => ?_⟩⟩
      refine ⟨b, l, kl, 4, 16, kindWords, rfl, hB3.same sm6, by decide, by decide, by decide, hk, by decide, by decide, by decide, fun H7 v B hB7 bt7 hv ok _ _ _ _ => ?_⟩
      have hD7 := bt7 _ _ Db (sm6 _ _ hD)
      have bD : But [D] H7 (upd H7 D (.lst (vs ++ [v]))) := But.set (by simp)
      have ls : Lsts H7 [D] := fun c hc => ⟨vs, by rw [List.mem_singleton.mp hc]; exact hD7⟩
      refine ⟨vs, hD7, fits (by omega), vs ++ [v], upd_same, by rw [List.length_append, vl]; rfl, fun u hu => ?_, ?_⟩
      · rcases List.mem_append.mp hu with hu | hu
        · obtain ⟨B', h1, h2⟩ := hall u hu
          exact ⟨B', Pd.but bD ls (noL_brd B') (Pd.but bt7 (hB3.same sm6).lsts (noL_brd B') (h1.same sm6)), h2⟩
        · rw [List.mem_singleton.mp hu]
          exact ⟨B, Pd.but bD ls (noL_brd B) hv, ok⟩
      · obtain ⟨ns', s', g1, g2, g3⟩ := hB7
        exact ⟨ns', s', bD _ _ (fun m => Db (by rw [← List.mem_singleton.mp m]; simp)) g1, bD _ _ (fun m => Db (by rw [← List.mem_singleton.mp m]; simp)) g2, g3⟩
    obtain ⟨vs, hD, vl, hall, hB3⟩ := hp
    have vl' : vs.length = 2 := vl
    -- boards + boards[:1]
    refine ⟨_, rfl, _, rfl, 1, rfl, D, _, rfl, sqL_l hD, fun p np => ?_⟩
    have t1 := same_new (o := .lst (cutV vs none (some 1))) np
    have cl : (cutV vs none (some 1)).length ≤ 2 ∧ ∀ v ∈ cutV vs none (some 1), v ∈ vs := by
      unfold cutV
      refine ⟨?_, fun v hv => List.mem_of_mem_drop (List.mem_of_mem_take hv)⟩
      have := List.length_take_le' (HT.sIx vs.length vs.length (some 1) - HT.sIx vs.length 0 none) (vs.drop (HT.sIx vs.length 0 none))
      rw [List.length_drop] at this; omega
    refine ⟨D, p, _, _, rfl, rfl, t1 _ _ hD, upd_same, fits' (by omega), fun p2 np2 => ?_⟩
    have t2 := same_new (o := .lst (vs ++ cutV vs none (some 1))) np2
    have hall2 : AllB (upd (upd H2 p (.lst (cutV vs none (some 1)))) p2 (.lst (vs ++ cutV vs none (some 1)))) (vs ++ cutV vs none (some 1)) := fun v hv => by
      have hv' : v ∈ vs := by
        rcases List.mem_append.mp hv with h | h
        · exact h
        · exact cl.2 v h
      exact (hall.same (t1.trans t2)) v hv'
    have hp2 : (upd (upd H2 p (.lst (cutV vs none (some 1)))) p2 (.lst (vs ++ cutV vs none (some 1)))) p2 = some (.lst (vs ++ cutV vs none (some 1))) := upd_same
    generalize upd (upd H2 p (.lst (cutV vs none (some 1)))) p2 (.lst (vs ++ cutV vs none (some 1))) = H3 at hall2 hp2
    generalize vs ++ cutV vs none (some 1) = us at hall2 hp2
    refine ⟨p2, rfl, .inl ⟨_, sqL_l hp2, ?_⟩⟩
    refine for_it (walk_list (xs := us)) (fun i σ H' => ∃ (y3 y4 y5 : Option V), σ = [some (.ref a), some (.ref b), some (.ref D), y3, y4, y5] ∧ Same H3 H')
      ⟨_, _, _, rfl, Same.refl _⟩ (fun i σ H' _ hp => by obtain ⟨_, _, _, _, s⟩ := hp; exact sqL_l (s _ _ hp2)) (fun i x σ H8 H9 hi hp hy => ?_) (fun σ H8 hp => q H8)
    obtain ⟨y3, y4, y5, rfl, s8⟩ := hp
    obtain ⟨rfl, hx⟩ := hy
    obtain ⟨B, hv, ok⟩ := hall2 x (List.mem_of_getElem? hx)
    have hv9 := hv.same s8
    refine ⟨_, rfl, x, B, rfl, hv9, ok, fun H10 s10 => ?_⟩
    refine ⟨_, rfl, _, rfl, x, B, rfl, hv9.same s10, ok, fun H11 s11 => ?_⟩
    refine ⟨.str (textT B), .str (textT B), .str (textT B), rfl, .str _, .str _, by show (0 : Nat) < 4; decide, rfl, _, rfl, iteF ?_⟩
    have s911 := s10.trans s11
    refine ⟨_, rfl, B, rfl, ok, fun H12 u s12 hu => ?_⟩
    have c16 : B.mem.length ≤ 16 := by rcases ok.cells with h | h | h | h <;> omega
    have o4 := ok.four
    have p60 := ok.sixty
    refine ⟨_, rfl, u, x, B.d, rfl, hu, hv9.same (s911.trans s12), dep_brd B, ?_, _, rfl, iteF ?_⟩
    · exact sm_brd (by omega) (by omega) (by omega)
    · exact ⟨_, _, _, rfl, (s8.trans s911).trans s12⟩
end
end Vt
namespace Vt
open PySem PySem.Spec PyProof.Rows L2
set_option maxHeartbeats 0 in
theorem all_mk {l : PySem.W.OpenLaw} {w : World} {K : PySem.W.Frag} {h : Heap} {mg : Str → Option Value} {fa dd msz : Addr} {t1 t2 t3 t4 t5 t6 : Tok} (X : K.In h) (G : h.Ns mainGlobals mg) (hfa : mg "law" = some (.ref fa))
    (h_first_wrong_cell : ∃ f, Found K "first_wrong_cell" st_first_wrong_cell f) (h_first_wrong_order : ∃ f, Found K "first_wrong_order" st_first_wrong_order f) (h_order_can_be : ∃ f, Found K "order_can_be" st_order_can_be f) (h_counts_of_things : ∃ f, Found K "counts_of_things" st_counts_of_things f) (h_first_wrong_deed : ∃ f, Found K "first_wrong_deed" st_first_wrong_deed f) (h_deed_can_be : ∃ f, Found K "deed_can_be" st_deed_can_be f) (h_require_board : ∃ f, Found K "require_board" st_require_board f) (h_row_of : ∃ f, Found K "row_of" st_row_of f) (h_written : ∃ f, Found K "written" st_written f) (h_is_number : ∃ f, Found K "is_number" st_is_number f) (h_all_are_numbers : ∃ f, Found K "all_are_numbers" st_all_are_numbers f) (h_words_are_so : ∃ f, Found K "words_are_so" st_words_are_so f) (h_number_of : ∃ f, Found K "number_of" st_number_of f) (h_read_board : ∃ f, Found K "read_board" st_read_board f) (h_law_begun : ∃ f, Found K "_law_begun" st_law_begun f) (h_law_take : ∃ f, Found K "_law_take" st_law_take f) (h_law_alike : ∃ f, Found K "_law_alike" st_law_alike f) (h_law_order : ∃ f, Found K "_law_order" st_law_order f) (h_law_deed : ∃ f, Found K "_law_deed" st_law_deed f) (h_law_board : ∃ f, Found K "_law_board" st_law_board f) (h_law_kinds : ∃ f, Found K "_law_kinds" st_law_kinds f) (h_law_text : ∃ f, Found K "_law_text" st_law_text f) (h_law : ∃ f, Found K "law" st_law f)
    (g1 : PySem.W.nsIn K mainGlobals "LINE" = some (some (.int 4 t1))) (g2 : PySem.W.nsIn K mainGlobals "NUMBERS" = some (some (.int 10 t2))) (g3 : PySem.W.nsIn K mainGlobals "MOST_ORDERS" = some (some (.int 4 t3))) (g4 : PySem.W.nsIn K mainGlobals "MOST_MOVED" = some (some (.int 8 t4))) (g5 : PySem.W.nsIn K mainGlobals "MOST_DEEDS" = some (some (.int 60 t5))) (g6 : PySem.W.nsIn K mainGlobals "MOST_STARTS" = some (some (.int 3 t6)))
    (g7 : PySem.W.nsIn K mainGlobals "MEMORY_SIZES" = some (some (.ref msz))) (g8 : KTup K msz [.int 4, .int 8, .int 12, .int 16]) (g9 : PySem.W.nsIn K mainGlobals "DEEDS" = some (some (.ref dd))) (Kd : mg "DEEDS" = some (.ref dd) → Kinds K w mg dd)
    {tx0 : Tok} (x_MOST_FIGURES : PySem.W.nsIn K mainGlobals "MOST_FIGURES" = some (some (.int 9 tx0))) {tx1 : Tok} (x_ORDER_NUMBERS : PySem.W.nsIn K mainGlobals "ORDER_NUMBERS" = some (some (.int 4 tx1)))
    (z_len : PySem.W.nsIn K mainGlobals "len" = some none) (z_enumerate : PySem.W.nsIn K mainGlobals "enumerate" = some none) (z_all : PySem.W.nsIn K mainGlobals "all" = some none) (z_zip : PySem.W.nsIn K mainGlobals "zip" = some none) (z_range : PySem.W.nsIn K mainGlobals "range" = some none) (z_list : PySem.W.nsIn K mainGlobals "list" = some none) (z_tuple : PySem.W.nsIn K mainGlobals "tuple" = some none) (z_int : PySem.W.nsIn K mainGlobals "int" = some none) (z_min : PySem.W.nsIn K mainGlobals "min" = some none) (z_bool : PySem.W.nsIn K mainGlobals "bool" = some none) (z_str : PySem.W.nsIn K mainGlobals "str" = some none) (z_isinstance : PySem.W.nsIn K mainGlobals "isinstance" = some none) :
    ∃ fd : FuncData, (∀ (s : Shared) (v : Value), BindsTo s fd ⟨[v], []⟩ [("_law_script", v)]) ∧ ∀ base : Heap, K.In base → base.Ns mainGlobals mg → FnOk l.prog w K mg base CX0 5 fa fd ["_law_script"] (spLaw K) := by
  have n := fun {x : Str} (z : PySem.W.nsIn K mainGlobals x = some none) => PySem.W.mg_none_of X G z
  have Kd' := Kd (PySem.W.mg_of X G g9)
  have C_ : Consts K mg := ⟨⟨_, PySem.W.mg_of X G g1⟩, ⟨_, PySem.W.mg_of X G g2⟩, ⟨_, PySem.W.mg_of X G g3⟩, ⟨_, PySem.W.mg_of X G g4⟩, ⟨_, PySem.W.mg_of X G g5⟩, ⟨_, PySem.W.mg_of X G g6⟩, ⟨_, PySem.W.mg_of X G g7, g8⟩⟩
  obtain ⟨f, oc, od, kV, doc, pm, an, cdv, ct, osl, la, ll, lc, lk⟩ := h_law
  have e := hfa.symm.trans (PySem.W.mg_of X G la)
  cases e
  refine ⟨PySem.W.fnOf "law" "law" (defArgs st_law) (defBody st_law) (defScope st_law) .none kV doc pm an cdv ct, fun s v => .of_eq rfl, fun base _ _ => ?_⟩
  have e_MOST_FIGURES : ∃ t, mg "MOST_FIGURES" = some (.int 9 t) := ⟨_, PySem.W.mg_of X G x_MOST_FIGURES⟩
  have e_ORDER_NUMBERS : ∃ t, mg "ORDER_NUMBERS" = some (.int 4 t) := ⟨_, PySem.W.mg_of X G x_ORDER_NUMBERS⟩
  have step : ∀ k, Callee l.prog w K mg base "_law_alike" k 2 (spAlike k) → Callee l.prog w K mg base "_law_alike" (k + 1) 2 (spAlike (k + 1)) := fun k c =>
    callee_mk X G h_law_alike (fun f fd F => alike_go F k c (n z_len) (n z_range) (n z_isinstance) (n z_bool) (n z_int) (n z_str) (n z_tuple) (n z_list)) (fun _ _ _ _ _ _ us hl => match us, hl with | [_, _], _ => rfl)
  have c0 : Callee l.prog w K mg base "_law_alike" 0 2 (spAlike 0) :=
    callee_mk (ps := ["_law_found", "_law_due"]) X G h_law_alike (fun f fd F => ⟨fun vs H Q E h => by obtain ⟨u, v, d, rfl, _⟩ := h; rfl, fun A outer s H args us vs Q E hr he hb hv h => by obtain ⟨u, v, d, _, _, _, hd, _⟩ := h; exact absurd hd (Nat.not_lt_zero _)⟩) (fun _ _ _ _ _ _ us hl => match us, hl with | [_, _], _ => rfl)
  have c_alike := step 3 (step 2 (step 1 (step 0 c0)))
  have c_take : Callee l.prog w K mg base "_law_take" 1 2 spTake := callee_mk X G h_law_take (fun f fd F => ok_take F) (fun _ _ _ _ _ _ us hl => match us, hl with | [_, _], _ => rfl)
  have c_order : Callee l.prog w K mg base "_law_order" 2 4 spOrder := callee_mk X G h_law_order (fun f fd F => ok_order F c_take (n z_min)) (fun _ _ _ _ _ _ us hl => match us, hl with | [_, _, _, _], _ => rfl)
  have c_deed : Callee l.prog w K mg base "_law_deed" 2 4 spDeed := callee_mk X G h_law_deed (fun f fd F => ok_deed F c_take (n z_len) (n z_int)) (fun _ _ _ _ _ _ us hl => match us, hl with | [_, _, _, _], _ => rfl)
  have c_board : Callee l.prog w K mg base "_law_board" 3 4 spBoard := callee_mk X G h_law_board (fun f fd F => ok_board F c_take c_order c_deed (n z_len) (n z_tuple) (n z_range)) (fun _ _ _ _ _ _ us hl => match us, hl with | [_, _, _, _], _ => rfl)
  have c_begun : Callee l.prog w K mg base "_law_begun" 1 1 (spBegun K) := callee_mk X G h_law_begun (fun f fd F => ok_begun F (n z_len) (n z_int) (n z_list)) (fun _ _ _ _ _ _ us hl => match us, hl with | [_], _ => rfl)
  have c_kinds : Callee l.prog w K mg base "_law_kinds" 1 0 (spKinds kindWords) := callee_mk X G h_law_kinds (fun f fd F => ok_kinds F) (fun _ _ _ _ _ _ us hl => match us, hl with | [], _ => rfl)
  have c_fwc : Callee l.prog w K mg base "first_wrong_cell" 1 1 spFwCell := callee_mk X G h_first_wrong_cell (fun f fd F => ok_fwcell F C_ (n z_len) (n z_enumerate)) (fun _ _ _ _ _ _ us hl => match us, hl with | [_], _ => rfl)
  have c_oc : Callee l.prog w K mg base "order_can_be" 1 4 spOrdCan := callee_mk X G h_order_can_be (fun f fd F => ok_ordcan F C_) (fun _ _ _ _ _ _ us hl => match us, hl with | [_, _, _, _], _ => rfl)
  have c_fwo : Callee l.prog w K mg base "first_wrong_order" 2 2 spFwOrd := callee_mk X G h_first_wrong_order (fun f fd F => ok_fword F C_ c_oc (n z_len) (n z_enumerate)) (fun _ _ _ _ _ _ us hl => match us, hl with | [_, _], _ => rfl)
  have c_dc : Callee l.prog w K mg base "deed_can_be" 1 2 (spDeedCan K w dd) := callee_mk X G h_deed_can_be (fun f fd F => ok_deedcan F Kd' (n z_len) (n z_all) (n z_zip)) (fun _ _ _ _ _ _ us hl => match us, hl with | [_, _], _ => rfl)
  have c_counts : Callee l.prog w K mg base "counts_of_things" 1 2 spCounts := callee_mk X G h_counts_of_things (fun f fd F => ok_counts F C_) (fun _ _ _ _ _ _ us hl => match us, hl with | [_, _], _ => rfl)
  have c_fwd : Callee l.prog w K mg base "first_wrong_deed" 2 3 (spFwDeed K w dd) := callee_mk X G h_first_wrong_deed (fun f fd F => ok_fwdeed F C_ c_dc c_counts (n z_enumerate)) (fun _ _ _ _ _ _ us hl => match us, hl with | [_, _, _], _ => rfl)
  have c_req : Callee l.prog w K mg base "require_board" 3 1 spReq := callee_mk X G h_require_board (fun f fd F => ok_req F c_fwc c_fwo c_fwd (n z_len)) (fun _ _ _ _ _ _ us hl => match us, hl with | [_], _ => rfl)
  have c_rowof : Callee l.prog w K mg base "row_of" 1 2 spRowOf := callee_mk X G h_row_of (fun f fd F => ok_rowof F (n z_str)) (fun _ _ _ _ _ _ us hl => match us, hl with | [_, _], _ => rfl)
  have c_written : Callee l.prog w K mg base "written" 4 1 spWritten := callee_mk X G h_written (fun f fd F => ok_written F c_req c_rowof) (fun _ _ _ _ _ _ us hl => match us, hl with | [_], _ => rfl)
  have c_isnum : Callee l.prog w K mg base "is_number" 1 1 spIsNum := callee_mk X G h_is_number (fun f fd F => ok_isnum F e_MOST_FIGURES (n z_len)) (fun _ _ _ _ _ _ us hl => match us, hl with | [_], _ => rfl)
  have c_allnum : Callee l.prog w K mg base "all_are_numbers" 2 1 spAllNum := callee_mk X G h_all_are_numbers (fun f fd F => ok_allnum F c_isnum (n z_all)) (fun _ _ _ _ _ _ us hl => match us, hl with | [_], _ => rfl)
  have c_words : Callee l.prog w K mg base "words_are_so" 3 2 spWords := callee_mk X G h_words_are_so (fun f fd F => ok_words F Kd' c_allnum c_isnum e_ORDER_NUMBERS (n z_len)) (fun _ _ _ _ _ _ us hl => match us, hl with | [_, _], _ => rfl)
  have c_numof : Callee l.prog w K mg base "number_of" 1 1 spNumOf := callee_mk X G h_number_of (fun f fd F => ok_numof F (n z_int)) (fun _ _ _ _ _ _ us hl => match us, hl with | [_], _ => rfl)
  have c_readb : Callee l.prog w K mg base "read_board" 4 1 spReadB := callee_mk X G h_read_board (fun f fd F => ok_readb F c_words c_numof c_req (n z_enumerate) (n z_tuple)) (fun _ _ _ _ _ _ us hl => match us, hl with | [_], _ => rfl)
  have c_ltext : Callee l.prog w K mg base "_law_text" 1 1 spLText := callee_mk X G h_law_text (fun f fd F => ok_ltext F (n z_str)) (fun _ _ _ _ _ _ us hl => match us, hl with | [_], _ => rfl)
  exact ok_law (fun_mk (st := st_law) ll lc lk) c_begun c_board c_kinds c_alike c_ltext c_written c_readb (n z_range)
end Vt
open PySem PySem.W PyProof.Rows
set_option maxHeartbeats 0 in
theorem PySem.Challenge.cw_blockcarrier_k14_written_and_read_holds : PySem.Challenge.rw_blockcarrier_k14_written_and_read.Holds := by
  w_on; o_law; k_head; (case hw => w_witness2)
  k_fill
  refine L2.walk_of (l := PySem.Challenge.rw_blockcarrier_k14_written_and_read) (n := 63) (k := 5) (x := "_law_script") (CX := fun _ => L2.CX0) (sp := fun w => Vt.spLaw _) rfl (by decide) rfl ⟨rfl, by decide, by decide⟩ (fun w h Y => PySem.W.kIn_of Y) ?F (fun _ _ a ns hl _ hS => ⟨a, ns, rfl, hS, hl, fun _ => rfl⟩) (fun _ _ _ _ _ h => h)
  case F =>
    intro w mg fa h KX G hmg
    refine' Vt.all_mk KX G hmg ?h_first_wrong_cell ?h_first_wrong_order ?h_order_can_be ?h_counts_of_things ?h_first_wrong_deed ?h_deed_can_be ?h_require_board ?h_row_of ?h_written ?h_is_number ?h_all_are_numbers ?h_words_are_so ?h_number_of ?h_read_board ?h_law_begun ?h_law_take ?h_law_alike ?h_law_order ?h_law_deed ?h_law_board ?h_law_kinds ?h_law_text ?h_law ?g1 ?g2 ?g3 ?g4 ?g5 ?g6 ?g7 ?g8 ?g9 ?g10 ?x_MOST_FIGURES ?x_ORDER_NUMBERS ?z_len ?z_enumerate ?z_all ?z_zip ?z_range ?z_list ?z_tuple ?z_int ?z_min ?z_bool ?z_str ?z_isinstance
    (case h_first_wrong_cell => (refine' Vt.found_mk ?a ?l ?c ?k; (case a => k_is); (case l => k_is); (case c => k_is); (case k => k_is)))
    (case h_first_wrong_order => (refine' Vt.found_mk ?a ?l ?c ?k; (case a => k_is); (case l => k_is); (case c => k_is); (case k => k_is)))
    (case h_order_can_be => (refine' Vt.found_mk ?a ?l ?c ?k; (case a => k_is); (case l => k_is); (case c => k_is); (case k => k_is)))
    (case h_counts_of_things => (refine' Vt.found_mk ?a ?l ?c ?k; (case a => k_is); (case l => k_is); (case c => k_is); (case k => k_is)))
    (case h_first_wrong_deed => (refine' Vt.found_mk ?a ?l ?c ?k; (case a => k_is); (case l => k_is); (case c => k_is); (case k => k_is)))
    (case h_deed_can_be => (refine' Vt.found_mk ?a ?l ?c ?k; (case a => k_is); (case l => k_is); (case c => k_is); (case k => k_is)))
    (case h_require_board => (refine' Vt.found_mk ?a ?l ?c ?k; (case a => k_is); (case l => k_is); (case c => k_is); (case k => k_is)))
    (case h_row_of => (refine' Vt.found_mk ?a ?l ?c ?k; (case a => k_is); (case l => k_is); (case c => k_is); (case k => k_is)))
    (case h_written => (refine' Vt.found_mk ?a ?l ?c ?k; (case a => k_is); (case l => k_is); (case c => k_is); (case k => k_is)))
    (case h_is_number => (refine' Vt.found_mk ?a ?l ?c ?k; (case a => k_is); (case l => k_is); (case c => k_is); (case k => k_is)))
    (case h_all_are_numbers => (refine' Vt.found_mk ?a ?l ?c ?k; (case a => k_is); (case l => k_is); (case c => k_is); (case k => k_is)))
    (case h_words_are_so => (refine' Vt.found_mk ?a ?l ?c ?k; (case a => k_is); (case l => k_is); (case c => k_is); (case k => k_is)))
    (case h_number_of => (refine' Vt.found_mk ?a ?l ?c ?k; (case a => k_is); (case l => k_is); (case c => k_is); (case k => k_is)))
    (case h_read_board => (refine' Vt.found_mk ?a ?l ?c ?k; (case a => k_is); (case l => k_is); (case c => k_is); (case k => k_is)))
    (case h_law_begun => (refine' Vt.found_mk ?a ?l ?c ?k; (case a => k_is); (case l => k_is); (case c => k_is); (case k => k_is)))
    (case h_law_take => (refine' Vt.found_mk ?a ?l ?c ?k; (case a => k_is); (case l => k_is); (case c => k_is); (case k => k_is)))
    (case h_law_alike => (refine' Vt.found_mk ?a ?l ?c ?k; (case a => k_is); (case l => k_is); (case c => k_is); (case k => k_is)))
    (case h_law_order => (refine' Vt.found_mk ?a ?l ?c ?k; (case a => k_is); (case l => k_is); (case c => k_is); (case k => k_is)))
    (case h_law_deed => (refine' Vt.found_mk ?a ?l ?c ?k; (case a => k_is); (case l => k_is); (case c => k_is); (case k => k_is)))
    (case h_law_board => (refine' Vt.found_mk ?a ?l ?c ?k; (case a => k_is); (case l => k_is); (case c => k_is); (case k => k_is)))
    (case h_law_kinds => (refine' Vt.found_mk ?a ?l ?c ?k; (case a => k_is); (case l => k_is); (case c => k_is); (case k => k_is)))
    (case h_law_text => (refine' Vt.found_mk ?a ?l ?c ?k; (case a => k_is); (case l => k_is); (case c => k_is); (case k => k_is)))
    (case h_law => (refine' Vt.found_mk ?a ?l ?c ?k; (case a => k_is); (case l => k_is); (case c => k_is); (case k => k_is)))
    (case g1 => k_is); (case g2 => k_is); (case g3 => k_is); (case g4 => k_is); (case g5 => k_is); (case g6 => k_is); (case g7 => k_is)
    (case x_MOST_FIGURES => k_is); (case x_ORDER_NUMBERS => k_is)
    (case z_len => k_is); (case z_enumerate => k_is); (case z_all => k_is); (case z_zip => k_is); (case z_range => k_is); (case z_list => k_is); (case z_tuple => k_is); (case z_int => k_is); (case z_min => k_is); (case z_bool => k_is); (case z_str => k_is); (case z_isinstance => k_is)
    case g8 => exact Vt.ktup_mk (by k_is) (by decide) (.cons ⟨_, rfl⟩ (.cons ⟨_, rfl⟩ (.cons ⟨_, rfl⟩ (.cons ⟨_, rfl⟩ .nil))))
    case g9 => k_is
    case g10 =>
      intro m
      refine' Vt.kinds_mk m ?low ?l ?kl ?a1 ?a2 ?a3 ?a4 ?a5 ?a6 ?a7 ?t1 ?t2 ?t3 ?t4 ?t5 ?t6 ?t7
      (case low => decide)
      (case l => k_is)
      (case a1 => k_is); (case a2 => k_is); (case a3 => k_is); (case a4 => k_is); (case a5 => k_is); (case a6 => k_is); (case a7 => k_is)
      (case t1 => exact Vt.ktup_mk (by k_is) (by decide) (.cons ⟨_, rfl⟩ (.cons ⟨_, rfl⟩ .nil)))
      (case t2 => exact Vt.ktup_mk (by k_is) (by decide) (.cons ⟨_, rfl⟩ (.cons ⟨_, rfl⟩ .nil)))
      (case t3 => exact Vt.ktup_mk (by k_is) (by decide) (.cons ⟨_, rfl⟩ .nil))
      (case t4 => exact Vt.ktup_mk (by k_is) (by decide) (.cons ⟨_, rfl⟩ .nil))
      (case t5 => exact Vt.ktup_mk (by k_is) (by decide) .nil)
      (case t6 => exact Vt.ktup_mk (by k_is) (by decide) (.cons ⟨_, rfl⟩ .nil))
      (case t7 => exact Vt.ktup_mk (by k_is) (by decide) (.cons ⟨_, rfl⟩ .nil))
      case kl => exact ⟨⟨_, _, rfl, rfl⟩, ⟨_, _, rfl, rfl⟩, ⟨_, _, rfl, rfl⟩, ⟨_, _, rfl, rfl⟩, ⟨_, _, rfl, rfl⟩, ⟨_, _, rfl, rfl⟩, ⟨_, _, rfl, rfl⟩, trivial⟩
