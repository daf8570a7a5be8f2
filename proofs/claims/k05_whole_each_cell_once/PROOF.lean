import PyProof.Rows.All
import Wide.All
import OpenK.AllK
import Wide.FinOn
import HandS.ForMost
import HandS.IsInst
import HandS.Zip
import HandS.Walk
import HandS.WrittenGet
import HandS.TupAny
import HandS.SetFor
import KE.GoesNew
import KE.KUnpackStar
import PySem.Challenge.RW_blockcarrier_k05_whole_each_cell_once
import HandS.Strs
import HandS.Flow
import HandS.SortInts
set_option Elab.async false
set_option linter.all false
set_option maxRecDepth 100000
namespace Vt
open PySem PySem.Spec PyProof.Rows L2
def topS (i : Nat) : Stmt := PySem.Challenge.pw_blockcarrier_k05_whole_each_cell_once.main.body.getD i (.Pass ⟨0, 0, 0, 0⟩)
end Vt
namespace Vt
open PySem PySem.Spec PyProof.Rows L2
/-! ### calls of own defs by what they promise -/
structure Callee (P : Program) (w : World) (K : PySem.W.Frag) (mg : Str → Option Value) (base : Heap) (x : Str) (k : Nat) (n : Nat) (sp : Sp) : Prop where
  ex : ∃ (f : Addr) (fd : FuncData) (ps : List Str), FnOk P w K mg base CX0 k f fd ps sp ∧ mg x = some (.ref f) ∧ PySem.W.keepIn K (.ref f) = true ∧ Binds K fd ps []
section
variable {X : Cx} {x : Str} {k j n : Nat} {sp : Sp} {p pos : Pos} {e : Expr} {es : List Expr} {t : TA}
theorem pe_cal (C : Callee X.prog X.w X.K X.mg X.base x k n sp) (hr : Room j X.A) (hk : k ≤ j) (ha : PA X (e :: es) t) (hg : Gl X x := by rfl)
    (hdb : (x == ("__debug__" : Str)) = false := by decide) (he : starEach (e :: es) X.env = (false, eval e X.env) :: starEach es X.env := by rfl) (hpl : (backTo pos (starEach es X.env)).any (·.1) = false := by rfl) :
    PE X (.Call (.Name x p) (e :: es) [] pos) (tCall sp [] E0 t) := by
  have ⟨f, fd, ps, F, hm, hkp, hb⟩ := C.ex
  exact pe_call F (hr.mono hk) hg hm hkp hb .nil pass0 ha hdb he hpl
theorem pe_cal0 (C : Callee X.prog X.w X.K X.mg X.base x k n sp) (hr : Room j X.A) (hk : k ≤ j) (hg : Gl X x := by rfl)
    (hdb : (x == ("__debug__" : Str)) = false := by decide) : PE X (.Call (.Name x p) [] [] pos) (tCall sp [] E0 tNil) := by
  have ⟨f, fd, ps, F, hm, hkp, hb⟩ := C.ex
  exact pe_call0 F (hr.mono hk) hg hm hkp hb .nil pass0 hdb
end
/-- a statement, then the rest, with a word between them -/
def tCut (t u : TS) : TS := fun D σ H => ∃ Mid : L2.St → Hp → Prop, t { D with nx := Mid } σ H ∧ ∀ σ' H', Mid σ' H' → u D σ' H'
theorem pss_cut {X : Cx} {st : Stmt} {rest : List Stmt} {t u : TS} (h1 : PS X st t) (h2 : PSs X rest u) : PSs X (st :: rest) (tCut t u) := by
  refine ⟨fun pins s σ H D I h => ?_⟩
  obtain ⟨Mid, hm, hu⟩ := h
  refine wpAny_execs_cons (thn (h1.run pins s σ H { D with nx := Mid } I hm) fun f s1 q => ?_)
  cases f with
  | next =>
    obtain ⟨σ', H', I', q⟩ := q
    exact h2.run pins s1 σ' H' D I' (hu σ' H' q)
  | ret v => exact q
  | brk => exact q
  | cont => exact q
/-! ### lists or tuples -/
def SqA (K : PySem.W.Frag) (H : Hp) (a : Addr) (xs : List V) : Prop := SqL K H a xs ∨ SqT K H a xs
def rIxLT (K : PySem.W.Frag) : R2 := fun x y H Q => ∃ p xs i v, x = .ref p ∧ y = .int i ∧ SqA K H p xs ∧ atI xs i = some v ∧ Q v H
section
variable {X : Cx} {tg l : Expr} {tl : TE}
theorem ix_lt : IxR X (rIxLT X.K) := by
  intro value slice pins s σ H x y v u Q I rx ry h hs
  obtain ⟨p, xs, i, z, ex, ey, hq | hq, he, q⟩ := h
  · exact ix_list value slice pins s σ H x y v u Q I rx ry ⟨p, xs, i, z, ex, ey, hq, he, q⟩ hs
  · exact ix_tup value slice pins s σ H x y v u Q I rx ry ⟨p, xs, i, z, ex, ey, hq, he, q⟩ hs
theorem ix_ltk (K : PySem.W.Frag) (h : X.K = K := by rfl) : IxR X (rIxLT K) := by
  subst h
  exact ix_lt
def iLT (K : PySem.W.Frag) (tl : TE) : TI := fun σ H R => tl σ H fun x H1 => ∃ a, x = .ref a ∧ ((∃ xs, SqL K H1 a xs ∧ R (Itl K a) H1) ∨ ∃ xs, SqT K H1 a xs ∧ R (Itt K a) H1)
theorem pi_lt (hl : PE X l tl) : PI X tg l (iLT X.K tl) := by
  refine ⟨fun pins s σ H R I h => ?_⟩
  refine thn (hl.run pins s σ H _ I h) fun v s1 ⟨x, H1, I1, r1, q1⟩ => ?_
  obtain ⟨a, e, q⟩ := q1
  subst e
  cases r1
  rcases q with ⟨xs, hq, q⟩ | ⟨xs, hq, q⟩
  · obtain ⟨its, rv, p, hz⟩ := I1.list hq
    refine wpAny_pyIter_list p.isList ?_
    refine ⟨s1.heap.objs.size, [s1.heap.objs.size], _, _, H1, rfl, I1.kept (t' := s1.toks) fun b o e => Heap.get?_push_of_some _ e, turn_list a _, ⟨_, Heap.get?_push_size _ rfl, rfl, rfl⟩, fun b hb => ?_, q⟩
    have e : b = s1.heap.objs.size := by simpa using hb
    subst e
    exact I1.fpOk (Nat.le_refl _) (I1.hok.fresh (Nat.le_refl _))
  · obtain ⟨its, rv, p, hz⟩ := I1.tuple hq
    refine wpAny_pyIter_tuple (show s1.heap.IsTuple a its.toArray from p) ?_
    refine ⟨s1.heap.objs.size, [s1.heap.objs.size], _, _, H1, rfl, I1.kept (t' := s1.toks) fun b o e => Heap.get?_push_of_some _ e, turn_tuple a _, ⟨_, Heap.get?_push_size _ rfl, rfl, rfl⟩, fun b hb => ?_, q⟩
    have e : b = s1.heap.objs.size := by simpa using hb
    subst e
    exact I1.fpOk (Nat.le_refl _) (I1.hok.fresh (Nat.le_refl _))
end
theorem pg_tupk {X : Cx} (K : PySem.W.Frag) {es : List Expr} {k n : Nat} {pos : Pos} {t : TGs} (hc : X.calm = true) (h : PGs X es t) (hK : X.K = K := by rfl)
    (hn : (assignEach es X.env).length = n := by rfl) (hst : (assignEach es X.env).findIdx? (·.1) = none := by rfl) : PG X (.Tuple es k pos) (gTup K n t) := by
  subst hK
  exact pg_tup hc h hn hst
/-! ### enumerate(tuple) -/
theorem meets_enumT {v : Value} {o : Obj} {H : Heap → Prop} (B : Begins v o H) :
    Meets (Builtin.«enumerate.__new__» ⟨[.type "enumerate", v], []⟩) (fun _ R s => H s.heap ∧
      R (.ok (.ret (.ref (s.heap.push o).objs.size))) { s with heap := (s.heap.push o).push { cls := .type "enumerate", data := .fields #[.none, .bool false, .ref s.heap.objs.size, rawInt 0, .none, .none] } }) :=
  .of_wp fun prog w A R s h => by
    obtain ⟨hp, g, d, tk, os⟩ := s; obtain ⟨h1, h⟩ := h
    have hsub := sub_enumerate
    have q1 : ∀ {A E Q}, Q (.ref (Shared.heap ⟨hp, g, d, tk, os⟩).objs.size) ⟨hp.push o, g, d, tk, os⟩ → wpAny (model prog w) A (pyIter v) Q E ⟨hp, g, d, tk, os⟩ := fun {A E Q} q => B.iter prog w A E _ Q h1 q
    wp_walk using q1
    refine wpAny_stack_any fun st => wpAny_pure ?_
    split
    · rename_i c _ _ _ _ _
      cases (c == Value.type "enumerate")
      · wp_walk using q1
        exact ⟨_, rfl, h⟩
      · wp_walk using q1
        exact ⟨_, rfl, h⟩
    · wp_walk using q1
      exact ⟨_, rfl, h⟩
section
variable {prog : Program} {w : World} {A : Around} {E : Value → Shared → Prop} {s : Shared}
theorem call_enumB {v : Value} {o : Obj} {H : Heap → Prop} {Q : Value → Shared → Prop} (B : Begins v o H) (h1 : H s.heap)
    (h : ∀ h', IsEnum h' (s.heap.objs.size + 1) s.heap.objs.size 0 .none → h'.get? s.heap.objs.size = some o → h'.objs.size = s.heap.objs.size + 2 →
      (∀ b o, s.heap.get? b = some o → h'.get? b = some o) → Q (.ref (s.heap.objs.size + 1)) { s with heap := h' }) :
    wpAny (model prog w) A (call (.type "enumerate") [v]) Q E s := by
  refine callType_new F.called_enumerate (by decide) (F.typeCall_enumerate_1 _) (F.newCall_enumerate_1 _) (fun obj => F.args_object_init_2 obj _) F.entry_enumerate_new
    (meets_enumT B) ⟨h1, ?_⟩
  have hz : (s.heap.push o).objs.size = s.heap.objs.size + 1 := Heap.size_push ..
  show _ ∧ _
  rw [hz]
  have he : IsEnum ((s.heap.push o).push { cls := .type "enumerate", data := .fields #[.none, .bool false, .ref s.heap.objs.size, rawInt 0, .none, .none] }) (s.heap.objs.size + 1) s.heap.objs.size 0 .none := by
    have := Heap.get?_push_size (s.heap.push o) (o := { cls := .type "enumerate", data := .fields #[.none, .bool false, .ref s.heap.objs.size, rawInt 0, .none, .none] }) rfl
    rw [hz] at this; exact this
  refine ⟨⟨_, he, rfl⟩, h _ he (Heap.get?_push_of_some _ (Heap.get?_push_size _ B.free)) (by rw [Heap.size_push, hz]) fun b o x => Heap.get?_push_of_some _ (Heap.get?_push_of_some _ x)⟩
end
def Ien (K : PySem.W.Frag) (a : Addr) : It :=
  ⟨fun i H => ∃ (xs : List V) (x : V), SqT K H a xs ∧ xs[i]? = some x, fun i H v H' => ∃ T x, v = .ref T ∧ H T = none ∧ H' = upd H T (.tup [.int (i : Nat), x]) ∧ ∀ xs, SqT K H a xs → xs[i]? = some x, fun i H => ∃ xs : List V, SqT K H a xs ∧ xs.length = i⟩
theorem turn_enumT {P : Program} {w : World} {K : PySem.W.Frag} {elts : List Expr} {kk : Nat} {tpos : Pos} (a e it : Addr) :
    Turn P w K (.Tuple elts kk tpos) (Ien K a) [e, it] e (fun i h => (∃ old, IsEnum h e it (0 + (i : Int)) old) ∧ h.IsTupleIter it a i ∧ e ≠ it ∧ a ≠ it) where
  mem := by simp
  obj := fun i h st b hb => by
    obtain ⟨⟨old, he⟩, ⟨o, ho, hc, hd⟩, _⟩ := st
    have e' : b = e ∨ b = it := by simpa using hb
    rcases e' with z | z
    · rw [z]; exact ⟨_, he, fun v q => nomatch q⟩
    · rw [z]; exact ⟨o, ho, fun v q => by rw [hd] at q; cases q⟩
  keep := fun i h h' st k => let ⟨⟨old, he⟩, hi, hne, ha⟩ := st; ⟨⟨old, k e (by simp) _ he⟩, hi.at fun o q => k it (by simp) o q, hne, ha⟩
  item := by
    intro X hP hw hK hc i pins s σ H E I hf st hg
    subst hP hw hK
    obtain ⟨⟨old, he⟩, hit, hne, hat⟩ := st
    obtain ⟨xs, x, hq, hx⟩ := hg
    obtain ⟨its, rv, p, hz⟩ := I.tuple hq
    obtain ⟨u, hu, ru⟩ := rv.get hx
    have hel : e < s.heap.objs.size := Heap.lt_size he
    have hil : it < s.heap.objs.size := by obtain ⟨_, q, _⟩ := hit; exact Heap.lt_size q
    have hae : e ≠ a := fun z => by
      obtain ⟨o, ho, hc, _⟩ := p
      rw [← z, show s.heap.get? e = some _ from he] at ho
      cases ho
      exact absurd (show Value.type "enumerate" = Value.type "tuple" from hc) (by simp)
    have hsz : i < its.toArray.size := by
      have := (List.getElem?_eq_some_iff.mp hu).1
      simpa using this
    refine thn ((GoesN.enumFrom (elts := elts) (x1 := kk) (pos := tpos) 0 (Draws.tuple (prog := X.prog) (w := X.w) (A := X.A.in1) (I.ok.hd hc) it a hat its.toArray) e hne (by simp; exact ⟨hne, hae⟩) (by simp)).goes i s
      (fun v s2 => ∃ x H', Inv X pins σ H' s2 ∧ RelV x v ∧ (Ien X.K a).yld i H x H' ∧ ((∃ old, IsEnum s2.heap e it (0 + ((i + 1 : Nat) : Int)) old) ∧ s2.heap.IsTupleIter it a ((i + 1 : Nat) : Nat) ∧ e ≠ it ∧ a ≠ it) ∧ ∀ b ∈ [e, it], H' b = none) E hsz ⟨⟨old, he⟩, hit, p⟩ fun v h' tk hY st' hk htk => ?_) fun r s1 h1 => h1
    obtain ⟨T, t, y, ev, hT, hy, hTt⟩ := hY
    obtain ⟨he', hit', p'⟩ := st'
    subst ev
    have ey : y = u := by
      have e1 : its.toArray[i]? = some u := by simpa using hu
      rw [e1] at hy; exact (Option.some.inj hy).symm
    subst ey
    obtain ⟨oT, hoT, hcT, hdT⟩ := hTt
    have new : ObjOk X.prog X.w (upd H T (.tup [.int (i : Nat), x])) h' T (.tup [.int (i : Nat), x]) :=
      ⟨by show 2 ≤ sizeLine; decide, [.int (0 + (i : Int)) t, y], .cons ⟨t, by rw [Int.zero_add]⟩ (.cons ru .nil), ⟨oT, hoT, hcT, hdT⟩⟩
    have I1 : Inv X pins σ (upd H T (.tup [.int (i : Nat), x])) { s with heap := h', toks := tk } :=
      I.turnedNew (ch := [e, it]) (fun b ob hb q => hk b ob hb q) hf hT new
    refine ⟨.ref T, _, I1, rfl, ⟨_, x, rfl, I.hok.fresh hT, rfl, fun ys hy => by rw [I.tuple_inj hy hq]; exact hx⟩, ⟨he', hit', hne, hat⟩, fun b hb => ?_⟩
    have hb' : b < s.heap.objs.size := by
      have e' : b = e ∨ b = it := by simpa using hb
      rcases e' with z | z
      · rw [z]; exact hel
      · rw [z]; exact hil
    rw [upd_ne (Nat.ne_of_lt (Nat.lt_of_lt_of_le hb' hT))]
    exact (hf b hb).1
  done := by
    intro X hP hw hK hc i pins s σ H E I hf st hg
    subst hP hw hK
    obtain ⟨⟨old, he⟩, hit, hne, hat⟩ := st
    obtain ⟨xs, hq, hx⟩ := hg
    obtain ⟨its, rv, p, hz⟩ := I.tuple hq
    have hl := rv.length
    have hae : e ≠ a := fun z => by
      obtain ⟨o, ho, hc, _⟩ := p
      rw [← z, show s.heap.get? e = some _ from he] at ho
      cases ho
      exact absurd (show Value.type "enumerate" = Value.type "tuple" from hc) (by simp)
    have hsz : i = its.toArray.size := by simp; omega
    refine (GoesN.enumFrom (elts := elts) (x1 := kk) (pos := tpos) 0 (Draws.tuple (prog := X.prog) (w := X.w) (A := X.A.in1) (I.ok.hd hc) it a hat its.toArray) e hne (by simp; exact ⟨hne, hae⟩) (by simp)).stops s
      (fun s2 => Inv X pins σ H s2) E (by rw [← hsz]; exact ⟨⟨old, he⟩, hit, p⟩) fun h' tk hk htk => ?_
    exact I.turnedL (ch := [e, it]) (fun b ob hb q => hk b ob hb q) hf
  self := fun A i s Q E st h => let ⟨⟨_, he⟩, _⟩ := st; wpAny_pyIter_enum he h
def iEnT (K : PySem.W.Frag) (ta : TA) : TI := fun σ H R => ta σ H fun vs H1 => ∃ a, vs = [.ref a] ∧ ((∃ xs, SqL K H1 a xs ∧ R (Ite K a) H1) ∨ ∃ xs, SqT K H1 a xs ∧ R (Ien K a) H1)
theorem pi_enumT {X : Cx} {e : Expr} {ta : TA} {p pos tpos : Pos} {elts : List Expr} {kk : Nat} (hg : Gl X "enumerate") (hm : X.mg "enumerate" = none) (ha : PA X [e] ta) (hs : starEach [e] X.env = [(false, eval e X.env)] := by rfl) :
    PI X (.Tuple elts kk tpos) (.Call (.Name "enumerate" p) [e] [] pos) (iEnT X.K ta) := by
  refine ⟨fun pins s σ H R I h => ?_⟩
  refine Call_ (ld_blt I hg hm boot_enumerate (PyProof.Rows.callWith_type1 (thn (ha.run pos pins s σ H _ I h) fun us s1 ⟨vs, H1, I1, r1, q1⟩ => ?_) hs rfl))
  obtain ⟨a, ex, q⟩ := q1
  subst ex
  cases r1 with
  | cons r rr =>
    cases rr
    cases r
    have fp : ∀ b ∈ [s1.heap.objs.size + 1, s1.heap.objs.size], FpOk X pins H1 b := fun b hb => by
      have e' : b = s1.heap.objs.size + 1 ∨ b = s1.heap.objs.size := by simpa using hb
      have hle : s1.heap.objs.size ≤ b := by
        rcases e' with z | z
        · rw [z]; exact Nat.le_add_right _ _
        · rw [z]; exact Nat.le_refl _
      exact I1.fpOk hle (I1.hok.fresh hle)
    rcases q with ⟨xs, hq, q⟩ | ⟨xs, hq, q⟩
    · obtain ⟨its, rv, p', hz⟩ := I1.list hq
      refine call_enumerate_list p'.isList fun h' he hit hsz hk => wpAny_pyIter_enum he ?_
      have I2 : Inv X pins σ H1 { s1 with heap := h' } := I1.kept (t' := s1.toks) hk
      exact ⟨s1.heap.objs.size + 1, [s1.heap.objs.size + 1, s1.heap.objs.size], _, _, H1, rfl, I2, turn_enum a (s1.heap.objs.size + 1) s1.heap.objs.size, ⟨⟨.none, he⟩, hit, Nat.succ_ne_self _⟩, fp, q⟩
    · obtain ⟨its, rv, p', hz⟩ := I1.tuple hq
      have la : a < s1.heap.objs.size := p'.lt
      refine call_enumB (begins_tuple a its.toArray) p' fun h' he hit hsz hk => wpAny_pyIter_enum he ?_
      have I2 : Inv X pins σ H1 { s1 with heap := h' } := I1.kept (t' := s1.toks) hk
      exact ⟨s1.heap.objs.size + 1, [s1.heap.objs.size + 1, s1.heap.objs.size], _, _, H1, rfl, I2, turn_enumT a (s1.heap.objs.size + 1) s1.heap.objs.size, ⟨⟨.none, he⟩, ⟨_, hit, rfl, rfl⟩, Nat.succ_ne_self _, Nat.ne_of_lt la⟩, fp, q⟩
/-- the loop over enumerate(tuple) -/
theorem walk_enumT {K : PySem.W.Frag} {a : Addr} {xs : List V} : Walk (Ien K a) xs.length (fun H => SqT K H a xs) (YPair (fun i => some (.int (i : Nat))) (fun i => xs[i]?)) := by
  refine ⟨fun i _ hi q => ⟨xs, xs[i], q, by simp [hi]⟩, fun _ q => ⟨xs, q, rfl⟩, fun i H v H' _ q y => ?_⟩
  obtain ⟨T, x, h1, h2, h3, h4⟩ := y
  exact ⟨T, .int (i : Nat), x, h1, h2, h3, rfl, h4 xs q⟩
/-! ### zip(list, tuple) -/
def Izm (K : PySem.W.Frag) (a b : Addr) : It :=
  ⟨fun i H => ∃ (xs ys : List V) (x y : V), SqL K H a xs ∧ SqT K H b ys ∧ xs[i]? = some x ∧ ys[i]? = some y,
    fun i H v H' => ∃ T x y, v = .ref T ∧ H T = none ∧ H' = upd H T (.tup [x, y]) ∧ (∀ xs, SqL K H a xs → xs[i]? = some x) ∧ ∀ ys, SqT K H b ys → ys[i]? = some y,
    fun i H => ∃ xs ys : List V, SqL K H a xs ∧ SqT K H b ys ∧ min xs.length ys.length = i⟩
theorem turn_zipM {P : Program} {w : World} {K : PySem.W.Frag} {elts : List Expr} {kk : Nat} {tpos : Pos} {a b z TI TO i1 i2 : Addr} (S : ZipSep2 z TI TO i1 i2 [i1, a] [i2, b]) (h1a : a ≠ i1) (h2b : b ≠ i2) :
    Turn P w K (.Tuple elts kk tpos) (Izm K a b) [z, TI, TO, i1, i2] z (fun i h => IsZip h z TI TO .none ∧ IsTupOf2 h TI (.ref i1) (.ref i2) ∧ (∃ x y, IsTupOf2 h TO x y) ∧ h.IsListIter i1 a i ∧ h.IsTupleIter i2 b i) where
  mem := by simp
  obj := fun i h st c hc => by
    obtain ⟨hz, hTI, ⟨x, y, hTO⟩, ⟨o1, e1, _, d1⟩, ⟨o2, e2, _, d2⟩⟩ := st
    have e' : c = z ∨ c = TI ∨ c = TO ∨ c = i1 ∨ c = i2 := by simpa using hc
    rcases e' with q | q | q | q | q
    · rw [q]; exact ⟨_, hz, fun v q => nomatch q⟩
    · rw [q]; exact ⟨_, hTI, fun v q => nomatch q⟩
    · rw [q]; exact ⟨_, hTO, fun v q => nomatch q⟩
    · rw [q]; exact ⟨o1, e1, fun v q => by rw [d1] at q; cases q⟩
    · rw [q]; exact ⟨o2, e2, fun v q => by rw [d2] at q; cases q⟩
  keep := fun i h h' st k => by
    obtain ⟨hz, hTI, ⟨x, y, hTO⟩, h1, h2⟩ := st
    exact ⟨k z (by simp) _ hz, k TI (by simp) _ hTI, ⟨x, y, k TO (by simp) _ hTO⟩, h1.at fun o q => k i1 (by simp) o q, h2.at fun o q => k i2 (by simp) o q⟩
  item := by
    intro X hP hw hK hc i pins s σ H E I hf st hg
    subst hP hw hK
    obtain ⟨hz, hTI, hTO, h1, h2⟩ := st
    obtain ⟨xs, ys, x, y, hqx, hqy, hx, hy⟩ := hg
    obtain ⟨its, rv, p, _⟩ := I.list hqx
    obtain ⟨its2, rv2, p2, _⟩ := I.tuple hqy
    obtain ⟨u, hu, ru⟩ := rv.get hx
    obtain ⟨u2, hu2, ru2⟩ := rv2.get hy
    have n1 : i < its.toArray.size := by have := (List.getElem?_eq_some_iff.mp hu).1; simpa using this
    have n2 : i < its2.toArray.size := by have := (List.getElem?_eq_some_iff.mp hu2).1; simpa using this
    refine thn ((GoesN.zip2 (elts := elts) (x1 := kk) (pos := tpos) S (Draws.list (prog := X.prog) (w := X.w) (A := X.A.in1) (I.ok.hd hc) i1 a h1a its.toArray) (Draws.tuple (prog := X.prog) (w := X.w) (A := X.A.in1) (I.ok.hd hc) i2 b h2b its2.toArray)).goes i s
      (fun v s2 => ∃ x H', Inv X pins σ H' s2 ∧ RelV x v ∧ (Izm X.K a b).yld i H x H' ∧ (IsZip s2.heap z TI TO .none ∧ IsTupOf2 s2.heap TI (.ref i1) (.ref i2) ∧ (∃ x y, IsTupOf2 s2.heap TO x y) ∧ s2.heap.IsListIter i1 a ((i + 1 : Nat) : Nat) ∧ s2.heap.IsTupleIter i2 b ((i + 1 : Nat) : Nat)) ∧ ∀ b ∈ [z, TI, TO, i1, i2], H' b = none) E (by rw [Nat.lt_min]; exact ⟨n1, n2⟩)
      ⟨hz, hTI, hTO, ⟨h1, p.isList⟩, ⟨h2, p2⟩⟩ fun v h' tk hY st' hk htk => ?_) fun r s1 h1 => h1
    obtain ⟨T, v1, v2, ev, hT, hv1, hv2, hTt⟩ := hY
    obtain ⟨hz', hTI', hTO', ⟨h1', _⟩, ⟨h2', _⟩⟩ := st'
    subst ev
    have e1 : v1 = u := by
      have e1 : its.toArray[i]? = some u := by simpa using hu
      rw [e1] at hv1; exact (Option.some.inj hv1).symm
    have e2 : v2 = u2 := by
      have e1 : its2.toArray[i]? = some u2 := by simpa using hu2
      rw [e1] at hv2; exact (Option.some.inj hv2).symm
    subst e1 e2
    obtain ⟨oT, hoT, hcT, hdT⟩ := hTt
    have new : ObjOk X.prog X.w (upd H T (.tup [x, y])) h' T (.tup [x, y]) :=
      ⟨by show 2 ≤ sizeLine; decide, [v1, v2], .cons ru (.cons ru2 .nil), ⟨oT, hoT, hcT, hdT⟩⟩
    have I1 : Inv X pins σ (upd H T (.tup [x, y])) { s with heap := h', toks := tk } :=
      I.turnedNew (ch := [z, TI, TO, i1, i2]) (fun c ob hb q => hk c ob (fun m => hb (by simp only [List.mem_cons, List.not_mem_nil, or_false] at m ⊢; rcases m with h | h | h | h <;> simp [h])) q) hf hT new
    refine ⟨.ref T, _, I1, rfl, ⟨_, x, y, rfl, I.hok.fresh hT, rfl, fun ys hy => by rw [I.list_inj hy hqx]; exact hx, fun ys hy' => by rw [I.tuple_inj hy' hqy]; exact hy⟩, ⟨hz', hTI', hTO', h1', h2'⟩, fun c hb => ?_⟩
    have hn := (hf c hb).1
    have hb' : c < s.heap.objs.size := by
      obtain ⟨x0, y0, hTO0⟩ := hTO
      obtain ⟨o1, e1, _⟩ := h1
      obtain ⟨o2, e2, _⟩ := h2
      have e' : c = z ∨ c = TI ∨ c = TO ∨ c = i1 ∨ c = i2 := by simpa using hb
      rcases e' with q | q | q | q | q
      · rw [q]; exact Heap.lt_size hz
      · rw [q]; exact Heap.lt_size hTI
      · rw [q]; exact Heap.lt_size hTO0
      · rw [q]; exact Heap.lt_size e1
      · rw [q]; exact Heap.lt_size e2
    rw [upd_ne (Nat.ne_of_lt (Nat.lt_of_lt_of_le hb' hT))]
    exact hn
  done := by
    intro X hP hw hK hc i pins s σ H E I hf st hg
    subst hP hw hK
    obtain ⟨hz, hTI, hTO, h1, h2⟩ := st
    obtain ⟨xs, ys, hqx, hqy, hi⟩ := hg
    obtain ⟨its, rv, p, _⟩ := I.list hqx
    obtain ⟨its2, rv2, p2, _⟩ := I.tuple hqy
    have l1 := rv.length
    have l2 := rv2.length
    have hsz : i = min its.toArray.size its2.toArray.size := by simp; omega
    refine (GoesN.zip2 (elts := elts) (x1 := kk) (pos := tpos) S (Draws.list (prog := X.prog) (w := X.w) (A := X.A.in1) (I.ok.hd hc) i1 a h1a its.toArray) (Draws.tuple (prog := X.prog) (w := X.w) (A := X.A.in1) (I.ok.hd hc) i2 b h2b its2.toArray)).stops s
      (fun s2 => Inv X pins σ H s2) E (by rw [← hsz]; exact ⟨hz, hTI, hTO, ⟨h1, p.isList⟩, ⟨h2, p2⟩⟩) fun h' tk hk htk => ?_
    exact I.turnedL (ch := [z, TI, TO, i1, i2]) (fun c ob hb q => hk c ob (fun m => hb (by simp only [List.mem_cons, List.not_mem_nil, or_false] at m ⊢; rcases m with h | h | h | h <;> simp [h])) q) hf
  self := fun A i s Q E st h => wpAny_pyIter_zip st.1 h
theorem walk_zipM {K : PySem.W.Frag} {a b : Addr} {xs ys : List V} {n : Nat} (hn : n = min xs.length ys.length) : Walk (Izm K a b) n (fun H => SqL K H a xs ∧ SqT K H b ys) (YPair (fun i => xs[i]?) (fun i => ys[i]?)) := by
  subst hn
  refine ⟨fun i _ hi q => ?_, fun _ q => ⟨xs, ys, q.1, q.2, rfl⟩, fun i H v H' _ q y => ?_⟩
  · have h1 : i < xs.length := by omega
    have h2 : i < ys.length := by omega
    exact ⟨xs, ys, xs[i], ys[i], q.1, q.2, by simp [h1], by simp [h2]⟩
  · obtain ⟨T, x, z, h1, h2, h3, h4, h5⟩ := y
    exact ⟨T, x, z, h1, h2, h3, h4 xs q.1, h5 ys q.2⟩
def iZipM (K : PySem.W.Frag) (ta : TA) : TI := fun σ H R => ta σ H fun vs H1 => ∃ a b xs ys, vs = [.ref a, .ref b] ∧ SqL K H1 a xs ∧ SqT K H1 b ys ∧ R (Izm K a b) H1
theorem pi_zipM {X : Cx} {e e2 : Expr} {ta : TA} {p pos tpos : Pos} {elts : List Expr} {kk : Nat} (hg : Gl X "zip") (hm : X.mg "zip" = none) (ha : PA X [e, e2] ta)
    (hs : starEach [e, e2] X.env = (false, eval e X.env) :: starEach [e2] X.env := by rfl) (hpl : (backTo pos (starEach [e2] X.env)).any (·.1) = false := by rfl) :
    PI X (.Tuple elts kk tpos) (.Call (.Name "zip" p) [e, e2] [] pos) (iZipM X.K ta) := by
  refine ⟨fun pins s σ H R I h => ?_⟩
  refine Call_ (ld_blt I hg hm PyProof.Rows.boot_zip (PyProof.Rows.callWith_type1 (thn (ha.run pos pins s σ H _ I h) fun us s1 ⟨vs, H1, I1, r1, q1⟩ => ?_) hs hpl))
  obtain ⟨a, b, xs, ys, ex, hqx, hqy, q⟩ := q1
  subst ex
  cases r1 with
  | cons r rr =>
    cases rr with
    | cons r' rr =>
      cases rr
      cases r
      cases r'
      obtain ⟨its, rv, p1, _⟩ := I1.list hqx
      obtain ⟨its2, rv2, p2, _⟩ := I1.tuple hqy
      have la : a < s1.heap.objs.size := p1.lt
      have lb : b < s1.heap.objs.size := p2.lt
      refine zip_begins2 (begins_list a its.toArray) (begins_tuple b its2.toArray) p1.isList p2 fun h' hz hTI hTO h1 h2 hsz hk => wpAny_pyIter_zip hz ?_
      have I2 : Inv X pins σ H1 { s1 with heap := h' } := I1.kept (t' := s1.toks) hk
      refine ⟨s1.heap.objs.size + 4, [s1.heap.objs.size + 4, s1.heap.objs.size + 2, s1.heap.objs.size + 3, s1.heap.objs.size, s1.heap.objs.size + 1], _, _, H1, rfl, I2, turn_zipM (zip_sep2 (fun c hc => by rw [List.mem_singleton.mp hc]; exact la) (fun c hc => by rw [List.mem_singleton.mp hc]; exact lb)) (Nat.ne_of_lt la) (Nat.ne_of_lt (Nat.lt_succ_of_lt lb)), ⟨hz, hTI, ⟨_, _, hTO⟩, ⟨_, h1, rfl, rfl⟩, ⟨_, h2, rfl, rfl⟩⟩, fun c hcm => ?_, q⟩
      have e' : c = s1.heap.objs.size + 4 ∨ c = s1.heap.objs.size + 2 ∨ c = s1.heap.objs.size + 3 ∨ c = s1.heap.objs.size ∨ c = s1.heap.objs.size + 1 := by simpa using hcm
      have hle : s1.heap.objs.size ≤ c := by
        rcases e' with z | z | z | z | z
        · rw [z]; exact Nat.le_add_right _ _
        · rw [z]; exact Nat.le_add_right _ _
        · rw [z]; exact Nat.le_add_right _ _
        · rw [z]; exact Nat.le_refl _
        · rw [z]; exact Nat.le_add_right _ _
      exact I1.fpOk hle (I1.hok.fresh hle)
end Vt
namespace Vt
open PySem PySem.Spec PyProof.Rows L2
/-! ### xs[lo:hi] = another list -/
def gSlSet (to : TE) (tl th : TO) : TG := fun v σ H Q => to σ H fun o H1 => tl σ H1 fun l H2 => th σ H2 fun u H3 => ∃ (a b : Addr) (xs ys : List V) (lo hi : Nat), o = .ref a ∧ v = .ref b ∧ l = some (lo : Int) ∧ u = some (hi : Int) ∧ H3 a = some (.lst xs) ∧ H3 b = some (.lst ys) ∧ a ≠ b ∧
  lo ≤ hi ∧ hi ≤ xs.length ∧ xs.length + ys.length ≤ sizeLine ∧ Q σ (upd H3 a (.lst (xs.take lo ++ ys ++ xs.drop hi)))
section
variable {X : Cx} {pos p2 : Pos} {o : Expr} {lo hi : Option Expr} {to : TE} {tl th : TO}
theorem pg_slset (ho : PE X o to) (hl : PO X lo tl) (hu : PO X hi th)
    (ha : ∀ v, assign (.Subscript o (.Slice lo hi none p2) pos) X.env v = (do
      let ov ← holding [v] (eval o X.env)
      let iv ← holding [v, ov] (eval (.Slice lo hi none p2) X.env)
      standAt pos
      holding [v, ov, iv] (setItem ov iv v)
      release [iv, v, ov] []) := by intro _; rfl) : PG X (.Subscript o (.Slice lo hi none p2) pos) (gSlSet to tl th) := by
  refine ⟨fun pins s σ H v u Q I r h => ?_⟩
  rw [ha]
  refine wpAny_bind (wpAny_holding (thn (ho.run pins s σ H _ I h) fun ov s1 ⟨x, H1, I1, r1, q1⟩ => ?_))
  refine wpAny_bind (wpAny_holding ?_)
  refine wpAny_Slice (thn (hl.run pins s1 σ H1 _ I1 q1) fun vl s2 ⟨l, H2, I2, pl, q2⟩ => thn (hu.run pins s2 σ H2 _ I2 q2) fun vu s3 ⟨w, H3, I3, pu, a, b, xs, ys, lo', hi', e1, e2, e3, e4, hx, hy, ne, l1, l2, hz, q⟩ => ?_)
  rw [evalPart_none]
  refine wpAny_pure ?_
  subst e1 e2 e3 e4
  obtain rfl : ov = Value.ref a := r1
  obtain rfl : u = Value.ref b := r
  have I4 : Inv X pins σ H3 { s3 with heap := s3.heap.push { cls := .type "slice", data := .fields #[vl, vu, .none] } } := I3.kept (t' := s3.toks) fun b ob q => Heap.get?_push_of_some _ q
  have ra : RelV (.int (lo' : Int)) vl := by cases pl; exact ⟨_, rfl⟩
  have rc : RelV (.int (hi' : Int)) vu := by cases pu; exact ⟨_, rfl⟩
  refine wpAny_bind (wpAny_standAt (wpAny_bind (wpAny_holding (set_slice (a := (lo' : Int)) (c := (hi' : Int)) I4 hx hy ne (Heap.IsSliceOf.new ..) ra rc (by omega) (by omega) (by omega) hz fun s' I' => ?_))))
  exact wpAny_release ⟨σ, _, I', by simpa using q⟩
end
end Vt
namespace Vt
open PySem PySem.Spec PyProof.Rows L2
/-! ### methods of an own class, and its making, by what they promise -/
structure MCallee (P : Program) (w : World) (K : PySem.W.Frag) (mg : Str → Option Value) (base : Heap) (C : Addr) (m : Str) (k : Nat) (sp : Sp) : Prop where
  ex : ∃ (f : Addr) (fd : FuncData) (ps : List Str), Cls K C ∧ Meth K C m f ∧ FnOk P w K mg base CX0 k f fd ps sp ∧ Binds K fd ps []
structure Maker (P : Program) (w : World) (K : PySem.W.Frag) (mg : Str → Option Value) (base : Heap) (x : Str) (C : Addr) (k : Nat) (sp : Sp) : Prop where
  ex : ∃ (f : Addr) (fd : FuncData) (ps : List Str), Mk K C f ∧ FnOk P w K mg base CX0 k f fd ps sp ∧ mg x = some (.ref C) ∧ Binds K fd ps []
section
variable {X : Cx} {x m : Str} {k j : Nat} {C : Addr} {sp : Sp} {p pos apos : Pos} {e o : Expr} {es : List Expr} {ta : TE} {t : TA}
theorem pe_mcal {pl : Sem Bool} (c : MCallee X.prog X.w X.K X.mg X.base C m k sp) (hr : Room j X.A) (hk : k ≤ j) (he : PE X o ta) (ha : PA X (e :: es) t)
    (hst : starEach (e :: es) X.env = (false, eval e X.env) :: starEach es X.env := by rfl) (hpl : (backTo pos (starEach es X.env)).any (·.1) = false := by rfl)
    (ht : eval (.Call (.Attribute o m apos) (e :: es) [] pos) X.env = (do
      let ov ← eval o X.env
      standAt apos.atName
      let (f, first) ← holding [ov] (getMethod ov m pl)
      callWith pos f first (backTo pos (starEach (e :: es) X.env)) (backToKw pos (keywordEach [] X.env))) := by rfl) :
    PE X (.Call (.Attribute o m apos) (e :: es) [] pos) (tMeth C m sp [] E0 ta t) := by
  obtain ⟨f, fd, ps, hc, hm, F, b⟩ := c.ex
  exact pe_meth (pl := pl) he hc hm F (hr.mono hk) b .nil pass0 ha hst hpl ht
theorem pe_mcal0 {pl : Sem Bool} (c : MCallee X.prog X.w X.K X.mg X.base C m k sp) (hr : Room j X.A) (hk : k ≤ j) (he : PE X o ta)
    (ht : eval (.Call (.Attribute o m apos) [] [] pos) X.env = (do
      let ov ← eval o X.env
      standAt apos.atName
      let (f, first) ← holding [ov] (getMethod ov m pl)
      callWith pos f first (backTo pos (starEach [] X.env)) (backToKw pos (keywordEach [] X.env))) := by rfl) :
    PE X (.Call (.Attribute o m apos) [] [] pos) (tMeth C m sp [] E0 ta tNil) := by
  obtain ⟨f, fd, ps, hc, hm, F, b⟩ := c.ex
  exact pe_meth0 (pl := pl) he hc hm F (hr.mono hk) b .nil pass0 ht
theorem pe_mkc (c : Maker X.prog X.w X.K X.mg X.base x C k sp) (hr : Room j X.A) (hk : k + 1 ≤ j) (ha : PA X (e :: es) t) (hg : Gl X x := by rfl)
    (hdb : (x == ("__debug__" : Str)) = false := by decide) (he : starEach (e :: es) X.env = (false, eval e X.env) :: starEach es X.env := by rfl) (hpl : (backTo pos (starEach es X.env)).any (·.1) = false := by rfl) :
    PE X (.Call (.Name x p) (e :: es) [] pos) (tMake C sp [] E0 t) := by
  obtain ⟨f, fd, ps, M, F, hm, b⟩ := c.ex
  exact pe_make M F (hr.mono hk) hg hm b .nil pass0 ha hdb he hpl
end
end Vt
namespace Vt
open PySem PySem.Spec PyProof.Rows L2
theorem call_set_listI {P : Program} {w : World} {A : Around} {E : Value → Shared → Prop} {s : Shared} {l : Addr} {items : Array Value} (ns : List Int) {Q : Value → Shared → Prop} (hh : A.handled = none) (hl : s.heap.IsList l items) (hit : IntsAre items.toList ns) (hb : ns.length + 1 < scanBound)
    (h : ∀ (h' : Heap) (tk c : Nat), SetR w h' s.heap.objs.size (fun j => decide (j ∈ ns)) c → c ≤ ns.length → (∀ (b : Addr) (o : Obj), s.heap.get? b = some o → h'.get? b = some o) → Q (Value.ref s.heap.objs.size) { s with heap := h', toks := tk }) :
    wpAny (model P w) A (call (Value.type "set") [Value.ref l]) Q E s := by
  have hisz : items.size = ns.length := by have q := hit.length; rw [Array.length_toList] at q; exact q
  obtain ⟨c, tl, hmro⟩ := F.called_set.mro
  have hmade := F.called_set.made
  have hsub := F.called_set.sub
  refine wpAny_call (codeAny_of_tree ?_)
  refine wpAny_pure ⟨Code.quiet_builtin _ (by decide +kernel), codeAny_builtin F.entry_type_call ?_⟩
  rw [Around.under_plain (weight_type_call_type "set" [Value.ref l] []) rfl]
  have h1 := F.called_set.notType
  have h2 := F.called_set.canCreate
  have hct := F.typeCall_set_1 (Value.ref l)
  unfold Builtin.«type.__call__»
  refine wpAny_ite_false ?_ ?_
  · rfl
  refine wpAny_ite_false ?_ ?_
  · rfl
  refine wpAny_bind (wpAny_of_eq hct ?_)
  refine wpAny_bind (wpAny_of_eq hmro ?_)
  refine wpAny_ite_false ?_ ?_
  · rfl
  refine wpAny_bind (wpAny_of_eq hmade ?_)
  refine wpAny_bind (wpAny_pure ?_)
  refine wpAny_bind (wpAny_holding ?_)
  refine wpAny_call (codeAny_mono (code_set_led1 (Value.ref l) (E := fun _ _ => False) (Q₁ := fun obj s₁ => obj = Value.ref s.heap.objs.size ∧ s₁ = { s with heap := s.heap.push { cls := Value.type "set", data := Data.set #[] 0 (SetTable.fresh 0 0 !w.params.followText "set-order") } }) ⟨rfl, rfl⟩) fun r s₁ hr => ?_)
  cases r with
  | error e => exact hr.elim
  | ok fl =>
    cases fl with
    | ret v =>
      obtain ⟨rfl, rfl⟩ := hr
      have hty : (⟨s.heap.push { cls := Value.type "set", data := Data.set #[] 0 (SetTable.fresh 0 0 !w.params.followText "set-order") }, s.gens, s.drawn, s.toks, s.os⟩ : Shared).TypeIs (Value.ref s.heap.objs.size) "set" := ⟨_, Heap.get?_push_size _ rfl, rfl⟩
      refine wpAny_bind (wpAny_isInstance hty hsub ?_)
      refine wpAny_ite_false ?_ ?_
      · rfl
      refine wpAny_bind (wpAny_holding ?_)
      unfold callSpecial?
      refine wpAny_bind (wpAny_specialOf hty F.called_set.init.lookup ?_)
      show wpAny _ _ (holding _ _) _ _ _
      refine wpAny_holding ?_
      refine wpAny_bind (wpAny_of_eq (F.called_set.init.bind _) ?_)
      refine wpAny_bind ?_
      refine wpAny_call (codeAny_call_builtin (args := { pos := [Value.ref s.heap.objs.size, Value.ref l] }) F.called_set.init.plain F.entry_set_init (check_set_init_1 hty ?_))
      unfold Builtin.«set.__init__»
      refine wpAny_bind ?_
      refine wpAny_ite_true (by rfl) (wpAny_pure ?_)
      show wpAny _ _ (typeNameOfCut 200 (Value.ref s.heap.objs.size) >>= _) _ _ _
      refine wpAny_bind ?_
      unfold typeNameOfCut shownTypeOf
      refine wpAny_bind ?_
      refine wpAny_bind (wpAny_typeOf hty ?_)
      refine wpAny_ite_false (by rfl) (wpAny_pure ?_)
      refine wpAny_pure ?_
      refine wpAny_bind ?_
      unfold checkCount
      refine wpAny_ite_false (by rfl) (wpAny_ite_false (by rfl) (wpAny_ite_false (by rfl) (wpAny_pure ?_)))
      refine wpAny_bind (wpAny_pure ?_)
      refine wpAny_bind ?_
      unfold setUsed setState
      refine wpAny_bind (wpAny_bind (wpAny_load' (Heap.get?_push_size _ rfl) ?_))
      refine wpAny_ite_false (by rfl) (wpAny_pure (wpAny_pure ?_))
      refine wpAny_ite_false (by rfl) ?_
      refine wpAny_bind ?_
      unfold Builtin.Frozenset.updateFrom
      have hl2 : (s.heap.push { cls := Value.type "set", data := Data.set #[] 0 (SetTable.fresh 0 0 !w.params.followText "set-order") }).IsList l items := hl.push _
      have hlt : (⟨s.heap.push { cls := Value.type "set", data := Data.set #[] 0 (SetTable.fresh 0 0 !w.params.followText "set-order") }, s.gens, s.drawn, s.toks, s.os⟩ : Shared).TypeIs (Value.ref l) "list" := hl2.typeIs
      refine wpAny_bind ?_
      unfold Builtin.Frozenset.isAnySet
      unfold orM
      refine wpAny_bind (wpAny_isInstance hlt F.sub_list_set ?_)
      refine wpAny_isInstance hlt F.sub_list_frozenset ?_
      refine wpAny_ite_false (by rfl) ?_
      refine wpAny_bind (wpAny_typeOf hlt ?_)
      refine wpAny_ite_false (by rfl) ?_
      refine wpAny_bind (wpAny_pyIter_list hl2 ?_)
      have hS : l < s.heap.objs.size := by obtain ⟨o, ho, _⟩ := hl; exact Heap.lt_size ho
      refine wpAny_bind (wpAny_runValue ?_)
      have hI : (s.heap.push { cls := Value.type "set", data := Data.set #[] 0 (SetTable.fresh 0 0 !w.params.followText "set-order") }).objs.size = s.heap.objs.size + 1 := Heap.size_push _ _
      have W := Walks.toS (Walks.list (prog := P) (w := w) (A := A.in1.in1.in1) hh (s.heap.push { cls := Value.type "set", data := Data.set #[] 0 (SetTable.fresh 0 0 !w.params.followText "set-order") }).objs.size l (by rw [hI]; exact Nat.ne_of_lt (Nat.lt_succ_of_lt hS)) items)
      refine set_update_ints (n := items.size) W s.heap.objs.size ?_ ns hisz hb (fun i v hv => ?_) items.size 0 _ rfl (Nat.zero_le _) ?_ ⟨0, Nat.le_refl _, ?_⟩ fun s' c mv hc hset => ?_
      · rw [hI]
        simp only [List.mem_cons, List.not_mem_nil, or_false, not_or]
        exact ⟨Nat.ne_of_lt (Nat.lt_succ_self _), fun z => Nat.ne_of_lt hS z.symm⟩
      · have hlt2 := (Array.getElem?_eq_some_iff.mp hv).1
        obtain ⟨t, e⟩ := hit.int_at i v (by rw [Array.getElem?_toList]; exact hv)
        refine ⟨ns.getD i 0, t, ?_, e⟩
        rw [List.getD_eq_getElem?_getD, List.getElem?_eq_getElem (by omega)]; rfl
      · exact ⟨⟨_, Heap.get?_push_size _ rfl, rfl, rfl⟩, hl2.push _⟩
      · refine setR_new_at (ns := ns) (Heap.get?_push_of_some _ (Heap.get?_push_size _ rfl))
      · refine wpAny_pure (wpAny_pure (wpAny_pure (wpAny_ite_false (by rfl) (wpAny_pure ?_))))
        obtain ⟨hp, gn, dr, tk, os⟩ := s'
        have e1 := mv.gens
        have e2 := mv.drawn
        have e3 := mv.os
        dsimp only at e1 e2 e3
        subst e1 e2 e3
        refine h hp tk c hset (by rw [← hisz]; exact hc) fun b o hb2 => mv.heap b o ?_ (Heap.get?_push_of_some _ (Heap.get?_push_of_some _ hb2))
        have hbs := Heap.lt_size hb2
        simp only [List.mem_cons, List.not_mem_nil, or_false, not_or]
        exact ⟨Nat.ne_of_lt hbs, by rw [hI]; exact Nat.ne_of_lt (Nat.lt_succ_of_lt hbs)⟩
    | _ => exact hr.elim
def tLenSetB (K : PySem.W.Frag) (ta : TE) : TE := fun σ H Q => ta σ H fun x H1 => ∃ (l : Addr) (ns : List Int), x = V.ref l ∧ SqL K H1 l (ns.map V.int) ∧ ns.length ≤ 1000 ∧ ns.Nodup ∧ Q (.int ns.length) H1
theorem setR_len {w : World} {h : Heap} {a : Addr} {ns : List Int} {c : Nat} (hn : ns.Nodup) (hS : SetR w h a (fun j => decide (j ∈ ns)) c) : c = ns.length := by
  obtain ⟨o, es, ep, t, h1, h2, h3, h4, h5, h6, h7, h8, h9, _⟩ := hS
  have p : (es.toList.map keyOf).Perm ns := by
    rw [List.perm_ext_iff_of_nodup h5 hn]
    intro k
    rw [← h6 k]; simp
  rw [← h9, ← p.length_eq, List.length_map, Array.length_toList]
theorem pe_lenSetB {X : Cx} {a : Expr} {ta : TE} {p p2 q pos : Pos} (hc : X.calm = true) (hg : Gl X "len") (hm : X.mg "len" = none) (hg2 : Gl X "set") (hm2 : X.mg "set" = none) (ha : PE X a ta)
    (na : starEach [a] X.env = (false, eval a X.env) :: starEach [] X.env := by rfl) : PE X (.Call (.Name "len" p) [.Call (.Name "set" p2) [a] [] q] [] pos) (tLenSetB X.K ta) := by
  refine ⟨fun pins s σ H Q I h => ?_⟩
  refine PyProof.Rows.Call_ (ld_blt I hg hm boot_len ?_)
  refine PyProof.Rows.callWith_builtin1 ?_
  refine PyProof.Rows.args_cons ?_
  refine PyProof.Rows.Call_ (ld_blt I hg2 hm2 boot_set ?_)
  refine PyProof.Rows.callWith_type1 ?_ na (by rfl)
  refine PyProof.Rows.args_cons (thn (ha.run pins s σ H _ I h) fun v s1 x => ?_) na
  obtain ⟨x, H1, I1, r1, l, ns, rfl, hq, hlen, hnd, q1⟩ := x
  cases r1
  refine PyProof.Rows.args_nil ?_
  obtain ⟨its, r, pl, hz⟩ := I1.list hq
  refine call_set_listI ns (I1.ok.hd hc) pl.isList r.ints (by rw [show scanBound = 4096 from rfl]; omega) fun h' tk c hS hcl hk => ?_
  refine PyProof.Rows.args_nil ?_
  have e := setR_len hnd hS
  obtain ⟨o, es, ep, t, g1, g2, g3, g4, g5, g6, g7, g8, g9, _⟩ := hS
  refine call_len_set g1 g2 g3 g8 (by omega) ?_
  refine ⟨.int ns.length, H1, ?_, ?_, q1⟩
  · exact I1.kept hk
  · exact ⟨_, by rw [g9, e]⟩
end Vt
namespace Vt
open PySem PySem.Spec PyProof.Rows L2
/-! ### match over tuples that begin with a text -/
def capPats : List (Str × Pos) → List Pattern
  | [] => []
  | (x, p) :: r => .MatchAs none (some x) p :: capPats r
theorem capPats_length : ∀ cs : List (Str × Pos), (capPats cs).length = cs.length
  | [] => rfl
  | _ :: r => by rw [capPats, List.length_cons, List.length_cons, capPats_length r]
theorem capPats_star : ∀ cs : List (Str × Pos), (capPats cs).findIdx? (·.isStar) = none
  | [] => rfl
  | _ :: r => by rw [capPats, List.findIdx?_cons, capPats_star r]; rfl
theorem each_caps {M : Model} {A : Around} {E : Value → Shared → Prop} {env : Env} : ∀ (cs : List (Str × Pos)) (us : List Value) (s : Shared) (Q : Option (List (Str × Value)) → Shared → Prop), us.length = cs.length → Q (some ((cs.map (·.1)).zip us)) s →
    wpAny M A (matchEach (capPats cs) env us) Q E s
  | [], us, s, Q, hl, h => by
    cases us with
    | nil => exact wpAny_matchEach_nil h
    | cons u r => simp at hl
  | (x, p) :: r, us, s, Q, hl, h => by
    cases us with
    | nil => simp at hl
    | cons u us =>
      refine wpAny_matchEach_cons (p := .MatchAs none (some x) p) (wpAny_matchPattern_Capture ?_)
      refine each_caps r us s _ (by simpa using hl) ?_
      exact h
def bindAll : L2.St → List Nat → List V → L2.St
  | σ, i :: is, x :: xs => bindAll (σ.set i (some x)) is xs
  | σ, _, _ => σ
/-- how the caught names stand in their places -/
inductive Slots (X : Cx) : List (Str × Pos) → List Nat → Prop
  | nil : Slots X [] []
  | cons {x : Str} {p : Pos} {i : Nat} {cs : List (Str × Pos)} {is : List Nat} : X.N[i]? = some x → X.env.scope.names.lookup x = some .local → Slots X cs is → Slots X ((x, p) :: cs) (i :: is)
theorem store_caps {X : Cx} {pins : List (Addr × Obj)} {H : Hp} (hN : X.N.Nodup) : ∀ {cs : List (Str × Pos)} {is : List Nat} (_ : Slots X cs is) (xs : List V) (us : List Value) (σ : L2.St) (s : Shared) (Q : Unit → Shared → Prop), Inv X pins σ H s → Vals xs us → xs.length = cs.length →
    (∀ s', Inv X pins (bindAll σ is xs) H s' → Q () s') → wpAny (model X.prog X.w) X.A (assignInOrder ((((cs.map (·.1)).zip us).map fun (n, _) => bindName X.env n)) (((cs.map (·.1)).zip us).map (·.2))) Q X.xe s
  | _, _, .nil, xs, us, σ, s, Q, I, r, hl, h => by
    cases r with
    | nil => exact wpAny_assignInOrder_none (h s I)
    | cons r1 rr => simp at hl
  | _, _, .cons (x := x) hi hx sl, xs, us, σ, s, Q, I, r, hl, h => by
    cases r with
    | nil => simp at hl
    | cons r1 rr =>
      refine wpAny_assignInOrder_more (wpAny_bindName (store_ok I hN hi (.inl hx) r1 (fun s' I' => ?_) (.inr hx)))
      exact store_caps hN sl _ _ _ s' Q I' rr (by simpa using hl) h
structure PCases (X : Cx) (cs : List MatchCase) (t : V → TS) : Prop where
  run : ∀ (first : Bool) (pins : List (Addr × Obj)) (s : Shared) (σ : L2.St) (H : Hp) (D : Ends) (v : V) (u : Value), Inv X pins σ H s → RelV v u → t v D σ H → wpAny (model X.prog X.w) X.A (matchCases cs X.env u first) (SP X pins D) X.xe s
def tCaseNil : V → TS := fun _ D σ H => D.nx σ H
theorem pc_nil {X : Cx} : PCases X [] tCaseNil := ⟨fun _ _ s σ H D _ _ I _ h => wpAny_matchCases_nil ⟨σ, H, I, h⟩⟩
def tCase (K : PySem.W.Frag) (wd : Str) (is : List Nat) (tb : TS) (tr : V → TS) : V → TS := fun v D σ H => ∃ a z xs, v = .ref a ∧ SqT K H a (.str z :: xs) ∧
  ((z = wd ∧ xs.length = is.length ∧ tb D (bindAll σ is xs) H) ∨ (¬ (z = wd ∧ xs.length = is.length) ∧ tr v D σ H))
theorem str_eq_iff {a b : Str} : (a.cps.toList == b.cps.toList) = decide (a = b) := by
  by_cases e : a = b
  · subst e; simp
  · have h : ¬ a.cps.toList = b.cps.toList := fun q => e (by
      cases a; cases b
      simp only [Str.mk.injEq]
      exact Array.toList_inj.mp q)
    rw [decide_eq_false e]
    exact beq_eq_false_iff_ne.mpr h
theorem pc_case {X : Cx} {wd : Str} {j : Nat} {p1 p2 p3 : Pos} {cs : List (Str × Pos)} {is : List Nat} {body : List Stmt} {rest : List MatchCase} {tb : TS} {tr : V → TS} (hc : X.calm = true) (hN : X.N.Nodup) (sl : Slots X cs is) (hl : cs.length = is.length) (hb : PSs X body tb) (hr : PCases X rest tr) :
    PCases X (⟨.MatchSequence (.MatchValue (.Constant (.str wd) j p1) p2 :: capPats cs) p3, none, body⟩ :: rest) (tCase X.K wd is tb tr) := by
  refine ⟨fun first pins s σ H D v u I rv h => ?_⟩
  obtain ⟨a, z, xs, ev, hq, h⟩ := h
  subst ev
  cases rv
  obtain ⟨its, rvs, ht, hz⟩ := I.tuple hq
  have hlen : its.length = xs.length + 1 := by rw [← rvs.length]; rfl
  have hsz : its.toArray.size = xs.length + 1 := by simp [hlen]
  have hfit : (its.toArray.size : Int) < 2 ^ 63 := by
    have : (sizeLine : Int) < 2 ^ 63 := by decide
    have h2 : xs.length + 1 ≤ sizeLine := by simpa using hz
    rw [hsz]; omega
  have hpl : (Pattern.MatchValue (.Constant (.str wd) j p1) p2 :: capPats cs).length = is.length + 1 := by rw [List.length_cons, capPats_length, hl]
  have hstar : (Pattern.MatchValue (.Constant (.str wd) j p1) p2 :: capPats cs).findIdx? (·.isStar) = none := by
    rw [List.findIdx?_cons, capPats_star]; rfl
  have hwild : ((Pattern.MatchValue (.Constant (.str wd) j p1) p2 :: capPats cs).all fun p => p.isWildcard || (p.isStar && p.names.isEmpty)) = false := by
    rw [List.all_cons]; rfl
  have miss : ∀ tk, ¬ (z = wd ∧ xs.length = is.length) → wpAny (model X.prog X.w) X.A (matchCases rest X.env (.ref a) false) (SP X pins D) X.xe { s with toks := tk } := fun tk hn => by
    rcases h with ⟨e1, e2, _⟩ | ⟨_, q⟩
    · exact absurd ⟨e1, e2⟩ hn
    · exact hr.run false pins _ σ H D (.ref a) _ (I.tok tk) rfl q
  refine wpAny_matchCases_cons ?_
  by_cases hn : xs.length = is.length
  · refine matchSeq_tuple_hit ht hfit (by rw [hsz, hpl, hn]) ?_ hstar hwild
    have en : (Pattern.MatchValue (.Constant (.str wd) j p1) p2 :: capPats cs).length = its.toArray.size := by rw [hpl, hsz, hn]
    rw [en]
    refine unpackItems_tuple (s := { s with toks := s.toks + 1 + 1 }) (I.ok.hd hc) ht fun h' hx => ?_
    have hk : ∀ b o, s.heap.get? b = some o → h'.get? b = some o := fun b o e => hx b o (Nat.ne_of_lt (Heap.lt_size e)) e
    have I1 : Inv X pins σ H { s with heap := h', toks := s.toks + 1 + 1 } := I.kept hk
    cases rvs with
    | cons r0 rr =>
      rename_i u0 us
      obtain ⟨t0, rfl⟩ := r0
      refine wpAny_matchEach_cons (p := .MatchValue (.Constant (.str wd) j p1) p2) (wpAny_matchPattern_Value ?_)
      refine Calls.Constant_str ?_
      refine PyProof.Rows.eq_str ?_
      rw [show (z == wd) = decide (z = wd) from rfl]
      refine wpAny_truthy_bool ?_
      by_cases e : z = wd
      · rw [decide_eq_true e]
        have hul : us.length = cs.length := by
          have := rr.length
          omega
        refine each_caps cs us _ _ hul ?_
        simp only [List.nil_append]
        refine store_caps hN sl xs us σ _ _ (I1.tok _) rr (by omega) fun s' I' => ?_
        rcases h with ⟨_, _, q⟩ | ⟨q, _⟩
        · exact hb.run pins s' _ H D I' q
        · exact absurd ⟨e, hn⟩ q
      · rw [decide_eq_false e]
        have q := hr.run false pins
        rcases h with ⟨e1, _, _⟩ | ⟨_, q⟩
        · exact absurd e1 e
        · exact hr.run false pins _ σ H D (.ref a) _ (I1.tok _) rfl q
  · refine matchSeq_tuple_miss ht hfit (by rw [hsz, hpl]; omega) ?_ hstar hwild
    exact miss _ fun q => hn q.2
def tMatch (te : TE) (t : V → TS) : TS := fun D σ H => te σ H fun v H1 => t v D σ H1
theorem ps_match {X : Cx} {e : Expr} {cs : List MatchCase} {pos : Pos} {te : TE} {t : V → TS} (he : PE X e te) (hc : PCases X cs t) : PS X (.Match e cs pos) (tMatch te t) := by
  refine ⟨fun pins s σ H D I h => ?_⟩
  exact wpAny_Match (thn (he.run pins s σ H _ I h) fun u s1 ⟨v, H1, I1, r, q⟩ => hc.run true pins s1 σ H1 D v u I1 r q)
section
variable {X : Cx} {wd x0 x1 x2 : Str} {j : Nat} {p1 p2 p3 q0 q1 q2 : Pos} {body : List Stmt} {rest : List MatchCase} {tb : TS} {tr : V → TS}
theorem pc_seq0 (hN : X.N.Nodup) (hb : PSs X body tb) (hr : PCases X rest tr) (hc : X.calm = true := by rfl) :
    PCases X (⟨.MatchSequence [.MatchValue (.Constant (.str wd) j p1) p2] p3, none, body⟩ :: rest) (tCase X.K wd [] tb tr) := pc_case (cs := []) hc hN .nil rfl hb hr
theorem pc_seq1 {i0 : Nat} (hN : X.N.Nodup) (hb : PSs X body tb) (hr : PCases X rest tr) (hc : X.calm = true := by rfl) (h0 : X.N[i0]? = some x0 := by rfl) (l0 : X.env.scope.names.lookup x0 = some .local := by rfl) :
    PCases X (⟨.MatchSequence [.MatchValue (.Constant (.str wd) j p1) p2, .MatchAs none (some x0) q0] p3, none, body⟩ :: rest) (tCase X.K wd [i0] tb tr) :=
  pc_case (cs := [(x0, q0)]) hc hN (.cons h0 l0 .nil) rfl hb hr
theorem pc_seq2 {i0 i1 : Nat} (hN : X.N.Nodup) (hb : PSs X body tb) (hr : PCases X rest tr) (hc : X.calm = true := by rfl) (h0 : X.N[i0]? = some x0 := by rfl) (l0 : X.env.scope.names.lookup x0 = some .local := by rfl) (h1 : X.N[i1]? = some x1 := by rfl) (l1 : X.env.scope.names.lookup x1 = some .local := by rfl) :
    PCases X (⟨.MatchSequence [.MatchValue (.Constant (.str wd) j p1) p2, .MatchAs none (some x0) q0, .MatchAs none (some x1) q1] p3, none, body⟩ :: rest) (tCase X.K wd [i0, i1] tb tr) :=
  pc_case (cs := [(x0, q0), (x1, q1)]) hc hN (.cons h0 l0 (.cons h1 l1 .nil)) rfl hb hr
end
end Vt
namespace Vt
open PySem PySem.Spec PyProof.Rows L2
/-! ### word, *numbers = tuple -/
section
variable {prog : Program} {w : World} {A : Around} {E : Value → Shared → Prop} {s : Shared} {env : Env}
theorem star_tuple {l : Addr} {items : Array Value} {n i : Nat} {first mids lasts : List Value} {Q : List Value → Shared → Prop} (hl : IsTup s.heap l items) (hh : A.handled = none) (hi : i < n) (hn : n ≤ items.size + 1) (hz : items.size ≤ 16384)
    (h1 : items.toList.take i = first) (h2 : (items.toList.drop i).take (items.size + 1 - n) = mids) (h3 : (items.toList.drop i).drop (items.size + 1 - n) = lasts)
    (h : ∀ (h₂ : Heap) (tk : Nat), (∀ b o, s.heap.get? b = some o → h₂.get? b = some o) → Q (first ++ [.ref h₂.objs.size] ++ lasts) { s with heap := h₂.push { cls := .type "list", data := .seq mids.toArray }, toks := tk }) : wpAny (model prog w) A (unpackItems (.ref l) n (some i)) Q E s := by
  subst h1 h2 h3
  have hlt : l ≠ s.heap.objs.size := by obtain ⟨o, ho, _⟩ := hl; exact Nat.ne_of_lt (Heap.lt_size ho)
  have hll : l < s.heap.objs.size := by obtain ⟨o, ho, _⟩ := hl; exact Heap.lt_size ho
  unfold unpackItems
  refine wpAny_bind ?_
  unfold notIterableAtAll
  refine wpAny_bind (wpAny_specialOf hl.typeIs slot_tuple_iter.lookup ?_)
  refine wpAny_pure ?_
  simp only [Bool.false_eq_true, if_false]
  refine wpAny_bind (wpAny_holding (iter_tuple hl ?_))
  refine wpAny_bind (wpAny_holding (draw_tuple hlt i 0 _ _ ⟨_, Heap.get?_push_size _ rfl, rfl, rfl⟩ (hl.push _) (by omega) fun h₁ hit₁ hs₁ => ?_))
  have hl₁ : IsTup h₁ l items := (hl.push _).extBut hs₁.extBut hlt
  rw [Nat.zero_add] at hit₁
  have hit₁' := hit₁
  obtain ⟨oi, hoi, _⟩ := hit₁'
  have hl₁' := hl₁
  obtain ⟨ol, hol, _⟩ := hl₁'
  rw [List.drop_zero]
  have hfl : (items.toList.take i).length = i := by rw [List.length_take, Array.length_toList]; omega
  rw [if_neg (show ¬ ((items.toList.take i).length < i) by rw [hfl]; omega)]
  refine wpAny_bind (wpAny_holding (PySem.W.kun_collect (s := { s with heap := h₁ }) (T := "tuple_iterator") (.inr (.inr (.inr rfl))) (Walks.tuple (A := A.in1) hh s.heap.objs.size l hlt items) (fun j u st => st.1.typeIs) (k := i) (by omega) ⟨hit₁, hl₁⟩ (Heap.lt_size hoi) (Heap.lt_size hol) (fun h₂ tk hk => ?_) (by rw [sizeLine_eq]; omega)))
  have hrl : (items.toList.drop i).length = items.size - i := by rw [List.length_drop, Array.length_toList]
  have hmid : (items.toList.drop i).length - (n - 1 - i) = items.size + 1 - n := by rw [hrl]; omega
  show wpAny _ _ (if (items.toList.drop i).length < n - 1 - i then _ else _) _ _ _
  rw [if_neg (by rw [hrl]; omega)]
  show wpAny _ _ (newList ((items.toList.drop i).take ((items.toList.drop i).length - (n - 1 - i))) >>= fun d => pure (items.toList.take i ++ [d] ++ (items.toList.drop i).drop ((items.toList.drop i).length - (n - 1 - i)))) _ _ _
  rw [hmid]
  have he : Heap.ExtBut s.heap.objs.size s.heap h₂ := fun b o hb e => hk b o hb (hs₁.extBut b o hb (Heap.get?_push_of_some _ e))
  exact wpAny_bind (wpAny_newList (s := { s with heap := h₂, toks := tk }) (wpAny_pure (h h₂ tk fun b o e => he b o (Nat.ne_of_lt (Heap.lt_size e)) e)) (by rw [List.length_take, hrl, sizeLine_eq]; omega))
end
def gStar (K : PySem.W.Frag) (i j : Nat) : TG := fun v σ H Q => ∃ a x xs, v = .ref a ∧ SqT K H a (x :: xs) ∧ xs.length ≤ 1000 ∧ ∀ p, H p = none → Q ((σ.set i (some x)).set j (some (.ref p))) (upd H p (.lst xs))
theorem pg_star {X : Cx} {i j : Nat} {x y : Str} {px py ps pos : Pos} {k : Nat} (hc : X.calm = true) (hN : X.N.Nodup) (hi : X.N[i]? = some x) (hj : X.N[j]? = some y) (hx : X.env.scope.names.lookup x = some .local) (hy : X.env.scope.names.lookup y = some .local) :
    PG X (.Tuple [.Name x px, .Starred (.Name y py) ps] k pos) (gStar X.K i j) := by
  refine ⟨fun pins s σ H v u Q I r h => ?_⟩
  obtain ⟨a, z, xs, ev, hq, hl, h⟩ := h
  subst ev
  cases r
  obtain ⟨its, rvs, ht, hz⟩ := I.tuple hq
  have hlen : its.length = xs.length + 1 := by rw [← rvs.length]; rfl
  cases rvs with
  | cons r0 rr =>
    rename_i u0 us
    have hus : us.length = xs.length := rr.length.symm
    rw [assign_Tuple]
    refine wpAny_bind (wpAny_standAt ?_)
    unfold unpack
    have e1 : (assignEach [.Name x px, .Starred (.Name y py) ps] X.env).length = 2 := rfl
    have e2 : (assignEach [.Name x px, .Starred (.Name y py) ps] X.env).findIdx? (·.1) = some 1 := rfl
    rw [e1, e2]
    refine wpAny_bind (wpAny_holding (star_tuple (first := [u0]) (mids := us) (lasts := []) ht (I.ok.hd hc) (by decide) (by simp) (by simp; omega) rfl (by simp) (by simp) fun h₂ tk hk => ?_))
    have I2 : Inv X pins σ H { s with heap := h₂, toks := tk } := I.kept hk
    have hn : H h₂.objs.size = none := I2.hok.fresh (Nat.le_refl _)
    have hz2 : xs.length ≤ sizeLine := Nat.le_trans hl (by decide)
    have I1 : Inv X pins σ (upd H h₂.objs.size (.lst xs)) { s with heap := h₂.push { cls := .type "list", data := .seq us.toArray }, toks := tk } :=
      I2.laid (t' := tk) (fun b u e => Heap.get?_push_of_some _ e) (Nat.le_refl _) ⟨hz2, us, 0, rr, Heap.get?_push_size _ rfl⟩
    show wpAny _ _ (assignInOrder [assign (.Name x px) X.env, assign (.Name y py) X.env] [u0, .ref h₂.objs.size]) _ _ _
    refine assignInOrder_cons (thn ((pg_name (pos := px) hN hi (.inl hx) (.inr hx)).run pins _ σ _ z u0 (fun σ1 H1 => σ1 = σ.set i (some z) ∧ H1 = upd H h₂.objs.size (.lst xs)) I1 r0 ⟨rfl, rfl⟩) fun _ s1 ⟨σ1, H1, I3, e3, e4⟩ => ?_)
    subst e3 e4
    refine assignInOrder_cons (thn ((pg_name (pos := py) hN hj (.inl hy) (.inr hy)).run pins _ _ _ (.ref h₂.objs.size) _ Q I3 rfl (h _ hn)) fun _ s2 q => ?_)
    exact wpAny_assignInOrder_none q
end Vt
namespace Vt
open PySem PySem.Spec PyProof.Rows L2
/-! ### d.get(x), d a written dict of text keys -/
def tKGet (K : PySem.W.Frag) (w : World) (td ty : TE) : TE := fun σ H Q => td σ H fun x H1 => ∃ a, x = .ref a ∧ (a == sysModules) = false ∧ (∃ es n, K.lookup a = some ⟨.type "dict", none, .dict es n, #[]⟩ ∧ PySem.W.KeysLit w.params es.toList) ∧
  ty σ H1 fun y H2 => ∃ z, y = .str z ∧ ((∃ v, KDct K w a z v ∧ Q v H2) ∨ (KMiss K w a z ∧ Q .non H2))
section
variable {X : Cx} {o e : Expr} {apos cpos : Pos} {td ty : TE}
theorem pe_kget (ho : PE X o td) (he : PE X e ty) (m : M1 X o "get" apos e cpos) : PE X (.Call (.Attribute o "get" apos) [e] [] cpos) (tKGet X.K X.w td ty) := by
  refine ⟨fun pins s σ H Q I h => ?_⟩
  refine wpAny_Call_method m.base m.few m.line PySem.F.plainAttrs_dict PySem.F.slot_dict_get PySem.F.type_dict_get (thn (ho.run pins s σ H _ I h) fun u s1 ⟨x, H1, I1, rx, a, ex, hs, ⟨es, n, hl, hk⟩, q1⟩ => ?_)
  subst ex
  obtain rfl : u = Value.ref a := rx
  have hm := PySem.W.mapOf_K (prog := X.prog) (w := X.w) I1.kIn hl hk
  refine ⟨hm.typeIs, fun b q => ⟨_, I1.kIn _ _ (by cases q; exact hl), rfl⟩, ?_⟩
  rw [m.trees]
  refine Calls.callWith_builtin rfl (Calls.evalArgs_plain (Calls.spliced_cons (thn (he.run pins s1 σ H1 _ I1 q1) fun iv s2 ⟨y, H2, I2, ry, z, ey, q2⟩ => Calls.spliced_nil ?_)))
  subst ey
  obtain ⟨t, rfl⟩ := (show ∃ t, iv = Value.str z t from ry)
  have hm2 := PySem.W.mapOf_K (prog := X.prog) (w := X.w) I2.kIn hl hk
  refine call_meetsIn PySem.F.slot_dict_get hm2.typeIs PySem.F.entry_dict_get (PySem.F.args_dict_get_2 _ _) (meets_dict_get (strKind X.prog X.w) a (strKind_is X.prog X.w z t) hs) ⟨_, hm2, ?_⟩
  rcases q2 with ⟨v, ⟨es', n', u0, hl', hk', e', ru⟩, q2⟩ | ⟨⟨es', n', hl', hk', _, e'⟩, q2⟩
  · rw [hl] at hl'
    cases hl'
    exact ⟨v, H2, I2.tok _, by rw [PySem.W.find_K hl e']; exact ru, q2⟩
  · rw [hl] at hl'
    cases hl'
    exact ⟨.non, H2, I2.tok _, by rw [PySem.W.find_K hl e']; rfl, q2⟩
end
end Vt
namespace Vt
open PySem PySem.Spec PyProof.Rows L2
/-! ### the heap's small words -/
theorem sqA_l {K : PySem.W.Frag} {H : Hp} {a : Addr} {xs : List V} (h : H a = some (.lst xs)) : SqA K H a xs := .inl (.inl (.inl h))
theorem sqA_t {K : PySem.W.Frag} {H : Hp} {a : Addr} {xs : List V} (h : H a = some (.tup xs)) : SqA K H a xs := .inr (.inl (.inl h))
theorem sqL_l {K : PySem.W.Frag} {H : Hp} {a : Addr} {xs : List V} (h : H a = some (.lst xs)) : SqL K H a xs := .inl (.inl h)
theorem sqT_t {K : PySem.W.Frag} {H : Hp} {a : Addr} {xs : List V} (h : H a = some (.tup xs)) : SqT K H a xs := .inl (.inl h)
theorem same_new {H : Hp} {p : Addr} {o : HO} (h : H p = none) : Same H (upd H p o) := fun b x e => by
  rw [upd_ne (ne_of_none e h)]
  exact e
theorem Same.sqT {K : PySem.W.Frag} {H H' : Hp} {a : Addr} {xs : List V} (e : Same H H') (h : SqT K H a xs) : SqT K H' a xs := by
  rcases h with (h | ⟨o, h⟩) | h
  · exact .inl (.inl (e _ _ h))
  · exact .inl (.inr ⟨o, e _ _ h⟩)
  · exact .inr h
/-- all that was tracked stands but for these -/
def But (B : List Addr) (H H' : Hp) : Prop := ∀ c o, c ∉ B → H c = some o → H' c = some o
theorem But.refl {B : List Addr} {H : Hp} : But B H H := fun _ _ _ h => h
theorem But.trans {B : List Addr} {H H1 H2 : Hp} (a : But B H H1) (b : But B H1 H2) : But B H H2 := fun c o n h => b c o n (a c o n h)
theorem Same.but {B : List Addr} {H H' : Hp} (a : Same H H') : But B H H' := fun c o _ h => a c o h
theorem But.set {B : List Addr} {H : Hp} {p : Addr} {o : HO} (h : p ∈ B) : But B H (upd H p o) := fun c u n e => by
  rw [upd_ne (fun q => n (by rw [q]; exact h))]; exact e
theorem But.same {H H' : Hp} (a : But [] H H') : Same H H' := fun c o h => a c o (by simp) h
theorem But.mono {B B' : List Addr} {H H' : Hp} (a : But B H H') (h : ∀ b ∈ B, b ∈ B') : But B' H H' := fun c o n e => a c o (fun m => n (h c m)) e
/-- these stand for lists -/
def Lsts (H : Hp) (B : List Addr) : Prop := ∀ b ∈ B, ∃ xs, H b = some (.lst xs)
theorem But.sqT {K : PySem.W.Frag} {B : List Addr} {H H' : Hp} {a : Addr} {xs : List V} (e : But B H H') (l : Lsts H B) (h : SqT K H a xs) : SqT K H' a xs := by
  rcases h with (h | ⟨o, h⟩) | h
  · exact .inl (.inl (e _ _ (fun m => by obtain ⟨ys, q⟩ := l _ m; rw [q] at h; cases h) h))
  · exact .inl (.inr ⟨o, e _ _ (fun m => by obtain ⟨ys, q⟩ := l _ m; rw [q] at h; cases h) h⟩)
  · exact .inr h
theorem fits {n : Nat} (h : n ≤ 16000) : n < sizeLine := Nat.lt_of_le_of_lt h (by decide)
theorem fits' {n : Nat} (h : n ≤ 16000) : n ≤ sizeLine := Nat.le_of_lt (fits h)
theorem at0 {α : Type} {x : α} {r : List α} : atI (x :: r) 0 = some x := atI_nat (j := 0) rfl
theorem ixN_of {n : Nat} {i : Int} {j : Nat} (h : i = (j : Int)) (hj : j < n) : ixN n i = some j := by
  subst h
  unfold ixN
  rw [if_pos (by omega), if_pos (by omega)]
  rfl
theorem seqIx_of {n : Nat} {i : Int} {j : Nat} (h : i = (j : Int)) (hj : j < n) : seqIndex? i n = some j := (ixN_seq (ixN_of h hj)).1
/-! ### the asker's box of draws -/
def Box (H : Hp) (b l : Addr) : Prop := ∃ (ns : List Int) (s : Int), H b = some (.lst [.ref l, .int s]) ∧ H l = some (.lst (ns.map V.int)) ∧ 0 ≤ s ∧ s < 2147483647 ∧ ns.length ≤ 63
theorem Box.ne {H : Hp} {b l : Addr} (h : Box H b l) : b ≠ l := by
  obtain ⟨ns, s, h1, h2, _⟩ := h
  refine ne_of h1 h2 fun e => ?_
  cases ns with
  | nil => cases e
  | cons x r => cases e
theorem Box.lsts {H : Hp} {b l : Addr} (h : Box H b l) : Lsts H [b, l] := by
  obtain ⟨ns, s, h1, h2, _⟩ := h
  intro c hc
  rcases List.mem_cons.mp hc with rfl | hc
  · exact ⟨_, h1⟩
  · rw [List.mem_singleton.mp hc]; exact ⟨_, h2⟩
theorem Box.same {H H' : Hp} {b l : Addr} (e : Same H H') (h : Box H b l) : Box H' b l := by
  obtain ⟨ns, s, h1, h2, h3⟩ := h
  exact ⟨ns, s, e _ _ h1, e _ _ h2, h3⟩
theorem dpInts {K : PySem.W.Frag} {H : Hp} : ∀ ns : List Int, DpAll K H (ns.map V.int) (ns.map PyData.int)
  | [] => .nil
  | n :: r => .cons (.int n) (dpInts r)
theorem shapedInts (ns : List Int) : SeqAt.shaped (.list (ns.map PyData.int)) = true := by
  have h1 : ∀ ns : List Int, PyData.canLayAll0 (ns.map PyData.int) = true := by
    intro ns
    induction ns with
    | nil => simp [PyData.canLayAll0]
    | cons n r ih => simp [PyData.canLayAll0, PyData.canLay0, ih]
  have h2 : ∀ ns : List Int, PyData.depthAll (ns.map PyData.int) ≤ 1 := by
    intro ns
    induction ns with
    | nil => simp [PyData.depthAll]
    | cons n r ih => simp [PyData.depthAll, PyData.depth]; omega
  have a := h1 ns
  have b := h2 ns
  simp [SeqAt.shaped, PyData.canLay0, PyData.depth, a]
  omega
def nV (n : Nat) : V := .int (n : Int)
theorem chgN {i : Nat} {x y : V} {σ : L2.St} {H : Hp} {Q : L2.St → Hp → Prop} (e : x = y) (h : gName i y σ H Q) : gName i x σ H Q := by rw [e]; exact h
def spTake0 : Sp := fun vs H Q _ => ∃ (b l : Addr) (m : Int), vs = [.ref b, .int m] ∧ Box H b l ∧ 0 < m ∧ m < 1000000 ∧ ∀ H' r, Box H' b l → But [b, l] H H' → 0 ≤ r → r < m → Q (.int r) H'
section
variable {P : Program} {w : World} {K : PySem.W.Frag} {mg : Str → Option Value} {base : Heap}
abbrev st_law_take : Stmt := (topS 28)
abbrev nm_law_take : List Str := ["_law_box", "_law_many", "_law_number"]
theorem sc_law_take : FnScope ["_law_box", "_law_many", "_law_number"] ["_law_box", "_law_many"] (defScope st_law_take) := ⟨rfl, rfl, rfl, by decide +kernel, rfl, by decide +kernel, by decide +kernel⟩
theorem ok_take0 {f : Addr} {fd : FuncData} (F : Fun K "_law_take" "_law_take" st_law_take f fd) : FnOk P w K mg base CX0 1 f fd ["_law_box", "_law_many"] spTake0 := by
  refine F.ok sc_law_take (fun vs H Q E h => ?_) (fun cdv A outer s H vs Q E hr h => ?_)
  · obtain ⟨b, l, m, rfl, _⟩ := h
    rfl
  · obtain ⟨b, l, m, rfl, hB, m0, m1, q⟩ := h
    have hne := hB.ne
    obtain ⟨ns, sd, hb, hl, s0, s1, hlen⟩ := hB
    refine ⟨_, (pss_cons (ps_if (pt_cmpR (op_eqD hr.units) (pe_ix ix_lt (pv 0) pe_int (fun _ _ => rfl)) (pe_lst pa_nil) (nomark _)) (pss_cons (ps_asg (pe_op op_mod (pe_op op_mul (pe_ix ix_lt (pv 0) pe_int (fun _ _ => rfl)) pe_int) pe_int) (pg_sub (pv 0) pe_int set_list))
  (pss_one (ps_ret (pe_op op_mod (pe_op op_fdiv (pe_ix ix_lt (pv 0) pe_int (fun _ _ => rfl)) pe_int) (pv 1))))) pss_nil)
  (pss_cons (ps_set (i := 2) sc_law_take.nd rfl (Or.inl rfl) (pe_ix ix_lt (pe_ix ix_lt (pv 0) pe_int (fun _ _ => rfl)) pe_int (fun _ _ => rfl)))
  (pss_cons (ps_asg (pe_op op_fdiv (pv 2) (pv 1)) (pg_sub (pe_ix ix_lt (pv 0) pe_int (fun _ _ => rfl)) pe_int set_list))
  (pss_cut (ps_if (PW.pt (pw_or (pt_cmpR op_eq (pe_ix ix_lt (pe_ix ix_lt (pv 0) pe_int (fun _ _ => rfl)) pe_int (fun _ _ => rfl)) pe_int (nomark _)) (pw_or1 (pt_cmpR op_eq (pe_ix ix_lt (pe_ix ix_lt (pv 0) pe_int (fun _ _ => rfl)) pe_int (fun _ _ => rfl)) (pe_un un_neg pe_int) (nomark _))))) (pss_one (ps_expr (pe_bm PySem.F.plainAttrs_list PySem.F.slot_list_pop PySem.F.type_list_pop mt_popAt (pe_ix ix_lt (pv 0) pe_int (fun _ _ => rfl)) (pa_cons pe_int pa_nil)))) pss_nil)
  (pss_one (ps_ret (pe_op op_mod (pv 2) (pv 1)))))))), ?_⟩
    -- if box[0] == []
    refine ⟨_, rfl, b, _, 0, .ref l, rfl, rfl, sqA_l hb, rfl, ?_⟩
    refine ⟨Nat.zero_le _, fun p np => ?_⟩
    have sm : Same H (upd H p (.lst [])) := same_new np
    refine ⟨.list (ns.map PyData.int), .list [], .lst (sqL_l (sm _ _ hl)) (dpInts ns), .lst (sqL_l upd_same) .nil, shapedInts ns, rfl, _, rfl, ?_⟩
    have hb1 := sm _ _ hb
    have hl1 := sm _ _ hl
    have nbp : b ≠ p := ne_of_none hb np
    have nlp : l ≠ p := ne_of_none hl np
    cases ns with
    | nil =>
      refine iteT ?_
      -- box[1] = box[1] * 48271 % 2147483647
      refine ⟨_, rfl, b, _, 1, .int sd, rfl, rfl, sqA_l hb1, rfl, ?_⟩
      refine ⟨_, _, rfl, rfl, .inl ⟨by omega, by omega⟩, _, _, rfl, rfl, (by show (0 : Int) < 2147483647; decide), ?_⟩
      refine ⟨_, rfl, b, _, 1, 1, rfl, rfl, hb1, rfl, ?_⟩
      -- return box[1] // 7 % many
      refine ⟨_, rfl, b, _, 1, .int (sd * 48271 % 2147483647), rfl, rfl, sqA_l upd_same, rfl, ?_⟩
      refine ⟨_, _, rfl, rfl, ⟨by decide, by decide⟩, _, rfl, _, _, rfl, rfl, m0, ?_⟩
      have e0 : 0 ≤ sd * 48271 % 2147483647 := Int.emod_nonneg _ (by decide)
      have e1 : sd * 48271 % 2147483647 < 2147483647 := Int.emod_lt_of_pos _ (by decide)
      refine q _ _ ⟨[], _, upd_same, ?_, e0, e1, hlen⟩ ?_ ?_ ?_
      · rw [upd_ne hne.symm]; exact hl1
      · exact (Same.but sm).trans (But.set (by simp))
      · exact Int.emod_nonneg _ (by omega)
      · exact Int.emod_lt_of_pos _ m0
    | cons n r =>
      refine iteF ?_
      -- number = box[0][0]
      refine ⟨_, rfl, b, _, 0, .ref l, rfl, rfl, sqA_l hb1, rfl, l, _, 0, .int n, rfl, rfl, sqA_l hl1, at0, ?_⟩
      -- box[0][0] = number // many
      refine ⟨_, rfl, _, rfl, _, _, rfl, rfl, ⟨m0, by omega⟩, ?_⟩
      refine ⟨_, rfl, b, _, 0, .ref l, rfl, rfl, sqA_l hb1, rfl, l, _, 0, 0, rfl, rfl, hl1, ixN_of rfl (by simp), ?_⟩
      have nlb : l ≠ b := hne.symm
      have hb2 : (upd (upd H p (.lst [])) l (.lst ((V.int (n / m)) :: r.map V.int))) b = some (.lst [.ref l, .int sd]) := by
        rw [upd_ne hne]; exact hb1
      have bt : But [b, l] H (upd (upd H p (.lst [])) l (.lst ((V.int (n / m)) :: r.map V.int))) := (Same.but sm).trans (But.set (by simp))
      -- if box[0][0] == 0 or box[0][0] == -1
      have hr1 : r.length ≤ 63 := by simp at hlen; omega
      refine ⟨fun σ' H' => σ' = [some (.ref b), some (.int m), some (.int n)] ∧ Box H' b l ∧ But [b, l] H H', ?_, fun σ' H' hM => ?_⟩
      · have pop : ∀ D : Ends, D.nx = (fun σ' H' => σ' = [some (.ref b), some (.int m), some (.int n)] ∧ Box H' b l ∧ But [b, l] H H') →
            tDrop (tBM K "list" rPopAt (tOp (rIxLT K) (tVar 0) (tC (.int 0))) (tCons (tC (.int 0)) tNil)) D [some (.ref b), some (.int m), some (.int n)] (upd (upd H p (.lst [])) l (.lst ((V.int (n / m)) :: r.map V.int))) := fun D hD => by
          refine ⟨_, rfl, b, _, 0, .ref l, rfl, rfl, sqA_l hb2, rfl, .inl ⟨rfl, _, sqL_l upd_same⟩, ?_⟩
          refine ⟨l, _, 0, 0, .int (n / m), rfl, rfl, upd_same, by decide, by decide, seqIx_of rfl (by simp), rfl, ?_⟩
          rw [hD]
          refine ⟨rfl, ⟨r, sd, ?_, ?_, s0, s1, hr1⟩, bt.trans (But.set (by simp))⟩
          · rw [upd_ne hne]; exact hb2
          · rw [upd_same]; rfl
        refine ⟨_, rfl, b, _, 0, .ref l, rfl, rfl, sqA_l hb2, rfl, l, _, 0, .int (n / m), rfl, rfl, sqA_l upd_same, at0, rfl, _, rfl, ite2 (fun e => ?_) (fun e => ?_)⟩
        · exact iteT (pop _ rfl)
        · refine ⟨_, rfl, b, _, 0, .ref l, rfl, rfl, sqA_l hb2, rfl, l, _, 0, .int (n / m), rfl, rfl, sqA_l upd_same, at0, 1, rfl, rfl, _, rfl, ite2 (fun e => ?_) (fun e => ?_)⟩
          · exact pop _ rfl
          · exact ⟨rfl, ⟨n / m :: r, sd, hb2, upd_same, s0, s1, hlen⟩, bt⟩
      · obtain ⟨rfl, h1, h2⟩ := hM
        refine ⟨_, rfl, _, rfl, _, _, rfl, rfl, m0, ?_⟩
        exact q _ _ h1 h2 (Int.emod_nonneg _ (by omega)) (Int.emod_lt_of_pos _ m0)
/-- a draw below many -/
def spTake : Sp := fun vs H Q _ => ∃ (b l : Addr) (e : Int) (m : Nat), vs = [.ref b, .int e] ∧ e = (m : Int) ∧ Box H b l ∧ 0 < m ∧ m < 1000000 ∧ ∀ (H' : Hp) (r : Nat), Box H' b l → But [b, l] H H' → r < m → Q (nV r) H'
theorem ok_take {f : Addr} {fd : FuncData} (F : Fun K "_law_take" "_law_take" st_law_take f fd) : FnOk P w K mg base CX0 1 f fd ["_law_box", "_law_many"] spTake :=
  (ok_take0 F).imp fun vs H Q E h => by
    obtain ⟨b, l, e, m, rfl, rfl, hB, m0, m1, q⟩ := h
    refine ⟨b, l, m, rfl, hB, by omega, by omega, fun H' r hB' bt r0 r1 => ?_⟩
    obtain ⟨k, rfl⟩ := Int.eq_ofNat_of_zero_le r0
    exact q H' k hB' bt (by omega)
end
end Vt
namespace Vt
open PySem PySem.Spec PyProof.Rows L2
/-! ### data in the heap: ints, texts, None, bools, tuples and lists of them -/
inductive D where
  | non | bl (b : Bool) | int (i : Int) | str (x : Str) | tup (ds : List D) | lst (ds : List D)
mutual
inductive Pd (H : Hp) : V → D → Prop
  | non : Pd H .non .non
  | bl (b : Bool) : Pd H (.bl b) (.bl b)
  | int (i : Int) : Pd H (.int i) (.int i)
  | str (x : Str) : Pd H (.str x) (.str x)
  | tup {a : Addr} {xs : List V} {ds : List D} : H a = some (.tup xs) → Pds H xs ds → Pd H (.ref a) (.tup ds)
  | lst {a : Addr} {xs : List V} {ds : List D} : H a = some (.lst xs) → Pds H xs ds → Pd H (.ref a) (.lst ds)
inductive Pds (H : Hp) : List V → List D → Prop
  | nil : Pds H [] []
  | cons {v : V} {vs : List V} {d : D} {ds : List D} : Pd H v d → Pds H vs ds → Pds H (v :: vs) (d :: ds)
end
mutual
def D.noL : D → Bool
  | .lst _ => false
  | .tup ds => noLs ds
  | _ => true
def noLs : List D → Bool
  | [] => true
  | d :: ds => d.noL && noLs ds
end
mutual
def D.dep : D → Nat
  | .lst ds => deps ds + 1
  | .tup ds => deps ds + 1
  | _ => 0
def deps : List D → Nat
  | [] => 0
  | d :: ds => max d.dep (deps ds)
end
section
variable {H H' : Hp}
mutual
theorem Pd.same (s : Same H H') : ∀ {d : D} {v : V}, Pd H v d → Pd H' v d
  | .non, _, .non => .non
  | .bl _, _, .bl b => .bl b
  | .int _, _, .int b => .int b
  | .str _, _, .str b => .str b
  | .tup _, _, .tup h hs => .tup (s _ _ h) (Pds.same s hs)
  | .lst _, _, .lst h hs => .lst (s _ _ h) (Pds.same s hs)
theorem Pds.same (s : Same H H') : ∀ {ds : List D} {vs : List V}, Pds H vs ds → Pds H' vs ds
  | [], _, .nil => .nil
  | _ :: _, _, .cons h hs => .cons (Pd.same s h) (Pds.same s hs)
end
mutual
theorem Pd.but {B : List Addr} (s : But B H H') (l : Lsts H B) : ∀ {d : D} {v : V}, d.noL = true → Pd H v d → Pd H' v d
  | .non, _, _, .non => .non
  | .bl _, _, _, .bl b => .bl b
  | .int _, _, _, .int b => .int b
  | .str _, _, _, .str b => .str b
  | .tup ds, _, n, .tup h hs => .tup (s _ _ (fun m => by obtain ⟨ys, q⟩ := l _ m; rw [q] at h; cases h) h) (Pds.but s l (by rw [D.noL] at n; exact n) hs)
  | .lst ds, _, n, .lst h hs => by rw [D.noL] at n; cases n
theorem Pds.but {B : List Addr} (s : But B H H') (l : Lsts H B) : ∀ {ds : List D} {vs : List V}, noLs ds = true → Pds H vs ds → Pds H' vs ds
  | [], _, _, .nil => .nil
  | d :: ds, _, n, .cons h hs => by
    rw [noLs, Bool.and_eq_true] at n
    exact .cons (Pd.but s l n.1 h) (Pds.but s l n.2 hs)
end
theorem Pds.len : ∀ {ds : List D} {vs : List V}, Pds H vs ds → vs.length = ds.length
  | _, _, .nil => rfl
  | _, _, .cons _ hs => by rw [List.length_cons, List.length_cons, Pds.len hs]
theorem Pds.get : ∀ {ds : List D} {vs : List V} {i : Nat} {d : D}, Pds H vs ds → ds[i]? = some d → ∃ v, vs[i]? = some v ∧ Pd H v d
  | _, _, _, _, .nil, e => by simp at e
  | _, _, 0, _, .cons h _, e => by
    simp only [List.getElem?_cons_zero, Option.some.injEq] at e
    subst e; exact ⟨_, rfl, h⟩
  | _, _, i + 1, _, .cons _ hs, e => by
    obtain ⟨v, h1, h2⟩ := Pds.get (i := i) hs (by simpa using e)
    exact ⟨v, by simpa using h1, h2⟩
theorem Pds.get' : ∀ {ds : List D} {vs : List V} {i : Nat} {v : V}, Pds H vs ds → vs[i]? = some v → ∃ d, ds[i]? = some d ∧ Pd H v d
  | _, _, _, _, .nil, e => by simp at e
  | _, _, 0, _, .cons h _, e => by
    simp only [List.getElem?_cons_zero, Option.some.injEq] at e
    subst e; exact ⟨_, rfl, h⟩
  | _, _, i + 1, _, .cons _ hs, e => by
    obtain ⟨v, h1, h2⟩ := Pds.get' (i := i) hs (by simpa using e)
    exact ⟨v, by simpa using h1, h2⟩
theorem Pds.app : ∀ {ds es : List D} {vs us : List V}, Pds H vs ds → Pds H us es → Pds H (vs ++ us) (ds ++ es)
  | _, _, _, _, .nil, k => k
  | _, _, _, _, .cons h hs, k => .cons h (Pds.app hs k)
theorem Pds.ints : ∀ {ns : List Int} {vs : List V}, Pds H vs (ns.map D.int) → vs = ns.map V.int
  | [], _, .nil => rfl
  | n :: r, _, .cons (.int _) hs => by rw [List.map_cons, Pds.ints hs]
theorem Pds.ofInts : ∀ ns : List Int, Pds H (ns.map V.int) (ns.map D.int)
  | [] => .nil
  | n :: r => .cons (.int n) (Pds.ofInts r)
end
theorem deps_get : ∀ {ds : List D} {i : Nat} {d : D}, ds[i]? = some d → d.dep ≤ deps ds
  | [], _, _, e => by simp at e
  | x :: r, 0, d, e => by
    simp only [List.getElem?_cons_zero, Option.some.injEq] at e
    subst e; rw [deps]; omega
  | x :: r, i + 1, d, e => by
    have := deps_get (ds := r) (i := i) (d := d) (by simpa using e)
    rw [deps]; omega
/-! ### boards -/
structure Ord where
  src : Nat
  goal : Nat
  many : Nat
  later : Option Nat
inductive Deed where
  | set (c n : Nat) | add (c o : Nat) | say (c : Nat) | start (o : Nat) | wait | clean (l : Nat) | drop (l : Nat)
  deriving DecidableEq
structure Brd where
  mem : List Nat
  ords : List Ord
  prog : List Deed
def nD (n : Nat) : D := .int (n : Int)
def oV : Option Nat → V
  | none => .non
  | some k => nV k
def oD : Option Nat → D
  | none => .non
  | some k => nD k
def Ord.vs (o : Ord) : List V := [nV o.src, nV o.goal, nV o.many, oV o.later]
def Ord.d (o : Ord) : D := .tup [nD o.src, nD o.goal, nD o.many, oD o.later]
def Deed.word : Deed → Str
  | .set _ _ => "set" | .add _ _ => "add" | .say _ => "say" | .start _ => "start" | .wait => "wait" | .clean _ => "clean" | .drop _ => "drop"
def Deed.args : Deed → List Nat
  | .set c n => [c, n] | .add c o => [c, o] | .say c => [c] | .start o => [o] | .wait => [] | .clean l => [l] | .drop l => [l]
def Deed.vs (d : Deed) : List V := .str d.word :: d.args.map nV
def Deed.d (d : Deed) : D := .tup (.str d.word :: d.args.map nD)
def nsD (ns : List Nat) : D := .tup (ns.map nD)
def Brd.d (B : Brd) : D := .tup [nsD B.mem, .tup (B.ords.map Ord.d), .tup (B.prog.map Deed.d)]
theorem pd_o {H : Hp} : ∀ o : Option Nat, Pd H (oV o) (oD o)
  | none => .non
  | some k => .int k
theorem pds_ns {H : Hp} : ∀ ns : List Nat, Pds H (ns.map nV) (ns.map nD)
  | [] => .nil
  | n :: r => .cons (.int n) (pds_ns r)
theorem pds_ns' {H : Hp} : ∀ {ns : List Nat} {vs : List V}, Pds H vs (ns.map nD) → vs = ns.map nV
  | [], _, .nil => rfl
  | n :: r, _, .cons h hs => by
    cases h
    rw [List.map_cons, pds_ns' hs]; rfl
theorem Ord.pd {H : Hp} {o : Ord} {a : Addr} (h : H a = some (.tup o.vs)) : Pd H (.ref a) o.d := .tup h (.cons (.int _) (.cons (.int _) (.cons (.int _) (.cons (pd_o _) .nil))))
theorem Ord.of {H : Hp} {o : Ord} {v : V} (h : Pd H v o.d) : ∃ a, v = .ref a ∧ H a = some (.tup o.vs) := by
  obtain ⟨s, g, m, l⟩ := o
  cases h with
  | tup h hs =>
    cases hs with
    | cons h1 hs => cases h1; cases hs with
      | cons h2 hs => cases h2; cases hs with
        | cons h3 hs => cases h3; cases hs with
          | cons h4 hs =>
            cases hs
            refine ⟨_, rfl, ?_⟩
            cases l with
            | none => cases h4; exact h
            | some k => cases h4; exact h
theorem Deed.pd {H : Hp} {d : Deed} {a : Addr} (h : H a = some (.tup d.vs)) : Pd H (.ref a) d.d := .tup h (.cons (.str _) (pds_ns _))
theorem Deed.of {H : Hp} {d : Deed} {v : V} (h : Pd H v d.d) : ∃ a, v = .ref a ∧ H a = some (.tup d.vs) := by
  cases h with
  | tup h hs =>
    cases hs with
    | cons h1 hs =>
      cases h1
      rw [pds_ns' hs] at h
      exact ⟨_, rfl, h⟩
theorem Brd.of {H : Hp} {B : Brd} {v : V} (h : Pd H v B.d) : ∃ a m o p os ps, v = .ref a ∧ H a = some (.tup [.ref m, .ref o, .ref p]) ∧ H m = some (.tup (B.mem.map nV)) ∧ H o = some (.tup os) ∧ Pds H os (B.ords.map Ord.d) ∧ H p = some (.tup ps) ∧ Pds H ps (B.prog.map Deed.d) := by
  obtain ⟨mem, ords, prog⟩ := B
  cases h with
  | tup h hs =>
    cases hs with
    | cons h1 hs => cases h1 with
      | tup e1 k1 => cases hs with
        | cons h2 hs => cases h2 with
          | tup e2 k2 => cases hs with
            | cons h3 hs => cases h3 with
              | tup e3 k3 =>
                cases hs
                rw [pds_ns' k1] at e1
                exact ⟨_, _, _, _, _, _, rfl, h, e1, e2, k2, e3, k3⟩
theorem noL_ns : ∀ ns : List Nat, noLs (ns.map nD) = true
  | [] => by rw [List.map_nil, noLs]
  | n :: r => by rw [List.map_cons, noLs, noL_ns r]; rfl
theorem noL_ord (o : Ord) : o.d.noL = true := by
  obtain ⟨s, g, m, l⟩ := o
  cases l <;> simp [Ord.d, D.noL, noLs, nD, oD]
theorem noL_deed (d : Deed) : d.d.noL = true := by
  simp only [Deed.d, D.noL, noLs, Bool.true_and]
  exact noL_ns _
theorem noLs_map {α : Type} {f : α → D} (h : ∀ x, (f x).noL = true) : ∀ xs : List α, noLs (xs.map f) = true
  | [] => by rw [List.map_nil, noLs]
  | x :: r => by rw [List.map_cons, noLs, h x, noLs_map h r]; rfl
theorem noL_brd (B : Brd) : B.d.noL = true := by
  simp only [Brd.d, nsD, D.noL, noLs, Bool.and_true, Bool.and_eq_true]
  exact ⟨noL_ns _, noLs_map noL_ord _, noLs_map noL_deed _⟩
/-- what can be -/
structure OrdOk (o : Ord) (at_ count cells : Nat) : Prop where
  one : 1 ≤ o.many
  eight : o.many ≤ 8
  src : o.src + o.many ≤ cells
  goal : o.goal + o.many ≤ cells
  later : ∀ k, o.later = some k → at_ < k ∧ k < count
def DeedOk (d : Deed) (count cells : Nat) : Prop := match d with
  | .set c n => c < cells ∧ n < 10
  | .add c o => c < cells ∧ o < cells
  | .say c => c < cells
  | .start o => o < count
  | .wait => True
  | .clean l => l < cells / 4
  | .drop l => l < cells / 4
def isStart : Deed → Bool
  | .start _ => true
  | _ => false
structure BrdOk (B : Brd) : Prop where
  cells : B.mem.length = 4 ∨ B.mem.length = 8 ∨ B.mem.length = 12 ∨ B.mem.length = 16
  nums : ∀ n ∈ B.mem, n < 10
  four : B.ords.length ≤ 4
  ords : ∀ (i : Nat) (o : Ord), B.ords[i]? = some o → OrdOk o i B.ords.length B.mem.length
  sixty : B.prog.length ≤ 60
  prog : ∀ d ∈ B.prog, DeedOk d B.ords.length B.mem.length
  starts : (B.prog.filter isStart).length ≤ 3
end Vt
namespace Vt
open PySem PySem.Spec PyProof.Rows L2
/-- a list grows by a new tuple -/
theorem grow {H3 : Hp} {p T : Addr} {xs : List V} {ds : List D} {d : D} {vs : List V} (hx : H3 p = some (.lst xs)) (hp : Pds H3 xs ds) (n : noLs ds = true) (nT : H3 T = none) (hd : ∀ (H : Hp) (a : Addr), H a = some (.tup vs) → Pd H (.ref a) d) :
    (upd H3 T (.tup vs)) p = some (.lst xs) ∧ Pds (upd (upd H3 T (.tup vs)) p (.lst (xs ++ [.ref T]))) (xs ++ [.ref T]) (ds ++ [d]) ∧ But [p] H3 (upd (upd H3 T (.tup vs)) p (.lst (xs ++ [.ref T]))) := by
  have s3 : Same H3 (upd H3 T (.tup vs)) := same_new nT
  have hx4 := s3 _ _ hx
  have pT : T ≠ p := (ne_of_none hx nT).symm
  have ls : Lsts (upd H3 T (.tup vs)) [p] := fun c hc => ⟨xs, by rw [List.mem_singleton.mp hc]; exact hx4⟩
  have sB : But [p] (upd H3 T (.tup vs)) (upd (upd H3 T (.tup vs)) p (.lst (xs ++ [.ref T]))) := But.set (by simp)
  exact ⟨hx4, (Pds.but sB ls n (hp.same s3)).app (.cons (hd _ _ (by rw [upd_ne pT, upd_same])) .nil), (Same.but s3).trans sB⟩
theorem But.pds1 {H H' : Hp} {p : Addr} {xs ys : List V} {ds : List D} (b : But [p] H H') (hx : H p = some (.lst ys)) (n : noLs ds = true) (h : Pds H xs ds) : Pds H' xs ds :=
  Pds.but b (fun c hc => ⟨ys, by rw [List.mem_singleton.mp hc]; exact hx⟩) n h
theorem But.at1 {H H' : Hp} {p q : Addr} {o : HO} (b : But [p] H H') (h : H q = some o) (ne : q ≠ p) : H' q = some o := b q o (by simp [ne]) h
theorem But.new1 {H0 H H' : Hp} {p : Addr} (s : Same H0 H) (np : H0 p = none) (b : But [p] H H') : Same H0 H' := fun c o h => b c o (by simp [ne_of_none h np]) (s c o h)
theorem set_map {mem : List Nat} {c n : Nat} {v : V} (e : v = nV n) : (mem.map nV).set c v = (mem.set c n).map nV := by rw [e, List.map_set]
theorem nat_at {mem : List Nat} {c : Nat} (h : c < mem.length) : (mem.map nV)[c]? = some (nV (mem.getD c 0)) := by
  rw [List.getElem?_map, List.getElem?_eq_getElem h, List.getD_eq_getElem?_getD, List.getElem?_eq_getElem h]; rfl
end Vt
namespace Vt
open PySem PySem.Spec PyProof.Rows L2
/-! ### readings in short -/
section
variable {K : PySem.W.Frag} {σ : L2.St} {H : Hp} {a : Addr}
/-- t[0] == "x", t a deed -/
theorem rd_word {i : Nat} {d : Deed} {x : Str} {R : Bool → Hp → Prop} (hσ : σ[i]? = some (some (.ref a))) (h : H a = some (.tup d.vs)) (hr : R (decide (d.word = x)) H) : tTest (tOp rEq (tOp (rIxLT K) (tVar i) (tC (.int 0))) (tC (.str x))) σ H R := by
  refine ⟨_, hσ, a, _, 0, .str d.word, rfl, rfl, sqA_t h, at0, rfl, _, rfl, ?_⟩
  rw [show decide (V.str d.word = V.str x) = decide (d.word = x) by
    by_cases e : d.word = x
    · rw [e, decide_eq_true rfl, decide_eq_true rfl]
    · rw [decide_eq_false e, decide_eq_false (fun z => e (by injection z))]]
  exact hr
/-- t[0] in ("x", "y") -/
theorem rd_in {i : Nat} {d : Deed} {x y : Str} {R : Bool → Hp → Prop} (hσ : σ[i]? = some (some (.ref a))) (h : H a = some (.tup d.vs)) (hr : ∀ T, H T = none → R (decide (d.word = x) || decide (d.word = y)) (upd H T (.tup [.str x, .str y]))) :
    tTest (tOp (rIn K false) (tOp (rIxLT K) (tVar i) (tC (.int 0))) (tTup (tCons (tC (.str x)) (tCons (tC (.str y)) tNil)))) σ H R := by
  refine ⟨_, hσ, a, _, 0, .str d.word, rfl, rfl, sqA_t h, at0, by show 2 ≤ sizeLine; decide, fun T nT => ⟨T, _, rfl, .inr (sqT_t upd_same), rfl, rfl, _, rfl, ?_⟩⟩
  have e : (if false = true then !inV (.str d.word) [.str x, .str y] else inV (.str d.word) [.str x, .str y]) = (decide (d.word = x) || decide (d.word = y)) := by
    rw [if_neg (by decide)]
    show (eqV (.str x) (.str d.word) || (eqV (.str y) (.str d.word) || false)) = _
    rw [Bool.or_false, show ∀ z : Str, eqV (.str z) (.str d.word) = decide (d.word = z) from fun z => by
      show decide (z = d.word) = decide (d.word = z)
      exact decide_eq_decide.mpr eq_comm]
    rw [show eqV (.str y) (.str d.word) = decide (d.word = y) from by
      show decide (y = d.word) = decide (d.word = y)
      exact decide_eq_decide.mpr eq_comm]
  rw [e]
  exact hr T nT
end
theorem But.tup {B : List Addr} {H H' : Hp} {t : Addr} {xs : List V} (b : But B H H') (l : Lsts H B) (h : H t = some (.tup xs)) : H' t = some (.tup xs) :=
  b _ _ (fun m => by obtain ⟨ys, q⟩ := l _ m; rw [q] at h; cases h) h
end Vt
namespace Vt
open PySem PySem.Spec PyProof.Rows L2
section
variable {P : Program} {w : World} {K : PySem.W.Frag} {mg : Str → Option Value} {base : Heap}
/-! ### the box begun -/
abbrev st_law_begun : Stmt := (topS 27)
abbrev nm_law_begun : List Str := ["_law_script", "_law_stirred", "_law_cell"]
theorem sc_law_begun : FnScope ["_law_script", "_law_stirred", "_law_cell"] ["_law_script"] (defScope st_law_begun) := ⟨rfl, rfl, rfl, by decide +kernel, rfl, by decide +kernel, by decide +kernel⟩
def spBegun (K : PySem.W.Frag) : Sp := fun vs H Q _ => ∃ (a : Addr) (ns : List Int), vs = [.ref a] ∧ SqL K H a (ns.map V.int) ∧ ns.length ≤ 63 ∧ ∀ (H' : Hp) (b l : Addr), Box H' b l → Same H H' → Q (.ref b) H'
theorem ok_begun {f : Addr} {fd : FuncData} (F : Fun K "_law_begun" "_law_begun" st_law_begun f fd) (z_len : mg "len" = none) (z_int : mg "int" = none) (z_list : mg "list" = none) : FnOk P w K mg base CX0 1 f fd ["_law_script"] (spBegun K) := by
  refine F.ok sc_law_begun (fun vs H Q E h => ?_) (fun cdv A outer s H vs Q E hr h => ?_)
  · obtain ⟨a, ns, rfl, _⟩ := h
    rfl
  · obtain ⟨a, ns, rfl, hS, hlen, q⟩ := h
    refine ⟨_, (pss_cons (ps_set (i := 1) sc_law_begun.nd rfl (Or.inl rfl) pe_int)
  (pss_cons (ps_for PassesOwn.never rfl (pi_lt (pv 0)) (pg_name (i := 2) sc_law_begun.nd rfl (Or.inl rfl))
  (pss_one (ps_set (i := 1) sc_law_begun.nd rfl (Or.inl rfl) (pe_op op_mod (pe_op op_add (pe_op op_add (pe_op op_mul (pv 1) pe_int) (pe_op op_mul (pv 2) pe_int)) pe_int) pe_int))))
  (pss_one (ps_ret (pe_lst (pa_cons (pe_callTy call_list_of (by rfl) z_list (by decide +kernel) (pa_cons (pv 0) pa_nil)) (pa_cons (pe_op op_mul (pv 1) (pe_callTy call_int1 (by rfl) z_int (by decide +kernel) (pa_cons (pe_cmpR op_gt (pe_callB call_len_seq (by rfl) z_len (by decide +kernel) (pa_cons (pv 0) pa_nil)) pe_int (nomark _)) pa_nil))) pa_nil))))))), ?_⟩
    refine ⟨_, rfl, a, rfl, .inl ⟨_, hS, ?_⟩⟩
    refine for_it (walk_list (xs := ns.map V.int)) (fun i σ H' => ∃ (sd : Int) (x : Option V), σ = [some (.ref a), some (.int sd), x] ∧ H' = H ∧ 0 ≤ sd ∧ sd < 2147483647)
      ⟨0, none, rfl, rfl, by decide, by decide⟩ (fun i σ H' _ hp => by obtain ⟨_, _, _, rfl, _⟩ := hp; exact hS) (fun i x σ H1 H2 hi hp hy => ?_) (fun σ H1 hp => ?_)
    · obtain ⟨sd, x0, rfl, rfl, s0, s1⟩ := hp
      obtain ⟨rfl, hx⟩ := hy
      obtain ⟨n, hn, rfl⟩ : ∃ n, ns[i]? = some n ∧ V.int n = x := by rw [List.getElem?_map] at hx; simpa using hx
      refine ⟨_, rfl, _, _, rfl, rfl, .inl ⟨by omega, by omega⟩, _, rfl, _, _, rfl, rfl, .inr ⟨by decide, by decide⟩, _, _, rfl, rfl, _, _, rfl, rfl, _, _, rfl, rfl, (by show (0 : Int) < 2147483647; decide), ?_⟩
      exact ⟨_, _, rfl, rfl, Int.emod_nonneg _ (by decide), Int.emod_lt_of_pos _ (by decide)⟩
    · obtain ⟨sd, x0, rfl, rfl, s0, s1⟩ := hp
      refine ⟨.ref a, rfl, a, _, rfl, .inl hS, fun l nl => ?_⟩
      have sm : Same H1 (upd H1 l (.lst (ns.map V.int))) := same_new nl
      refine ⟨_, rfl, .ref a, rfl, a, _, rfl, .inl (sm.seq hS), _, _, rfl, rfl, .inr ⟨_, rfl, ?_⟩⟩
      refine ⟨_, _, rfl, rfl, .inl ⟨by omega, by omega⟩, by show 2 ≤ sizeLine; decide, fun b nb => ?_⟩
      refine q _ b l ⟨ns, _, upd_same, ?_, ?_, ?_, hlen⟩ (sm.trans (same_new nb))
      · rw [upd_ne (ne_of_none upd_same nb), upd_same]
      · split <;> omega
      · split <;> omega
/-! ### an order -/
abbrev st_law_order : Stmt := (topS 29)
abbrev nm_law_order : List Str := ["_law_box", "_law_cells", "_law_number", "_law_many", "_law_count", "_law_later"]
theorem sc_law_order : FnScope ["_law_box", "_law_cells", "_law_number", "_law_many", "_law_count", "_law_later"] ["_law_box", "_law_cells", "_law_number", "_law_many"] (defScope st_law_order) := ⟨rfl, rfl, rfl, by decide +kernel, rfl, by decide +kernel, by decide +kernel⟩
def spOrder : Sp := fun vs H Q _ => ∃ (b l : Addr) (cells at_ cnt : Nat), vs = [.ref b, nV cells, nV at_, nV cnt] ∧ Box H b l ∧ 1 ≤ cells ∧ cells ≤ 16 ∧ at_ < cnt ∧ cnt ≤ 4 ∧
  ∀ (H' : Hp) (a : Addr) (o : Ord), Box H' b l → But [b, l] H H' → H' a = some (.tup o.vs) → OrdOk o at_ cnt cells → Q (.ref a) H'
theorem ok_order {f : Addr} {fd : FuncData} (F : Fun K "_law_order" "_law_order" st_law_order f fd) (c_law_take : Callee P w K mg base "_law_take" 1 2 spTake) (z_min : mg "min" = none) :
    FnOk P w K mg base CX0 2 f fd ["_law_box", "_law_cells", "_law_number", "_law_many"] spOrder := by
  refine F.ok sc_law_order (fun vs H Q E h => ?_) (fun cdv A outer s H vs Q E hr h => ?_)
  · obtain ⟨b, l, cells, at_, cnt, rfl, _⟩ := h
    rfl
  · obtain ⟨b, l, cells, at_, cnt, rfl, hB, c1, c16, hat, h4, q⟩ := h
    refine ⟨_, (pss_cons (ps_set (i := 4) sc_law_order.nd rfl (Or.inl rfl) (pe_op op_add pe_int (pe_cal c_law_take hr (by first | decide | exact Nat.le_refl _) (pa_cons (pv 0) (pa_cons (pe_callB (call_min2 rfl) (by rfl) z_min (by decide +kernel) (pa_cons pe_int (pa_cons (pv 1) pa_nil))) pa_nil)))))
  (pss_cons (ps_set (i := 5) sc_law_order.nd rfl (Or.inl rfl) pe_non)
  (pss_cut (ps_if (PW.pt (pw_and (pt_cmpR op_lt (pe_op op_add (pv 2) pe_int) (pv 3) (nomark _)) (pw_and1 (pt_cmpR op_eq (pe_cal c_law_take hr (by first | decide | exact Nat.le_refl _) (pa_cons (pv 0) (pa_cons pe_int pa_nil))) pe_int (nomark _))))) (pss_one (ps_set (i := 5) sc_law_order.nd rfl (Or.inl rfl) (pe_op op_add (pe_op op_add (pv 2) pe_int) (pe_cal c_law_take hr (by first | decide | exact Nat.le_refl _) (pa_cons (pv 0) (pa_cons (pe_op op_sub (pe_op op_sub (pv 3) (pv 2)) pe_int) pa_nil)))))) pss_nil)
  (pss_one (ps_ret (pe_tup (pa_cons (pe_cal c_law_take hr (by first | decide | exact Nat.le_refl _) (pa_cons (pv 0) (pa_cons (pe_op op_add (pe_op op_sub (pv 1) (pv 4)) pe_int) pa_nil))) (pa_cons (pe_cal c_law_take hr (by first | decide | exact Nat.le_refl _) (pa_cons (pv 0) (pa_cons (pe_op op_add (pe_op op_sub (pv 1) (pv 4)) pe_int) pa_nil))) (pa_cons (pv 4) (pa_cons (pv 5) pa_nil)))))))))), ?_⟩
    -- count = 1 + take(box, min(8, cells))
    refine ⟨_, rfl, _, rfl, 8, cells, rfl, b, l, _, min 8 cells, rfl, (by split <;> omega), hB, by omega, by omega, fun H1 r hB1 bt1 hr1 => ?_⟩
    refine ⟨_, _, rfl, rfl, ?_⟩
    -- later
    refine ⟨fun σ' H' => ∃ lt : Option Nat, σ' = [some (.ref b), some (nV cells), some (nV at_), some (nV cnt), some (.int (1 + (r : Int))), some (oV lt)] ∧ Box H' b l ∧ But [b, l] H H' ∧ ∀ k, lt = some k → at_ < k ∧ k < cnt, ?_, fun σ' H' hM => ?_⟩
    · refine ⟨_, rfl, _, _, rfl, rfl, _, rfl, _, _, rfl, rfl, _, rfl, ite2 (fun e => ?_) (fun e => iteF ⟨none, rfl, hB1, bt1, fun k z => nomatch z⟩)⟩
      have e' : at_ + 1 < cnt := by have := of_decide_eq_true e; omega
      refine ⟨_, rfl, b, l, _, 2, rfl, rfl, hB1, by decide, by decide, fun H2 r2 hB2 bt2 hr2 => ?_⟩
      refine ⟨rfl, _, rfl, ite2 (fun e2 => ?_) (fun e2 => ⟨none, rfl, hB2, bt1.trans bt2, fun k z => nomatch z⟩)⟩
      refine ⟨_, rfl, _, _, rfl, rfl, _, rfl, _, rfl, _, rfl, _, _, rfl, rfl, _, _, rfl, rfl, b, l, _, cnt - at_ - 1, rfl, by omega, hB2, by omega, by omega, fun H3 r3 hB3 bt3 hr3 => ?_⟩
      refine ⟨_, _, rfl, rfl, some (at_ + 1 + r3), ?_, hB3, (bt1.trans bt2).trans bt3, fun k z => by cases z; omega⟩
      show _ = [some (.ref b), some (nV cells), some (nV at_), some (nV cnt), some (.int (1 + (r : Int))), some (nV (at_ + 1 + r3))]
      rw [show nV (at_ + 1 + r3) = .int ((at_ : Int) + 1 + (r3 : Int)) by simp [nV]]
      rfl
    · obtain ⟨lt, rfl, hB2, bt2, hlt⟩ := hM
      -- return (take(..), take(..), count, later)
      refine ⟨_, rfl, _, rfl, _, rfl, _, _, rfl, rfl, _, _, rfl, rfl, b, l, _, cells - (1 + r) + 1, rfl, by omega, hB2, by omega, by omega, fun H3 r3 hB3 bt3 hr3 => ?_⟩
      refine ⟨_, rfl, _, rfl, _, rfl, _, _, rfl, rfl, _, _, rfl, rfl, b, l, _, cells - (1 + r) + 1, rfl, by omega, hB3, by omega, by omega, fun H4 r4 hB4 bt4 hr4 => ?_⟩
      refine ⟨_, rfl, _, rfl, by show 4 ≤ sizeLine; decide, fun p np => ?_⟩
      have sm := same_new (o := .tup [nV r3, nV r4, .int (1 + (r : Int)), oV lt]) np
      refine q _ p ⟨r3, r4, 1 + r, lt⟩ (hB4.same sm) (((bt2.trans bt3).trans bt4).trans (Same.but sm)) ?_ ⟨?_, ?_, ?_, ?_, hlt⟩
      · rw [upd_same]
        show _ = some (HO.tup [nV r3, nV r4, nV (1 + r), oV lt])
        rw [show nV (1 + r) = .int (1 + (r : Int)) by simp [nV]]
      all_goals (dsimp only; omega)
end
end Vt
namespace Vt
open PySem PySem.Spec PyProof.Rows L2
theorem But.newset {B : List Addr} {H H' : Hp} {p : Addr} {o : HO} (n : H p = none) (h : But B H H') : But B H (upd H' p o) := fun c u m e => by
  rw [upd_ne (ne_of_none e n)]; exact h c u m e
theorem But.box {H : Hp} {b l p : Addr} {o : HO} (h : Box H b l) (n1 : p ≠ b) (n2 : p ≠ l) : Box (upd H p o) b l := by
  obtain ⟨ns, s, h1, h2, h3⟩ := h
  exact ⟨ns, s, by rw [upd_ne n1.symm]; exact h1, by rw [upd_ne n2.symm]; exact h2, h3⟩
def allWords : List Str := ["set", "add", "say", "start", "wait", "clean", "drop"]
section
variable {P : Program} {w : World} {K : PySem.W.Frag} {mg : Str → Option Value} {base : Heap}
abbrev st_law_deed : Stmt := (topS 30)
abbrev nm_law_deed : List Str := ["_law_box", "_law_cells", "_law_orders", "_law_kinds", "_law_word", "_law_cell"]
theorem sc_law_deed : FnScope ["_law_box", "_law_cells", "_law_orders", "_law_kinds", "_law_word", "_law_cell"] ["_law_box", "_law_cells", "_law_orders", "_law_kinds"] (defScope st_law_deed) := ⟨rfl, rfl, rfl, by decide +kernel, rfl, by decide +kernel, by decide +kernel⟩
def spDeed : Sp := fun vs H Q _ => ∃ (b l kl : Addr) (cells cnt : Nat) (ws : List Str), vs = [.ref b, nV cells, nV cnt, .ref kl] ∧ Box H b l ∧ 4 ≤ cells ∧ cells ≤ 16 ∧ 1 ≤ cnt ∧ cnt ≤ 4 ∧
  H kl = some (.lst (ws.map V.str)) ∧ ws ≠ [] ∧ ws.length ≤ 100 ∧ (∀ x ∈ ws, x ∈ allWords) ∧
  ∀ (H' : Hp) (a : Addr) (d : Deed), Box H' b l → But [b, l] H H' → H' a = some (.tup d.vs) → DeedOk d cnt cells → d.word ∈ ws → Q (.ref a) H'
theorem ok_deed {f : Addr} {fd : FuncData} (F : Fun K "_law_deed" "_law_deed" st_law_deed f fd) (c_law_take : Callee P w K mg base "_law_take" 1 2 spTake) (z_len : mg "len" = none) (z_int : mg "int" = none) :
    FnOk P w K mg base CX0 2 f fd ["_law_box", "_law_cells", "_law_orders", "_law_kinds"] spDeed := by
  refine F.ok sc_law_deed (fun vs H Q E h => ?_) (fun cdv A outer s H vs Q E hr h => ?_)
  · obtain ⟨b, l, kl, cells, cnt, ws, rfl, _⟩ := h
    rfl
  · obtain ⟨b, l, kl, cells, cnt, ws, rfl, hB, c4, c16, n1, n4, hk, hne, hlen, hws, q⟩ := h
    have hpos : 0 < ws.length := List.length_pos_iff.mpr hne
    have kb : kl ≠ b := by
      obtain ⟨ns, sd, e1, _⟩ := hB
      refine ne_of hk e1 fun z => ?_
      cases ws with
      | nil => exact hne rfl
      | cons x r => cases z
    have kl' : kl ≠ l := by
      obtain ⟨ns, sd, _, e2, _⟩ := hB
      refine ne_of hk e2 fun z => ?_
      cases ws with
      | nil => exact hne rfl
      | cons x r => cases ns with
        | nil => cases z
        | cons y t => cases z
    refine ⟨_, (pss_cons (ps_set (i := 4) sc_law_deed.nd rfl (Or.inl rfl) (pe_ix ix_lt (pv 3) (pe_cal c_law_take hr (by first | decide | exact Nat.le_refl _) (pa_cons (pv 0) (pa_cons (pe_callB call_len_seq (by rfl) z_len (by decide +kernel) (pa_cons (pv 3) pa_nil)) pa_nil))) (fun _ _ => rfl)))
  (pss_cons (ps_if (pt_cmpR op_eq (pv 4) pe_str (nomark _)) (pss_one (ps_ret (pe_tup (pa_cons (pv 4) pa_nil)))) pss_nil)
  (pss_cons (ps_if (pt_cmpR op_in_seq (pv 4) (pe_tup (pa_cons pe_str (pa_cons pe_str pa_nil))) (by rfl)) (pss_one (ps_ret (pe_tup (pa_cons (pv 4) (pa_cons (pe_cal c_law_take hr (by first | decide | exact Nat.le_refl _) (pa_cons (pv 0) (pa_cons (pe_op op_fdiv (pv 1) pe_int) pa_nil))) pa_nil))))) pss_nil)
  (pss_cons (ps_if (pt_cmpR op_eq (pv 4) pe_str (nomark _)) (pss_one (ps_ret (pe_tup (pa_cons (pv 4) (pa_cons (pe_cal c_law_take hr (by first | decide | exact Nat.le_refl _) (pa_cons (pv 0) (pa_cons (pv 2) pa_nil))) pa_nil))))) pss_nil)
  (pss_cons (ps_set (i := 5) sc_law_deed.nd rfl (Or.inl rfl) (pe_cal c_law_take hr (by first | decide | exact Nat.le_refl _) (pa_cons (pv 0) (pa_cons (pv 1) pa_nil))))
  (pss_cons (ps_if (pt_cmpR op_eq (pv 4) pe_str (nomark _)) (pss_one (ps_ret (pe_tup (pa_cons (pv 4) (pa_cons (pv 5) pa_nil))))) pss_nil)
  (pss_one (ps_ret (pe_tup (pa_cons (pv 4) (pa_cons (pv 5) (pa_cons (pe_cal c_law_take hr (by first | decide | exact Nat.le_refl _) (pa_cons (pv 0) (pa_cons (pe_ix ix_lt (pe_lst (pa_cons pe_int (pa_cons (pv 1) pa_nil))) (pe_callTy call_int1 (by rfl) z_int (by decide +kernel) (pa_cons (pe_cmpR op_eq (pv 4) pe_str (nomark _)) pa_nil)) (fun _ _ => rfl)) pa_nil))) pa_nil)))))))))))), ?_⟩
    refine ⟨_, rfl, _, rfl, _, rfl, _, _, rfl, .inl (sqL_l hk), b, l, _, ws.length, rfl, by simp, hB, hpos, by omega, fun H1 r hB1 bt1 hr1 => ?_⟩
    have hk1 : H1 kl = some (.lst (ws.map V.str)) := bt1 _ _ (by simp [kb, kl']) hk
    have hx : (ws.map V.str)[r]? = some (.str ws[r]) := by rw [List.getElem?_map, List.getElem?_eq_getElem hr1]; rfl
    have hmem : ws[r] ∈ ws := List.getElem_mem hr1
    have hall := hws _ hmem
    generalize ws[r] = wd at hx hmem hall
    refine ⟨kl, _, (r : Int), .str wd, rfl, rfl, sqA_l hk1, atI_nat hx, ?_⟩
    -- if word == "wait"
    refine ⟨_, rfl, rfl, _, rfl, ite2 (fun e => ?_) (fun e1 => ?_)⟩
    · cases of_decide_eq_true e
      refine ⟨_, rfl, by show 1 ≤ sizeLine; decide, fun p np => ?_⟩
      exact q _ p .wait (hB1.same (same_new np)) (bt1.trans (Same.but (same_new np))) upd_same trivial hmem
    -- if word in ("clean", "drop")
    refine ⟨_, rfl, by show 2 ≤ sizeLine; decide, fun p np => ?_⟩
    have hB2 := hB1.same (same_new (o := .tup [.str "clean", .str "drop"]) np)
    have bt2 := bt1.trans (Same.but (same_new (o := .tup [.str "clean", .str "drop"]) np))
    refine ⟨p, _, rfl, .inr (sqT_t upd_same), rfl, rfl, _, rfl, ite2 (fun e => ?_) (fun e2 => ?_)⟩
    · refine ⟨_, rfl, _, rfl, _, rfl, _, _, rfl, rfl, ⟨by decide, by decide⟩, b, l, _, cells / 4, rfl, by simp, hB2, by omega, by omega, fun H3 r3 hB3 bt3 hr3 => ?_⟩
      refine ⟨by show 2 ≤ sizeLine; decide, fun p2 np2 => ?_⟩
      have e' : (Str.ofString "clean") = wd ∨ (Str.ofString "drop") = wd := by
        simp only [inV, eqV, List.any_cons, List.any_nil, Bool.or_false, Bool.or_eq_true] at e
        simpa using e
      rcases e' with rfl | rfl
      · exact q _ p2 (.clean r3) (hB3.same (same_new np2)) ((bt2.trans bt3).trans (Same.but (same_new np2))) upd_same hr3 hmem
      · exact q _ p2 (.drop r3) (hB3.same (same_new np2)) ((bt2.trans bt3).trans (Same.but (same_new np2))) upd_same hr3 hmem
    -- if word == "start"
    refine ⟨_, rfl, rfl, _, rfl, ite2 (fun e => ?_) (fun e3 => ?_)⟩
    · cases of_decide_eq_true e
      refine ⟨_, rfl, _, rfl, _, rfl, b, l, _, cnt, rfl, rfl, hB2, by omega, by omega, fun H3 r3 hB3 bt3 hr3 => ?_⟩
      refine ⟨by show 2 ≤ sizeLine; decide, fun p2 np2 => ?_⟩
      exact q _ p2 (.start r3) (hB3.same (same_new np2)) ((bt2.trans bt3).trans (Same.but (same_new np2))) upd_same hr3 hmem
    refine ⟨_, rfl, _, rfl, b, l, _, cells, rfl, rfl, hB2, by omega, by omega, fun H3 r3 hB3 bt3 hr3 => ?_⟩
    -- if word == "say"
    refine ⟨_, rfl, rfl, _, rfl, ite2 (fun e => ?_) (fun e4 => ?_)⟩
    · cases of_decide_eq_true e
      refine ⟨_, rfl, _, rfl, by show 2 ≤ sizeLine; decide, fun p2 np2 => ?_⟩
      exact q _ p2 (.say r3) (hB3.same (same_new np2)) ((bt2.trans bt3).trans (Same.but (same_new np2))) upd_same hr3 hmem
    have hsa : wd = "set" ∨ wd = "add" := by
      have f1 : ¬ wd = "wait" := fun z => e1 (by rw [z]; exact decide_eq_true rfl)
      have f3 : ¬ wd = "start" := fun z => e3 (by rw [z]; exact decide_eq_true rfl)
      have f4 : ¬ wd = "say" := fun z => e4 (by rw [z]; exact decide_eq_true rfl)
      have f2 : ¬ (wd = "clean" ∨ wd = "drop") := fun z => e2 (by rcases z with rfl | rfl <;> decide)
      simp only [allWords, List.mem_cons, List.not_mem_nil, or_false] at hall
      rcases hall with h | h | h | h | h | h | h
      · exact .inl h
      · exact .inr h
      · exact absurd h f4
      · exact absurd h f3
      · exact absurd h f1
      · exact absurd (.inl h) f2
      · exact absurd (.inr h) f2
    refine ⟨_, rfl, _, rfl, _, rfl, _, rfl, by show 2 ≤ sizeLine; decide, fun p2 np2 => ?_⟩
    have hB4 := hB3.same (same_new (o := .lst [.int 10, nV cells]) np2)
    have bt4 := (bt2.trans bt3).trans (Same.but (same_new (o := .lst [.int 10, nV cells]) np2))
    refine ⟨_, rfl, rfl, .inr ⟨_, rfl, ?_⟩⟩
    rcases hsa with rfl | rfl
    · refine ⟨p2, [.int 10, nV cells], 0, .int 10, rfl, (by decide), sqA_l upd_same, rfl, b, l, _, 10, rfl, rfl, hB4, by decide, by decide, fun H5 r5 hB5 bt5 hr5 => ?_⟩
      refine ⟨by show 3 ≤ sizeLine; decide, fun p3 np3 => ?_⟩
      exact q _ p3 (.set r3 r5) (hB5.same (same_new np3)) ((bt4.trans bt5).trans (Same.but (same_new np3))) upd_same ⟨hr3, hr5⟩ hmem
    · refine ⟨p2, [.int 10, nV cells], 1, nV cells, rfl, (by decide), sqA_l upd_same, rfl, b, l, _, cells, rfl, rfl, hB4, by omega, by omega, fun H5 r5 hB5 bt5 hr5 => ?_⟩
      refine ⟨by show 3 ≤ sizeLine; decide, fun p3 np3 => ?_⟩
      exact q _ p3 (.add r3 r5) (hB5.same (same_new np3)) ((bt4.trans bt5).trans (Same.but (same_new np3))) upd_same ⟨hr3, hr5⟩ hmem
end
end Vt
namespace Vt
open PySem PySem.Spec PyProof.Rows L2
theorem nV_add (a b : Nat) : (V.int ((a : Int) + (b : Int))) = nV (a + b) := by simp [nV]
theorem filter_app {α : Type} (p : α → Bool) (xs : List α) (x : α) : ((xs ++ [x]).filter p).length = (xs.filter p).length + (if p x then 1 else 0) := by
  rw [List.filter_append, List.length_append]
  congr 1
  cases h : p x <;> simp [h]
theorem word_start (d : Deed) : (d.word = "start") ↔ isStart d = true := by
  cases d <;> simp [Deed.word, isStart] <;> decide
section
variable {P : Program} {w : World} {K : PySem.W.Frag} {mg : Str → Option Value} {base : Heap}
abbrev st_law_board : Stmt := (topS 31)
abbrev nm_law_board : List Str := ["_law_box", "_law_lines", "_law_deeds", "_law_kinds", "_law_cells", "_law_memory", "_law_cell", "_law_many", "_law_orders", "_law_number", "_law_program", "_law_turn", "_law_deed_here", "_law_one"]
theorem sc_law_board : FnScope ["_law_box", "_law_lines", "_law_deeds", "_law_kinds", "_law_cells", "_law_memory", "_law_cell", "_law_many", "_law_orders", "_law_number", "_law_program", "_law_turn", "_law_deed_here", "_law_one"] ["_law_box", "_law_lines", "_law_deeds", "_law_kinds"] (defScope st_law_board) := ⟨rfl, rfl, rfl, by decide +kernel, rfl, by decide +kernel, by decide +kernel⟩
def spBoard : Sp := fun vs H Q _ => ∃ (b l kl : Addr) (lines deeds : Nat) (ws : List Str), vs = [.ref b, nV lines, nV deeds, .ref kl] ∧ Box H b l ∧ 1 ≤ lines ∧ lines ≤ 4 ∧ deeds ≤ 60 ∧
  H kl = some (.lst (ws.map V.str)) ∧ ws ≠ [] ∧ ws.length ≤ 100 ∧ (∀ x ∈ ws, x ∈ allWords) ∧
  ∀ (H' : Hp) (v : V) (B : Brd), Box H' b l → But [b, l] H H' → Pd H' v B.d → BrdOk B → B.mem.length ≤ 4 * lines → B.prog.length ≤ deeds → 1 ≤ B.ords.length → (∀ d ∈ B.prog, d.word ∈ ws ∨ d.word = "say") → Q v H'
theorem ok_board {f : Addr} {fd : FuncData} (F : Fun K "_law_board" "_law_board" st_law_board f fd) (c_law_take : Callee P w K mg base "_law_take" 1 2 spTake) (c_law_order : Callee P w K mg base "_law_order" 2 4 spOrder) (c_law_deed : Callee P w K mg base "_law_deed" 2 4 spDeed)
    (z_len : mg "len" = none) (z_tuple : mg "tuple" = none) (z_range : mg "range" = none) : FnOk P w K mg base CX0 3 f fd ["_law_box", "_law_lines", "_law_deeds", "_law_kinds"] spBoard := by
  refine F.ok sc_law_board (fun vs H Q E h => ?_) (fun cdv A outer s H vs Q E hr h => ?_)
  · obtain ⟨b, l, kl, lines, deeds, ws, rfl, _⟩ := h
    rfl
  · obtain ⟨b, l, kl, lines, deeds, ws, rfl, hB, l1, l4, d60, hk, hne, hlen, hws, q⟩ := h
    have kb : kl ≠ b := by
      obtain ⟨ns, sd, e1, _⟩ := hB
      refine ne_of hk e1 fun z => ?_
      cases ws with
      | nil => exact hne rfl
      | cons x r => cases z
    have kl' : kl ≠ l := by
      obtain ⟨ns, sd, _, e2, _⟩ := hB
      refine ne_of hk e2 fun z => ?_
      cases ws with
      | nil => exact hne rfl
      | cons x r => cases ns with
        | nil => cases z
        | cons y t => cases z
    have hknot : kl ∉ [b, l] := by simp [kb, kl']
    have nonb : ∀ p, H p = none → p ≠ b ∧ p ≠ l := fun p np => by
      obtain ⟨ns, sd, e1, e2, _⟩ := hB
      exact ⟨(ne_of_none e1 np).symm, (ne_of_none e2 np).symm⟩
    refine ⟨_, (pss_cons (ps_set (i := 4) sc_law_board.nd rfl (Or.inr rfl) (pe_op op_mul pe_int (pe_op op_add pe_int (pe_cal c_law_take hr (by first | decide | exact Nat.le_refl _) (pa_cons (pv 0) (pa_cons (pv 1) pa_nil))))))
  (pss_cons (ps_set (i := 5) sc_law_board.nd rfl (Or.inl rfl) (pe_callTy call_tuple_of (by rfl) z_tuple (by decide +kernel) (pa_cons (pe_lc (own := [("_law_cell", 6)]) rfl sc_law_board.nd (pi_range1 (by rfl) z_range (pa_cons (pv 4) pa_nil)) (blkOk_by (own := [("_law_cell", 6)]) (N := nm_law_board) (sc := defScope (topS 31)) (by decide +kernel)) (fun _ _ _ _ _ => (pg_name (i := 6) sc_law_board.nd rfl (Or.inl rfl))) (fun _ _ _ _ _ => pts_nil) (fun _ _ _ _ _ => (pe_cal c_law_take hr (by first | decide | exact Nat.le_refl _) (pa_cons (pv 0) (pa_cons pe_int pa_nil))))) pa_nil)))
  (pss_cons (ps_set (i := 7) sc_law_board.nd rfl (Or.inr rfl) (pe_op op_add pe_int (pe_cal c_law_take hr (by first | decide | exact Nat.le_refl _) (pa_cons (pv 0) (pa_cons pe_int pa_nil)))))
  (pss_cons (ps_set (i := 8) sc_law_board.nd rfl (Or.inl rfl) (pe_callTy call_tuple_of (by rfl) z_tuple (by decide +kernel) (pa_cons (pe_lc (own := [("_law_number", 9)]) rfl sc_law_board.nd (pi_range1 (by rfl) z_range (pa_cons (pv 7) pa_nil)) (blkOk_by (own := [("_law_number", 9)]) (N := nm_law_board) (sc := defScope (topS 31)) (by decide +kernel)) (fun _ _ _ _ _ => (pg_name (i := 9) sc_law_board.nd rfl (Or.inl rfl))) (fun _ _ _ _ _ => pts_nil) (fun _ _ _ _ _ => (pe_cal c_law_order hr (by first | decide | exact Nat.le_refl _) (pa_cons (pv 0) (pa_cons (pv 4) (pa_cons (pv 9) (pa_cons (pv 7) pa_nil))))))) pa_nil)))
  (pss_cons (ps_set (i := 10) sc_law_board.nd rfl (Or.inl rfl) (pe_lst pa_nil))
  (pss_cons (ps_for PassesOwn.never rfl (pi_range1 (by rfl) z_range (pa_cons (pe_cal c_law_take hr (by first | decide | exact Nat.le_refl _) (pa_cons (pv 0) (pa_cons (pe_op op_add (pv 2) pe_int) pa_nil))) pa_nil)) (pg_name (i := 11) sc_law_board.nd rfl (Or.inl rfl))
  (pss_cons (ps_set (i := 12) sc_law_board.nd rfl (Or.inl rfl) (pe_cal c_law_deed hr (by first | decide | exact Nat.le_refl _) (pa_cons (pv 0) (pa_cons (pv 4) (pa_cons (pv 7) (pa_cons (pv 3) pa_nil))))))
  (pss_cut (ps_if (PW.pt (pw_and (pt_cmpR op_eq (pe_ix ix_lt (pv 12) pe_int (fun _ _ => rfl)) pe_str (nomark _)) (pw_and1 (pt_cmpR op_eq (pe_callB call_len_seq (by rfl) z_len (by decide +kernel) (pa_cons (pe_lc (own := [("_law_one", 13)]) rfl sc_law_board.nd (pi_lt (pv 10)) (blkOk_by (own := [("_law_one", 13)]) (N := nm_law_board) (sc := defScope (topS 31)) (by decide +kernel)) (fun _ _ _ _ _ => (pg_name (i := 13) sc_law_board.nd rfl (Or.inl rfl))) (fun _ _ _ _ _ => (pts_one (pt_cmpR op_eq (pe_ix (ix_ltk K) (pv 13) pe_int (fun _ _ => rfl)) pe_str (nomark _)))) (fun _ _ _ _ _ => (pv 13))) pa_nil)) pe_int (nomark _))))) (pss_one (ps_set (i := 12) sc_law_board.nd rfl (Or.inl rfl) (pe_tup (pa_cons pe_str (pa_cons (pe_cal c_law_take hr (by first | decide | exact Nat.le_refl _) (pa_cons (pv 0) (pa_cons (pv 4) pa_nil))) pa_nil))))) pss_nil)
  (pss_one (ps_expr (pe_bm PySem.F.plainAttrs_list PySem.F.slot_list_append PySem.F.type_list_append mt_append (pv 10) (pa_cons (pv 12) pa_nil)))))))
  (pss_one (ps_ret (pe_tup (pa_cons (pv 5) (pa_cons (pv 8) (pa_cons (pe_callTy call_tuple_of (by rfl) z_tuple (by decide +kernel) (pa_cons (pv 10) pa_nil)) pa_nil)))))))))))), ?_⟩
    -- cells = 4 * (1 + take(box, lines))
    refine ⟨_, rfl, _, rfl, b, l, _, lines, rfl, rfl, hB, by omega, by omega, fun H1 r1 hB1 bt1 hr1 => ?_⟩
    refine ⟨_, _, rfl, rfl, _, _, rfl, rfl, .inl ⟨by decide, by decide⟩, ?_⟩
    have ec : (4 : Int) * (1 + (r1 : Int)) = ((4 * (1 + r1) : Nat) : Int) := by omega
    refine chgN (y := nV (4 * (1 + r1))) (congrArg V.int ec) ?_
    generalize hc : 4 * (1 + r1) = cells
    have c16 : cells ≤ 16 := by omega
    have cN : cells = 4 ∨ cells = 8 ∨ cells = 12 ∨ cells = 16 := by omega
    -- memory
    refine ⟨_, rfl, _, rfl, by omega, by omega, fun D1 nD1 => ?_⟩
    refine lc_it (walk_range (lo := 0) (n := (cells : Int).toNat)) (fun i H' => ∃ ns : List Nat, ns.length = i ∧ (∀ n ∈ ns, n < 10) ∧ H' D1 = some (.lst (ns.map nV)) ∧ Box H' b l ∧ But [b, l] H1 H')
      ⟨[], rfl, by simp, upd_same, hB1.same (same_new nD1), Same.but (same_new nD1)⟩ (fun _ _ _ _ => trivial) (fun i x H2 H3 hi hp hy => ?_) (fun H2 hp => ?_)
    · obtain ⟨ns, e1, e2, e3, hB2, bt2⟩ := hp
      obtain ⟨rfl, rfl⟩ := hy
      refine ⟨rfl, ?_⟩
      refine ⟨_, rfl, b, l, _, 10, rfl, rfl, hB2, by decide, by decide, fun H4 r hB4 bt4 hr => ?_⟩
      have nD : D1 ≠ b ∧ D1 ≠ l := by
        obtain ⟨ns', sd, f1, f2, _⟩ := hB1
        exact ⟨(ne_of_none f1 nD1).symm, (ne_of_none f2 nD1).symm⟩
      have e3' := bt4 _ _ (by simp [nD.1, nD.2]) e3
      refine ⟨_, e3', by rw [List.length_map]; exact fits (by omega), ns ++ [r], by simp [e1], fun n hn => ?_, by rw [upd_same, List.map_append]; rfl, But.box hB4 nD.1 nD.2, But.newset nD1 (bt2.trans bt4)⟩
      rcases List.mem_append.mp hn with h | h
      · exact e2 n h
      · rw [List.mem_singleton.mp h]; exact hr
    obtain ⟨mem, m1, m2, m3, hB2, bt2⟩ := hp
    refine ⟨D1, _, rfl, .inl ⟨sqL_l m3, fun M nM => ?_⟩⟩
    have hM : (upd H2 M (.tup (mem.map nV))) M = some (.tup (mem.map nV)) := upd_same
    have hB3 := hB2.same (same_new (o := .tup (mem.map nV)) nM)
    have bt3 := (bt1.trans bt2).trans (Same.but (same_new (o := .tup (mem.map nV)) nM))
    have mlen : mem.length = cells := by omega
    generalize upd H2 M (.tup (mem.map nV)) = H3 at hM hB3 bt3
    -- many = 1 + take(box, 4)
    refine ⟨_, rfl, b, l, _, 4, rfl, rfl, hB3, by decide, by decide, fun H4 r4 hB4 bt4 hr4 => ?_⟩
    refine ⟨_, _, rfl, rfl, ?_⟩
    refine chgN (y := nV (1 + r4)) (congrArg V.int (by omega)) ?_
    generalize hcnt : 1 + r4 = cnt
    have nMb : M ∉ [b, l] := fun m => by
      obtain ⟨ys, e⟩ := hB3.lsts _ m
      rw [hM] at e; cases e
    have hM4 := bt4 _ _ nMb hM
    -- orders
    refine ⟨_, rfl, _, rfl, by omega, by omega, fun D2 nD2 => ?_⟩
    have nD2' : D2 ≠ b ∧ D2 ≠ l := by
      obtain ⟨ns', sd, f1, f2, _⟩ := hB4
      exact ⟨(ne_of_none f1 nD2).symm, (ne_of_none f2 nD2).symm⟩
    refine lc_it (walk_range (lo := 0) (n := (cnt : Int).toNat)) (fun i H' => ∃ (os : List Ord) (vs : List V), os.length = i ∧ (∀ (j : Nat) (o : Ord), os[j]? = some o → OrdOk o j cnt cells) ∧ Pds H' vs (os.map Ord.d) ∧ H' D2 = some (.lst vs) ∧ Box H' b l ∧ But [b, l] H4 H')
      ⟨[], [], rfl, by simp, .nil, upd_same, hB4.same (same_new nD2), Same.but (same_new nD2)⟩ (fun _ _ _ _ => trivial) (fun i x H5 H6 hi hp hy => ?_) (fun H5 hp => ?_)
    · obtain ⟨os, vs, e1, e2, e3, e4, hB5, bt5⟩ := hp
      obtain ⟨rfl, rfl⟩ := hy
      refine ⟨rfl, ?_⟩
      refine ⟨_, rfl, _, rfl, _, rfl, _, rfl, b, l, cells, i, cnt, by simp [nV], hB5, by omega, c16, by omega, by omega, fun H7 a o hB7 bt7 ha ho => ?_⟩
      have e4' := bt7 _ _ (by simp [nD2'.1, nD2'.2]) e4
      have hs5 : Pds H7 vs (os.map Ord.d) := Pds.but bt7 hB5.lsts (noLs_map noL_ord _) e3
      have aD : a ≠ D2 := fun z => by rw [z, e4'] at ha; cases ha
      have lsD : Lsts H7 [D2] := fun c hc => ⟨vs, by rw [List.mem_singleton.mp hc]; exact e4'⟩
      have stepB : But [D2] H7 (upd H7 D2 (.lst (vs ++ [.ref a]))) := But.set (by simp)
      have vlen := e3.len
      refine ⟨_, e4', by rw [vlen, List.length_map]; exact fits (by omega), os ++ [o], vs ++ [.ref a], by simp [e1], fun j o' hj => ?_, ?_, upd_same, But.box hB7 nD2'.1 nD2'.2, But.newset nD2 (bt5.trans bt7)⟩
      · rcases Nat.lt_or_ge j os.length with h | h
        · rw [List.getElem?_append_left h] at hj
          exact e2 j o' hj
        · rw [List.getElem?_append_right h] at hj
          have : j - os.length = 0 := by
            have := (List.getElem?_eq_some_iff.mp hj).1
            simp at this; omega
          rw [this] at hj
          cases hj
          have ej : j = i := by omega
          rw [ej]; exact ho
      · rw [List.map_append]
        exact (Pds.but stepB lsD (noLs_map noL_ord _) hs5).app (.cons (Ord.pd (by rw [upd_ne aD]; exact ha)) .nil)
    obtain ⟨os, ovs, o1, o2, o3, o4, hB5, bt5⟩ := hp
    refine ⟨D2, _, rfl, .inl ⟨sqL_l o4, fun O nO => ?_⟩⟩
    have hM5 := bt5 _ _ nMb hM4
    have sO : Same H5 (upd H5 O (.tup ovs)) := same_new nO
    have hO : (upd H5 O (.tup ovs)) O = some (.tup ovs) := upd_same
    have hOs := Pds.same sO o3
    have hM6 := sO _ _ hM5
    have hB6 := hB5.same sO
    have bt6 := ((bt3.trans bt4).trans bt5).trans (Same.but sO)
    have olen : os.length = cnt := by omega
    generalize upd H5 O (.tup ovs) = H6 at hO hOs hM6 hB6 bt6 sO
    have nOb : O ∉ [b, l] := fun m => by
      obtain ⟨ys, e⟩ := hB6.lsts _ m
      rw [hO] at e; cases e
    -- program = []
    refine ⟨Nat.zero_le _, fun pl npl => ?_⟩
    have hB7 := hB6.same (same_new (o := .lst []) npl)
    have npl' : pl ≠ b ∧ pl ≠ l := by
      obtain ⟨ns', sd, f1, f2, _⟩ := hB6
      exact ⟨(ne_of_none f1 npl).symm, (ne_of_none f2 npl).symm⟩
    -- for turn in range(take(box, deeds + 1))
    refine ⟨_, rfl, _, rfl, _, _, rfl, rfl, b, l, _, deeds + 1, rfl, by omega, hB7, by omega, by omega, fun H8 r8 hB8 bt8 hr8 => ?_⟩
    refine ⟨_, rfl, by omega, by omega, ?_⟩
    have hpl8 : H8 pl = some (.lst []) := bt8 _ _ (by simp [npl'.1, npl'.2]) upd_same
    have btx : But [b, l] H6 H8 := (Same.but (same_new npl)).trans bt8
    refine for_it (walk_range (lo := 0) (n := (r8 : Int).toNat)) (fun i σ H' => ∃ (ds : List Deed) (vs : List V) (y1 y2 : Option V), σ = [some (.ref b), some (nV lines), some (nV deeds), some (.ref kl), some (nV cells), some (.ref M), none, some (nV cnt), some (.ref O), none, some (.ref pl), y1, y2, none] ∧
        ds.length = i ∧ (∀ d ∈ ds, DeedOk d cnt cells ∧ (d.word ∈ ws ∨ d.word = "say")) ∧ (ds.filter isStart).length ≤ 3 ∧ Pds H' vs (ds.map Deed.d) ∧ H' pl = some (.lst vs) ∧ Box H' b l ∧ But [b, l] H6 H')
      ⟨[], [], _, _, rfl, rfl, by simp, by simp, .nil, hpl8, hB8, btx⟩ (fun _ _ _ _ _ => trivial) (fun i x σ H9 H10 hi hp hy => ?_) (fun σ H9 hp => ?_)
    · obtain ⟨ds, vs, y1, y2, rfl, e1, e2, e3, e4, e5, hB9, bt9⟩ := hp
      obtain ⟨rfl, rfl⟩ := hy
      have hk9 := (bt6.trans bt9) _ _ hknot hk
      refine ⟨_, rfl, _, rfl, _, rfl, _, rfl, b, l, kl, cells, cnt, ws, rfl, hB9, by omega, c16, by omega, by omega, hk9, hne, hlen, hws, fun H11 a d hB11 bt11 ha hd hw => ?_⟩
      have e5' := bt11 _ _ (by simp [npl'.1, npl'.2]) e5
      have e4' : Pds H11 vs (ds.map Deed.d) := Pds.but bt11 hB9.lsts (noLs_map noL_deed _) e4
      -- if deed[0] == "start" and len([..]) == 3
      refine ⟨fun σ' H' => ∃ (a' : Addr) (d' : Deed), σ' = [some (.ref b), some (nV lines), some (nV deeds), some (.ref kl), some (nV cells), some (.ref M), none, some (nV cnt), some (.ref O), none, some (.ref pl), some (.int (0 + (i : Int))), some (.ref a'), none] ∧
          H' a' = some (.tup d'.vs) ∧ DeedOk d' cnt cells ∧ (d'.word ∈ ws ∨ d'.word = "say") ∧ ((ds ++ [d']).filter isStart).length ≤ 3 ∧ Pds H' vs (ds.map Deed.d) ∧ H' pl = some (.lst vs) ∧ Box H' b l ∧ But [b, l] H6 H', ?_, fun σ' H' hM => ?_⟩
      · refine ⟨_, rfl, a, _, 0, .str d.word, rfl, rfl, sqA_t ha, at0, rfl, _, rfl, ite2 (fun e => ?_) (fun e => iteF ?_)⟩
        · have ew : d.word = "start" := by injection of_decide_eq_true e
          have es : isStart d = true := (word_start d).mp ew
          -- the comprehension
          refine ⟨_, rfl, pl, rfl, .inl ⟨_, sqL_l e5', fun D3 nD3 => ?_⟩⟩
          have plD : pl ≠ D3 := ne_of_none e5' nD3
          refine lc_it (walk_list (xs := vs)) (fun j H' => ∃ acc : List V, acc.length = ((ds.take j).filter isStart).length ∧ H' D3 = some (.lst acc) ∧ Same H11 H')
            ⟨[], rfl, upd_same, same_new nD3⟩ (fun j H' _ hp => by obtain ⟨_, _, _, sm⟩ := hp; exact sqL_l (sm _ _ e5')) (fun j x H12 H13 hj hp hy => ?_) (fun H12 hp => ?_)
          · obtain ⟨acc, a1, a2, sm⟩ := hp
            obtain ⟨rfl, hx⟩ := hy
            obtain ⟨dd, hdd, hpd⟩ := e4'.get' hx
            rw [List.getElem?_map] at hdd
            obtain ⟨d0, hd0, rfl⟩ : ∃ d0, ds[j]? = some d0 ∧ d0.d = dd := by simpa using hdd
            obtain ⟨a0, rfl, ha0⟩ := Deed.of hpd
            have tk : ((ds.take (j + 1)).filter isStart).length = ((ds.take j).filter isStart).length + (if isStart d0 then 1 else 0) := by
              rw [List.take_add_one, hd0]
              exact filter_app _ _ _
            refine ⟨rfl, _, rfl, a0, _, 0, .str d0.word, rfl, rfl, sqA_t (sm _ _ ha0), at0, rfl, _, rfl, ite2 (fun e => ?_) (fun e => ?_)⟩
            · have ew : d0.word = "start" := by injection of_decide_eq_true e
              have alen : acc.length ≤ 60 := by
                have := List.length_filter_le isStart (ds.take j)
                have := List.length_take_le' j ds
                omega
              refine ⟨_, rfl, acc, a2, fits (by omega), acc ++ [.ref a0], ?_, upd_same, fun c u hc => ?_⟩
              · rw [tk, (word_start d0).mp ew, List.length_append, a1]; rfl
              · rw [upd_ne (ne_of_none hc nD3)]; exact sm _ _ hc
            · have ew : ¬ isStart d0 = true := fun z => e (by rw [(word_start d0).mpr z]; exact decide_eq_true rfl)
              exact ⟨acc, by rw [tk, if_neg ew]; exact a1, a2, sm⟩
          · obtain ⟨acc, a1, a2, sm⟩ := hp
            have vlen : vs.length = ds.length := by rw [e4'.len, List.length_map]
            rw [vlen, List.take_length] at a1
            refine ⟨D3, _, rfl, .inl (sqL_l a2), rfl, _, rfl, ite2 (fun e7 => ?_) (fun e7 => ?_)⟩
            · refine ⟨_, rfl, _, rfl, b, l, _, cells, rfl, rfl, hB11.same sm, by omega, by omega, fun H14 r14 hB14 bt14 hr14 => ?_⟩
              refine ⟨by show 2 ≤ sizeLine; decide, fun a' na' => ?_⟩
              have s4 : Pds H14 vs (ds.map Deed.d) := Pds.but bt14 (hB11.same sm).lsts (noLs_map noL_deed _) (Pds.same sm e4')
              have s5 := bt14 _ _ (by simp [npl'.1, npl'.2]) (sm _ _ e5')
              refine ⟨a', .say r14, rfl, upd_same, hr14, .inr rfl, ?_, Pds.same (same_new na') s4, same_new na' _ _ s5, hB14.same (same_new na'), (((bt9.trans bt11).trans (Same.but sm)).trans bt14).trans (Same.but (same_new na'))⟩
              rw [filter_app]; exact e3
            · refine ⟨a, d, rfl, sm _ _ ha, hd, .inl hw, ?_, Pds.same sm e4', sm _ _ e5', hB11.same sm, (bt9.trans bt11).trans (Same.but sm)⟩
              rw [filter_app, if_pos es]
              have : ¬ acc.length = 3 := fun z => e7 (by rw [z]; rfl)
              omega
        · refine ⟨a, d, rfl, ha, hd, .inl hw, ?_, e4', e5', hB11, bt9.trans bt11⟩
          have ew : ¬ isStart d = true := fun z => e (by rw [(word_start d).mpr z]; exact decide_eq_true rfl)
          rw [filter_app, if_neg ew]; exact e3
      · obtain ⟨a', d', rfl, f1, f2, f3, f4, f5, f6, hB14, bt14⟩ := hM
        have vlen : vs.length = ds.length := by rw [f5.len, List.length_map]
        refine ⟨_, rfl, .inl ⟨rfl, _, sqL_l f6⟩, _, rfl, pl, _, _, rfl, rfl, f6, fits (by omega), ?_⟩
        have ap : a' ≠ pl := fun z => by rw [z, f6] at f1; cases f1
        have lsD : Lsts H' [pl] := fun c hc => ⟨vs, by rw [List.mem_singleton.mp hc]; exact f6⟩
        have stepB : But [pl] H' (upd H' pl (.lst (vs ++ [.ref a']))) := But.set (by simp)
        refine ⟨ds ++ [d'], vs ++ [.ref a'], _, _, rfl, by simp [e1], fun d hd => ?_, f4, ?_, upd_same, But.box hB14 npl'.1 npl'.2, But.newset npl bt14⟩
        · rcases List.mem_append.mp hd with h | h
          · exact e2 d h
          · rw [List.mem_singleton.mp h]; exact ⟨f2, f3⟩
        · rw [List.map_append]
          exact (Pds.but stepB lsD (noLs_map noL_deed _) f5).app (.cons (Deed.pd (by rw [upd_ne ap]; exact f1)) .nil)
    · obtain ⟨ds, vs, y1, y2, rfl, e1, e2, e3, e4, e5, hB9, bt9⟩ := hp
      refine ⟨_, rfl, _, rfl, _, rfl, pl, _, rfl, .inl ⟨sqL_l e5, fun Pt nPt => ?_⟩⟩
      refine ⟨by show 3 ≤ sizeLine; decide, fun v nv => ?_⟩
      have s1 : Same H9 (upd H9 Pt (.tup vs)) := same_new nPt
      have s2 := same_new (o := .tup [.ref M, .ref O, .ref Pt]) nv
      have s12 := s1.trans s2
      have gM := s12 _ _ (bt9 _ _ nMb hM6)
      have gO := s12 _ _ (bt9 _ _ nOb hO)
      have gP := s2 _ _ (show (upd H9 Pt (.tup vs)) Pt = some (.tup vs) from upd_same)
      refine q _ (.ref v) ⟨mem, os, ds⟩ (hB9.same s12) ((bt6.trans bt9).trans (Same.but s12)) ?_ ⟨?_, m2, ?_, fun j o hj => ?_, ?_, ?_, e3⟩ ?_ ?_ ?_ ?_
      · exact .tup upd_same (.cons (.tup gM (pds_ns _)) (.cons (.tup gO (Pds.same s12 (Pds.but bt9 hB6.lsts (noLs_map noL_ord _) hOs))) (.cons (.tup gP (Pds.same s12 e4)) .nil)))
      · dsimp only; rw [mlen]; exact cN
      · dsimp only; omega
      · dsimp only at hj ⊢; rw [olen, mlen]; exact o2 j o hj
      · dsimp only; omega
      · intro d hd; dsimp only at hd ⊢; rw [olen, mlen]; exact (e2 d hd).1
      · dsimp only; omega
      · dsimp only; omega
      · dsimp only; omega
      · intro d hd; exact (e2 d hd).2
end
end Vt
namespace Vt
open PySem PySem.Spec PyProof.Rows L2
/-! ### boards as they are handed in, and what is first wrong in them -/
structure ROrd where
  src : Int
  goal : Int
  many : Int
  later : Option Int
structure RDeed where
  word : Str
  nums : List Int
structure RBrd where
  mem : List Int
  ords : List ROrd
  prog : List RDeed
def iV : Option Int → V
  | none => .non
  | some k => .int k
def iD : Option Int → D
  | none => .non
  | some k => .int k
def ROrd.vs (o : ROrd) : List V := [.int o.src, .int o.goal, .int o.many, iV o.later]
def ROrd.d (o : ROrd) : D := .tup [.int o.src, .int o.goal, .int o.many, iD o.later]
def RDeed.vs (d : RDeed) : List V := .str d.word :: d.nums.map V.int
def RDeed.d (d : RDeed) : D := .tup (.str d.word :: d.nums.map D.int)
def RBrd.d (B : RBrd) : D := .tup [.tup (B.mem.map D.int), .tup (B.ords.map ROrd.d), .tup (B.prog.map RDeed.d)]
def Ord.raw (o : Ord) : ROrd := ⟨o.src, o.goal, o.many, o.later.map fun k => (k : Int)⟩
def Deed.raw (d : Deed) : RDeed := ⟨d.word, d.args.map fun (k : Nat) => (k : Int)⟩
def Brd.raw (B : Brd) : RBrd := ⟨B.mem.map (fun (k : Nat) => (k : Int)), B.ords.map Ord.raw, B.prog.map Deed.raw⟩
theorem raw_ord (o : Ord) : o.raw.d = o.d := by
  obtain ⟨s, g, m, l⟩ := o
  cases l <;> rfl
theorem raw_deed (d : Deed) : d.raw.d = d.d := by
  simp only [Deed.raw, RDeed.d, Deed.d, List.map_map]; rfl
theorem raw_brd (B : Brd) : B.raw.d = B.d := by
  simp only [Brd.raw, RBrd.d, Brd.d, nsD, List.map_map]
  have h1 : (ROrd.d ∘ Ord.raw) = Ord.d := funext raw_ord
  have h2 : (RDeed.d ∘ Deed.raw) = Deed.d := funext raw_deed
  rw [h1, h2]; rfl
section
variable {H : Hp}
theorem ROrd.of {o : ROrd} {v : V} (h : Pd H v o.d) : ∃ a, v = .ref a ∧ H a = some (.tup o.vs) := by
  obtain ⟨s, g, m, l⟩ := o
  cases h with
  | tup h hs =>
    cases hs with
    | cons h1 hs => cases h1; cases hs with
      | cons h2 hs => cases h2; cases hs with
        | cons h3 hs => cases h3; cases hs with
          | cons h4 hs =>
            cases hs
            refine ⟨_, rfl, ?_⟩
            cases l with
            | none => cases h4; exact h
            | some k => cases h4; exact h
theorem RDeed.of {d : RDeed} {v : V} (h : Pd H v d.d) : ∃ a, v = .ref a ∧ H a = some (.tup d.vs) := by
  cases h with
  | tup h hs =>
    cases hs with
    | cons h1 hs =>
      cases h1
      rw [hs.ints] at h
      exact ⟨_, rfl, h⟩
theorem RBrd.of {B : RBrd} {v : V} (h : Pd H v B.d) : ∃ a m o p os ps, v = .ref a ∧ H a = some (.tup [.ref m, .ref o, .ref p]) ∧ H m = some (.tup (B.mem.map V.int)) ∧ H o = some (.tup os) ∧ Pds H os (B.ords.map ROrd.d) ∧ H p = some (.tup ps) ∧ Pds H ps (B.prog.map RDeed.d) := by
  obtain ⟨mem, ords, prog⟩ := B
  cases h with
  | tup h hs =>
    cases hs with
    | cons h1 hs => cases h1 with
      | tup e1 k1 => cases hs with
        | cons h2 hs => cases h2 with
          | tup e2 k2 => cases hs with
            | cons h3 hs => cases h3 with
              | tup e3 k3 =>
                cases hs
                rw [k1.ints] at e1
                exact ⟨_, _, _, _, _, _, rfl, h, e1, e2, k2, e3, k3⟩
end
/-- the first place at which p stands -/
def fst {α : Type} (p : Nat → α → Bool) : Nat → List α → Option Nat
  | _, [] => none
  | i, x :: r => if p i x = true then some i else fst p (i + 1) r
theorem fst_none {α : Type} {p : Nat → α → Bool} : ∀ {xs : List α} {k : Nat}, (∀ i x, xs[i]? = some x → p (k + i) x = false) → fst p k xs = none
  | [], _, _ => rfl
  | x :: r, k, h => by
    rw [fst, if_neg (by rw [show p k x = false from h 0 x rfl]; simp)]
    exact fst_none fun i y e => by
      have := h (i + 1) y (by simpa using e)
      rw [show k + 1 + i = k + (i + 1) by omega]; exact this
theorem fst_some {α : Type} {p : Nat → α → Bool} : ∀ {xs : List α} {k i : Nat} {x : α}, xs[i]? = some x → p (k + i) x = true → (∀ j y, j < i → xs[j]? = some y → p (k + j) y = false) → fst p k xs = some (k + i)
  | [], _, _, _, e, _, _ => by simp at e
  | y :: r, k, 0, x, e, h, _ => by
    simp only [List.getElem?_cons_zero, Option.some.injEq] at e
    subst e
    rw [fst, if_pos (by simpa using h)]; rfl
  | y :: r, k, i + 1, x, e, h, hj => by
    rw [fst, if_neg (by rw [show p k y = false from hj 0 y (by omega) rfl]; simp)]
    rw [fst_some (k := k + 1) (i := i) (x := x) (by simpa using e) (by rw [show k + 1 + i = k + (i + 1) by omega]; exact h) fun j z hji ez => by
      rw [show k + 1 + j = k + (j + 1) by omega]
      exact hj (j + 1) z (by omega) (by simpa using ez)]
    congr 1; omega
theorem of_fst_none {α : Type} {p : Nat → α → Bool} : ∀ {xs : List α} {k : Nat}, fst p k xs = none → ∀ i x, xs[i]? = some x → p (k + i) x = false
  | [], _, _, i, x, e => by simp at e
  | y :: r, k, h, 0, x, e => by
    simp only [List.getElem?_cons_zero, Option.some.injEq] at e
    subst e
    rw [fst] at h
    split at h
    · cases h
    · rename_i hn; simpa using hn
  | y :: r, k, h, i + 1, x, e => by
    rw [fst] at h
    split at h
    · cases h
    · have := of_fst_none (k := k + 1) h i x (by simpa using e)
      rw [show k + (i + 1) = k + 1 + i by omega]; exact this
def badNum (_ : Nat) (n : Int) : Bool := !(decide (0 ≤ n) && decide (n < 10))
def fwCell (mem : List Int) : Option Nat :=
  if mem.length = 4 ∨ mem.length = 8 ∨ mem.length = 12 ∨ mem.length = 16 then fst badNum 0 mem else some 0
def laterCan (cnt : Int) (at_ : Nat) : Option Int → Bool
  | none => true
  | some k => decide ((at_ : Int) < k) && decide (k < cnt)
def ordCan (cnt cells : Int) (at_ : Nat) (o : ROrd) : Bool :=
  decide (1 ≤ o.many) && decide (o.many ≤ 8) && laterCan cnt at_ o.later &&
  decide (0 ≤ o.src) && decide (o.src ≤ cells - o.many) && decide (0 ≤ o.goal) && decide (o.goal ≤ cells - o.many)
def badOrd (cnt cells : Int) (at_ : Nat) (o : ROrd) : Bool := decide (at_ = 4) || !ordCan cnt cells at_ o
def fwOrd (ords : List ROrd) (cells : Int) : Option Nat := fst (badOrd ords.length cells) 0 ords
def kindsOf (z : Str) : Option (List Str) :=
  if z = "set" then some ["cell", "number"] else if z = "add" then some ["cell", "cell"] else if z = "say" then some ["cell"] else if z = "start" then some ["order"] else
  if z = "wait" then some [] else if z = "clean" then some ["line"] else if z = "drop" then some ["line"] else none
def cap (cnt cells : Int) (k : Str) : Int := if k = "cell" then cells else if k = "number" then 10 else if k = "order" then cnt else cells / 4
def numsCan (cnt cells : Int) : List Int → List Str → Bool
  | [], [] => true
  | n :: ns, k :: ks => (decide (0 ≤ n) && decide (n < cap cnt cells k)) && numsCan cnt cells ns ks
  | _, _ => false
def deedCan (cnt cells : Int) (d : RDeed) : Bool := match kindsOf d.word with
  | none => false
  | some ks => numsCan cnt cells d.nums ks
def rStart (d : RDeed) : Bool := decide (d.word = "start")
def badDeed (prog : List RDeed) (cnt cells : Int) (at_ : Nat) (d : RDeed) : Bool := decide (at_ = 60) || !deedCan cnt cells d || decide (3 < ((prog.take (at_ + 1)).filter rStart).length)
def fwDeed (prog : List RDeed) (cnt cells : Int) : Option Nat := fst (badDeed prog cnt cells) 0 prog
/-- a tuple of the written part -/
def KTup (K : PySem.W.Frag) (a : Addr) (xs : List V) : Prop := ∃ (o : Obj) (its : Array Value) (n : Nat), K.lookup a = some o ∧ o.cls = .type "tuple" ∧ o.data = .seq its n ∧ its.size ≤ sizeLine ∧ Vals xs its.toList
theorem KTup.sq {K : PySem.W.Frag} {a : Addr} {xs : List V} (h : KTup K a xs) (H : Hp) : SqT K H a xs := .inr h
/-- an enumerate's pair -/
theorem pair_at {H H' : Hp} {v : V} {x y : Nat → Option V} {i : Nat} (h : YPair x y i H v H') : ∃ T a b, v = .ref T ∧ H T = none ∧ H' = upd H T (.tup [a, b]) ∧ x i = some a ∧ y i = some b ∧ Same H H' ∧ H' T = some (.tup [a, b]) := by
  obtain ⟨T, a, b, h1, h2, h3, h4, h5⟩ := h
  subst h3
  exact ⟨T, a, b, h1, h2, rfl, h4, h5, same_new h2, upd_same⟩
section
variable {P : Program} {w : World} {K : PySem.W.Frag} {mg : Str → Option Value} {base : Heap}
/-- the module's numbers -/
structure Consts (K : PySem.W.Frag) (mg : Str → Option Value) : Prop where
  line : ∃ t, mg "LINE" = some (.int 4 t)
  numbers : ∃ t, mg "NUMBERS" = some (.int 10 t)
  orders : ∃ t, mg "MOST_ORDERS" = some (.int 4 t)
  moved : ∃ t, mg "MOST_MOVED" = some (.int 8 t)
  deeds : ∃ t, mg "MOST_DEEDS" = some (.int 60 t)
  starts : ∃ t, mg "MOST_STARTS" = some (.int 3 t)
  sizes : ∃ a, mg "MEMORY_SIZES" = some (.ref a) ∧ KTup K a [.int 4, .int 8, .int 12, .int 16]
abbrev st_first_wrong_cell : Stmt := (topS 13)
abbrev nm_first_wrong_cell : List Str := ["memory", "cell", "number"]
theorem sc_first_wrong_cell : FnScope ["memory", "cell", "number"] ["memory"] (defScope st_first_wrong_cell) := ⟨rfl, rfl, rfl, by decide +kernel, rfl, by decide +kernel, by decide +kernel⟩
def spFwCell : Sp := fun vs H Q _ => ∃ (m : Addr) (mem : List Int), vs = [.ref m] ∧ H m = some (.tup (mem.map V.int)) ∧ ∀ H', Same H H' → Q (oV (fwCell mem)) H'
theorem ok_fwcell {f : Addr} {fd : FuncData} (F : Fun K "first_wrong_cell" "first_wrong_cell" st_first_wrong_cell f fd) (C : Consts K mg) (z_len : mg "len" = none) (z_enumerate : mg "enumerate" = none) :
    FnOk P w K mg base CX0 1 f fd ["memory"] spFwCell := by
  obtain ⟨tN, mc_NUMBERS⟩ := C.numbers
  obtain ⟨ms, mc_MEMORY_SIZES, hms⟩ := C.sizes
  refine F.ok sc_first_wrong_cell (fun vs H Q E h => ?_) (fun cdv A outer s H vs Q E hr h => ?_)
  · obtain ⟨m, mem, rfl, _⟩ := h
    rfl
  · obtain ⟨m, mem, rfl, hm, q⟩ := h
    refine ⟨_, (pss_cons (ps_if (pt_cmpR op_notIn_seq (pe_callB call_len_seq (by rfl) z_len (by decide +kernel) (pa_cons (pv 0) pa_nil)) (pe_glob (v := .ref _) rfl mc_MEMORY_SIZES rfl) (by rfl)) (pss_one (ps_ret pe_int)) pss_nil)
  (pss_cons (ps_for PassesOwn.never rfl (pi_enumT (by rfl) z_enumerate (pa_cons (pv 0) pa_nil)) (pg_tup rfl (pgs_cons (pg_name (i := 1) sc_first_wrong_cell.nd rfl (Or.inl rfl)) (pgs_cons (pg_name (i := 2) sc_first_wrong_cell.nd rfl (Or.inl rfl)) pgs_nil)))
  (pss_one (ps_if (pt_not (pt_chain op_le op_lt pe_int (pv 2) (pe_glob (v := .int 10) rfl mc_NUMBERS ⟨_, rfl⟩))) (pss_one (ps_ret (pv 1))) pss_nil)))
  (pss_one (ps_ret pe_non)))), ?_⟩
    refine ⟨_, rfl, m, _, rfl, .inr (sqT_t hm), ms, _, rfl, .inr (hms.sq _), rfl, rfl, _, rfl, ite2 (fun e => ?_) (fun e => ?_)⟩
    · have hn : ¬ (mem.length = 4 ∨ mem.length = 8 ∨ mem.length = 12 ∨ mem.length = 16) := by
        simp only [inV, eqV, List.any_cons, List.any_nil, List.length_map] at e
        simp at e
        omega
      have := q H (Same.refl H)
      rw [fwCell, if_neg hn] at this
      exact this
    · have hn : mem.length = 4 ∨ mem.length = 8 ∨ mem.length = 12 ∨ mem.length = 16 := by
        simp only [inV, eqV, List.any_cons, List.any_nil, List.length_map] at e
        simp at e
        omega
      refine ⟨_, rfl, m, rfl, .inr ⟨_, sqT_t hm, ?_⟩⟩
      refine for_it (walk_enumT (xs := mem.map V.int)) (fun i σ H' => ∃ y1 y2, σ = [some (.ref m), y1, y2] ∧ Same H H' ∧ ∀ (j : Nat) (n : Int), j < i → mem[j]? = some n → badNum j n = false)
        ⟨_, _, rfl, Same.refl H, fun j n hj => absurd hj (by omega)⟩ (fun i σ H' _ hp => by obtain ⟨_, _, _, sm, _⟩ := hp; exact sqT_t (sm _ _ hm)) (fun i x σ H1 H2 hi hp hy => ?_) (fun σ H1 hp => ?_)
      · obtain ⟨y1, y2, rfl, sm, hall⟩ := hp
        obtain ⟨T, a, b, rfl, nT, _, ha, hb, s2, hT⟩ := pair_at hy
        cases ha
        obtain ⟨n, hn2, rfl⟩ : ∃ n, mem[i]? = some n ∧ V.int n = b := by rw [List.getElem?_map] at hb; simpa using hb
        refine ⟨T, _, rfl, sqT_t hT, rfl, _, _, rfl, _, _, rfl, rfl, ?_⟩
        have ret : badNum i n = true → Q (nV i) H2 := fun hb => by
          have := q H2 (sm.trans s2)
          rw [fwCell, if_pos hn, fst_some (i := i) hn2 (by rw [Nat.zero_add]; exact hb) fun j y hj ej => by rw [Nat.zero_add]; exact hall j y hj ej, Nat.zero_add] at this
          exact this
        have nxt : badNum i n = false → ∃ y1 y2, [some (V.ref m), some (V.int (i : Nat)), some (V.int n)] = [some (.ref m), y1, y2] ∧ Same H H2 ∧ ∀ (j : Nat) (n : Int), j < i + 1 → mem[j]? = some n → badNum j n = false := fun hb => by
          refine ⟨_, _, rfl, sm.trans s2, fun j y hj ej => ?_⟩
          by_cases hji : j < i
          · exact hall j y hji ej
          · have : j = i := by omega
            subst this
            rw [hn2] at ej; cases ej
            exact hb
        refine ⟨_, rfl, _, _, rfl, rfl, _, rfl, ?_⟩
        by_cases h0 : (0 : Int) ≤ n
        · rw [decide_eq_true h0]
          refine iteT ⟨_, _, rfl, rfl, _, rfl, ite2 (fun e => ⟨_, rfl, ret ?_⟩) (fun e => nxt ?_)⟩
          · simp [badNum, h0] at e ⊢; omega
          · simp [badNum, h0] at e ⊢; omega
        · rw [decide_eq_false h0]
          exact iteF ⟨_, rfl, ⟨_, rfl, ret (by simp [badNum, h0])⟩⟩
      · obtain ⟨y1, y2, rfl, sm, hall⟩ := hp
        have := q H1 sm
        rw [fwCell, if_pos hn, fst_none fun i x e => by
          rw [Nat.zero_add]
          exact hall i x (by have := (List.getElem?_eq_some_iff.mp e).1; simpa using this) e] at this
        exact this
end
end Vt
namespace Vt
open PySem PySem.Spec PyProof.Rows L2
/-! ### an order, a deed, the board -/
theorem valV_hit {k : Key} {v : V} {r : List (Key × V)} : valV ((k, v) :: r) k = some v := valV_pos rfl
/-- what a dict of four says -/
theorem counts_at {H : Hp} {a : Addr} {cnt cells : Int} {ks : List Str} {k : Str} (h : H a = some (.dK [(.inr "cell", .int cells), (.inr "number", .int 10), (.inr "order", .int cnt), (.inr "line", .int (cells / 4))]))
    (hk : k = "cell" ∨ k = "number" ∨ k = "order" ∨ k = "line") : DGet H a (.str k) (some (.int (cap cnt cells k))) := by
  have g := DGet.k (k := .inr k) h
  rcases hk with rfl | rfl | rfl | rfl
  · exact g
  · exact g
  · exact g
  · exact g
theorem kinds_known {z : Str} {ks : List Str} (h : kindsOf z = some ks) : ∀ k ∈ ks, k = "cell" ∨ k = "number" ∨ k = "order" ∨ k = "line" := by
  intro k hk
  unfold kindsOf at h
  repeat' split at h
  all_goals first
    | cases h
    | skip
  all_goals simp at hk
  all_goals first
    | (rcases hk with rfl | rfl <;> simp)
    | (subst hk; simp)
theorem kinds_len {z : Str} {ks : List Str} (h : kindsOf z = some ks) : ks.length ≤ 2 := by
  unfold kindsOf at h
  repeat' split at h
  all_goals first
    | (cases h; simp)
    | cases h
theorem numsCan_len {cnt cells : Int} : ∀ {ns : List Int} {ks : List Str}, ns.length ≠ ks.length → numsCan cnt cells ns ks = false
  | [], [], h => absurd rfl h
  | [], _ :: _, _ => by rw [numsCan]; all_goals simp
  | _ :: _, [], _ => by rw [numsCan]; all_goals simp
  | n :: ns, k :: ks, h => by
    rw [numsCan, numsCan_len (ns := ns) (ks := ks) (by simpa using h), Bool.and_false]
theorem numsCan_all {cnt cells : Int} : ∀ {ns : List Int} {ks : List Str}, ns.length = ks.length → ∀ (bs : List Bool), bs.length = ns.length → (∀ (i : Nat) (n : Int) (k : Str), ns[i]? = some n → ks[i]? = some k → bs[i]? = some (decide (0 ≤ n) && decide (n < cap cnt cells k))) → bs.all id = numsCan cnt cells ns ks
  | [], [], _, bs, hb, _ => by
    have : bs = [] := List.length_eq_zero_iff.mp hb
    subst this; rfl
  | [], _ :: _, h, _, _, _ => by simp at h
  | _ :: _, [], h, _, _, _ => by simp at h
  | n :: ns, k :: ks, h, bs, hb, hi => by
    cases bs with
    | nil => simp at hb
    | cons b bs =>
      have e0 := hi 0 n k rfl rfl
      simp only [List.getElem?_cons_zero, Option.some.injEq] at e0
      rw [numsCan, List.all_cons, numsCan_all (ns := ns) (ks := ks) (by simpa using h) bs (by simpa using hb) fun i n' k' e1 e2 => by
        have := hi (i + 1) n' k' (by simpa using e1) (by simpa using e2)
        simpa using this]
      rw [e0]; rfl
/-- the table of deeds -/
structure Kinds (K : PySem.W.Frag) (w : World) (mg : Str → Option Value) (dd : Addr) : Prop where
  at_ : mg "DEEDS" = some (.ref dd)
  low : (dd == sysModules) = false
  obj : ∃ es n, K.lookup dd = some ⟨.type "dict", none, .dict es n, #[]⟩ ∧ PySem.W.KeysLit w.params es.toList
  hit : ∀ z ks, kindsOf z = some ks → ∃ kt, KDct K w dd z (.ref kt) ∧ KTup K kt (ks.map V.str)
section
variable {P : Program} {w : World} {K : PySem.W.Frag} {mg : Str → Option Value} {base : Heap}
abbrev st_order_can_be : Stmt := (topS 15)
abbrev nm_order_can_be : List Str := ["order", "at", "order_count", "cell_count", "source", "goal", "many", "later"]
theorem sc_order_can_be : FnScope ["order", "at", "order_count", "cell_count", "source", "goal", "many", "later"] ["order", "at", "order_count", "cell_count"] (defScope st_order_can_be) := ⟨rfl, rfl, rfl, by decide +kernel, rfl, by decide +kernel, by decide +kernel⟩
def spOrdCan : Sp := fun vs H Q _ => ∃ (a : Addr) (o : ROrd) (at_ : Nat) (cnt cells : Int), vs = [.ref a, nV at_, .int cnt, .int cells] ∧ H a = some (.tup o.vs) ∧ Q (.bl (ordCan cnt cells at_ o)) H
theorem ok_ordcan {f : Addr} {fd : FuncData} (F : Fun K "order_can_be" "order_can_be" st_order_can_be f fd) (C : Consts K mg) : FnOk P w K mg base CX0 1 f fd ["order", "at", "order_count", "cell_count"] spOrdCan := by
  obtain ⟨tM, mc_MOST_MOVED⟩ := C.moved
  refine F.ok sc_order_can_be (fun vs H Q E h => ?_) (fun cdv A outer s H vs Q E hr h => ?_)
  · obtain ⟨a, o, at_, cnt, cells, rfl, _⟩ := h
    rfl
  · obtain ⟨a, ⟨src, goal, many, later⟩, at_, cnt, cells, rfl, ha, q⟩ := h
    refine ⟨_, (pss_cons (ps_asg (pv 0) (pg_tup rfl (pgs_cons (pg_name (i := 4) sc_order_can_be.nd rfl (Or.inl rfl)) (pgs_cons (pg_name (i := 5) sc_order_can_be.nd rfl (Or.inl rfl)) (pgs_cons (pg_name (i := 6) sc_order_can_be.nd rfl (Or.inl rfl)) (pgs_cons (pg_name (i := 7) sc_order_can_be.nd rfl (Or.inl rfl)) pgs_nil))))))
  (pss_cons (ps_if (pt_not (pt_chain op_le op_le pe_int (pv 6) (pe_glob (v := .int 8) rfl mc_MOST_MOVED ⟨_, rfl⟩))) (pss_one (ps_ret pe_bl)) pss_nil)
  (pss_cons (ps_if (PW.pt (pw_and (pt_cmpR op_notN (pv 7) pe_non (nomark _)) (pw_and1 (pt_not (pt_chain op_lt op_lt (pv 1) (pv 7) (pv 2)))))) (pss_one (ps_ret pe_bl)) pss_nil)
  (pss_one (ps_ret (pe_and (pe_chain op_le op_le pe_int (pv 4) (pe_op op_sub (pv 3) (pv 6))) (pe_one (pe_chain op_le op_le pe_int (pv 5) (pe_op op_sub (pv 3) (pv 6)))))))))), ?_⟩
    refine ⟨_, rfl, a, _, rfl, sqT_t ha, rfl, _, _, rfl, _, _, rfl, _, _, rfl, _, _, rfl, rfl, ?_⟩
    -- not 1 <= many <= MOST_MOVED
    refine ⟨_, rfl, _, _, rfl, rfl, _, rfl, ?_⟩
    by_cases h1 : (1 : Int) ≤ many
    · rw [decide_eq_true h1]
      refine iteT ⟨_, _, rfl, rfl, _, rfl, ite2 (fun e => ?_) (fun e => ?_)⟩
      · rw [show ordCan cnt cells at_ ⟨src, goal, many, later⟩ = false by simp [ordCan, laterCan] at e ⊢; omega] at q
        exact q
      · have h8 : many ≤ 8 := by simpa using e
        have rest : ∀ σ, σ = [some (.ref a), some (nV at_), some (.int cnt), some (.int cells), some (.int src), some (.int goal), some (.int many), some (iV later)] → laterCan cnt at_ later = true →
            tRet (tAndV (tChain (rI0 fun i j => V.bl (decide (i ≤ j))) (rI0 fun i j => V.bl (decide (i ≤ j))) (tC (.int 0)) (tVar 4) (tOp (rI0 fun i j => V.int (i - j)) (tVar 3) (tVar 6)))
              (tChain (rI0 fun i j => V.bl (decide (i ≤ j))) (rI0 fun i j => V.bl (decide (i ≤ j))) (tC (.int 0)) (tVar 5) (tOp (rI0 fun i j => V.int (i - j)) (tVar 3) (tVar 6)))) { nx := fun _ H' => Q .non H', rt := Q } σ H := fun σ hσ hl => by
          subst hσ
          have ev : ordCan cnt cells at_ ⟨src, goal, many, later⟩ = ((decide (0 ≤ src) && decide (src ≤ cells - many)) && (decide (0 ≤ goal) && decide (goal ≤ cells - many))) := by
            simp only [ordCan, decide_eq_true h1, decide_eq_true h8, hl, Bool.true_and, Bool.and_assoc]
          rw [ev] at q
          refine ⟨_, rfl, _, _, rfl, rfl, _, rfl, ?_⟩
          by_cases g1 : (0 : Int) ≤ src
          · rw [decide_eq_true g1] at q ⊢
            refine iteT ⟨_, rfl, _, rfl, _, _, rfl, rfl, _, _, rfl, rfl, _, rfl, ?_⟩
            by_cases g2 : src ≤ cells - many
            · rw [decide_eq_true g2] at q ⊢
              refine iteT ⟨_, rfl, _, _, rfl, rfl, _, rfl, ?_⟩
              by_cases g3 : (0 : Int) ≤ goal
              · rw [decide_eq_true g3] at q ⊢
                refine iteT ⟨_, rfl, _, rfl, _, _, rfl, rfl, _, _, rfl, rfl, ?_⟩
                exact q
              · rw [decide_eq_false g3] at q ⊢
                exact iteF q
            · rw [decide_eq_false g2] at q ⊢
              exact iteF q
          · rw [decide_eq_false g1] at q ⊢
            exact iteF ⟨_, rfl, iteF q⟩
        cases later with
        | none => exact ⟨_, rfl, rfl, _, rfl, iteF (rest _ rfl rfl)⟩
        | some k =>
          refine ⟨_, rfl, rfl, _, rfl, iteT ⟨_, rfl, _, rfl, _, _, rfl, rfl, _, rfl, ?_⟩⟩
          by_cases g1 : (at_ : Int) < k
          · rw [decide_eq_true g1]
            refine iteT ⟨_, rfl, _, _, rfl, rfl, _, rfl, ite2 (fun e => ?_) (fun e => rest _ rfl ?_)⟩
            · rw [show ordCan cnt cells at_ ⟨src, goal, many, some k⟩ = false by simp [ordCan, laterCan] at e ⊢; omega] at q
              exact q
            · simp [laterCan] at e ⊢; exact ⟨g1, e⟩
          · rw [decide_eq_false g1]
            refine iteF ⟨_, rfl, iteT ?_⟩
            rw [show ordCan cnt cells at_ ⟨src, goal, many, some k⟩ = false by simp [ordCan, laterCan, g1]] at q
            exact q
    · rw [decide_eq_false h1]
      refine iteF ⟨_, rfl, iteT ?_⟩
      rw [show ordCan cnt cells at_ ⟨src, goal, many, later⟩ = false by simp [ordCan, h1]] at q
      exact q
abbrev st_first_wrong_order : Stmt := (topS 14)
abbrev nm_first_wrong_order : List Str := ["orders", "cell_count", "at", "order"]
theorem sc_first_wrong_order : FnScope ["orders", "cell_count", "at", "order"] ["orders", "cell_count"] (defScope st_first_wrong_order) := ⟨rfl, rfl, rfl, by decide +kernel, rfl, by decide +kernel, by decide +kernel⟩
def spFwOrd : Sp := fun vs H Q _ => ∃ (a : Addr) (os : List V) (ords : List ROrd) (cells : Int), vs = [.ref a, .int cells] ∧ H a = some (.tup os) ∧ Pds H os (ords.map ROrd.d) ∧ ∀ H', Same H H' → Q (oV (fwOrd ords cells)) H'
theorem ok_fword {f : Addr} {fd : FuncData} (F : Fun K "first_wrong_order" "first_wrong_order" st_first_wrong_order f fd) (C : Consts K mg) (c_order_can_be : Callee P w K mg base "order_can_be" 1 4 spOrdCan) (z_len : mg "len" = none) (z_enumerate : mg "enumerate" = none) :
    FnOk P w K mg base CX0 2 f fd ["orders", "cell_count"] spFwOrd := by
  obtain ⟨tM, mc_MOST_ORDERS⟩ := C.orders
  refine F.ok sc_first_wrong_order (fun vs H Q E h => ?_) (fun cdv A outer s H vs Q E hr h => ?_)
  · obtain ⟨a, os, ords, cells, rfl, _⟩ := h
    rfl
  · obtain ⟨a, os, ords, cells, rfl, ha, hs, q⟩ := h
    have olen : os.length = ords.length := by rw [hs.len, List.length_map]
    refine ⟨_, (pss_cons (ps_for PassesOwn.never rfl (pi_enumT (by rfl) z_enumerate (pa_cons (pv 0) pa_nil)) (pg_tup rfl (pgs_cons (pg_name (i := 2) sc_first_wrong_order.nd rfl (Or.inl rfl)) (pgs_cons (pg_name (i := 3) sc_first_wrong_order.nd rfl (Or.inl rfl)) pgs_nil)))
  (pss_one (ps_if (PW.pt (pw_or (pt_cmpR op_eq (pv 2) (pe_glob (v := .int 4) rfl mc_MOST_ORDERS ⟨_, rfl⟩) (nomark _)) (pw_or1 (pt_not (pt_val (pe_cal c_order_can_be hr (by first | decide | exact Nat.le_refl _) (pa_cons (pv 3) (pa_cons (pv 2) (pa_cons (pe_callB call_len_seq (by rfl) z_len (by decide +kernel) (pa_cons (pv 0) pa_nil)) (pa_cons (pv 1) pa_nil)))))))))) (pss_one (ps_ret (pv 2))) pss_nil)))
  (pss_one (ps_ret pe_non))), ?_⟩
    refine ⟨_, rfl, a, rfl, .inr ⟨_, sqT_t ha, ?_⟩⟩
    refine for_it (walk_enumT (xs := os)) (fun i σ H' => ∃ y1 y2, σ = [some (.ref a), some (.int cells), y1, y2] ∧ Same H H' ∧ ∀ (j : Nat) (o : ROrd), j < i → ords[j]? = some o → badOrd ords.length cells j o = false)
      ⟨_, _, rfl, Same.refl H, fun j n hj => absurd hj (by omega)⟩ (fun i σ H' _ hp => by obtain ⟨_, _, _, sm, _⟩ := hp; exact sqT_t (sm _ _ ha)) (fun i x σ H1 H2 hi hp hy => ?_) (fun σ H1 hp => ?_)
    · obtain ⟨y1, y2, rfl, sm, hall⟩ := hp
      obtain ⟨T, a1, b, rfl, nT, _, h1, hb, s2, hT⟩ := pair_at hy
      cases h1
      obtain ⟨dd, hd, hpd⟩ := hs.get' hb
      rw [List.getElem?_map] at hd
      obtain ⟨o, ho, rfl⟩ : ∃ o, ords[i]? = some o ∧ o.d = dd := by simpa using hd
      obtain ⟨oa, rfl, hoa⟩ := ROrd.of ((hpd.same sm).same s2)
      have ret : badOrd ords.length cells i o = true → Q (nV i) H2 := fun hb => by
        have := q H2 (sm.trans s2)
        rw [fwOrd, fst_some (i := i) ho (by rw [Nat.zero_add]; exact hb) fun j y hj ej => by rw [Nat.zero_add]; exact hall j y hj ej, Nat.zero_add] at this
        exact this
      have nxt : badOrd ords.length cells i o = false → ∃ y1 y2, [some (V.ref a), some (.int cells), some (V.int (i : Nat)), some (V.ref oa)] = [some (.ref a), some (.int cells), y1, y2] ∧ Same H H2 ∧ ∀ (j : Nat) (o : ROrd), j < i + 1 → ords[j]? = some o → badOrd ords.length cells j o = false := fun hb => by
        refine ⟨_, _, rfl, sm.trans s2, fun j y hj ej => ?_⟩
        by_cases hji : j < i
        · exact hall j y hji ej
        · have : j = i := by omega
          subst this
          rw [ho] at ej; cases ej
          exact hb
      refine ⟨T, _, rfl, sqT_t hT, rfl, _, _, rfl, _, _, rfl, rfl, ?_⟩
      refine ⟨_, rfl, rfl, _, rfl, ite2 (fun e => iteT ?_) (fun e => ?_)⟩
      · have e4 : (i : Int) = 4 := by injection of_decide_eq_true e
        have e4' : i = 4 := by omega
        exact ⟨_, rfl, ret (by simp [badOrd, e4'])⟩
      · have n4 : ¬ i = 4 := fun z => e (by rw [z]; rfl)
        refine ⟨_, rfl, _, rfl, _, rfl, a, _, rfl, .inr (sqT_t ((sm.trans s2) _ _ ha)), _, rfl, oa, o, i, _, _, rfl, hoa, _, rfl, ite2 (fun e => ⟨_, rfl, ret ?_⟩) (fun e => nxt ?_)⟩
        · rw [olen] at e; simp only [badOrd, e, Bool.or_true]
        · rw [olen] at e
          have e' : (!ordCan ords.length cells i o) = false := by simpa using e
          simp only [badOrd, e', decide_eq_false n4, Bool.or_false]
    · obtain ⟨y1, y2, rfl, sm, hall⟩ := hp
      have := q H1 sm
      rw [fwOrd, fst_none fun i x e => by
        rw [Nat.zero_add]
        exact hall i x (by have := (List.getElem?_eq_some_iff.mp e).1; omega) e] at this
      exact this
end
end Vt
namespace Vt
open PySem PySem.Spec PyProof.Rows L2
section
variable {P : Program} {w : World} {K : PySem.W.Frag} {mg : Str → Option Value} {base : Heap}
def countsK (cnt cells : Int) : List (Key × V) := [(.inr "cell", .int cells), (.inr "number", .int 10), (.inr "order", .int cnt), (.inr "line", .int (cells / 4))]
abbrev st_deed_can_be : Stmt := (topS 18)
abbrev nm_deed_can_be : List Str := ["deed", "counts", "word", "numbers", "kinds", "number", "kind"]
theorem sc_deed_can_be : FnScope ["deed", "counts", "word", "numbers", "kinds", "number", "kind"] ["deed", "counts"] (defScope st_deed_can_be) := ⟨rfl, rfl, rfl, by decide +kernel, rfl, by decide +kernel, by decide +kernel⟩
def spDeedCan (K : PySem.W.Frag) (w : World) (dd : Addr) : Sp := fun vs H Q _ => ∃ (a c : Addr) (d : RDeed) (cnt cells : Int), vs = [.ref a, .ref c] ∧ H a = some (.tup d.vs) ∧ d.nums.length ≤ 1000 ∧ H c = some (.dK (countsK cnt cells)) ∧
  (kindsOf d.word = none → KMiss K w dd d.word) ∧ ∀ H', Same H H' → Q (.bl (deedCan cnt cells d)) H'
theorem ok_deedcan {f dd : Addr} {fd : FuncData} (F : Fun K "deed_can_be" "deed_can_be" st_deed_can_be f fd) (Kd : Kinds K w mg dd) (z_len : mg "len" = none) (z_all : mg "all" = none) (z_zip : mg "zip" = none) :
    FnOk P w K mg base CX0 1 f fd ["deed", "counts"] (spDeedCan K w dd) := by
  have mc_DEEDS := Kd.at_
  refine F.ok sc_deed_can_be (fun vs H Q E h => ?_) (fun cdv A outer s H vs Q E hr h => ?_)
  · obtain ⟨a, c, d, cnt, cells, rfl, _⟩ := h
    rfl
  · obtain ⟨a, c, ⟨wd, nums⟩, cnt, cells, rfl, ha, hl, hc, hmiss, q⟩ := h
    dsimp only at hl hmiss
    refine ⟨_, (pss_cons (ps_asg (pv 0) (pg_star (i := 2) (j := 3) rfl sc_deed_can_be.nd rfl rfl rfl rfl))
  (pss_cons (ps_set (i := 4) sc_deed_can_be.nd rfl (Or.inl rfl) (pe_kget (pe_glob (v := .ref _) rfl mc_DEEDS rfl) (pv 2) ⟨rfl, rfl, rfl, rfl⟩))
  (pss_cons (ps_if (PW.pt (pw_or (pt_cmpR op_isN (pv 4) pe_non (nomark _)) (pw_or1 (pt_cmpR op_ne (pe_callB call_len_seq (by rfl) z_len (by decide +kernel) (pa_cons (pv 3) pa_nil)) (pe_callB call_len_seq (by rfl) z_len (by decide +kernel) (pa_cons (pv 4) pa_nil)) (nomark _))))) (pss_one (ps_ret pe_bl)) pss_nil)
  (pss_one (ps_ret (pe_callB (cr_all rfl) (by rfl) z_all (by decide +kernel) (pa_cons (pe_lc (own := [("number", 5), ("kind", 6)]) rfl sc_deed_can_be.nd (pi_zipM (by rfl) z_zip (pa_cons (pv 3) (pa_cons (pv 4) pa_nil))) (blkOk_by (own := [("number", 5), ("kind", 6)]) (N := nm_deed_can_be) (sc := defScope (topS 18)) (by decide +kernel)) (fun _ _ _ _ _ => (pg_tupk K (n := 2) rfl (pgs_cons (pg_name (i := 5) sc_deed_can_be.nd rfl (Or.inl rfl)) (pgs_cons (pg_name (i := 6) sc_deed_can_be.nd rfl (Or.inl rfl)) pgs_nil)))) (fun _ _ _ _ _ => pts_nil) (fun _ _ _ _ _ => (pe_chain op_le op_lt pe_int (pv 5) (pe_dget (hu_of hr) (pv 1) (pv 6) (fun _ _ => rfl))))) pa_nil))))))), ?_⟩
    refine ⟨_, rfl, a, .str wd, nums.map V.int, rfl, sqT_t ha, by rw [List.length_map]; exact hl, fun p np => ?_⟩
    have s1 : Same H (upd H p (.lst (nums.map V.int))) := same_new np
    have hp1 : (upd H p (.lst (nums.map V.int))) p = some (.lst (nums.map V.int)) := upd_same
    generalize upd H p (.lst (nums.map V.int)) = H1 at s1 hp1
    obtain ⟨es, n, hobj, hlit⟩ := Kd.obj
    refine ⟨dd, rfl, Kd.low, ⟨es, n, hobj, hlit⟩, _, rfl, wd, rfl, ?_⟩
    cases hk : kindsOf wd with
    | none =>
      refine .inr ⟨hmiss hk, ?_⟩
      refine ⟨_, rfl, rfl, _, rfl, iteT (iteT ?_)⟩
      have := q H1 s1
      rw [show deedCan cnt cells ⟨wd, nums⟩ = false by simp [deedCan, hk]] at this
      exact this
    | some ks =>
      obtain ⟨kt, hkd, hkt⟩ := Kd.hit wd ks hk
      have k2 := kinds_len hk
      refine .inl ⟨.ref kt, hkd, ?_⟩
      refine ⟨_, rfl, rfl, _, rfl, iteF ⟨_, rfl, p, _, rfl, .inl (sqL_l hp1), _, rfl, kt, _, rfl, .inr (hkt.sq _), rfl, _, rfl, ite2 (fun e => ?_) (fun e => ?_)⟩⟩
      · have hne : nums.length ≠ ks.length := fun z => by
          simp only [List.length_map, z] at e
          simp at e
        have := q H1 s1
        rw [show deedCan cnt cells ⟨wd, nums⟩ = false by simp only [deedCan, hk]; exact numsCan_len hne] at this
        exact this
      · have heq : nums.length = ks.length := by
          simp only [List.length_map] at e
          simp at e
          omega
        have hc1 := s1 _ _ hc
        refine ⟨_, rfl, _, rfl, p, kt, nums.map V.int, ks.map V.str, rfl, sqL_l hp1, hkt.sq _, fun D nD => ?_⟩
        have pD : p ≠ D := ne_of_none hp1 nD
        refine lc_it (walk_zipM (xs := nums.map V.int) (ys := ks.map V.str) (n := nums.length) (by simp [heq])) (fun i H' => ∃ bs : List Bool, bs.length = i ∧ H' D = some (.lst (bs.map V.bl)) ∧ Same H1 H' ∧
            ∀ (j : Nat) (n : Int) (k : Str), j < i → nums[j]? = some n → ks[j]? = some k → bs[j]? = some (decide (0 ≤ n) && decide (n < cap cnt cells k)))
          ⟨[], rfl, upd_same, same_new nD, fun j _ _ hj => absurd hj (by omega)⟩ (fun i H' _ hp => by obtain ⟨_, _, _, sm, _⟩ := hp; exact ⟨sqL_l (sm _ _ hp1), hkt.sq _⟩) (fun i x H2 H3 hi hp hy => ?_) (fun H2 hp => ?_)
        · obtain ⟨bs, b1, b2, sm, ball⟩ := hp
          obtain ⟨T, v1, v2, rfl, nT, _, e1, e2, s3, hT⟩ := pair_at hy
          obtain ⟨n, hn, rfl⟩ : ∃ n, nums[i]? = some n ∧ V.int n = v1 := by rw [List.getElem?_map] at e1; simpa using e1
          obtain ⟨k, hk2, rfl⟩ : ∃ k, ks[i]? = some k ∧ V.str k = v2 := by rw [List.getElem?_map] at e2; simpa using e2
          have TD : D ≠ T := ne_of_none b2 nT
          have hb3 : H3 D = some (.lst (bs.map V.bl)) := s3 _ _ b2
          have hget : DGet H3 c (.str k) (some (.int (cap cnt cells k))) := counts_at (ks := ks) (s3 _ _ (sm _ _ hc1)) (kinds_known hk k (List.mem_of_getElem? hk2))
          have fin : ∀ r : Bool, r = (decide (0 ≤ n) && decide (n < cap cnt cells k)) → ∃ acc, H3 D = some (.lst acc) ∧ acc.length < sizeLine ∧ ∃ bs : List Bool, bs.length = i + 1 ∧ (upd H3 D (.lst (acc ++ [.bl r]))) D = some (.lst (bs.map V.bl)) ∧ Same H1 (upd H3 D (.lst (acc ++ [.bl r]))) ∧
              ∀ (j : Nat) (n : Int) (k : Str), j < i + 1 → nums[j]? = some n → ks[j]? = some k → bs[j]? = some (decide (0 ≤ n) && decide (n < cap cnt cells k)) := fun r hr => by
            refine ⟨_, hb3, by rw [List.length_map]; exact fits (by omega), bs ++ [r], by simp [b1], by rw [upd_same, List.map_append]; rfl, fun u o hu => ?_, fun j n' k' hj f1 f2 => ?_⟩
            · rw [upd_ne (ne_of_none hu nD)]; exact s3 _ _ (sm _ _ hu)
            · by_cases hji : j < i
              · rw [List.getElem?_append_left (by omega)]
                exact ball j n' k' hji f1 f2
              · have : j = i := by omega
                subst this
                rw [hn] at f1; cases f1
                rw [hk2] at f2; cases f2
                rw [List.getElem?_append_right (by omega), b1, Nat.sub_self, hr]; rfl
          refine ⟨T, _, rfl, sqT_t hT, rfl, _, _, rfl, _, _, rfl, rfl, rfl, ?_⟩
          refine ⟨_, rfl, _, _, rfl, rfl, _, rfl, ?_⟩
          by_cases h0 : (0 : Int) ≤ n
          · rw [decide_eq_true h0]
            refine iteT ⟨_, rfl, _, rfl, c, _, rfl, hget, _, _, rfl, rfl, ?_⟩
            exact fin _ (by rw [decide_eq_true h0]; rfl)
          · rw [decide_eq_false h0]
            exact iteF (fin _ (by rw [decide_eq_false h0]; rfl))
        · obtain ⟨bs, b1, b2, sm, ball⟩ := hp
          refine ⟨D, bs, rfl, sqL_l b2, ?_⟩
          have := q H2 (s1.trans sm)
          rw [show deedCan cnt cells ⟨wd, nums⟩ = bs.all id by
            simp only [deedCan, hk]
            exact (numsCan_all heq bs b1 fun j n k e1 e2 => ball j n k (by have := (List.getElem?_eq_some_iff.mp e1).1; omega) e1 e2).symm] at this
          exact this
theorem starts_take {prog : List RDeed} {i : Nat} {d : RDeed} (h : prog[i]? = some d) : ((prog.take (i + 1)).filter rStart).length = ((prog.take i).filter rStart).length + (if rStart d then 1 else 0) := by
  rw [List.take_add_one, h]
  exact filter_app _ _ _
abbrev st_counts_of_things : Stmt := (topS 17)
abbrev nm_counts_of_things : List Str := ["order_count", "cell_count"]
theorem sc_counts_of_things : FnScope ["order_count", "cell_count"] ["order_count", "cell_count"] (defScope st_counts_of_things) := ⟨rfl, rfl, rfl, by decide +kernel, rfl, by decide +kernel, by decide +kernel⟩
def spCounts : Sp := fun vs H Q _ => ∃ (cnt cells : Int), vs = [.int cnt, .int cells] ∧ ∀ (c : Addr) H', H c = none → H' c = some (.dK (countsK cnt cells)) → Same H H' → Q (.ref c) H'
theorem ok_counts {f : Addr} {fd : FuncData} (F : Fun K "counts_of_things" "counts_of_things" st_counts_of_things f fd) (C : Consts K mg) : FnOk P w K mg base CX0 1 f fd ["order_count", "cell_count"] spCounts := by
  obtain ⟨tN, mc_NUMBERS⟩ := C.numbers
  obtain ⟨tL, mc_LINE⟩ := C.line
  refine F.ok sc_counts_of_things (fun vs H Q E h => ?_) (fun cdv A outer s H vs Q E hr h => ?_)
  · obtain ⟨cnt, cells, rfl, _⟩ := h
    rfl
  · obtain ⟨cnt, cells, rfl, q⟩ := h
    refine ⟨_, (pss_one (ps_ret (pe_disp (pps_cons pe_str (pv 1) (pps_cons pe_str (pe_glob (v := .int 10) rfl mc_NUMBERS ⟨_, rfl⟩) (pps_cons pe_str (pv 0) (pps_cons pe_str (pe_op op_fdiv (pv 1) (pe_glob (v := .int 4) rfl mc_LINE ⟨_, rfl⟩)) pps_nil)))) (by rfl) (by rfl) (fun z => by cases z) (by decide)))), ?_⟩
    refine fun c nc => ?_
    refine ⟨_, rfl, _, rfl, _, rfl, _, _, rfl, rfl, ⟨by decide, by decide⟩, upd_same, countsK cnt cells, rfl, (by show 4 ≤ 15; decide), ?_⟩
    refine q c _ nc ?_ ?_
    · rw [upd_same]; rfl
    · rw [upd_upd]; exact same_new nc
abbrev st_first_wrong_deed : Stmt := (topS 16)
abbrev nm_first_wrong_deed : List Str := ["program", "order_count", "cell_count", "counts", "starts", "at", "deed"]
theorem sc_first_wrong_deed : FnScope ["program", "order_count", "cell_count", "counts", "starts", "at", "deed"] ["program", "order_count", "cell_count"] (defScope st_first_wrong_deed) := ⟨rfl, rfl, rfl, by decide +kernel, rfl, by decide +kernel, by decide +kernel⟩
def spFwDeed (K : PySem.W.Frag) (w : World) (dd : Addr) : Sp := fun vs H Q _ => ∃ (a : Addr) (ps : List V) (prog : List RDeed) (cnt cells : Int), vs = [.ref a, .int cnt, .int cells] ∧ H a = some (.tup ps) ∧ Pds H ps (prog.map RDeed.d) ∧ (∀ d ∈ prog, d.nums.length ≤ 1000) ∧
  (∀ d ∈ prog, kindsOf d.word = none → KMiss K w dd d.word) ∧ ∀ H', Same H H' → Q (oV (fwDeed prog cnt cells)) H'
theorem ok_fwdeed {f dd : Addr} {fd : FuncData} (F : Fun K "first_wrong_deed" "first_wrong_deed" st_first_wrong_deed f fd) (C : Consts K mg) (c_deed_can_be : Callee P w K mg base "deed_can_be" 1 2 (spDeedCan K w dd)) (c_counts_of_things : Callee P w K mg base "counts_of_things" 1 2 spCounts) (z_enumerate : mg "enumerate" = none) :
    FnOk P w K mg base CX0 2 f fd ["program", "order_count", "cell_count"] (spFwDeed K w dd) := by
  obtain ⟨tN, mc_NUMBERS⟩ := C.numbers
  obtain ⟨tL, mc_LINE⟩ := C.line
  obtain ⟨tD, mc_MOST_DEEDS⟩ := C.deeds
  obtain ⟨tS, mc_MOST_STARTS⟩ := C.starts
  refine F.ok sc_first_wrong_deed (fun vs H Q E h => ?_) (fun cdv A outer s H vs Q E hr h => ?_)
  · obtain ⟨a, ps, prog, cnt, cells, rfl, _⟩ := h
    rfl
  · obtain ⟨a, ps, prog, cnt, cells, rfl, ha, hs, hnum, hmiss, q⟩ := h
    have plen : ps.length = prog.length := by rw [hs.len, List.length_map]
    refine ⟨_, (pss_cons (ps_set (i := 3) sc_first_wrong_deed.nd rfl (Or.inl rfl) (pe_cal c_counts_of_things hr (by first | decide | exact Nat.le_refl _) (pa_cons (pv 1) (pa_cons (pv 2) pa_nil))))
  (pss_cons (ps_set (i := 4) sc_first_wrong_deed.nd rfl (Or.inl rfl) pe_int)
  (pss_cons (ps_for PassesOwn.never rfl (pi_enumT (by rfl) z_enumerate (pa_cons (pv 0) pa_nil)) (pg_tup rfl (pgs_cons (pg_name (i := 5) sc_first_wrong_deed.nd rfl (Or.inl rfl)) (pgs_cons (pg_name (i := 6) sc_first_wrong_deed.nd rfl (Or.inl rfl)) pgs_nil)))
  (pss_cons (ps_if (PW.pt (pw_or (pt_cmpR op_eq (pv 5) (pe_glob (v := .int 60) rfl mc_MOST_DEEDS ⟨_, rfl⟩) (nomark _)) (pw_or1 (pt_not (pt_val (pe_cal c_deed_can_be hr (by first | decide | exact Nat.le_refl _) (pa_cons (pv 6) (pa_cons (pv 3) pa_nil)))))))) (pss_one (ps_ret (pv 5))) pss_nil)
  (pss_cut (ps_if (pt_cmpR op_eq (pe_ix ix_lt (pv 6) pe_int (fun _ _ => rfl)) pe_str (nomark _)) (pss_one (ps_aug (i := 4) sc_first_wrong_deed.nd rfl (Or.inl rfl) pe_int ip_add)) pss_nil)
  (pss_one (ps_if (pt_cmpR op_gt (pv 4) (pe_glob (v := .int 3) rfl mc_MOST_STARTS ⟨_, rfl⟩) (nomark _)) (pss_one (ps_ret (pv 5))) pss_nil)))))
  (pss_one (ps_ret pe_non))))), ?_⟩
    -- counts
    refine ⟨_, rfl, _, rfl, cnt, cells, rfl, fun c H1 nc hc1 s1 => ?_⟩
    refine ⟨_, rfl, a, rfl, .inr ⟨_, sqT_t (s1 _ _ ha), ?_⟩⟩
    refine for_it (walk_enumT (xs := ps)) (fun i σ H' => ∃ y1 y2, σ = [some (.ref a), some (.int cnt), some (.int cells), some (.ref c), some (.int (((prog.take i).filter rStart).length : Nat)), y1, y2] ∧ Same H1 H' ∧
        ∀ (j : Nat) (d : RDeed), j < i → prog[j]? = some d → badDeed prog cnt cells j d = false)
      ⟨_, _, rfl, Same.refl _, fun j n hj => absurd hj (by omega)⟩ (fun i σ H' _ hp => by obtain ⟨_, _, _, sm, _⟩ := hp; exact sqT_t ((s1.trans sm) _ _ ha)) (fun i x σ H2 H3 hi hp hy => ?_) (fun σ H2 hp => ?_)
    · obtain ⟨y1, y2, rfl, sm, hall⟩ := hp
      obtain ⟨T, a1, b, rfl, nT, _, h1, hb, s2, hT⟩ := pair_at hy
      cases h1
      obtain ⟨dx, hd, hpd⟩ := hs.get' hb
      rw [List.getElem?_map] at hd
      obtain ⟨d, ho, rfl⟩ : ∃ d, prog[i]? = some d ∧ d.d = dx := by simpa using hd
      have hmem : d ∈ prog := List.mem_of_getElem? ho
      have s13 : Same H H3 := (s1.trans sm).trans s2
      obtain ⟨oa, rfl, hoa⟩ := RDeed.of (hpd.same s13)
      have ret : ∀ H', Same H3 H' → badDeed prog cnt cells i d = true → Q (nV i) H' := fun H' s4 hb => by
        have := q H' (s13.trans s4)
        rw [fwDeed, fst_some (i := i) ho (by rw [Nat.zero_add]; exact hb) fun j y hj ej => by rw [Nat.zero_add]; exact hall j y hj ej, Nat.zero_add] at this
        exact this
      refine ⟨T, _, rfl, sqT_t hT, rfl, _, _, rfl, _, _, rfl, rfl, ?_⟩
      refine ⟨_, rfl, rfl, _, rfl, ite2 (fun e => iteT ?_) (fun e => ?_)⟩
      · have e4 : (i : Int) = 60 := by injection of_decide_eq_true e
        have e4' : i = 60 := by omega
        exact ⟨_, rfl, ret H3 (Same.refl _) (by simp [badDeed, e4'])⟩
      · have n4 : ¬ i = 60 := fun z => e (by rw [z]; rfl)
        refine ⟨_, rfl, _, rfl, oa, c, d, cnt, cells, rfl, hoa, hnum d hmem, (sm.trans s2) _ _ hc1, hmiss d hmem, fun H4 s4 => ⟨_, rfl, ite2 (fun e => ⟨_, rfl, ret H4 s4 ?_⟩) (fun e => ?_)⟩⟩
        · simp only [badDeed, e, Bool.or_true, Bool.true_or]
        have can : deedCan cnt cells d = true := by simpa using e
        -- if deed[0] == "start": starts += 1
        refine ⟨fun σ' H' => σ' = [some (.ref a), some (.int cnt), some (.int cells), some (.ref c), some (.int (((prog.take (i + 1)).filter rStart).length : Nat)), some (.int (i : Nat)), some (.ref oa)] ∧ H' = H4, ?_, fun σ' H' hM => ?_⟩
        · refine ⟨_, rfl, oa, _, 0, .str d.word, rfl, rfl, sqA_t (s4 _ _ hoa), at0, rfl, _, rfl, ite2 (fun e => ?_) (fun e => ?_)⟩
          · have ew : d.word = "start" := by injection of_decide_eq_true e
            refine ⟨_, rfl, _, _, rfl, rfl, ?_, rfl⟩
            rw [starts_take ho, if_pos (by simp [rStart, ew])]
            rfl
          · have ew : ¬ d.word = "start" := fun z => e (by rw [z]; exact decide_eq_true rfl)
            refine ⟨?_, rfl⟩
            rw [starts_take ho, if_neg (by simp [rStart, ew])]
            rfl
        · obtain ⟨rfl, rfl⟩ := hM
          refine ⟨_, rfl, _, _, rfl, rfl, _, rfl, ite2 (fun e => ⟨_, rfl, ret _ s4 ?_⟩) (fun e => ?_)⟩
          · have h3 : 3 < ((prog.take (i + 1)).filter rStart).length := by have := of_decide_eq_true e; omega
            simp only [badDeed, decide_eq_true h3, Bool.or_true]
          · have h3 : ¬ 3 < ((prog.take (i + 1)).filter rStart).length := fun z => e (decide_eq_true (by omega))
            refine ⟨_, _, rfl, (sm.trans s2).trans s4, fun j y hj ej => ?_⟩
            by_cases hji : j < i
            · exact hall j y hji ej
            · have : j = i := by omega
              subst this
              rw [ho] at ej; cases ej
              simp only [badDeed, can, decide_eq_false n4, decide_eq_false h3]; rfl
    · obtain ⟨y1, y2, rfl, sm, hall⟩ := hp
      have := q H2 (s1.trans sm)
      rw [fwDeed, fst_none fun i x e => by
        rw [Nat.zero_add]
        exact hall i x (by have := (List.getElem?_eq_some_iff.mp e).1; omega) e] at this
      exact this
end
end Vt
namespace Vt
open PySem PySem.Spec PyProof.Rows L2
/-! ### boards that can be -/
theorem kinds_deed (d : Deed) : ∃ ks, kindsOf d.word = some ks ∧ ks.length = d.args.length := by
  cases d
  · exact ⟨["cell", "number"], rfl, rfl⟩
  · exact ⟨["cell", "cell"], rfl, rfl⟩
  · exact ⟨["cell"], rfl, rfl⟩
  · exact ⟨["order"], rfl, rfl⟩
  · exact ⟨[], rfl, rfl⟩
  · exact ⟨["line"], rfl, rfl⟩
  · exact ⟨["line"], rfl, rfl⟩
theorem can_deed {d : Deed} {cnt cells : Nat} (h : DeedOk d cnt cells) : deedCan cnt cells d.raw = true := by
  have c1 : ∀ a b : Int, cap a b "cell" = b := fun _ _ => rfl
  have c2 : ∀ a b : Int, cap a b "number" = 10 := fun _ _ => rfl
  have c3 : ∀ a b : Int, cap a b "order" = a := fun _ _ => rfl
  have c4 : ∀ a b : Int, cap a b "line" = b / 4 := fun _ _ => rfl
  cases d with
  | set c n =>
    obtain ⟨h1, h2⟩ := h
    have e : kindsOf "set" = (some ["cell", "number"] : Option (List Str)) := by decide
    simp only [deedCan, Deed.raw, Deed.word, Deed.args, e, List.map_cons, List.map_nil, numsCan, c1, c2, Bool.and_true, Bool.and_eq_true, decide_eq_true_eq]
    omega
  | add c n =>
    obtain ⟨h1, h2⟩ := h
    have e : kindsOf "add" = (some ["cell", "cell"] : Option (List Str)) := by decide
    simp only [deedCan, Deed.raw, Deed.word, Deed.args, e, List.map_cons, List.map_nil, numsCan, c1, c2, Bool.and_true, Bool.and_eq_true, decide_eq_true_eq]
    omega
  | say c =>
    have h1 : c < cells := h
    have e : kindsOf "say" = (some ["cell"] : Option (List Str)) := by decide
    simp only [deedCan, Deed.raw, Deed.word, Deed.args, e, List.map_cons, List.map_nil, numsCan, c1, c2, Bool.and_true, Bool.and_eq_true, decide_eq_true_eq]
    omega
  | start c =>
    have h1 : c < cnt := h
    have e : kindsOf "start" = (some ["order"] : Option (List Str)) := by decide
    simp only [deedCan, Deed.raw, Deed.word, Deed.args, e, List.map_cons, List.map_nil, numsCan, c3, Bool.and_true, Bool.and_eq_true, decide_eq_true_eq]
    omega
  | wait =>
    have e : kindsOf "wait" = (some [] : Option (List Str)) := by decide
    simp only [deedCan, Deed.raw, Deed.word, Deed.args, e, List.map_nil, numsCan]
  | clean c =>
    have h1 : c < cells / 4 := h
    have e : kindsOf "clean" = (some ["line"] : Option (List Str)) := by decide
    simp only [deedCan, Deed.raw, Deed.word, Deed.args, e, List.map_cons, List.map_nil, numsCan, c4, Bool.and_true, Bool.and_eq_true, decide_eq_true_eq]
    omega
  | drop c =>
    have h1 : c < cells / 4 := h
    have e : kindsOf "drop" = (some ["line"] : Option (List Str)) := by decide
    simp only [deedCan, Deed.raw, Deed.word, Deed.args, e, List.map_cons, List.map_nil, numsCan, c4, Bool.and_true, Bool.and_eq_true, decide_eq_true_eq]
    omega
theorem can_ord {o : Ord} {at_ cnt cells : Nat} (h : OrdOk o at_ cnt cells) : ordCan cnt cells at_ o.raw = true := by
  obtain ⟨h1, h2, h3, h4, h5⟩ := h
  have hl : laterCan cnt at_ o.raw.later = true := by
    obtain ⟨s, g, m, l⟩ := o
    cases l with
    | none => rfl
    | some k =>
      have := h5 k rfl
      show (decide ((at_ : Int) < (k : Int)) && decide ((k : Int) < (cnt : Int))) = true
      rw [Bool.and_eq_true, decide_eq_true_eq, decide_eq_true_eq]
      omega
  simp only [ordCan, hl, Bool.and_true, Bool.and_eq_true, decide_eq_true_eq]
  simp only [Ord.raw]
  refine ⟨⟨⟨⟨⟨?_, ?_⟩, ?_⟩, ?_⟩, ?_⟩, ?_⟩ <;> omega
theorem ok_mem {B : Brd} (h : BrdOk B) : fwCell B.raw.mem = none := by
  have hl : B.raw.mem.length = B.mem.length := by simp [Brd.raw]
  rw [fwCell, if_pos (by rw [hl]; exact h.cells)]
  refine fst_none fun i x e => ?_
  obtain ⟨n, hn, rfl⟩ : ∃ n, B.mem[i]? = some n ∧ (n : Int) = x := by
    simp only [Brd.raw, List.getElem?_map] at e
    simpa using e
  have := h.nums n (List.mem_of_getElem? hn)
  simp [badNum]; omega
theorem ok_ords {B : Brd} (h : BrdOk B) : fwOrd B.raw.ords B.mem.length = none := by
  refine fst_none fun i x e => ?_
  obtain ⟨o, ho, rfl⟩ : ∃ o, B.ords[i]? = some o ∧ o.raw = x := by
    simp only [Brd.raw, List.getElem?_map] at e
    simpa using e
  have hl : B.raw.ords.length = B.ords.length := by simp [Brd.raw]
  have hi : i < B.ords.length := (List.getElem?_eq_some_iff.mp ho).1
  have := h.four
  rw [Nat.zero_add, badOrd, hl, can_ord (h.ords i o ho)]
  simp; omega
theorem rstart_raw (d : Deed) : rStart d.raw = isStart d := by
  have := word_start d
  simp only [rStart, Deed.raw]
  cases h : isStart d with
  | true => exact decide_eq_true (this.mpr h)
  | false => exact decide_eq_false fun z => by rw [this.mp z] at h; cases h
theorem ok_prog {B : Brd} (h : BrdOk B) : fwDeed B.raw.prog B.ords.length B.mem.length = none := by
  refine fst_none fun i x e => ?_
  obtain ⟨d, hd, rfl⟩ : ∃ d, B.prog[i]? = some d ∧ d.raw = x := by
    simp only [Brd.raw, List.getElem?_map] at e
    simpa using e
  have hi : i < B.prog.length := (List.getElem?_eq_some_iff.mp hd).1
  have h60 := h.sixty
  have hs : ((B.raw.prog.take (i + 1)).filter rStart).length ≤ 3 := by
    have e1 : (B.raw.prog.take (i + 1)).filter rStart = ((B.prog.take (i + 1)).filter isStart).map Deed.raw := by
      simp only [Brd.raw, ← List.map_take, List.filter_map]
      congr 1
      exact List.filter_congr fun d _ => rstart_raw d
    rw [e1, List.length_map]
    exact Nat.le_trans (List.Sublist.length_le ((List.take_sublist _ _).filter _)) h.starts
  rw [Nat.zero_add, badDeed, can_deed (h.prog d (List.mem_of_getElem? hd)), decide_eq_false (show ¬ i = 60 by omega), decide_eq_false (show ¬ 3 < _ by omega)]
  rfl
section
variable {P : Program} {w : World} {K : PySem.W.Frag} {mg : Str → Option Value} {base : Heap}
abbrev st_require_board : Stmt := (topS 12)
abbrev nm_require_board : List Str := ["board", "memory", "orders", "program", "wrong"]
theorem sc_require_board : FnScope ["board", "memory", "orders", "program", "wrong"] ["board"] (defScope st_require_board) := ⟨rfl, rfl, rfl, by decide +kernel, rfl, by decide +kernel, by decide +kernel⟩
/-- a board that can be is let through -/
def spReq : Sp := fun vs H Q _ => ∃ (v : V) (B : Brd), vs = [v] ∧ Pd H v B.d ∧ BrdOk B ∧ ∀ H', Same H H' → Q .non H'
theorem ok_req {f dd : Addr} {fd : FuncData} (F : Fun K "require_board" "require_board" st_require_board f fd) (c_first_wrong_cell : Callee P w K mg base "first_wrong_cell" 1 1 spFwCell) (c_first_wrong_order : Callee P w K mg base "first_wrong_order" 2 2 spFwOrd)
    (c_first_wrong_deed : Callee P w K mg base "first_wrong_deed" 2 3 (spFwDeed K w dd)) (z_len : mg "len" = none) : FnOk P w K mg base CX0 3 f fd ["board"] spReq := by
  refine F.ok sc_require_board (fun vs H Q E h => ?_) (fun cdv A outer s H vs Q E hr h => ?_)
  · obtain ⟨v, B, rfl, _⟩ := h
    rfl
  · obtain ⟨v, B, rfl, hB, ok, q⟩ := h
    rw [← raw_brd] at hB
    obtain ⟨a, m, o, p, os, ps, rfl, ha, hm, ho, hos, hp, hps⟩ := RBrd.of hB
    refine ⟨_, (pss_cons (ps_asg (pv 0) (pg_tup rfl (pgs_cons (pg_name (i := 1) sc_require_board.nd rfl (Or.inl rfl)) (pgs_cons (pg_name (i := 2) sc_require_board.nd rfl (Or.inl rfl)) (pgs_cons (pg_name (i := 3) sc_require_board.nd rfl (Or.inl rfl)) pgs_nil)))))
  (pss_cons (ps_set (i := 4) sc_require_board.nd rfl (Or.inl rfl) (pe_cal c_first_wrong_cell hr (by first | decide | exact Nat.le_refl _) (pa_cons (pv 1) pa_nil)))
  (pss_cons (ps_if (pt_cmpR op_notN (pv 4) pe_non (nomark _)) (pss_one ps_never) pss_nil)
  (pss_cons (ps_set (i := 4) sc_require_board.nd rfl (Or.inl rfl) (pe_cal c_first_wrong_order hr (by first | decide | exact Nat.le_refl _) (pa_cons (pv 2) (pa_cons (pe_callB call_len_seq (by rfl) z_len (by decide +kernel) (pa_cons (pv 1) pa_nil)) pa_nil))))
  (pss_cons (ps_if (pt_cmpR op_notN (pv 4) pe_non (nomark _)) (pss_one ps_never) pss_nil)
  (pss_cons (ps_set (i := 4) sc_require_board.nd rfl (Or.inl rfl) (pe_cal c_first_wrong_deed hr (by first | decide | exact Nat.le_refl _) (pa_cons (pv 3) (pa_cons (pe_callB call_len_seq (by rfl) z_len (by decide +kernel) (pa_cons (pv 2) pa_nil)) (pa_cons (pe_callB call_len_seq (by rfl) z_len (by decide +kernel) (pa_cons (pv 1) pa_nil)) pa_nil)))))
  (pss_one (ps_if (pt_cmpR op_notN (pv 4) pe_non (nomark _)) (pss_one ps_never) pss_nil)))))))), ?_⟩
    refine ⟨_, rfl, a, _, rfl, sqT_t ha, rfl, _, _, rfl, _, _, rfl, _, _, rfl, rfl, ?_⟩
    have ml : (B.raw.mem.map V.int).length = B.mem.length := by simp [Brd.raw]
    have ol : os.length = B.ords.length := by rw [hos.len]; simp [Brd.raw]
    refine ⟨_, rfl, m, _, rfl, hm, fun H1 s1 => ?_⟩
    rw [ok_mem ok]
    refine ⟨_, rfl, rfl, _, rfl, iteF ?_⟩
    refine ⟨_, rfl, _, rfl, m, _, rfl, .inr (sqT_t (s1 _ _ hm)), o, os, B.raw.ords, _, rfl, s1 _ _ ho, hos.same s1, fun H2 s2 => ?_⟩
    rw [show fwOrd B.raw.ords ((B.raw.mem.map V.int).length : Nat) = none by rw [ml]; exact ok_ords ok]
    refine ⟨_, rfl, rfl, _, rfl, iteF ?_⟩
    have s12 := s1.trans s2
    refine ⟨_, rfl, _, rfl, o, _, rfl, .inr (sqT_t (s12 _ _ ho)), _, rfl, m, _, rfl, .inr (sqT_t (s12 _ _ hm)), p, ps, B.raw.prog, _, _, rfl, s12 _ _ hp, hps.same s12, fun d hd => ?_, fun d hd hk => ?_, fun H3 s3 => ?_⟩
    · obtain ⟨d0, _, rfl⟩ := List.mem_map.mp hd
      have : d0.raw.nums.length = d0.args.length := by simp [Deed.raw]
      rw [this]
      cases d0 <;> simp [Deed.args]
    · obtain ⟨d0, _, rfl⟩ := List.mem_map.mp hd
      obtain ⟨ks, e, _⟩ := kinds_deed d0
      rw [show d0.raw.word = d0.word from rfl, e] at hk; cases hk
    rw [show fwDeed B.raw.prog (os.length : Nat) ((B.raw.mem.map V.int).length : Nat) = none by rw [ml, ol]; exact ok_prog ok]
    exact ⟨_, rfl, rfl, _, rfl, iteF (q H3 (s12.trans s3))⟩
end
end Vt
namespace Vt
open PySem PySem.Spec PyProof.Rows L2
/-! ### what a chain of orders tells to move -/
structure Mv where
  src : Nat
  goal : Nat
  bell : Option Nat
def Mv.d (m : Mv) : D := .tup [nD m.src, nD m.goal, oD m.bell]
def Mv.vs (m : Mv) : List V := [nV m.src, nV m.goal, oV m.bell]
theorem Mv.pd {H : Hp} {m : Mv} {a : Addr} (h : H a = some (.tup m.vs)) : Pd H (.ref a) m.d := .tup h (.cons (.int _) (.cons (.int _) (.cons (pd_o _) .nil)))
theorem Mv.of {H : Hp} {m : Mv} {v : V} (h : Pd H v m.d) : ∃ a, v = .ref a ∧ H a = some (.tup m.vs) := by
  obtain ⟨s, g, l⟩ := m
  cases h with
  | tup h hs =>
    cases hs with
    | cons h1 hs => cases h1; cases hs with
      | cons h2 hs => cases h2; cases hs with
        | cons h4 hs =>
          cases hs
          refine ⟨_, rfl, ?_⟩
          cases l with
          | none => cases h4; exact h
          | some k => cases h4; exact h
theorem noL_mv (m : Mv) : m.d.noL = true := by
  obtain ⟨s, g, l⟩ := m
  cases l <;> simp [Mv.d, D.noL, noLs, nD, oD]
def mvAt (o : Ord) (at_ s : Nat) : Mv := ⟨o.src + s, o.goal + s, if s + 1 = o.many then some at_ else none⟩
def movesOf (o : Ord) (at_ : Nat) : List Mv := (List.range o.many).map (mvAt o at_)
def chain (ords : List Ord) : Nat → Option Nat → List Mv
  | _, none => []
  | 0, some _ => []
  | f + 1, some k => match ords[k]? with
    | none => []
    | some o => movesOf o k ++ chain ords f o.later
def told (ords : List Ord) (k : Nat) : List Mv := chain ords 4 (some k)
theorem movesOf_take {o : Ord} {at_ i : Nat} (h : i < o.many) : (movesOf o at_).take (i + 1) = (movesOf o at_).take i ++ [mvAt o at_ i] := by
  rw [List.take_add_one]
  congr 1
  rw [movesOf, List.getElem?_map, List.getElem?_range h]; rfl
theorem movesOf_len {o : Ord} {at_ : Nat} : (movesOf o at_).length = o.many := by simp [movesOf]
theorem chain_len (ords : List Ord) (hm : ∀ o ∈ ords, o.many ≤ 8) : ∀ f k, (chain ords f k).length ≤ 8 * f
  | 0, none => by simp [chain]
  | 0, some _ => by simp [chain]
  | f + 1, none => by simp [chain]
  | f + 1, some k => by
    rw [chain]
    split
    · simp
    · rename_i o e
      have := chain_len ords hm f o.later
      have := hm o (List.mem_of_getElem? e)
      rw [List.length_append, movesOf_len]; omega
theorem told_len {ords : List Ord} (hm : ∀ o ∈ ords, o.many ≤ 8) (k : Nat) : (told ords k).length ≤ 32 := chain_len ords hm 4 _
/-- a measure of what is left of a chain -/
def leftAt (i n : Nat) (σ : L2.St) : Nat := match σ[i]? with
  | some (some (.int k)) => n - k.toNat
  | _ => 0
def spMoves : Sp := fun vs H Q _ => ∃ (a : Addr) (os : List V) (ords : List Ord) (cells k : Nat), vs = [.ref a, nV k] ∧ H a = some (.tup os) ∧ Pds H os (ords.map Ord.d) ∧ ords.length ≤ 4 ∧ (∀ (i : Nat) (o : Ord), ords[i]? = some o → OrdOk o i ords.length cells) ∧ k < ords.length ∧
  ∀ (H' : Hp) (p : Addr) (xs : List V), Same H H' → H p = none → H' p = some (.lst xs) → Pds H' xs ((told ords k).map Mv.d) → Q (.ref p) H'
end Vt
namespace Vt
open PySem PySem.Spec PyProof.Rows L2
section
variable {P : Program} {w : World} {K : PySem.W.Frag} {mg : Str → Option Value} {base : Heap}
abbrev st_moves_told : Stmt := (topS 19)
abbrev nm_moves_told : List Str := ["orders", "first", "moves", "at", "source", "goal", "many", "later", "step", "bell"]
theorem sc_moves_told : FnScope ["orders", "first", "moves", "at", "source", "goal", "many", "later", "step", "bell"] ["orders", "first"] (defScope st_moves_told) := ⟨rfl, rfl, rfl, by decide +kernel, rfl, by decide +kernel, by decide +kernel⟩
theorem ok_moves {f : Addr} {fd : FuncData} (F : Fun K "moves_told" "moves_told" st_moves_told f fd) (z_range : mg "range" = none) : FnOk P w K mg base CX0 1 f fd ["orders", "first"] spMoves := by
  refine F.ok sc_moves_told (fun vs H Q E h => ?_) (fun cdv A outer s H vs Q E hr h => ?_)
  · obtain ⟨a, os, ords, cells, k, rfl, _⟩ := h
    rfl
  · obtain ⟨a, os, ords, cells, k0, rfl, ha, hos, h4, hok, hk0, q⟩ := h
    refine ⟨_, (pss_cons (ps_set (i := 2) sc_moves_told.nd rfl (Or.inl rfl) (pe_lst pa_nil))
  (pss_cons (ps_set (i := 3) sc_moves_told.nd rfl (Or.inl rfl) (pv 1))
  (pss_cons (ps_while PassesOwn.never (pt_cmpR op_notN (pv 3) pe_non (nomark _))
  (pss_cons (ps_asg (pe_ix ix_lt (pv 0) (pv 3) (fun _ _ => rfl)) (pg_tup rfl (pgs_cons (pg_name (i := 4) sc_moves_told.nd rfl (Or.inl rfl)) (pgs_cons (pg_name (i := 5) sc_moves_told.nd rfl (Or.inl rfl)) (pgs_cons (pg_name (i := 6) sc_moves_told.nd rfl (Or.inl rfl)) (pgs_cons (pg_name (i := 7) sc_moves_told.nd rfl (Or.inl rfl)) pgs_nil))))))
  (pss_cons (ps_for PassesOwn.never rfl (pi_range1 (by rfl) z_range (pa_cons (pv 6) pa_nil)) (pg_name (i := 8) sc_moves_told.nd rfl (Or.inl rfl))
  (pss_cons (ps_set (i := 9) sc_moves_told.nd rfl (Or.inl rfl) (pe_ifExp (pt_cmpR op_eq (pv 8) (pe_op op_sub (pv 6) pe_int) (nomark _)) (pv 3) pe_non))
  (pss_one (ps_expr (pe_bm PySem.F.plainAttrs_list PySem.F.slot_list_append PySem.F.type_list_append mt_append (pv 2) (pa_cons (pe_tup (pa_cons (pe_op op_add (pv 4) (pv 8)) (pa_cons (pe_op op_add (pv 5) (pv 8)) (pa_cons (pv 9) pa_nil)))) pa_nil))))))
  (pss_one (ps_set (i := 3) sc_moves_told.nd rfl (Or.inl rfl) (pv 7))))))
  (pss_one (ps_ret (pv 2)))))), ?_⟩
    refine ⟨Nat.zero_le _, fun p np => ?_⟩
    refine ⟨_, rfl, ?_⟩
    have olen : os.length = ords.length := by rw [hos.len, List.length_map]
    refine while_by (fun σ H' => ∃ (y4 y5 y6 y7 y8 y9 : Option V) (at_ : Option Nat) (f : Nat) (done : List Mv) (xs : List V), σ = [some (.ref a), some (nV k0), some (.ref p), some (oV at_), y4, y5, y6, y7, y8, y9] ∧ H' p = some (.lst xs) ∧ Pds H' xs (done.map Mv.d) ∧
        done ++ chain ords f at_ = told ords k0 ∧ (∀ k, at_ = some k → k < ords.length ∧ ords.length ≤ k + f) ∧ Same H H') (fun σ _ => leftAt 3 ords.length σ)
      ⟨_, _, _, _, _, _, some k0, 4, [], [], rfl, upd_same, .nil, rfl, fun k e => by cases e; omega, same_new np⟩ (fun σ H1 hp => ?_) (fun σ H1 Q1 Q2 hq h => by obtain ⟨v, e, e2, k, e3, h⟩ := h; exact ⟨v, e, e2, k, e3, hq _ _ h⟩)
    obtain ⟨y4, y5, y6, y7, y8, y9, at_, f, done, xs, rfl, hx, hpx, hd, hat, sm⟩ := hp
    refine ⟨_, rfl, rfl, _, rfl, ?_⟩
    cases at_ with
    | none =>
      refine iteF ⟨_, rfl, ?_⟩
      have : done = told ords k0 := by rw [← hd]; cases f <;> simp [chain]
      subst this
      exact q _ p xs sm np hx hpx
    | some k =>
      refine iteT ?_
      obtain ⟨hk, hf⟩ := hat k rfl
      obtain ⟨o, ho⟩ : ∃ o, ords[k]? = some o := ⟨ords[k], List.getElem?_eq_getElem hk⟩
      have oo := hok k o ho
      obtain ⟨v, hv, hpd⟩ := (hos.same sm).get (show (ords.map Ord.d)[k]? = some o.d by rw [List.getElem?_map, ho]; rfl)
      obtain ⟨oa, rfl, hoa⟩ := Ord.of hpd
      obtain ⟨f, rfl⟩ : ∃ f', f = f' + 1 := ⟨f - 1, by omega⟩
      have hch : chain ords (f + 1) (some k) = movesOf o k ++ chain ords f o.later := by rw [chain, ho]
      rw [hch] at hd
      have dlen : done.length + o.many ≤ 32 := by
        have h1 := told_len (ords := ords) (fun o ho => by
          obtain ⟨i, hi, rfl⟩ := List.mem_iff_getElem.mp ho
          exact (hok i _ (List.getElem?_eq_getElem hi)).eight) k0
        rw [← hd, List.length_append, List.length_append, movesOf_len] at h1
        omega
      refine ⟨_, rfl, _, rfl, a, os, (k : Int), .ref oa, rfl, rfl, sqA_t (sm _ _ ha), atI_nat hv, oa, _, rfl, sqT_t hoa, rfl, _, _, rfl, _, _, rfl, _, _, rfl, _, _, rfl, rfl, ?_⟩
      -- for step in range(many)
      refine ⟨_, rfl, _, rfl, by have := oo.eight; omega, by have := oo.eight; omega, ?_⟩
      refine for_it (walk_range (lo := 0) (n := (o.many : Int).toNat)) (fun i σ H' => ∃ (y8 y9 : Option V) (xs : List V), σ = [some (.ref a), some (nV k0), some (.ref p), some (nV k), some (nV o.src), some (nV o.goal), some (nV o.many), some (oV o.later), y8, y9] ∧ H' p = some (.lst xs) ∧
          Pds H' xs ((done ++ (movesOf o k).take i).map Mv.d) ∧ Same H H')
        ⟨_, _, xs, rfl, hx, by simpa using hpx, sm⟩ (fun _ _ _ _ _ => trivial) (fun i x σ H2 H3 hi hp hy => ?_) (fun σ H2 hp => ?_)
      · obtain ⟨z8, z9, xs, rfl, hx, hpx, sm2⟩ := hp
        obtain ⟨rfl, rfl⟩ := hy
        have hi' : i < o.many := by simpa using hi
        have step : ∀ (H4 : Hp) (T : Addr), H4 = upd H3 T (.tup [.int ((o.src : Int) + (0 + (i : Int))), .int ((o.goal : Int) + (0 + (i : Int))), oV (if i + 1 = o.many then some k else none)]) → H3 T = none →
            H4 p = some (.lst xs) ∧ xs.length < sizeLine ∧ (upd H4 p (.lst (xs ++ [.ref T]))) p = some (.lst (xs ++ [.ref T])) ∧ Pds (upd H4 p (.lst (xs ++ [.ref T]))) (xs ++ [.ref T]) ((done ++ (movesOf o k).take (i + 1)).map Mv.d) ∧ Same H (upd H4 p (.lst (xs ++ [.ref T]))) := fun H4 T e nT => by
          have s3 : Same H3 H4 := by rw [e]; exact same_new nT
          have hT : H4 T = some (.tup (mvAt o k i).vs) := by
            rw [e, upd_same]
            simp [Mv.vs, mvAt, nV]
          have hx4 := s3 _ _ hx
          have pT : T ≠ p := fun z => by rw [z, hx4] at hT; cases hT
          have ls : Lsts H4 [p] := fun c hc => ⟨xs, by rw [List.mem_singleton.mp hc]; exact hx4⟩
          have sB : But [p] H4 (upd H4 p (.lst (xs ++ [.ref T]))) := But.set (by simp)
          have xlen : xs.length ≤ 100 := by
            rw [hpx.len, List.length_map, List.length_append, List.length_take]
            omega
          refine ⟨hx4, fits (by omega), upd_same, ?_, fun c u hc => ?_⟩
          · rw [movesOf_take hi', ← List.append_assoc, List.map_append]
            exact (Pds.but sB ls (noLs_map noL_mv _) (hpx.same s3)).app (.cons (Mv.pd (by rw [upd_ne pT]; exact hT)) .nil)
          · rw [upd_ne (ne_of_none hc np)]; exact s3 _ _ (sm2 _ _ hc)
        refine ⟨_, rfl, _, rfl, _, _, rfl, rfl, rfl, _, rfl, ite2 (fun e => ⟨_, rfl, ?_⟩) (fun e => ?_)⟩
        · have e1 : i + 1 = o.many := by
            have : (0 : Int) + (i : Int) = (o.many : Int) - 1 := by injection of_decide_eq_true e
            omega
          rw [if_pos e1] at step
          refine ⟨_, rfl, .inl ⟨rfl, _, sqL_l hx⟩, _, rfl, _, rfl, _, _, rfl, rfl, _, rfl, _, rfl, _, _, rfl, rfl, _, rfl, by show 3 ≤ sizeLine; decide, fun T nT => ?_⟩
          obtain ⟨g1, g2, g3, g4, g5⟩ := step _ T rfl nT
          exact ⟨p, _, _, rfl, rfl, g1, g2, _, _, _, rfl, g3, g4, g5⟩
        · have e1 : ¬ i + 1 = o.many := fun z => e (by
            have : (0 : Int) + (i : Int) = (o.many : Int) - 1 := by omega
            exact decide_eq_true (congrArg V.int this))
          rw [if_neg e1] at step
          refine ⟨_, rfl, .inl ⟨rfl, _, sqL_l hx⟩, _, rfl, _, rfl, _, _, rfl, rfl, _, rfl, _, rfl, _, _, rfl, rfl, _, rfl, by show 3 ≤ sizeLine; decide, fun T nT => ?_⟩
          obtain ⟨g1, g2, g3, g4, g5⟩ := step _ T rfl nT
          exact ⟨p, _, _, rfl, rfl, g1, g2, _, _, _, rfl, g3, g4, g5⟩
      · obtain ⟨z8, z9, xs, rfl, hx, hpx, sm2⟩ := hp
        have et : (movesOf o k).take (o.many : Int).toNat = movesOf o k := List.take_of_length_le (by rw [movesOf_len]; simp)
        rw [et] at hpx
        refine ⟨_, rfl, ⟨_, _, _, _, _, _, o.later, f, done ++ movesOf o k, xs, rfl, hx, hpx, by rw [List.append_assoc]; exact hd, fun k' e => ?_, sm2⟩, ?_⟩
        · have := oo.later k' e
          omega
        · show leftAt 3 ords.length [some (.ref a), some (nV k0), some (.ref p), some (oV o.later), _, _, _, _, _, _] < leftAt 3 ords.length [some (.ref a), some (nV k0), some (.ref p), some (oV (some k)), _, _, _, _, _, _]
          cases hl : o.later with
          | none => simp [leftAt, oV, nV]; omega
          | some k' =>
            have := oo.later k' hl
            simp [leftAt, oV, nV]; omega
end
end Vt
namespace Vt
open PySem PySem.Spec PyProof.Rows L2
/-! ### data that is alike -/
mutual
def D.sm : D → Bool
  | .lst ds => decide (ds.length ≤ 100000) && smAll ds
  | .tup ds => decide (ds.length ≤ 100000) && smAll ds
  | _ => true
def smAll : List D → Bool
  | [] => true
  | d :: ds => d.sm && smAll ds
end
theorem sm_get : ∀ {ds : List D} {i : Nat} {d : D}, smAll ds = true → ds[i]? = some d → d.sm = true
  | [], _, _, _, e => by simp at e
  | x :: r, 0, d, h, e => by
    simp only [List.getElem?_cons_zero, Option.some.injEq] at e
    rw [smAll, Bool.and_eq_true] at h
    subst e; exact h.1
  | x :: r, i + 1, d, h, e => by
    rw [smAll, Bool.and_eq_true] at h
    exact sm_get (ds := r) (i := i) h.2 (by simpa using e)
theorem sm_map {α : Type} {f : α → D} (h : ∀ x, (f x).sm = true) : ∀ xs : List α, smAll (xs.map f) = true
  | [] => by rw [List.map_nil, smAll]
  | x :: r => by rw [List.map_cons, smAll, h x, sm_map h r]; rfl
theorem sm_nD (n : Nat) : (nD n).sm = true := by simp [nD, D.sm]
end Vt
namespace Vt
open PySem PySem.Spec PyProof.Rows L2
section
variable {P : Program} {w : World} {K : PySem.W.Frag} {mg : Str → Option Value} {base : Heap}
/-! ### the asker's moves -/
abbrev st_law_moves : Stmt := (topS 32)
abbrev nm_law_moves : List Str := ["_law_orders", "_law_number", "_law_found", "_law_source", "_law_goal", "_law_many", "_law_later", "_law_step"]
theorem sc_law_moves : FnScope ["_law_orders", "_law_number", "_law_found", "_law_source", "_law_goal", "_law_many", "_law_later", "_law_step"] ["_law_orders", "_law_number"] (defScope st_law_moves) := ⟨rfl, rfl, rfl, by decide +kernel, rfl, by decide +kernel, by decide +kernel⟩
theorem ok_lmoves {f : Addr} {fd : FuncData} (F : Fun K "_law_moves" "_law_moves" st_law_moves f fd) (z_range : mg "range" = none) (z_int : mg "int" = none) : FnOk P w K mg base CX0 1 f fd ["_law_orders", "_law_number"] spMoves := by
  refine F.ok sc_law_moves (fun vs H Q E h => ?_) (fun cdv A outer s H vs Q E hr h => ?_)
  · obtain ⟨a, os, ords, cells, k, rfl, _⟩ := h
    rfl
  · obtain ⟨a, os, ords, cells, k0, rfl, ha, hos, h4, hok, hk0, q⟩ := h
    refine ⟨_, (pss_cons (ps_set (i := 2) sc_law_moves.nd rfl (Or.inl rfl) (pe_lst pa_nil))
  (pss_cons (ps_while PassesOwn.never (pt_cmpR op_notN (pv 1) pe_non (nomark _))
  (pss_cons (ps_asg (pe_ix ix_lt (pv 0) (pv 1) (fun _ _ => rfl)) (pg_tup rfl (pgs_cons (pg_name (i := 3) sc_law_moves.nd rfl (Or.inl rfl)) (pgs_cons (pg_name (i := 4) sc_law_moves.nd rfl (Or.inl rfl)) (pgs_cons (pg_name (i := 5) sc_law_moves.nd rfl (Or.inl rfl)) (pgs_cons (pg_name (i := 6) sc_law_moves.nd rfl (Or.inl rfl)) pgs_nil))))))
  (pss_cons (ps_for PassesOwn.never rfl (pi_range1 (by rfl) z_range (pa_cons (pv 5) pa_nil)) (pg_name (i := 7) sc_law_moves.nd rfl (Or.inl rfl))
  (pss_one (ps_expr (pe_bm PySem.F.plainAttrs_list PySem.F.slot_list_append PySem.F.type_list_append mt_append (pv 2) (pa_cons (pe_tup (pa_cons (pe_op op_add (pv 3) (pv 7)) (pa_cons (pe_op op_add (pv 4) (pv 7)) (pa_cons (pe_ix ix_lt (pe_lst (pa_cons pe_non (pa_cons (pv 1) pa_nil))) (pe_callTy call_int1 (by rfl) z_int (by decide +kernel) (pa_cons (pe_cmpR op_eq (pe_op op_add (pv 7) pe_int) (pv 5) (nomark _)) pa_nil)) (fun _ _ => rfl)) pa_nil)))) pa_nil)))))
  (pss_one (ps_set (i := 1) sc_law_moves.nd rfl (Or.inl rfl) (pv 6))))))
  (pss_one (ps_ret (pv 2))))), ?_⟩
    refine ⟨Nat.zero_le _, fun p np => ?_⟩
    have olen : os.length = ords.length := by rw [hos.len, List.length_map]
    refine while_by (fun σ H' => ∃ (y4 y5 y6 y7 y8 : Option V) (at_ : Option Nat) (f : Nat) (done : List Mv) (xs : List V), σ = [some (.ref a), some (oV at_), some (.ref p), y4, y5, y6, y7, y8] ∧ H' p = some (.lst xs) ∧ Pds H' xs (done.map Mv.d) ∧
        done ++ chain ords f at_ = told ords k0 ∧ (∀ k, at_ = some k → k < ords.length ∧ ords.length ≤ k + f) ∧ Same H H') (fun σ _ => leftAt 1 ords.length σ)
      ⟨_, _, _, _, _, some k0, 4, [], [], rfl, upd_same, .nil, rfl, fun k e => by cases e; omega, same_new np⟩ (fun σ H1 hp => ?_) (fun σ H1 Q1 Q2 hq h => by obtain ⟨v, e, e2, k, e3, h⟩ := h; exact ⟨v, e, e2, k, e3, hq _ _ h⟩)
    obtain ⟨y4, y5, y6, y7, y8, at_, f, done, xs, rfl, hx, hpx, hd, hat, sm⟩ := hp
    refine ⟨_, rfl, rfl, _, rfl, ?_⟩
    cases at_ with
    | none =>
      refine iteF ⟨_, rfl, ?_⟩
      have : done = told ords k0 := by rw [← hd]; cases f <;> simp [chain]
      subst this
      exact q _ p xs sm np hx hpx
    | some k =>
      refine iteT ?_
      obtain ⟨hk, hf⟩ := hat k rfl
      obtain ⟨o, ho⟩ : ∃ o, ords[k]? = some o := ⟨ords[k], List.getElem?_eq_getElem hk⟩
      have oo := hok k o ho
      obtain ⟨v, hv, hpd⟩ := (hos.same sm).get (show (ords.map Ord.d)[k]? = some o.d by rw [List.getElem?_map, ho]; rfl)
      obtain ⟨oa, rfl, hoa⟩ := Ord.of hpd
      obtain ⟨f, rfl⟩ : ∃ f', f = f' + 1 := ⟨f - 1, by omega⟩
      have hch : chain ords (f + 1) (some k) = movesOf o k ++ chain ords f o.later := by rw [chain, ho]
      rw [hch] at hd
      have dlen : done.length + o.many ≤ 32 := by
        have h1 := told_len (ords := ords) (fun o ho => by
          obtain ⟨i, hi, rfl⟩ := List.mem_iff_getElem.mp ho
          exact (hok i _ (List.getElem?_eq_getElem hi)).eight) k0
        rw [← hd, List.length_append, List.length_append, movesOf_len] at h1
        omega
      refine ⟨_, rfl, _, rfl, a, os, (k : Int), .ref oa, rfl, rfl, sqA_t (sm _ _ ha), atI_nat hv, oa, _, rfl, sqT_t hoa, rfl, _, _, rfl, _, _, rfl, _, _, rfl, _, _, rfl, rfl, ?_⟩
      refine ⟨_, rfl, _, rfl, by have := oo.eight; omega, by have := oo.eight; omega, ?_⟩
      refine for_it (walk_range (lo := 0) (n := (o.many : Int).toNat)) (fun i σ H' => ∃ (y8 : Option V) (xs : List V), σ = [some (.ref a), some (nV k), some (.ref p), some (nV o.src), some (nV o.goal), some (nV o.many), some (oV o.later), y8] ∧ H' p = some (.lst xs) ∧
          Pds H' xs ((done ++ (movesOf o k).take i).map Mv.d) ∧ Same H H')
        ⟨_, xs, rfl, hx, by simpa using hpx, sm⟩ (fun _ _ _ _ _ => trivial) (fun i x σ H2 H3 hi hp hy => ?_) (fun σ H2 hp => ?_)
      · obtain ⟨z8, xs, rfl, hx, hpx, sm2⟩ := hp
        obtain ⟨rfl, rfl⟩ := hy
        have hi' : i < o.many := by simpa using hi
        refine ⟨_, rfl, .inl ⟨rfl, _, sqL_l hx⟩, _, rfl, _, rfl, _, _, rfl, rfl, _, rfl, _, rfl, _, _, rfl, rfl, _, rfl, by show 2 ≤ sizeLine; decide, fun L nL => ?_⟩
        have sL := same_new (o := .lst [.non, nV k]) nL
        have hL : (upd H3 L (.lst [.non, nV k])) L = some (.lst [.non, nV k]) := upd_same
        have hx1 := sL _ _ hx
        have hpx1 := hpx.same sL
        have sm3 := sm2.trans sL
        refine ⟨_, rfl, _, _, rfl, rfl, _, rfl, rfl, .inr ⟨_, rfl, ?_⟩⟩
        generalize upd H3 L (.lst [.non, nV k]) = H5 at hL hx1 hpx1 sm3
        have hv : ∃ (ix : Int), (if decide (V.int ((0 : Int) + (i : Int) + 1) = nV o.many) = true then (1 : Int) else 0) = ix ∧ atI [V.non, nV k] ix = some (oV (if i + 1 = o.many then some k else none)) := by
          refine ⟨_, rfl, ?_⟩
          by_cases e1 : i + 1 = o.many
          · have e2 : decide (V.int ((0 : Int) + (i : Int) + 1) = nV o.many) = true := decide_eq_true (congrArg V.int (by omega))
            rw [if_pos e1, if_pos e2]; rfl
          · rw [if_neg e1, if_neg (fun z => e1 (by
              have : (0 : Int) + (i : Int) + 1 = (o.many : Int) := by injection of_decide_eq_true z
              omega))]; rfl
        obtain ⟨ix, hix, hat'⟩ := hv
        refine ⟨L, _, ix, _, rfl, congrArg V.int hix, sqA_l hL, hat', by show 3 ≤ sizeLine; decide, fun T nT => ?_⟩
        have hmv : ∀ (H : Hp) (b : Addr), H b = some (.tup [.int ((o.src : Int) + (0 + (i : Int))), .int ((o.goal : Int) + (0 + (i : Int))), oV (if i + 1 = o.many then some k else none)]) → Pd H (.ref b) (mvAt o k i).d := fun H b h => by
          refine Mv.pd ?_
          rw [h]
          simp [Mv.vs, mvAt, nV]
        obtain ⟨g1, g2, g3⟩ := grow hx1 hpx1 (noLs_map noL_mv _) nT hmv
        have xlen : xs.length ≤ 100 := by
          rw [hpx.len, List.length_map, List.length_append, List.length_take]
          omega
        refine ⟨p, _, _, rfl, rfl, g1, fits (by omega), ?_⟩
        refine ⟨_, _, rfl, upd_same, ?_, But.new1 sm3 np g3⟩
        rw [movesOf_take hi', ← List.append_assoc, List.map_append]
        exact g2
      · obtain ⟨z8, xs, rfl, hx, hpx, sm2⟩ := hp
        have et : (movesOf o k).take (o.many : Int).toNat = movesOf o k := List.take_of_length_le (by rw [movesOf_len]; simp)
        rw [et] at hpx
        refine ⟨_, rfl, ⟨_, _, _, _, _, o.later, f, done ++ movesOf o k, xs, rfl, hx, hpx, by rw [List.append_assoc]; exact hd, fun k' e => ?_, sm2⟩, ?_⟩
        · have := oo.later k' e
          omega
        · show leftAt 1 ords.length [some (.ref a), some (oV o.later), some (.ref p), _, _, _, _, _] < leftAt 1 ords.length [some (.ref a), some (oV (some k)), some (.ref p), _, _, _, _, _]
          cases hl : o.later with
          | none => simp [leftAt, oV, nV]; omega
          | some k' =>
            have := oo.later k' hl
            simp [leftAt, oV, nV]; omega
end
end Vt
namespace Vt
open PySem PySem.Spec PyProof.Rows L2
/-! ### d.update(e), both of int and text keys -/
def tDUpd (td te : TE) : TE := fun σ H Q => td σ H fun x H1 => ∃ a, x = .ref a ∧ IsD H1 a ∧ te σ H1 fun y H2 => ∃ b kvs more, y = .ref b ∧ a ≠ b ∧ H2 a = some (.dK kvs) ∧ H2 b = some (.dK more) ∧ kvs.length + more.length ≤ sizeLine ∧ Q .non (upd H2 a (.dK (mergeK kvs more)))
section
variable {X : Cx} {o e : Expr} {apos cpos : Pos} {td ty : TE}
theorem pe_dupd (ho : PE X o td) (he : PE X e ty) (m : M1 X o "update" apos e cpos) : PE X (.Call (.Attribute o "update" apos) [e] [] cpos) (tDUpd td ty) := by
  refine ⟨fun pins s σ H Q I h => ?_⟩
  refine wpAny_Call_method m.base m.few m.line PySem.F.plainAttrs_dict PySem.F.slot_dict_update PySem.F.type_dict_update (thn (ho.run pins s σ H _ I h) fun u s1 ⟨x, H1, I1, rx, a, ex, d, q1⟩ => ?_)
  subst ex
  obtain rfl : u = Value.ref a := rx
  obtain ⟨t1, t2, _⟩ := isD_at I1 d
  refine ⟨t1, t2, ?_⟩
  rw [m.trees]
  refine Calls.callWith_builtin rfl (Calls.evalArgs_plain (Calls.spliced_cons (thn (he.run pins s1 σ H1 _ I1 q1) fun iv s2 ⟨y, H2, I2, ry, b, kvs, more, ey, ne, ea, eb, hz, q2⟩ => Calls.spliced_nil ?_)))
  subst ey
  obtain rfl : iv = Value.ref b := ry
  obtain ⟨z1, hd1, vs1, rel1, dd1⟩ := dk_of I2.hok ea
  obtain ⟨z2, hd2, vs2, rel2, dd2⟩ := dk_of I2.hok eb
  refine call_meetsIn PySem.F.slot_dict_update dd1.typeIs PySem.F.entry_dict_update (PySem.F.args_dict_update_2 _ _) (meets_dict_update (mixKind X.prog X.w) a b ne hd2)
    ⟨vs1, vs2, dd1, dd2, by rw [← rel1.length, ← rel2.length]; exact hz, fun h' dd' dd2' hs => ⟨.non, _, ?_, rfl, q2⟩⟩
  have he : ∃ q, h'.get? a = some q := let ⟨q, _, _, hq, _⟩ := dd'; ⟨q, hq⟩
  exact d_write I2 (by rw [ea]; exact True.intro) hs he (dk_new (Nat.le_trans (length_mergeK more kvs) hz) hd1 (KV.merge rel2 rel1) dd')
end
end Vt
namespace Vt
open PySem PySem.Spec PyProof.Rows L2
/-! ### the machine, plainly: memory, lines held, moves left, the story -/
structure Row where
  beat : Nat
  word : Str
  place : Nat
  num : Nat
def Row.vs (r : Row) : List V := [nV r.beat, .str r.word, nV r.place, nV r.num]
def Row.d (r : Row) : D := .tup [nD r.beat, .str r.word, nD r.place, nD r.num]
theorem Row.pd {H : Hp} {r : Row} {a : Addr} (h : H a = some (.tup r.vs)) : Pd H (.ref a) r.d := .tup h (.cons (.int _) (.cons (.str _) (.cons (.int _) (.cons (.int _) .nil))))
theorem Row.of {H : Hp} {r : Row} {v : V} (h : Pd H v r.d) : ∃ a, v = .ref a ∧ H a = some (.tup r.vs) := by
  cases h with
  | tup h hs =>
    cases hs with
    | cons h1 hs => cases h1; cases hs with
      | cons h2 hs => cases h2; cases hs with
        | cons h3 hs => cases h3; cases hs with
          | cons h4 hs =>
            cases h4; cases hs
            exact ⟨_, rfl, h⟩
theorem noL_row (r : Row) : r.d.noL = true := by simp [Row.d, D.noL, noLs, nD]
structure Mst where
  mem : List Nat
  held : List (Option (List Nat))
  tou : List Bool
  left : List Mv
  at_ : Nat
  beats : Nat
  rows : List Row
  pace : List Bool
namespace Mst
def tell (M : Mst) (w : Str) (p n : Nat) : Mst := { M with rows := M.rows ++ [⟨M.beats, w, p, n⟩] }
def holds (M : Mst) (l : Nat) : Bool := match M.held[l]? with
  | some (some _) => true
  | _ => false
def cellsOf (M : Mst) (l : Nat) : List Nat := match M.held[l]? with
  | some (some cs) => cs
  | _ => []
def touched (M : Mst) (l : Nat) : Bool := M.tou.getD l false
def take (M : Mst) (l : Nat) : Mst := if M.holds l = true then M else tell { M with held := M.held.set l (some ((M.mem.drop (4 * l)).take 4)) } "take" l 0
def readN (M : Mst) (c : Nat) : Nat := ((M.take (c / 4)).cellsOf (c / 4)).getD (c % 4) 0
def read (M : Mst) (c : Nat) : Mst := (M.take (c / 4)).tell "read" c (M.readN c)
def write0 (M : Mst) (c n : Nat) : Mst := { M with held := M.held.set (c / 4) (some ((M.cellsOf (c / 4)).set (c % 4) n)), tou := M.tou.set (c / 4) true }
def write (M : Mst) (c n : Nat) : Mst := ((M.take (c / 4)).write0 c n).tell "write" c n
def clean (M : Mst) (l : Nat) : Mst := if M.touched l = true then tell { M with mem := M.mem.take (4 * l) ++ M.cellsOf l ++ M.mem.drop (4 * l + 4), tou := M.tou.set l false } "clean" l 0 else M
def drop (M : Mst) (l : Nat) : Mst := if M.holds l = true then tell { M with held := M.held.set l none, tou := M.tou.set l false } "drop" l 0 else M
def deed (ords : List Ord) (M : Mst) : Deed → Mst
  | .set c n => M.write c n
  | .add c o => ((M.read c).read o).write c ((M.readN c + (M.read c).readN o) % 10)
  | .say c => (M.read c).tell "say" c (M.readN c)
  | .start k => tell { M with left := M.left ++ told ords k } "start" k 0
  | .wait => M
  | .clean l => M.clean l
  | .drop l => M.drop l
def idle (prog : List Deed) (M : Mst) : Bool := match prog[M.at_]? with
  | none => true
  | some d => decide (d = .wait) && !M.left.isEmpty
/-- the processor's part of a beat -/
def proc (ords : List Ord) (prog : List Deed) (M : Mst) : Mst := if M.idle prog = true then M else match prog[M.at_]? with
  | none => M
  | some d => { M.deed ords d with at_ := M.at_ + 1 }
/-- the carrier's, in which it moves -/
def carry (M : Mst) : Mst := match M.left with
  | [] => M
  | mv :: r =>
    let n := M.mem.getD mv.src 0
    let M1 := (tell { M with left := r, mem := M.mem.set mv.goal n } "fetch" mv.src n).tell "put" mv.goal n
    match mv.bell with
    | none => M1
    | some b => M1.tell "bell" b 0
/-- whether a truth is used up in this beat -/
def uses (prog : List Deed) (M M1 : Mst) : Bool := !M.idle prog && !M1.left.isEmpty && !M.pace.isEmpty
def beat (ords : List Ord) (prog : List Deed) (M : Mst) : Mst :=
  let M1 := M.proc ords prog
  let M2 := if uses prog M M1 = true then (if M.pace.headD true = true then { M1 with pace := M.pace.tail }.carry else { M1 with pace := M.pace.tail }) else M1.carry
  { M2 with beats := M.beats + 1 }
def over (prog : List Deed) (M : Mst) : Bool := decide (M.at_ = prog.length) && M.left.isEmpty
def run (ords : List Ord) (prog : List Deed) : Nat → Mst → Mst
  | 0, M => M
  | f + 1, M => if M.over prog = true then M else run ords prog f (M.beat ords prog)
def finish (M : Mst) : Mst := (((M.clean 0).clean 1).clean 2).clean 3
def begin (B : Brd) (pace : List Bool) : Mst := ⟨B.mem, List.replicate (B.mem.length / 4) none, List.replicate (B.mem.length / 4) false, [], 0, 0, [], pace⟩
/-- how far it is from its end -/
def mu (prog : List Deed) (M : Mst) : Nat := (prog.length - M.at_) * 100 + M.left.length
end Mst
def gone (B : Brd) (pace : List Bool) : Mst := (Mst.run B.ords B.prog 7000 (Mst.begin B pace)).finish
/-- what holds of a machine -/
structure MOk0 (cells : Nat) (M : Mst) : Prop where
  lines : cells = 4 ∨ cells = 8 ∨ cells = 12 ∨ cells = 16
  mem : M.mem.length = cells
  held : M.held.length = cells / 4
  tou : M.tou.length = cells / 4
  four : ∀ (l : Nat) (cs : List Nat), M.held[l]? = some (some cs) → cs.length = 4
  th : ∀ (l : Nat), M.touched l = true → M.holds l = true
  left : ∀ m ∈ M.left, m.src < cells ∧ m.goal < cells
structure MOk (cells : Nat) (prog : List Deed) (M : Mst) : Prop extends MOk0 cells M where
  at_ : M.at_ ≤ prog.length
  room : M.rows.length + 12 * M.mu prog ≤ 90000
  sixty : prog.length ≤ 60
  n32 : M.left.length ≤ 32 * M.at_
end Vt
namespace Vt
open PySem PySem.Spec PyProof.Rows L2
namespace Mst
theorem holds_iff {M : Mst} {l : Nat} : M.holds l = true ↔ ∃ cs, M.held[l]? = some (some cs) := by
  unfold holds
  split
  · rename_i cs e; exact ⟨fun _ => ⟨cs, e⟩, fun _ => rfl⟩
  · rename_i h; exact ⟨fun z => (nomatch z), fun ⟨cs, e⟩ => absurd e (h cs)⟩
theorem cellsOf_of {M : Mst} {l : Nat} {cs : List Nat} (e : M.held[l]? = some (some cs)) : M.cellsOf l = cs := by
  unfold cellsOf; rw [e]
theorem holds_lt {M : Mst} {l : Nat} (h : M.holds l = true) : l < M.held.length := by
  obtain ⟨cs, e⟩ := holds_iff.mp h
  exact (List.getElem?_eq_some_iff.mp e).1
end Mst
section
variable {cells : Nat} {M : Mst} {prog : List Deed} {ords : List Ord}
open Mst
theorem MOk0.line {c : Nat} (h : MOk0 cells M) (hc : c < cells) : c / 4 < cells / 4 := by
  have := h.lines
  omega
theorem MOk0.tell {w : Str} {p n : Nat} (h : MOk0 cells M) : MOk0 cells (M.tell w p n) := ⟨h.lines, h.mem, h.held, h.tou, h.four, h.th, h.left⟩
theorem MOk0.take {l : Nat} (h : MOk0 cells M) (hl : l < cells / 4) : MOk0 cells (M.take l) := by
  unfold Mst.take
  split
  · exact h
  · rename_i hn
    refine MOk0.tell ⟨h.lines, h.mem, by rw [List.length_set]; exact h.held, h.tou, fun k cs e => ?_, fun k e => ?_, h.left⟩
    · by_cases hk : l = k
      · subst hk
        rw [List.getElem?_set_self (by rw [h.held]; exact hl)] at e
        cases e
        rw [List.length_take, List.length_drop, h.mem]
        have := h.lines
        omega
      · rw [List.getElem?_set_ne hk] at e
        exact h.four k cs e
    · obtain ⟨cs, e'⟩ := holds_iff.mp (h.th k e)
      refine holds_iff.mpr ?_
      by_cases hk : l = k
      · subst hk
        exact ⟨_, List.getElem?_set_self (by rw [h.held]; exact hl)⟩
      · exact ⟨cs, by rw [List.getElem?_set_ne hk]; exact e'⟩
theorem take_holds {l : Nat} (h : MOk0 cells M) (hl : l < cells / 4) : (M.take l).holds l = true := by
  unfold Mst.take
  split
  · assumption
  · exact holds_iff.mpr ⟨_, List.getElem?_set_self (by rw [h.held]; exact hl)⟩
theorem MOk0.read {c : Nat} (h : MOk0 cells M) (hc : c < cells) : MOk0 cells (M.read c) := (h.take (h.line hc)).tell
theorem MOk0.write0 {c n : Nat} (h : MOk0 cells M) (hc : c < cells) (hh : M.holds (c / 4) = true) : MOk0 cells (M.write0 c n) := by
  have hl := h.line hc
  obtain ⟨cs0, e0⟩ := holds_iff.mp hh
  refine ⟨h.lines, h.mem, by simp only [Mst.write0, List.length_set]; exact h.held, by simp only [Mst.write0, List.length_set]; exact h.tou, fun k cs e => ?_, fun k e => ?_, h.left⟩
  · simp only [Mst.write0] at e
    by_cases hk : c / 4 = k
    · subst hk
      rw [List.getElem?_set_self (by rw [h.held]; exact hl)] at e
      cases e
      rw [List.length_set, cellsOf_of e0]
      exact h.four _ _ e0
    · rw [List.getElem?_set_ne hk] at e
      exact h.four k cs e
  · refine holds_iff.mpr ?_
    simp only [Mst.write0]
    by_cases hk : c / 4 = k
    · subst hk
      exact ⟨_, List.getElem?_set_self (by rw [h.held]; exact hl)⟩
    · simp only [Mst.touched, Mst.write0, List.getD_eq_getElem?_getD, List.getElem?_set_ne hk] at e
      obtain ⟨cs, e'⟩ := holds_iff.mp (h.th k (by simp only [Mst.touched, List.getD_eq_getElem?_getD]; exact e))
      exact ⟨cs, by rw [List.getElem?_set_ne hk]; exact e'⟩
theorem MOk0.write {c n : Nat} (h : MOk0 cells M) (hc : c < cells) : MOk0 cells (M.write c n) :=
  ((h.take (h.line hc)).write0 hc (take_holds h (h.line hc))).tell
theorem touched_set {l k : Nat} {M : Mst} {b : Bool} : (List.getD (M.tou.set l b) k false = true) → (k = l ∧ b = true) ∨ (k ≠ l ∧ M.touched k = true) := fun e => by
  rw [List.getD_eq_getElem?_getD] at e
  by_cases hk : l = k
  · subst hk
    rcases Nat.lt_or_ge l M.tou.length with h | h
    · rw [List.getElem?_set_self h] at e
      exact .inl ⟨rfl, by simpa using e⟩
    · rw [List.getElem?_eq_none (by rw [List.length_set]; exact h)] at e
      simp at e
  · rw [List.getElem?_set_ne hk] at e
    exact .inr ⟨fun z => hk z.symm, by rw [Mst.touched, List.getD_eq_getElem?_getD]; exact e⟩
theorem MOk0.clean {l : Nat} (h : MOk0 cells M) : MOk0 cells (M.clean l) := by
  unfold Mst.clean
  split
  · rename_i ht
    have hh := h.th l ht
    obtain ⟨cs, e⟩ := holds_iff.mp hh
    have hl := holds_lt hh
    have hlen : (M.mem.take (4 * l) ++ M.cellsOf l ++ M.mem.drop (4 * l + 4)).length = cells := by
      rw [List.length_append, List.length_append, List.length_take, List.length_drop, cellsOf_of e, h.four l cs e, h.mem]
      have := h.lines
      have := h.held
      omega
    refine MOk0.tell ⟨h.lines, hlen, h.held, by rw [List.length_set]; exact h.tou, h.four, fun k e' => ?_, h.left⟩
    rcases touched_set e' with ⟨_, z⟩ | ⟨_, z⟩
    · cases z
    · exact h.th k z
  · exact h
theorem MOk0.drop {l : Nat} (h : MOk0 cells M) : MOk0 cells (M.drop l) := by
  unfold Mst.drop
  split
  · rename_i hh
    have hl := holds_lt hh
    refine MOk0.tell ⟨h.lines, h.mem, by rw [List.length_set]; exact h.held, by rw [List.length_set]; exact h.tou, fun k cs e => ?_, fun k e' => ?_, h.left⟩
    · by_cases hk : l = k
      · subst hk
        rw [List.getElem?_set_self hl] at e
        cases e
      · rw [List.getElem?_set_ne hk] at e
        exact h.four k cs e
    · rcases touched_set e' with ⟨_, z⟩ | ⟨hk, z⟩
      · cases z
      · obtain ⟨cs, e⟩ := holds_iff.mp (h.th k z)
        exact holds_iff.mpr ⟨cs, by rw [List.getElem?_set_ne (fun z => hk z.symm)]; exact e⟩
  · exact h
theorem MOk0.deed {d : Deed} (h : MOk0 cells M) (hok : ∀ (i : Nat) (o : Ord), ords[i]? = some o → OrdOk o i ords.length cells) (hd : DeedOk d ords.length cells) : MOk0 cells (M.deed ords d) := by
  cases d with
  | set c n => exact h.write hd.1
  | add c o => exact ((h.read hd.1).read hd.2).write hd.1
  | say c => exact (h.read hd).tell
  | start k =>
    refine MOk0.tell ⟨h.lines, h.mem, h.held, h.tou, h.four, h.th, fun m hm => ?_⟩
    rcases List.mem_append.mp hm with q | q
    · exact h.left m q
    · have hb : ∀ f k, ∀ m ∈ chain ords f k, m.src < cells ∧ m.goal < cells := by
        intro f
        induction f with
        | zero => intro k m hm; cases k <;> simp [chain] at hm
        | succ f ih =>
          intro k m hm
          cases k with
          | none => simp [chain] at hm
          | some k =>
            rw [chain] at hm
            split at hm
            · simp at hm
            · rename_i o e
              rcases List.mem_append.mp hm with q | q
              · obtain ⟨s, hs, rfl⟩ := List.mem_map.mp q
                have := List.mem_range.mp hs
                have := (hok k o e).src
                have := (hok k o e).goal
                simp only [mvAt]; omega
              · exact ih o.later m q
      exact hb 4 (some k) m q
  | wait => exact h
  | clean l => exact h.clean
  | drop l => exact h.drop
theorem MOk0.carry (h : MOk0 cells M) : MOk0 cells M.carry := by
  unfold Mst.carry
  split
  · exact h
  · rename_i mv r e
    have hl : ∀ m ∈ r, m.src < cells ∧ m.goal < cells := fun m hm => h.left m (by rw [e]; exact List.mem_cons_of_mem _ hm)
    have base : MOk0 cells { M with left := r, mem := M.mem.set mv.goal (M.mem.getD mv.src 0) } := ⟨h.lines, by rw [List.length_set]; exact h.mem, h.held, h.tou, h.four, h.th, hl⟩
    dsimp only
    split
    · exact base.tell.tell
    · exact base.tell.tell.tell
/-! ### how much is told, and how far the end is -/
theorem take_rows {l : Nat} : (M.take l).rows.length ≤ M.rows.length + 1 ∧ (M.take l).left = M.left ∧ (M.take l).at_ = M.at_ ∧ (M.take l).beats = M.beats ∧ (M.take l).pace = M.pace := by
  unfold Mst.take
  split
  · exact ⟨by omega, rfl, rfl, rfl, rfl⟩
  · exact ⟨by simp [Mst.tell], rfl, rfl, rfl, rfl⟩
theorem read_rows {c : Nat} : (M.read c).rows.length ≤ M.rows.length + 2 ∧ (M.read c).left = M.left ∧ (M.read c).at_ = M.at_ ∧ (M.read c).beats = M.beats ∧ (M.read c).pace = M.pace := by
  obtain ⟨h1, h2, h3, h4, h5⟩ := take_rows (M := M) (l := c / 4)
  refine ⟨?_, h2, h3, h4, h5⟩
  simp only [Mst.read, Mst.tell, List.length_append, List.length_cons, List.length_nil]; omega
theorem write_rows {c n : Nat} : (M.write c n).rows.length ≤ M.rows.length + 2 ∧ (M.write c n).left = M.left ∧ (M.write c n).at_ = M.at_ ∧ (M.write c n).beats = M.beats ∧ (M.write c n).pace = M.pace := by
  obtain ⟨h1, h2, h3, h4, h5⟩ := take_rows (M := M) (l := c / 4)
  refine ⟨?_, h2, h3, h4, h5⟩
  simp only [Mst.write, Mst.tell, Mst.write0, List.length_append, List.length_cons, List.length_nil]; omega
theorem clean_rows {l : Nat} : (M.clean l).rows.length ≤ M.rows.length + 1 ∧ (M.clean l).left = M.left ∧ (M.clean l).at_ = M.at_ ∧ (M.clean l).beats = M.beats ∧ (M.clean l).pace = M.pace := by
  unfold Mst.clean
  split
  · exact ⟨by simp [Mst.tell], rfl, rfl, rfl, rfl⟩
  · exact ⟨by omega, rfl, rfl, rfl, rfl⟩
theorem drop_rows {l : Nat} : (M.drop l).rows.length ≤ M.rows.length + 1 ∧ (M.drop l).left = M.left ∧ (M.drop l).at_ = M.at_ ∧ (M.drop l).beats = M.beats ∧ (M.drop l).pace = M.pace := by
  unfold Mst.drop
  split
  · exact ⟨by simp [Mst.tell], rfl, rfl, rfl, rfl⟩
  · exact ⟨by omega, rfl, rfl, rfl, rfl⟩
theorem deed_rows {d : Deed} (hm : ∀ o ∈ ords, o.many ≤ 8) : (M.deed ords d).rows.length ≤ M.rows.length + 6 ∧ (M.deed ords d).left.length ≤ M.left.length + 32 ∧ (M.deed ords d).at_ = M.at_ ∧ (M.deed ords d).beats = M.beats ∧ (M.deed ords d).pace = M.pace ∧ (d = .wait → M.deed ords d = M) := by
  cases d with
  | set c n =>
    obtain ⟨h1, h2, h3, h4, h5⟩ := write_rows (M := M) (c := c) (n := n)
    exact ⟨by simp only [Mst.deed]; omega, by simp only [Mst.deed]; rw [h2]; omega, h3, h4, h5, fun z => nomatch z⟩
  | add c o =>
    obtain ⟨h1, h2, h3, h4, h5⟩ := read_rows (M := M) (c := c)
    obtain ⟨g1, g2, g3, g4, g5⟩ := read_rows (M := M.read c) (c := o)
    obtain ⟨k1, k2, k3, k4, k5⟩ := write_rows (M := (M.read c).read o) (c := c) (n := (M.readN c + (M.read c).readN o) % 10)
    exact ⟨by simp only [Mst.deed]; omega, by simp only [Mst.deed]; rw [k2, g2, h2]; omega, by simp only [Mst.deed]; rw [k3, g3, h3], by simp only [Mst.deed]; rw [k4, g4, h4], by simp only [Mst.deed]; rw [k5, g5, h5], fun z => nomatch z⟩
  | say c =>
    obtain ⟨h1, h2, h3, h4, h5⟩ := read_rows (M := M) (c := c)
    exact ⟨by simp only [Mst.deed, Mst.tell, List.length_append, List.length_cons, List.length_nil]; omega, by simp only [Mst.deed, Mst.tell]; rw [h2]; omega, h3, h4, h5, fun z => nomatch z⟩
  | start k =>
    have := told_len hm k
    exact ⟨by simp [Mst.deed, Mst.tell], by simp only [Mst.deed, Mst.tell, List.length_append]; omega, rfl, rfl, rfl, fun z => nomatch z⟩
  | wait => exact ⟨by simp only [Mst.deed]; omega, by simp only [Mst.deed]; omega, rfl, rfl, rfl, fun _ => rfl⟩
  | clean l =>
    obtain ⟨h1, h2, h3, h4, h5⟩ := clean_rows (M := M) (l := l)
    exact ⟨by simp only [Mst.deed]; omega, by simp only [Mst.deed]; rw [h2]; omega, h3, h4, h5, fun z => nomatch z⟩
  | drop l =>
    obtain ⟨h1, h2, h3, h4, h5⟩ := drop_rows (M := M) (l := l)
    exact ⟨by simp only [Mst.deed]; omega, by simp only [Mst.deed]; rw [h2]; omega, h3, h4, h5, fun z => nomatch z⟩
theorem carry_rows : M.carry.rows.length ≤ M.rows.length + 3 ∧ M.carry.left = M.left.tail ∧ M.carry.at_ = M.at_ ∧ M.carry.beats = M.beats ∧ M.carry.pace = M.pace := by
  unfold Mst.carry
  split
  · rename_i e; exact ⟨by omega, by rw [e]; rfl, rfl, rfl, rfl⟩
  · rename_i mv r e
    dsimp only
    split
    · exact ⟨by simp [Mst.tell], by rw [e]; rfl, rfl, rfl, rfl⟩
    · exact ⟨by simp [Mst.tell], by rw [e]; rfl, rfl, rfl, rfl⟩
/-- what is not over goes on -/
theorem beat_ok (h : MOk cells prog M) (hno : M.over prog = false) (hok : ∀ (i : Nat) (o : Ord), ords[i]? = some o → OrdOk o i ords.length cells) (hm : ∀ o ∈ ords, o.many ≤ 8) (hp : ∀ d ∈ prog, DeedOk d ords.length cells) :
    MOk cells prog (M.beat ords prog) ∧ (M.beat ords prog).mu prog < M.mu prog := by
  -- the processor
  have key : ∀ M1, M1 = M.proc ords prog → MOk0 cells M1 ∧ M1.pace = M.pace ∧ M1.beats = M.beats ∧ M1.rows.length ≤ M.rows.length + 6 ∧
      ((M.idle prog = true ∧ M1 = M ∧ M.left ≠ []) ∨ (M.idle prog = false ∧ M1.at_ = M.at_ + 1 ∧ M.at_ < prog.length ∧ M1.left.length ≤ M.left.length + 32)) := by
    intro M1 e
    unfold Mst.proc at e
    split at e
    · rename_i hi
      refine ⟨by rw [e]; exact h.toMOk0, by rw [e], by rw [e], by rw [e]; omega, .inl ⟨hi, e, fun z => ?_⟩⟩
      unfold Mst.idle at hi
      unfold Mst.over at hno
      split at hi
      · rename_i e
        have := List.getElem?_eq_none_iff.mp e
        have := h.at_
        rw [z, decide_eq_true (show M.at_ = prog.length by omega)] at hno
        simp at hno
      · rw [z] at hi; simp at hi
    · rename_i hi
      have hi' : M.idle prog = false := by simpa using hi
      split at e
      · rename_i e0
        unfold Mst.idle at hi'
        rw [e0] at hi'; cases hi'
      · rename_i d e0
        subst e
        have hd := hp d (List.mem_of_getElem? e0)
        have h0 := h.toMOk0.deed hok hd
        obtain ⟨h1, h2, h3, h4, h5, _⟩ := deed_rows (M := M) (d := d) hm
        exact ⟨⟨h0.lines, h0.mem, h0.held, h0.tou, h0.four, h0.th, h0.left⟩, h5, h4, h1, .inr ⟨hi', rfl, (List.getElem?_eq_some_iff.mp e0).1, h2⟩⟩
  obtain ⟨k1, k2, k3, k4, k5⟩ := key _ rfl
  unfold Mst.beat
  generalize M.proc ords prog = M1 at *
  dsimp only
  -- the carrier
  have fin : ∀ M2 : Mst, MOk0 cells M2 → M2.rows.length ≤ M1.rows.length + 3 → M2.at_ = M1.at_ → (M2.left = M1.left.tail ∨ (M2.left = M1.left ∧ M.idle prog = false)) →
      MOk cells prog { M2 with beats := M.beats + 1 } ∧ Mst.mu prog { M2 with beats := M.beats + 1 } < M.mu prog := fun M2 g0 g1 g2 g3 => by
    have hroom := h.room
    have hat := h.at_
    have hn32 := h.n32
    have hmu : Mst.mu prog { M2 with beats := M.beats + 1 } < M.mu prog := by
      simp only [Mst.mu] at hroom ⊢
      rw [g2]
      rcases k5 with ⟨hi, rfl, hl⟩ | ⟨hi, ha, hlt, hl⟩
      · rcases g3 with g3 | ⟨_, g3⟩
        · rw [g3, List.length_tail]
          have : 0 < M1.left.length := List.length_pos_iff.mpr hl
          omega
        · rw [hi] at g3; cases g3
      · have : M2.left.length ≤ M1.left.length := by
          rcases g3 with g3 | ⟨g3, _⟩
          · rw [g3, List.length_tail]; omega
          · rw [g3]; omega
        rw [ha]; omega
    refine ⟨⟨⟨g0.lines, g0.mem, g0.held, g0.tou, g0.four, g0.th, g0.left⟩, ?_, ?_, h.sixty, ?_⟩, hmu⟩
    · show M2.at_ ≤ prog.length
      rw [g2]
      rcases k5 with ⟨_, rfl, _⟩ | ⟨_, ha, hlt, _⟩
      · exact hat
      · rw [ha]; omega
    · show M2.rows.length + 12 * Mst.mu prog { M2 with beats := M.beats + 1 } ≤ 90000
      omega
    · show M2.left.length ≤ 32 * M2.at_
      have : M2.left.length ≤ M1.left.length := by
        rcases g3 with g3 | ⟨g3, _⟩
        · rw [g3, List.length_tail]; omega
        · rw [g3]; omega
      rw [g2]
      rcases k5 with ⟨_, rfl, _⟩ | ⟨_, ha, hlt, hl⟩
      · omega
      · rw [ha]; omega
  split
  · rename_i hu
    have hi : M.idle prog = false := by
      simp only [Mst.uses, Bool.and_eq_true, Bool.not_eq_true'] at hu
      exact hu.1.1
    have kp : MOk0 cells { M1 with pace := M.pace.tail } := ⟨k1.lines, k1.mem, k1.held, k1.tou, k1.four, k1.th, k1.left⟩
    split
    · obtain ⟨c1, c2, c3, c4, c5⟩ := carry_rows (M := { M1 with pace := M.pace.tail })
      exact fin _ kp.carry c1 c3 (.inl c2)
    · exact fin _ kp (by show M1.rows.length ≤ _; omega) rfl (.inr ⟨rfl, hi⟩)
  · obtain ⟨c1, c2, c3, c4, c5⟩ := carry_rows (M := M1)
    exact fin _ k1.carry c1 c3 (.inl c2)
theorem begin_ok {B : Brd} (ok : BrdOk B) (pace : List Bool) : MOk B.mem.length B.prog (Mst.begin B pace) := by
  refine ⟨⟨ok.cells, rfl, by simp [Mst.begin], by simp [Mst.begin], fun l cs e => ?_, fun l e => ?_, by simp [Mst.begin]⟩, Nat.zero_le _, ?_, ok.sixty, Nat.zero_le _⟩
  · simp only [Mst.begin, List.getElem?_replicate] at e
    split at e <;> simp at e
  · simp only [Mst.begin, Mst.touched, List.getD_eq_getElem?_getD, List.getElem?_replicate] at e
    split at e <;> simp at e
  · have := ok.sixty
    simp only [Mst.begin, Mst.mu, List.length_nil]; omega
theorem begin_mu {B : Brd} (ok : BrdOk B) (pace : List Bool) : (Mst.begin B pace).mu B.prog ≤ 7000 := by
  have := ok.sixty
  simp only [Mst.begin, Mst.mu, List.length_nil]; omega
/-- a run that has come to its end -/
theorem run_over {f : Nat} (h : M.over prog = true) : Mst.run ords prog f M = M := by
  cases f with
  | zero => rfl
  | succ f => rw [Mst.run, if_pos h]
/-- a run that goes on -/
theorem run_on {f : Nat} (ha : M.at_ ≤ prog.length) (h : M.over prog = false) (hf : M.mu prog ≤ f) : ∃ f', f = f' + 1 ∧ Mst.run ords prog f M = Mst.run ords prog f' (M.beat ords prog) := by
  cases f with
  | zero =>
    exfalso
    unfold Mst.over at h
    simp only [Mst.mu] at hf
    have h1 : M.left = [] := List.length_eq_zero_iff.mp (by omega)
    rw [h1, decide_eq_true (show M.at_ = prog.length by omega)] at h
    cases h
  | succ f => exact ⟨f, rfl, by rw [Mst.run, if_neg (by rw [h]; simp)]⟩
end
end Vt
namespace Vt
open PySem PySem.Spec PyProof.Rows L2
def cleans (M : Mst) : Nat → Mst
  | 0 => M
  | n + 1 => (cleans M n).clean n
theorem cleans_ok {cells : Nat} {M : Mst} (h : MOk0 cells M) : ∀ n, MOk0 cells (cleans M n) ∧ (cleans M n).rows.length ≤ M.rows.length + n
  | 0 => ⟨h, Nat.le_refl _⟩
  | n + 1 => by
    obtain ⟨h1, h2⟩ := cleans_ok h n
    have := (clean_rows (M := cleans M n) (l := n)).1
    exact ⟨h1.clean, by show ((cleans M n).clean n).rows.length ≤ _; omega⟩
theorem cut_nat {α : Type} (xs : List V) (a b : Nat) (ha : a ≤ b) (hb : b ≤ xs.length) : cutV xs (some (a : Int)) (some (b : Int)) = (xs.drop a).take (b - a) := by
  unfold cutV
  rw [HT.sIx_nat, HT.sIx_nat, Nat.min_eq_left hb, Nat.min_eq_left (show a ≤ xs.length by omega)]
/-! ### the next deed's number changes nothing else -/
def atN (M : Mst) (a : Nat) : Mst := { M with at_ := a }
theorem take_at {M : Mst} {a l : Nat} : (atN M a).take l = atN (M.take l) a := by
  unfold Mst.take
  show (if M.holds l = true then _ else _) = _
  split <;> rfl
theorem readN_at {M : Mst} {a c : Nat} : (atN M a).readN c = M.readN c := by
  unfold Mst.readN; rw [take_at]; rfl
theorem read_at {M : Mst} {a c : Nat} : (atN M a).read c = atN (M.read c) a := by
  unfold Mst.read; rw [take_at, readN_at]; rfl
theorem write_at {M : Mst} {a c n : Nat} : (atN M a).write c n = atN (M.write c n) a := by
  unfold Mst.write; rw [take_at]; rfl
theorem clean_at {M : Mst} {a l : Nat} : (atN M a).clean l = atN (M.clean l) a := by
  unfold Mst.clean
  show (if M.touched l = true then _ else _) = _
  split <;> rfl
theorem drop_at {M : Mst} {a l : Nat} : (atN M a).drop l = atN (M.drop l) a := by
  unfold Mst.drop
  show (if M.holds l = true then _ else _) = _
  split <;> rfl
theorem proc_some {M : Mst} {ords : List Ord} {prog : List Deed} {d : Deed} (h : M.idle prog = false) (e : prog[M.at_]? = some d) : M.proc ords prog = atN (M.deed ords d) (M.at_ + 1) := by
  unfold Mst.proc
  rw [if_neg (by rw [h]; simp), e]; rfl
theorem proc_idle {M : Mst} {ords : List Ord} {prog : List Deed} (h : M.idle prog = true) : M.proc ords prog = M := by
  unfold Mst.proc
  rw [if_pos h]
end Vt
namespace Vt
open PySem PySem.Spec PyProof.Rows L2
section
variable {H H' : Hp}
mutual
theorem Pd.tups (s : ∀ a xs, H a = some (.tup xs) → H' a = some (.tup xs)) : ∀ {d : D} {v : V}, d.noL = true → Pd H v d → Pd H' v d
  | .non, _, _, .non => .non
  | .bl _, _, _, .bl b => .bl b
  | .int _, _, _, .int b => .int b
  | .str _, _, _, .str b => .str b
  | .tup ds, _, n, .tup h hs => .tup (s _ _ h) (Pds.tups s (by rw [D.noL] at n; exact n) hs)
  | .lst ds, _, n, .lst h hs => by rw [D.noL] at n; cases n
theorem Pds.tups (s : ∀ a xs, H a = some (.tup xs) → H' a = some (.tup xs)) : ∀ {ds : List D} {vs : List V}, noLs ds = true → Pds H vs ds → Pds H' vs ds
  | [], _, _, .nil => .nil
  | d :: ds, _, n, .cons h hs => by
    rw [noLs, Bool.and_eq_true] at n
    exact .cons (Pd.tups s n.1 h) (Pds.tups s n.2 hs)
end
end
theorem big {n : Nat} (h : n ≤ 1000000) : n < sizeLine := Nat.lt_of_le_of_lt h (by decide)
theorem big' {n : Nat} (h : n ≤ 1000000) : n ≤ sizeLine := Nat.le_of_lt (big h)
/-! ### the asker's machine in the heap -/
/-- where its parts stand -/
structure Ad where
  mem : Addr
  held : Addr
  tou : Addr
  left : Addr
  rows : Addr
  hk : List (Key × V)
  tk : List (Key × V)
  ha : Nat → Addr
  xs : List V
  ls : List V
def kM (A : Ad) (idle : Bool) (at_ beats : Nat) : List (Key × V) :=
  [(.inr "memory", .ref A.mem), (.inr "held", .ref A.held), (.inr "touched", .ref A.tou), (.inr "left", .ref A.left), (.inr "rows", .ref A.rows), (.inr "idle", .bl idle), (.inr "at", nV at_), (.inr "beats", nV beats), (.inr "reads", .int 0), (.inr "fetches", .int 0)]
def lk (l : Nat) : Key := .inl (l : Int)
theorem lk_inj {a b : Nat} (h : lk a = lk b) : a = b := by
  have : (a : Int) = b := Sum.inl.inj h
  omega
/-- a dict by lines -/
structure ByLine (kvs : List (Key × V)) (f : Nat → Option V) : Prop where
  val : ∀ l, valV kvs (lk l) = f l
  nd : (kvs.map (·.1)).Nodup
  low : ∀ k ∈ kvs.map (·.1), ∃ l : Nat, l < 4 ∧ k = lk l
theorem len_sub {α : Type} [DecidableEq α] : ∀ (l t : List α), l.Nodup → (∀ x ∈ l, x ∈ t) → l.length ≤ t.length
  | [], t, _, _ => Nat.zero_le _
  | x :: r, t, nd, h => by
    have hx : x ∈ t := h x (by simp)
    obtain ⟨n1, n2⟩ := List.nodup_cons.mp nd
    have := len_sub r (t.erase x) n2 fun y hy => (List.mem_erase_of_ne (fun e => n1 (by rw [← e]; exact hy))).mpr (h y (by simp [hy]))
    rw [List.length_erase_of_mem hx] at this
    have : 0 < t.length := List.length_pos_of_mem hx
    simp only [List.length_cons]; omega
theorem ByLine.len {kvs : List (Key × V)} {f : Nat → Option V} (h : ByLine kvs f) : kvs.length ≤ 4 := by
  have := len_sub (kvs.map (·.1)) [lk 0, lk 1, lk 2, lk 3] h.nd fun k hk => by
    obtain ⟨l, hl, rfl⟩ := h.low k hk
    rcases (show l = 0 ∨ l = 1 ∨ l = 2 ∨ l = 3 by omega) with rfl | rfl | rfl | rfl <;> simp
  simpa using this
theorem putK_keys {kvs : List (Key × V)} {k : Key} {v : V} : ∀ j ∈ (putK kvs k v).map (·.1), j ∈ kvs.map (·.1) ∨ j = k := by
  intro j hj
  unfold putK at hj
  split at hj
  · rw [List.map_map] at hj
    left
    have : ((fun p : Key × V => p.1) ∘ fun kv : Key × V => if kv.1 = k then (kv.1, v) else kv) = fun p => p.1 := by
      funext p; simp only [Function.comp]; split <;> rfl
    rw [this] at hj; exact hj
  · rw [List.map_append] at hj
    rcases List.mem_append.mp hj with h | h
    · exact .inl h
    · exact .inr (by simpa using h)
theorem ByLine.put {kvs : List (Key × V)} {f : Nat → Option V} {l : Nat} {v : V} (h : ByLine kvs f) (hl : l < 4) : ByLine (putK kvs (lk l) v) (fun k => if k = l then some v else f k) := by
  refine ⟨fun k => ?_, ?_, fun k hk => ?_⟩
  · rw [valV_put]
    by_cases e : k = l
    · rw [if_pos (by rw [e]), if_pos e]
    · rw [if_neg (fun z => e (lk_inj z)), if_neg e]; exact h.val k
  · cases hv : valV kvs (lk l) with
    | none => exact nd_putK v h.nd hv
    | some w =>
      unfold putK
      rw [if_pos (by rw [valV_any, hv]; rfl)]
      rw [List.map_map]
      have : ((fun p : Key × V => p.1) ∘ fun kv : Key × V => if kv.1 = lk l then (kv.1, v) else kv) = fun p => p.1 := by
        funext p; simp only [Function.comp]; split <;> rfl
      rw [this]; exact h.nd
  · rcases putK_keys k hk with q | q
    · exact h.low k q
    · exact ⟨l, hl, q⟩
theorem valV_drop {kvs : List (Key × V)} {k j : Key} (hn : (kvs.map (·.1)).Nodup) : valV (dropK kvs k) j = if j = k then none else valV kvs j := by
  induction kvs with
  | nil => simp [dropK, valV]
  | cons p r ih =>
    obtain ⟨n1, n2⟩ := List.nodup_cons.mp (show (p.1 :: r.map (·.1)).Nodup from hn)
    by_cases e : p.1 = k
    · rw [dropK_pos e, ih n2]
      by_cases ej : j = k
      · rw [if_pos ej, if_pos ej]
      · rw [if_neg ej, if_neg ej, valV_neg (fun z => ej (z.symm.trans e))]
    · rw [dropK_neg e]
      by_cases e2 : p.1 = j
      · rw [valV_pos e2, valV_pos e2, if_neg (fun z => e (e2.trans z))]
      · rw [valV_neg e2, valV_neg e2, ih n2]
theorem ByLine.dropL {kvs : List (Key × V)} {f : Nat → Option V} {l : Nat} (h : ByLine kvs f) : ByLine (dropK kvs (lk l)) (fun k => if k = l then none else f k) := by
  refine ⟨fun k => ?_, nd_dropK h.nd, fun k hk => ?_⟩
  · rw [valV_drop h.nd]
    by_cases e : k = l
    · rw [if_pos (by rw [e]), if_pos e]
    · rw [if_neg (fun z => e (lk_inj z)), if_neg e]; exact h.val k
  · obtain ⟨p, hp, rfl⟩ := List.mem_map.mp hk
    exact h.low _ (List.mem_map.mpr ⟨p, dropK_mem hp, rfl⟩)
theorem ByLine.congr {kvs : List (Key × V)} {f g : Nat → Option V} (h : ByLine kvs f) (e : ∀ l, f l = g l) : ByLine kvs g := ⟨fun l => (h.val l).trans (e l), h.nd, h.low⟩
structure LM (ow : Addr → Prop) (H : Hp) (m : Addr) (idle : Bool) (M : Mst) (A : Ad) : Prop where
  obj : H m = some (.dK (kM A idle M.at_ M.beats))
  mem : H A.mem = some (.lst (M.mem.map nV))
  held : H A.held = some (.dK A.hk)
  tou : H A.tou = some (.dK A.tk)
  left : H A.left = some (.lst A.ls)
  leftD : Pds H A.ls (M.left.map Mv.d)
  rows : H A.rows = some (.lst A.xs)
  rowsD : Pds H A.xs (M.rows.map Row.d)
  line : ∀ l, M.holds l = true → H (A.ha l) = some (.lst ((M.cellsOf l).map nV))
  hk : ByLine A.hk fun l => if M.holds l = true then some (.ref (A.ha l)) else none
  tk : ByLine A.tk fun l => if M.touched l = true then some (.bl true) else none
  inj : ∀ l k, M.holds l = true → M.holds k = true → A.ha l = A.ha k → l = k
  om : ow m
  oh : ow A.held
  ot : ow A.tou
  or : ow A.rows
  ol : ∀ l, M.holds l = true → ow (A.ha l)
  nmem : ¬ ow A.mem
  nleft : ¬ ow A.left
  mh : m ≠ A.held
  mt : m ≠ A.tou
  ht : A.held ≠ A.tou
  rl : ∀ l, M.holds l = true → A.rows ≠ A.ha l
  kind : ∀ c, ow c → (∃ xs, H c = some (.lst xs)) ∨ ∃ kvs, H c = some (.dK kvs)
/-- what is not the machine's own stands, and is not its own then -/
def Keep (ow ow' : Addr → Prop) (H H' : Hp) : Prop := ∀ c o, ¬ ow c → H c = some o → H' c = some o ∧ ¬ ow' c
theorem Keep.refl {ow : Addr → Prop} {H : Hp} : Keep ow ow H H := fun c o n h => ⟨h, n⟩
theorem Keep.trans {o1 o2 o3 : Addr → Prop} {H1 H2 H3 : Hp} (a : Keep o1 o2 H1 H2) (b : Keep o2 o3 H2 H3) : Keep o1 o3 H1 H3 := fun c o n h => by
  obtain ⟨h1, n1⟩ := a c o n h
  exact b c o n1 h1
theorem Same.keep {ow : Addr → Prop} {H H' : Hp} (s : Same H H') : Keep ow ow H H' := fun c o n h => ⟨s c o h, n⟩
theorem Keep.setOwn {ow : Addr → Prop} {H : Hp} {q : Addr} {o : HO} (hq : ow q) : Keep ow ow H (upd H q o) := fun c u n h => ⟨by rw [upd_ne (fun e => n (by rw [e]; exact hq))]; exact h, n⟩
section
variable {ow : Addr → Prop} {H H' : Hp} {m : Addr} {idle : Bool} {M : Mst} {A : Ad}
theorem LM.notTup (h : LM ow H m idle M A) {c : Addr} {xs : List V} (e : H c = some (.tup xs)) : ¬ ow c := fun n => by
  rcases h.kind c n with ⟨ys, q⟩ | ⟨ys, q⟩
  · rw [q] at e; cases e
  · rw [q] at e; cases e
theorem LM.keepPd {ow' : Addr → Prop} (h : LM ow H m idle M A) (k : Keep ow ow' H H') {d : D} {v : V} (n : d.noL = true) (p : Pd H v d) : Pd H' v d :=
  Pd.tups (fun a xs e => (k a _ (h.notTup e) e).1) n p
theorem LM.keepPds {ow' : Addr → Prop} (h : LM ow H m idle M A) (k : Keep ow ow' H H') {ds : List D} {vs : List V} (n : noLs ds = true) (p : Pds H vs ds) : Pds H' vs ds :=
  Pds.tups (fun a xs e => (k a _ (h.notTup e) e).1) n p
/-- new things stand beside it -/
theorem LM.same (h : LM ow H m idle M A) (s : Same H H') : LM ow H' m idle M A :=
  ⟨s _ _ h.obj, s _ _ h.mem, s _ _ h.held, s _ _ h.tou, s _ _ h.left, h.leftD.same s, s _ _ h.rows, h.rowsD.same s, fun l e => s _ _ (h.line l e), h.hk, h.tk, h.inj, h.om, h.oh, h.ot, h.or, h.ol, h.nmem, h.nleft, h.mh, h.mt, h.ht, h.rl,
    fun c n => (h.kind c n).elim (fun ⟨xs, e⟩ => .inl ⟨xs, s _ _ e⟩) fun ⟨xs, e⟩ => .inr ⟨xs, s _ _ e⟩⟩
theorem LM.lineNe (h : LM ow H m idle M A) {l : Nat} (e : M.holds l = true) : m ≠ A.ha l ∧ A.held ≠ A.ha l ∧ A.tou ≠ A.ha l :=
  ⟨ne_of h.obj (h.line l e) (by intro z; cases z), ne_of h.held (h.line l e) (by intro z; cases z), ne_of h.tou (h.line l e) (by intro z; cases z)⟩
theorem LM.rowsNe (h : LM ow H m idle M A) : m ≠ A.rows ∧ A.held ≠ A.rows ∧ A.tou ≠ A.rows :=
  ⟨ne_of h.obj h.rows (by intro z; cases z), ne_of h.held h.rows (by intro z; cases z), ne_of h.tou h.rows (by intro z; cases z)⟩
theorem kindUpd (h : ∀ c, ow c → (∃ xs, H c = some (.lst xs)) ∨ ∃ kvs, H c = some (.dK kvs)) {q : Addr} {o : HO} (ho : (∃ xs, o = .lst xs) ∨ ∃ kvs, o = .dK kvs) : ∀ c, ow c → (∃ xs, upd H q o c = some (.lst xs)) ∨ ∃ kvs, upd H q o c = some (.dK kvs) := fun c n => by
  by_cases e : c = q
  · subst e
    rw [upd_same]
    rcases ho with ⟨xs, rfl⟩ | ⟨xs, rfl⟩
    · exact .inl ⟨xs, rfl⟩
    · exact .inr ⟨xs, rfl⟩
  · rw [upd_ne e]; exact h c n
theorem LM.ne {q c : Addr} (hq : ow q) (hc : ¬ ow c) : c ≠ q := fun e => hc (by rw [e]; exact hq)
/-- the dict itself is written: other parts, the same lines -/
theorem LM.setObj (h : LM ow H m idle M A) {idle' : Bool} {at' beats' : Nat} {mem' left' : Addr} {mm : List Nat} {lf : List Mv} {ls : List V} (e1 : H mem' = some (.lst (mm.map nV))) (n1 : ¬ ow mem') (e2 : H left' = some (.lst ls)) (n2 : ¬ ow left') (e3 : Pds H ls (lf.map Mv.d)) {pace : List Bool} :
    LM ow (upd H m (.dK (kM { A with mem := mem', left := left', ls := ls } idle' at' beats'))) m idle' { M with mem := mm, left := lf, at_ := at', beats := beats', pace := pace } { A with mem := mem', left := left', ls := ls } := by
  have k : Keep ow ow H (upd H m (.dK (kM { A with mem := mem', left := left', ls := ls } idle' at' beats'))) := Keep.setOwn h.om
  exact ⟨upd_same, (k _ _ n1 e1).1, by rw [upd_ne h.mh.symm]; exact h.held, by rw [upd_ne h.mt.symm]; exact h.tou, (k _ _ n2 e2).1, h.keepPds k (noLs_map noL_mv _) e3, by rw [upd_ne h.rowsNe.1.symm]; exact h.rows, h.keepPds k (noLs_map noL_row _) h.rowsD,
    fun l e => by rw [upd_ne (h.lineNe e).1.symm]; exact h.line l e, h.hk, h.tk, h.inj, h.om, h.oh, h.ot, h.or, h.ol, n1, n2, h.mh, h.mt, h.ht, h.rl, kindUpd h.kind (.inr ⟨_, rfl⟩)⟩
/-- a row is told -/
theorem LM.tell (h : LM ow H m idle M A) {T : Addr} {w : Str} {p n : Nat} (nT : H T = none) : (upd H T (.tup (Row.mk M.beats w p n).vs)) A.rows = some (.lst A.xs) ∧
    LM ow (upd (upd H T (.tup (Row.mk M.beats w p n).vs)) A.rows (.lst (A.xs ++ [.ref T]))) m idle (M.tell w p n) { A with xs := A.xs ++ [.ref T] } ∧ Keep ow ow H (upd (upd H T (.tup (Row.mk M.beats w p n).vs)) A.rows (.lst (A.xs ++ [.ref T]))) := by
  have s := same_new (o := .tup (Row.mk M.beats w p n).vs) nT
  have h1 := h.same s
  have hT : (upd H T (.tup (Row.mk M.beats w p n).vs)) T = some (.tup (Row.mk M.beats w p n).vs) := upd_same
  have Tr : T ≠ A.rows := (ne_of_none h.rows nT).symm
  generalize upd H T (.tup (Row.mk M.beats w p n).vs) = H1 at *
  have k : Keep ow ow H1 (upd H1 A.rows (.lst (A.xs ++ [.ref T]))) := Keep.setOwn h.or
  refine ⟨h1.rows, ⟨by rw [upd_ne h1.rowsNe.1]; exact h1.obj, (k _ _ h.nmem h1.mem).1, by rw [upd_ne h1.rowsNe.2.1]; exact h1.held, by rw [upd_ne h1.rowsNe.2.2]; exact h1.tou, (k _ _ h.nleft h1.left).1, h1.keepPds k (noLs_map noL_mv _) h1.leftD, upd_same, ?_,
    fun l e => by rw [upd_ne (h.rl l e).symm]; exact h1.line l e, h.hk, h.tk, h.inj, h.om, h.oh, h.ot, h.or, h.ol, h.nmem, h.nleft, h.mh, h.mt, h.ht, h.rl, kindUpd h1.kind (.inl ⟨_, rfl⟩)⟩, (Same.keep s).trans k⟩
  show Pds _ _ ((M.rows ++ [Row.mk M.beats w p n]).map Row.d)
  rw [List.map_append]
  exact (h1.keepPds k (noLs_map noL_row _) h1.rowsD).app (.cons (Row.pd (by rw [upd_ne Tr]; exact hT)) .nil)
/-- a line is taken -/
theorem LM.takeL (h : LM ow H m idle M A) {l : Nat} {p : Addr} {cs : List Nat} (hl : l < 4) (hl2 : l < M.held.length) (hn : M.holds l = false) (e : H p = some (.lst (cs.map nV))) (np : ¬ ow p) (pm : p ≠ A.mem) (pl : p ≠ A.left) :
    LM (fun c => ow c ∨ c = p) (upd H A.held (.dK (putK A.hk (lk l) (.ref p)))) m idle { M with held := M.held.set l (some cs) } { A with hk := putK A.hk (lk l) (.ref p), ha := fun k => if k = l then p else A.ha k } := by
  have k : Keep ow ow H (upd H A.held (.dK (putK A.hk (lk l) (.ref p)))) := Keep.setOwn h.oh
  have hs : ∀ k, Mst.holds { M with held := M.held.set l (some cs) } k = true ↔ k = l ∨ M.holds k = true := fun k => by
    rw [Mst.holds_iff, Mst.holds_iff]
    by_cases ek : l = k
    · subst ek
      simp only [List.getElem?_set_self hl2, true_or, iff_true]
      exact ⟨cs, rfl⟩
    · simp only [List.getElem?_set_ne ek]
      exact ⟨.inr, fun z => z.elim (fun z => absurd z.symm ek) id⟩
  have cl : ∀ k, k ≠ l → Mst.cellsOf { M with held := M.held.set l (some cs) } k = M.cellsOf k := fun k ek => by
    unfold Mst.cellsOf
    rw [List.getElem?_set_ne (fun z => ek z.symm)]
  have cll : Mst.cellsOf { M with held := M.held.set l (some cs) } l = cs := Mst.cellsOf_of (List.getElem?_set_self hl2)
  have nl : ∀ k, M.holds k = true → k ≠ l := fun k hk z => by rw [z, hn] at hk; cases hk
  have ph : p ≠ A.held := LM.ne h.oh np
  refine ⟨by rw [upd_ne h.mh]; exact h.obj, (k _ _ h.nmem h.mem).1, upd_same, by rw [upd_ne h.ht.symm]; exact h.tou, (k _ _ h.nleft h.left).1, h.keepPds k (noLs_map noL_mv _) h.leftD, by rw [upd_ne h.rowsNe.2.1.symm]; exact h.rows, h.keepPds k (noLs_map noL_row _) h.rowsD,
    fun j hj => ?_, (h.hk.put hl).congr fun j => ?_, h.tk, fun j j' hj hj' ej => ?_, .inl h.om, .inl h.oh, .inl h.ot, .inl h.or, fun j hj => ?_, ?_, ?_, h.mh, h.mt, h.ht, fun j hj => ?_, fun c hc => ?_⟩
  · by_cases ej : j = l
    · subst ej
      simp only [eq_self, if_true]
      rw [upd_ne ph, cll]; exact e
    · have hj' : M.holds j = true := ((hs j).mp hj).resolve_left ej
      simp only [if_neg ej]
      rw [upd_ne (h.lineNe hj').2.1.symm, cl j ej]; exact h.line j hj'
  · by_cases ej : j = l
    · subst ej
      simp only [eq_self, if_true]
      rw [if_pos ((hs j).mpr (.inl rfl))]
    · simp only [if_neg ej]
      by_cases hj : M.holds j = true
      · rw [if_pos hj, if_pos ((hs j).mpr (.inr hj))]
      · rw [if_neg hj, if_neg (fun z => hj (((hs j).mp z).resolve_left ej))]
  · rcases (hs j).mp hj with rfl | g
    · rcases (hs j').mp hj' with rfl | g'
      · rfl
      · simp only [eq_self, if_true, if_neg (nl j' g')] at ej
        exact absurd (h.ol j' g') (by rw [← ej]; exact np)
    · rcases (hs j').mp hj' with rfl | g'
      · simp only [eq_self, if_true, if_neg (nl j g)] at ej
        exact absurd (h.ol j g) (by rw [ej]; exact np)
      · simp only [if_neg (nl j g), if_neg (nl j' g')] at ej
        exact h.inj j j' g g' ej
  · by_cases ej : j = l
    · refine .inr ?_
      show (if j = l then p else A.ha j) = p
      rw [if_pos ej]
    · simp only [if_neg ej]
      exact .inl (h.ol j (((hs j).mp hj).resolve_left ej))
  · rintro (q | q)
    · exact h.nmem q
    · exact pm q.symm
  · rintro (q | q)
    · exact h.nleft q
    · exact pl q.symm
  · by_cases ej : j = l
    · simp only [if_pos ej]; exact (LM.ne h.or np).symm
    · simp only [if_neg ej]
      exact h.rl j (((hs j).mp hj).resolve_left ej)
  · rcases hc with hc | rfl
    · exact kindUpd h.kind (.inr ⟨_, rfl⟩) c hc
    · exact .inl ⟨_, by rw [upd_ne ph]; exact e⟩
/-- a line is written -/
theorem LM.writeL (h : LM ow H m idle M A) {l : Nat} {cs : List Nat} (hl : M.holds l = true) :
    LM ow (upd H (A.ha l) (.lst (cs.map nV))) m idle { M with held := M.held.set l (some cs) } A := by
  have k : Keep ow ow H (upd H (A.ha l) (.lst (cs.map nV))) := Keep.setOwn (h.ol l hl)
  have hl2 := Mst.holds_lt hl
  have hs : ∀ k, Mst.holds { M with held := M.held.set l (some cs) } k = M.holds k := fun k => by
    by_cases ek : l = k
    · subst ek
      rw [hl]
      exact Mst.holds_iff.mpr ⟨cs, List.getElem?_set_self hl2⟩
    · unfold Mst.holds
      rw [List.getElem?_set_ne ek]
  have cll : Mst.cellsOf { M with held := M.held.set l (some cs) } l = cs := Mst.cellsOf_of (List.getElem?_set_self hl2)
  obtain ⟨a1, a2, a3⟩ := h.lineNe hl
  refine ⟨by rw [upd_ne a1]; exact h.obj, (k _ _ h.nmem h.mem).1, by rw [upd_ne a2]; exact h.held, by rw [upd_ne a3]; exact h.tou, (k _ _ h.nleft h.left).1, h.keepPds k (noLs_map noL_mv _) h.leftD, by rw [upd_ne (h.rl l hl)]; exact h.rows, h.keepPds k (noLs_map noL_row _) h.rowsD,
    fun j hj => ?_, h.hk.congr fun j => by rw [hs], h.tk, fun j j' hj hj' ej => h.inj j j' (by rw [← hs]; exact hj) (by rw [← hs]; exact hj') ej, h.om, h.oh, h.ot, h.or, fun j hj => h.ol j (by rw [← hs]; exact hj), h.nmem, h.nleft, h.mh, h.mt, h.ht, fun j hj => h.rl j (by rw [← hs]; exact hj), kindUpd h.kind (.inl ⟨_, rfl⟩)⟩
  rw [hs] at hj
  by_cases ej : j = l
  · subst ej; rw [upd_same, cll]
  · rw [upd_ne (fun z => ej (h.inj j l hj hl z)), h.line j hj]
    unfold Mst.cellsOf
    rw [List.getElem?_set_ne (fun z => ej z.symm)]
/-- a line is touched -/
theorem LM.touch (h : LM ow H m idle M A) {l : Nat} (hl : l < 4) (hl2 : l < M.tou.length) :
    LM ow (upd H A.tou (.dK (putK A.tk (lk l) (.bl true)))) m idle { M with tou := M.tou.set l true } { A with tk := putK A.tk (lk l) (.bl true) } := by
  have k : Keep ow ow H (upd H A.tou (.dK (putK A.tk (lk l) (.bl true)))) := Keep.setOwn h.ot
  refine ⟨by rw [upd_ne h.mt]; exact h.obj, (k _ _ h.nmem h.mem).1, by rw [upd_ne h.ht]; exact h.held, upd_same, (k _ _ h.nleft h.left).1, h.keepPds k (noLs_map noL_mv _) h.leftD, by rw [upd_ne h.rowsNe.2.2.symm]; exact h.rows, h.keepPds k (noLs_map noL_row _) h.rowsD,
    fun j hj => by rw [upd_ne (h.lineNe hj).2.2.symm]; exact h.line j hj, h.hk, (h.tk.put hl).congr fun j => ?_, h.inj, h.om, h.oh, h.ot, h.or, h.ol, h.nmem, h.nleft, h.mh, h.mt, h.ht, h.rl, kindUpd h.kind (.inr ⟨_, rfl⟩)⟩
  simp only [Mst.touched, List.getD_eq_getElem?_getD]
  by_cases ej : l = j
  · subst ej
    rw [if_pos rfl, List.getElem?_set_self hl2]; rfl
  · rw [if_neg (fun z => ej z.symm), List.getElem?_set_ne ej]
/-- a line is not touched any more -/
theorem LM.untouch (h : LM ow H m idle M A) {l : Nat} :
    LM ow (upd H A.tou (.dK (dropK A.tk (lk l)))) m idle { M with tou := M.tou.set l false } { A with tk := dropK A.tk (lk l) } := by
  have k : Keep ow ow H (upd H A.tou (.dK (dropK A.tk (lk l)))) := Keep.setOwn h.ot
  refine ⟨by rw [upd_ne h.mt]; exact h.obj, (k _ _ h.nmem h.mem).1, by rw [upd_ne h.ht]; exact h.held, upd_same, (k _ _ h.nleft h.left).1, h.keepPds k (noLs_map noL_mv _) h.leftD, by rw [upd_ne h.rowsNe.2.2.symm]; exact h.rows, h.keepPds k (noLs_map noL_row _) h.rowsD,
    fun j hj => by rw [upd_ne (h.lineNe hj).2.2.symm]; exact h.line j hj, h.hk, h.tk.dropL.congr fun j => ?_, h.inj, h.om, h.oh, h.ot, h.or, h.ol, h.nmem, h.nleft, h.mh, h.mt, h.ht, h.rl, kindUpd h.kind (.inr ⟨_, rfl⟩)⟩
  simp only [Mst.touched, List.getD_eq_getElem?_getD]
  by_cases ej : l = j
  · subst ej
    rw [if_pos rfl]
    rcases Nat.lt_or_ge l M.tou.length with g | g
    · rw [List.getElem?_set_self g]; rfl
    · rw [List.getElem?_eq_none (by rw [List.length_set]; exact g)]; rfl
  · rw [if_neg (fun z => ej z.symm), List.getElem?_set_ne ej]
/-- a line is not held any more -/
theorem LM.unhold (h : LM ow H m idle M A) {l : Nat} :
    LM ow (upd H A.held (.dK (dropK A.hk (lk l)))) m idle { M with held := M.held.set l none } { A with hk := dropK A.hk (lk l) } := by
  have k : Keep ow ow H (upd H A.held (.dK (dropK A.hk (lk l)))) := Keep.setOwn h.oh
  have hs : ∀ j, Mst.holds { M with held := M.held.set l none } j = true ↔ j ≠ l ∧ M.holds j = true := fun j => by
    rw [Mst.holds_iff, Mst.holds_iff]
    by_cases ek : l = j
    · subst ek
      constructor
      · rintro ⟨cs, e⟩
        simp only [List.getElem?_set] at e
        split at e <;> simp_all
      · rintro ⟨z, _⟩; exact absurd rfl z
    · simp only [List.getElem?_set_ne ek]
      exact ⟨fun z => ⟨fun q => ek q.symm, z⟩, fun z => z.2⟩
  have cl : ∀ j, j ≠ l → Mst.cellsOf { M with held := M.held.set l none } j = M.cellsOf j := fun j ek => by
    unfold Mst.cellsOf
    rw [List.getElem?_set_ne (fun z => ek z.symm)]
  refine ⟨by rw [upd_ne h.mh]; exact h.obj, (k _ _ h.nmem h.mem).1, upd_same, by rw [upd_ne h.ht.symm]; exact h.tou, (k _ _ h.nleft h.left).1, h.keepPds k (noLs_map noL_mv _) h.leftD, by rw [upd_ne h.rowsNe.2.1.symm]; exact h.rows, h.keepPds k (noLs_map noL_row _) h.rowsD,
    fun j hj => by obtain ⟨q1, q2⟩ := (hs j).mp hj; rw [upd_ne (h.lineNe q2).2.1.symm, cl j q1]; exact h.line j q2, h.hk.dropL.congr fun j => ?_, h.tk, fun j j' hj hj' ej => h.inj j j' ((hs j).mp hj).2 ((hs j').mp hj').2 ej, h.om, h.oh, h.ot, h.or, fun j hj => h.ol j ((hs j).mp hj).2, h.nmem, h.nleft, h.mh, h.mt, h.ht, fun j hj => h.rl j ((hs j).mp hj).2, kindUpd h.kind (.inr ⟨_, rfl⟩)⟩
  by_cases ej : j = l
  · rw [if_pos ej, if_neg (fun z => ((hs j).mp z).1 ej)]
  · rw [if_neg ej]
    by_cases hj : M.holds j = true
    · rw [if_pos hj, if_pos ((hs j).mpr ⟨ej, hj⟩)]
    · rw [if_neg hj, if_neg (fun z => hj ((hs j).mp z).2)]
end
end Vt
namespace Vt
open PySem PySem.Spec PyProof.Rows L2
/-! ### data compared with a written [] or a written tuple of one word -/
mutual
def D.py : D → PyData
  | .non => .none
  | .bl b => .bool b
  | .int i => .int i
  | .str x => .str x
  | .tup ds => .tuple (pys ds)
  | .lst ds => .list (pys ds)
def pys : List D → List PyData
  | [] => []
  | d :: ds => d.py :: pys ds
end
section
variable {K : PySem.W.Frag} {H : Hp}
mutual
theorem Pd.dp : ∀ {d : D} {v : V}, Pd H v d → Dp K H v d.py
  | .non, _, .non => by rw [D.py]; exact .non
  | .bl _, _, .bl b => by rw [D.py]; exact .bl b
  | .int _, _, .int b => by rw [D.py]; exact .int b
  | .str _, _, .str b => by rw [D.py]; exact .str b
  | .tup _, _, .tup h hs => by rw [D.py]; exact .tup (sqT_t h) (Pds.dp hs)
  | .lst _, _, .lst h hs => by rw [D.py]; exact .lst (sqL_l h) (Pds.dp hs)
theorem Pds.dp : ∀ {ds : List D} {vs : List V}, Pds H vs ds → DpAll K H vs (pys ds)
  | [], _, .nil => by rw [pys]; exact .nil
  | _ :: _, _, .cons h hs => by rw [pys]; exact .cons (Pd.dp h) (Pds.dp hs)
end
mutual
theorem dep_py : ∀ d : D, d.py.depth = d.dep
  | .non => by simp [D.py, PyData.depth, D.dep]
  | .bl _ => by simp [D.py, PyData.depth, D.dep]
  | .int _ => by simp [D.py, PyData.depth, D.dep]
  | .str _ => by simp [D.py, PyData.depth, D.dep]
  | .tup ds => by simp [D.py, PyData.depth, D.dep, deps_py ds]
  | .lst ds => by simp [D.py, PyData.depth, D.dep, deps_py ds]
theorem deps_py : ∀ ds : List D, PyData.depthAll (pys ds) = deps ds
  | [] => by simp [pys, PyData.depthAll, deps]
  | d :: ds => by simp [pys, PyData.depthAll, deps, dep_py d, deps_py ds]
end
theorem lay_map {α : Type} {f : α → D} (h : ∀ x, (f x).py.canLay0 = true) : ∀ xs : List α, PyData.canLayAll0 (pys (xs.map f)) = true
  | [] => by simp [pys, PyData.canLayAll0]
  | x :: r => by simp [pys, PyData.canLayAll0, h x, lay_map h r]
theorem shaped_lst {ds : List D} (h : PyData.canLayAll0 (pys ds) = true) (hd : deps ds ≤ 60) : SeqAt.shaped (.list (pys ds)) = true := by
  simp only [SeqAt.shaped, PyData.canLay0, PyData.depth, h, deps_py, Bool.true_and, decide_eq_true_eq]
  omega
theorem rd_neNil {a b : Addr} {xs : List V} {ds : List D} {Q : VK} (ha : H a = some (.lst xs)) (hp : Pds H xs ds) (hl : PyData.canLayAll0 (pys ds) = true) (hd : deps ds ≤ 60) (hb : H b = some (.lst [])) (q : Q (.bl (!ds.isEmpty)) H) : rNeD K (.ref a) (.ref b) H Q := by
  refine ⟨.list (pys ds), .list [], .lst (sqL_l ha) hp.dp, .lst (sqL_l hb) .nil, shaped_lst hl hd, rfl, ?_⟩
  have e : PyData.eqv (.list (pys ds)) (.list []) = ds.isEmpty := by
    cases ds with
    | nil => simp [pys, PyData.eqv, PyData.eqvAll]
    | cons d r => simp [pys, PyData.eqv, PyData.eqvAll]
  rw [e]; exact q
theorem rd_eqNil {a b : Addr} {xs : List V} {ds : List D} {Q : VK} (ha : H a = some (.lst xs)) (hp : Pds H xs ds) (hl : PyData.canLayAll0 (pys ds) = true) (hd : deps ds ≤ 60) (hb : H b = some (.lst [])) (q : Q (.bl ds.isEmpty) H) : rEqD K (.ref a) (.ref b) H Q := by
  refine ⟨.list (pys ds), .list [], .lst (sqL_l ha) hp.dp, .lst (sqL_l hb) .nil, shaped_lst hl hd, rfl, ?_⟩
  have e : PyData.eqv (.list (pys ds)) (.list []) = ds.isEmpty := by
    cases ds with
    | nil => simp [pys, PyData.eqv, PyData.eqvAll]
    | cons d r => simp [pys, PyData.eqv, PyData.eqvAll]
  rw [e]; exact q
theorem lay_mv (m : Mv) : m.d.py.canLay0 = true := by
  obtain ⟨s, g, b⟩ := m
  cases b <;> simp [Mv.d, D.py, pys, nD, oD, PyData.canLay0, PyData.canLayAll0]
theorem dep_mvs : ∀ ms : List Mv, deps (ms.map Mv.d) ≤ 1
  | [] => by simp [deps]
  | m :: r => by
    have := dep_mvs r
    obtain ⟨s, g, b⟩ := m
    cases b <;> (simp only [List.map_cons, deps, Mv.d, D.dep, nD, oD]; omega)
theorem lay_bl (b : Bool) : (D.bl b).py.canLay0 = true := by simp [D.py, PyData.canLay0]
theorem dep_bls : ∀ bs : List Bool, deps (bs.map D.bl) = 0
  | [] => by simp [deps]
  | b :: r => by simp [deps, D.dep, dep_bls r]
theorem pds_bls {H : Hp} : ∀ bs : List Bool, Pds H (bs.map V.bl) (bs.map D.bl)
  | [] => .nil
  | b :: r => .cons (.bl b) (pds_bls r)
/-- t == ("x",), t a tuple of a word and ints -/
theorem rd_tag {a b : Addr} {z x : Str} {zs : List Int} {Q : VK} (ha : H a = some (.tup (.str z :: zs.map V.int))) (hb : H b = some (.tup [.str x])) (oz : z.length ≤ 100 ∧ (PyData.str z).canLay0 = true) (ox : (PyData.str x).canLay0 = true) (q : Q (.bl (decide (z = x ∧ zs = []))) H) : rEqD K (.ref a) (.ref b) H Q := by
  have hint : ∀ zs : List Int, PyData.canLayAll0 (zs.map PyData.int) = true ∧ PyData.depthAll (zs.map PyData.int) = 0 := by
    intro zs
    induction zs with
    | nil => simp [PyData.canLayAll0, PyData.depthAll]
    | cons n r ih => simp [PyData.canLayAll0, PyData.canLay0, PyData.depthAll, PyData.depth, ih]
  have hsh : SeqAt.shaped (.tuple (.str z :: zs.map PyData.int)) = true := by
    simp only [SeqAt.shaped, PyData.canLay0, PyData.canLayAll0, PyData.depth, PyData.depthAll, (hint zs).1, (hint zs).2, Bool.and_true]
    have := oz.2
    simp only [PyData.canLay0] at this
    rw [this]; simp
  have hsh2 : SeqAt.shaped (.tuple [.str x]) = true := by
    simp only [SeqAt.shaped, PyData.canLay0, PyData.canLayAll0, PyData.depth, PyData.depthAll, Bool.and_true]
    simp only [PyData.canLay0] at ox
    rw [ox]; simp
  refine ⟨.tuple (.str z :: zs.map PyData.int), .tuple [.str x], .tup (sqT_t ha) (.cons (.str z) (dpInts zs)), .tup (sqT_t hb) (.cons (.str x) .nil), hsh, hsh2, ?_⟩
  have e : PyData.eqv (.tuple (.str z :: zs.map PyData.int)) (.tuple [.str x]) = decide (z = x ∧ zs = []) := by
    cases zs with
    | nil =>
      simp only [List.map_nil, PyData.eqv, PyData.eqvAll, Bool.and_true, and_true]
      rfl
    | cons n r =>
      simp [PyData.eqv, PyData.eqvAll]
  rw [e]; exact q
end
/-! ### a tuple and a tuple -/
def rCatS (K : PySem.W.Frag) : R2 := fun x y H Q => ∃ a b xs ys, x = .ref a ∧ y = .ref b ∧ H a = some (.tup xs) ∧ H b = some (.tup ys) ∧ ys ≠ [] ∧ xs.length + ys.length ≤ sizeLine ∧ ∀ p H', Same H H' → H' p = some (.tup (xs ++ ys)) → Q (.ref p) H'
theorem op_catS {X : Cx} : OpR X (binaryOp .Add) (rCatS X.K) := by
  intro pins s σ H x y v u Q I rx ry h
  obtain ⟨a, b, xs, ys, ex, ey, ha, hb, hn, hz, q⟩ := h
  refine op_catA pins s σ H x y v u Q I rx ry ⟨a, b, xs, ys, ex, ey, sqT_t ha, sqT_t hb, hz, fun e => ?_, fun _ e => absurd e hn, fun _ _ p np => ?_⟩
  · subst e
    exact q b H (Same.refl H) hb
  · exact q p _ (same_new np) upd_same
end Vt
namespace Vt
open PySem PySem.Spec PyProof.Rows L2
/-- while, by a count kept beside the state -/
theorem while_to {c : TT} {tb : TS} {D : Ends} {σ : L2.St} {H : Hp} (Pv : Nat → L2.St → Hp → Prop) (h0 : ∃ n, Pv n σ H)
    (hs : ∀ n σ H, Pv n σ H → c σ H fun b H1 => if b = true then tb { D with nx := fun σ' H' => ∃ k, k < n ∧ Pv k σ' H', ct := fun σ' H' => ∃ k, k < n ∧ Pv k σ' H', bk := D.nx } σ H1 else D.nx σ H1)
    (mono : ∀ σ H Q Q', (∀ b H1, Q b H1 → Q' b H1) → c σ H Q → c σ H Q') : tWhile c tb D σ H := by
  refine ⟨Pv, h0, ?_⟩
  intro n σ H p
  refine mono σ H _ _ (fun b H1 q => ?_) (hs n σ H p)
  cases b with
  | true => exact ⟨_, fun σ' H' z => z, q⟩
  | false => exact q
/-- another list is written, not the machine's -/
theorem LM.setOther {ow : Addr → Prop} {H : Hp} {m : Addr} {idle : Bool} {M : Mst} {A : Ad} (h : LM ow H m idle M A) {q : Addr} {xs ys : List V} (hq : H q = some (.lst xs)) (nq : ¬ ow q) (n1 : q ≠ A.mem) (n2 : q ≠ A.left) :
    LM ow (upd H q (.lst ys)) m idle M A := by
  have ne : ∀ c, ow c → c ≠ q := fun c hc e => nq (by rw [← e]; exact hc)
  have tt : ∀ a us, H a = some (.tup us) → (upd H q (.lst ys)) a = some (.tup us) := fun a us e => by
    rw [upd_ne (ne_of e hq (by intro z; cases z))]; exact e
  refine ⟨by rw [upd_ne (ne _ h.om)]; exact h.obj, by rw [upd_ne n1.symm]; exact h.mem, by rw [upd_ne (ne _ h.oh)]; exact h.held, by rw [upd_ne (ne _ h.ot)]; exact h.tou, by rw [upd_ne n2.symm]; exact h.left, Pds.tups tt (noLs_map noL_mv _) h.leftD, by rw [upd_ne (ne _ h.or)]; exact h.rows, Pds.tups tt (noLs_map noL_row _) h.rowsD,
    fun l e => by rw [upd_ne (ne _ (h.ol l e))]; exact h.line l e, h.hk, h.tk, h.inj, h.om, h.oh, h.ot, h.or, h.ol, h.nmem, h.nleft, h.mh, h.mt, h.ht, h.rl, kindUpd h.kind (.inl ⟨_, rfl⟩)⟩
def kA (l e t L r : Addr) : List (Key × V) := [(.inr "memory", .ref l), (.inr "held", .ref e), (.inr "touched", .ref t), (.inr "left", .ref L), (.inr "rows", .ref r), (.inr "idle", .bl false)]
def kB : List (Key × V) := [(.inr "at", .int 0), (.inr "beats", .int 0), (.inr "reads", .int 0), (.inr "fetches", .int 0)]
def adN (l e t L r : Addr) : Ad := ⟨l, e, t, L, r, [], [], fun _ => 0, [], []⟩
theorem kA_m {l e t L r : Addr} : mergeK [] (kA l e t L r) = kA l e t L r := rfl
theorem kB_m : mergeK [] kB = kB := rfl
theorem kAB {l e t L r : Addr} : mergeK (kA l e t L r) kB = kM (adN l e t L r) false 0 0 := rfl
theorem begin_holds {B : Brd} {pace : List Bool} {l : Nat} : (Mst.begin B pace).holds l = false := by
  cases h : (Mst.begin B pace).holds l with
  | false => rfl
  | true =>
    obtain ⟨cs, e⟩ := Mst.holds_iff.mp h
    simp only [Mst.begin, List.getElem?_replicate] at e
    split at e <;> simp at e
theorem begin_touched {B : Brd} {pace : List Bool} {l : Nat} : (Mst.begin B pace).touched l = false := by
  simp only [Mst.begin, Mst.touched, List.getD_eq_getElem?_getD, List.getElem?_replicate]
  split <;> rfl
theorem byLine0 {f : Nat → Option V} (h : ∀ l, f l = none) : ByLine [] f := ⟨fun l => by rw [h]; rfl, List.nodup_nil, fun k hk => by cases hk⟩
theorem LM.begin {H : Hp} {d l e t L r : Addr} {B : Brd} {pace : List Bool} (hd : H d = some (.dK (kM (adN l e t L r) false 0 0))) (he : H e = some (.dK [])) (ht : H t = some (.dK [])) (hL : H L = some (.lst [])) (hr : H r = some (.lst [])) (hl : H l = some (.lst (B.mem.map nV)))
    (et : e ≠ t) (ed : e ≠ d) (td : t ≠ d) (Lr : L ≠ r) (lr : l ≠ r) : LM (fun c => c = d ∨ c = e ∨ c = t ∨ c = r) H d false (Mst.begin B pace) (adN l e t L r) := by
  have nh : ∀ k, (Mst.begin B pace).holds k = true → False := fun k z => by rw [begin_holds] at z; cases z
  refine ⟨hd, hl, he, ht, hL, .nil, hr, .nil, fun k z => (nh k z).elim, byLine0 fun k => by rw [begin_holds]; rfl, byLine0 fun k => by rw [begin_touched]; rfl, fun k _ z => (nh k z).elim, .inl rfl, .inr (.inl rfl), .inr (.inr (.inl rfl)), .inr (.inr (.inr rfl)), fun k z => (nh k z).elim, ?_, ?_, ed.symm, td.symm, et, fun k z => (nh k z).elim, ?_⟩
  · rintro (h | h | h | h)
    · exact ne_of hl hd (by intro z; cases z) h
    · exact ne_of hl he (by intro z; cases z) h
    · exact ne_of hl ht (by intro z; cases z) h
    · exact lr h
  · rintro (h | h | h | h)
    · exact ne_of hL hd (by intro z; cases z) h
    · exact ne_of hL he (by intro z; cases z) h
    · exact ne_of hL ht (by intro z; cases z) h
    · exact Lr h
  · rintro c (rfl | rfl | rfl | rfl)
    · exact .inr ⟨_, hd⟩
    · exact .inr ⟨_, he⟩
    · exact .inr ⟨_, ht⟩
    · exact .inl ⟨_, hr⟩
theorem Keep.other {ow : Addr → Prop} {H H' : Hp} {p : Addr} {o : HO} (k : Keep (fun _ => False) ow H H') (n : H p = none) : Keep (fun _ => False) ow H (upd H' p o) := fun c u z h => by rw [upd_ne (ne_of_none h n)]; exact k c u z h
theorem Same.own1 {H H' : Hp} {d : Addr} {o : HO} (s : Same H H') (n : H d = none) : Same H (upd H' d o) := fun c u h => by rw [upd_ne (ne_of_none h n)]; exact s c u h
theorem proc_ok {cells : Nat} {ords : List Ord} {prog : List Deed} {M : Mst} (h : MOk cells prog M) (hok : ∀ (i : Nat) (o : Ord), ords[i]? = some o → OrdOk o i ords.length cells) (hm : ∀ o ∈ ords, o.many ≤ 8) (hp : ∀ d ∈ prog, DeedOk d ords.length cells) :
    MOk0 cells (M.proc ords prog) ∧ (M.proc ords prog).pace = M.pace ∧ (M.proc ords prog).beats = M.beats ∧ (M.proc ords prog).rows.length ≤ M.rows.length + 6 ∧ (M.proc ords prog).left.length ≤ M.left.length + 32 := by
  unfold Mst.proc
  split
  · exact ⟨h.toMOk0, rfl, rfl, by omega, by omega⟩
  · split
    · exact ⟨h.toMOk0, rfl, rfl, by omega, by omega⟩
    · rename_i d e0
      have h0 := h.toMOk0.deed hok (hp d (List.mem_of_getElem? e0))
      obtain ⟨h1, h2, h3, h4, h5, _⟩ := deed_rows (M := M) (d := d) hm
      exact ⟨⟨h0.lines, h0.mem, h0.held, h0.tou, h0.four, h0.th, h0.left⟩, h5, h4, h1, h2⟩
theorem BrdOk.eight {B : Brd} (ok : BrdOk B) : ∀ o ∈ B.ords, o.many ≤ 8 := fun o ho => by
  obtain ⟨i, hi, rfl⟩ := List.mem_iff_getElem.mp ho
  exact (ok.ords i _ (List.getElem?_eq_getElem hi)).eight
theorem beat_no {ords : List Ord} {prog : List Deed} {M : Mst} (h : Mst.uses prog M (M.proc ords prog) = false) : M.beat ords prog = { (M.proc ords prog).carry with beats := M.beats + 1 } := by
  unfold Mst.beat
  dsimp only
  rw [if_neg (by rw [h]; simp)]
theorem beat_yes {ords : List Ord} {prog : List Deed} {M : Mst} {b : Bool} {r : List Bool} (h : Mst.uses prog M (M.proc ords prog) = true) (e : M.pace = b :: r) :
    M.beat ords prog = { (if b = true then { M.proc ords prog with pace := r }.carry else { M.proc ords prog with pace := r }) with beats := M.beats + 1 } := by
  unfold Mst.beat
  dsimp only
  rw [if_pos h, e]
  rfl
/-- left != [], a list of truths -/
theorem rd_pace {K : PySem.W.Frag} {σ : L2.St} {H : Hp} {i : Nat} {p : Addr} {bs : List Bool} {Q : VK} (hσ : σ[i]? = some (some (.ref p))) (hp : H p = some (.lst (bs.map V.bl))) (q : ∀ H', Same H H' → Q (.bl (!bs.isEmpty)) H') : tOp (rNeD K) (tVar i) (tLst tNil) σ H Q := by
  refine ⟨_, hσ, Nat.zero_le _, fun T nT => ?_⟩
  have s := same_new (o := .lst []) nT
  refine rd_neNil (s _ _ hp) (pds_bls _) (lay_map lay_bl _) (by rw [dep_bls]; decide) upd_same ?_
  have := q _ s
  cases bs with
  | nil => exact this
  | cons x r => exact this
def goneM (B : Brd) (pace : List Bool) : Mst := Mst.run B.ords B.prog 7000 (Mst.begin B pace)
end Vt
namespace Vt
open PySem PySem.Spec PyProof.Rows L2
section
variable {P : Program} {w : World} {K : PySem.W.Frag} {mg : Str → Option Value} {base : Heap}
abbrev st_law_pace : Stmt := (topS 33)
abbrev nm_law_pace : List Str := ["_law_box", "_law_often", "_law_kind", "_law_many", "_law_turn"]
theorem sc_law_pace : FnScope ["_law_box", "_law_often", "_law_kind", "_law_many", "_law_turn"] ["_law_box"] (defScope st_law_pace) := ⟨rfl, rfl, rfl, by decide +kernel, rfl, by decide +kernel, by decide +kernel⟩
def spPace : Sp := fun vs H Q _ => ∃ (b l : Addr), vs = [.ref b] ∧ Box H b l ∧
  ∀ (H' : Hp) (pl : Addr) (bs : List Bool), Box H' b l → But [b, l] H H' → H pl = none → H' pl = some (.lst (bs.map V.bl)) → bs.length ≤ 200 → Q (.ref pl) H'
theorem ok_pace {f : Addr} {fd : FuncData} (F : Fun K "_law_pace" "_law_pace" st_law_pace f fd) (c_law_take : Callee P w K mg base "_law_take" 1 2 spTake) (z_int : mg "int" = none) (z_range : mg "range" = none) : FnOk P w K mg base CX0 2 f fd ["_law_box"] spPace := by
  refine F.ok sc_law_pace (fun vs H Q E h => ?_) (fun cdv A outer s H vs Q E hr h => ?_)
  · obtain ⟨b, l, rfl, _⟩ := h
    rfl
  · obtain ⟨b, l, rfl, hB, q⟩ := h
    refine ⟨_, (pss_cons (ps_set (i := 1) sc_law_pace.nd rfl (Or.inr rfl) (pe_ix ix_lt (pe_lst (pa_cons pe_int (pa_cons pe_int (pa_cons pe_int pa_nil)))) (pe_cal c_law_take hr (by first | decide | exact Nat.le_refl _) (pa_cons (pv 0) (pa_cons pe_int pa_nil))) (fun _ _ => rfl)))
  (pss_cons (ps_set (i := 2) sc_law_pace.nd rfl (Or.inr rfl) (pe_cmpR op_eq (pe_cal c_law_take hr (by first | decide | exact Nat.le_refl _) (pa_cons (pv 0) (pa_cons pe_int pa_nil))) pe_int (nomark _)))
  (pss_cons (ps_set (i := 3) sc_law_pace.nd rfl (Or.inl rfl) (pe_ix ix_lt (pe_lst (pa_cons pe_int (pa_cons pe_int pa_nil))) (pe_callTy call_int1 (by rfl) z_int (by decide +kernel) (pa_cons (pe_cmpR op_eq (pe_cal c_law_take hr (by first | decide | exact Nat.le_refl _) (pa_cons (pv 0) (pa_cons pe_int pa_nil))) pe_int (nomark _)) pa_nil)) (fun _ _ => rfl)))
  (pss_one (ps_ret (pe_lc (own := [("_law_turn", 4)]) rfl sc_law_pace.nd (pi_range1 (by rfl) z_range (pa_cons (pe_cal c_law_take hr (by first | decide | exact Nat.le_refl _) (pa_cons (pv 0) (pa_cons (pv 3) pa_nil))) pa_nil)) (blkOk_by (own := [("_law_turn", 4)]) (N := nm_law_pace) (sc := defScope (topS 33)) (by decide +kernel)) (fun _ _ _ _ _ => (pg_name (i := 4) sc_law_pace.nd rfl (Or.inl rfl))) (fun _ _ _ _ _ => pts_nil) (fun _ _ _ _ _ => (pe_cmpR op_eq (pe_cmpR op_eq (pe_cal c_law_take hr (by first | decide | exact Nat.le_refl _) (pa_cons (pv 0) (pa_cons (pv 1) pa_nil))) pe_int (nomark _)) (pv 2) (nomark _))))))))), ?_⟩
    have nonb : ∀ p, H p = none → p ∉ [b, l] := fun p np m => by
      obtain ⟨ys, e⟩ := hB.lsts _ m
      rw [np] at e; cases e
    -- often
    refine ⟨by show 3 ≤ sizeLine; decide, fun L nL => ?_⟩
    have sL := same_new (o := .lst [.int 2, .int 4, .int 1]) nL
    have hL : (upd H L (.lst [.int 2, .int 4, .int 1])) L = some (.lst [.int 2, .int 4, .int 1]) := upd_same
    have hB0 := hB.same sL
    have Lb := nonb L nL
    generalize upd H L (.lst [.int 2, .int 4, .int 1]) = H0 at sL hL hB0
    refine ⟨_, rfl, b, l, _, 3, rfl, rfl, hB0, by decide, by decide, fun H1 r hB1 bt1 hr => ?_⟩
    obtain ⟨often, o1, o2, hat⟩ : ∃ o : Nat, 0 < o ∧ o ≤ 4 ∧ atI [V.int 2, V.int 4, V.int 1] (r : Int) = some (nV o) := by
      rcases (show r = 0 ∨ r = 1 ∨ r = 2 by omega) with rfl | rfl | rfl
      · exact ⟨2, by decide, by decide, rfl⟩
      · exact ⟨4, by decide, by decide, rfl⟩
      · exact ⟨1, by decide, by decide, rfl⟩
    refine ⟨L, _, (r : Int), _, rfl, rfl, sqA_l (bt1 _ _ Lb hL), hat, ?_⟩
    have bt01 := (Same.but (B := [b, l]) sL).trans bt1
    -- kind
    refine ⟨_, rfl, b, l, _, 2, rfl, rfl, hB1, by decide, by decide, fun H2 r2 hB2 bt2 hr2 => ⟨rfl, ?_⟩⟩
    generalize decide (nV r2 = V.int 1) = kd
    have bt02 := bt01.trans bt2
    -- many
    refine ⟨by show 2 ≤ sizeLine; decide, fun L2 nL2 => ?_⟩
    have sL2 := same_new (o := .lst [.int 25, .int 101]) nL2
    have hL2 : (upd H2 L2 (.lst [.int 25, .int 101])) L2 = some (.lst [.int 25, .int 101]) := upd_same
    have L2b : L2 ∉ [b, l] := fun m => by
      obtain ⟨ys, e⟩ := hB2.lsts _ m
      rw [nL2] at e; cases e
    have hB3 := hB2.same sL2
    have bt03 := bt02.trans (Same.but (B := [b, l]) sL2)
    generalize upd H2 L2 (.lst [.int 25, .int 101]) = H3 at sL2 hL2 hB3 bt03
    refine ⟨_, rfl, b, l, _, 8, rfl, rfl, hB3, by decide, by decide, fun H4 r4 hB4 bt4 hr4 => ?_⟩
    refine ⟨rfl, .inr ⟨_, rfl, ?_⟩⟩
    obtain ⟨many, m1, m2, ix, hix, hat2⟩ : ∃ many : Nat, 0 < many ∧ many ≤ 101 ∧ ∃ ix : Int, (if decide (nV r4 = V.int 7) = true then (1 : Int) else 0) = ix ∧ atI [V.int 25, V.int 101] ix = some (nV many) := by
      by_cases e : decide (nV r4 = V.int 7) = true
      · exact ⟨101, by decide, by decide, 1, if_pos e, rfl⟩
      · exact ⟨25, by decide, by decide, 0, if_neg e, rfl⟩
    refine ⟨L2, _, ix, _, rfl, congrArg V.int hix, sqA_l (bt4 _ _ L2b hL2), hat2, ?_⟩
    have bt04 := bt03.trans bt4
    -- the truths
    refine ⟨_, rfl, _, rfl, b, l, _, many, rfl, rfl, hB4, by omega, by omega, fun H5 n hB5 bt5 hn => ?_⟩
    have bt05 := bt04.trans bt5
    refine ⟨_, rfl, by omega, by omega, fun D1 nD1 => ?_⟩
    have D1b : D1 ∉ [b, l] := fun m => by
      obtain ⟨ys, e⟩ := hB5.lsts _ m
      rw [nD1] at e; cases e
    have D10 : H D1 = none := by
      cases h : H D1 with
      | none => rfl
      | some o => rw [bt05 D1 o D1b h] at nD1; cases nD1
    refine lc_it (walk_range (lo := 0) (n := (n : Int).toNat)) (fun i H' => ∃ bs : List Bool, bs.length = i ∧ H' D1 = some (.lst (bs.map V.bl)) ∧ Box H' b l ∧ But [b, l] H H')
      ⟨[], rfl, upd_same, hB5.same (same_new nD1), bt05.trans (Same.but (same_new nD1))⟩ (fun _ _ _ _ => trivial) (fun i x H6 H7 hi hp hy => ?_) (fun H6 hp => ?_)
    · obtain ⟨bs, e1, e2, hB6, bt6⟩ := hp
      obtain ⟨rfl, rfl⟩ := hy
      refine ⟨rfl, ?_⟩
      refine ⟨_, rfl, _, rfl, b, l, _, often, rfl, rfl, hB6, by omega, by omega, fun H8 r8 hB8 bt8 hr8 => ?_⟩
      have e3 := bt8 _ _ D1b e2
      have hi' : i < n := by simpa using hi
      refine ⟨rfl, _, rfl, rfl, _, e3, by rw [List.length_map]; exact fits (by omega), bs ++ [_], by simp [e1], by rw [upd_same, List.map_append]; rfl, But.box hB8 (fun z => D1b (by simp [z])) (fun z => D1b (by simp [z])), But.newset D10 (bt6.trans bt8)⟩
    · obtain ⟨bs, e1, e2, hB6, bt6⟩ := hp
      have e1' : bs.length = n := by simpa using e1
      exact q H6 D1 bs hB6 bt6 D10 e2 (by omega)
end
end Vt
namespace Vt
open PySem PySem.Spec PyProof.Rows L2
/-! ### what a run tells -/
def saidOf (rows : List Row) : List Nat := (rows.filter fun r => decide (r.word = ("say" : Str))).map Row.num
def rowsD (rows : List Row) : D := .lst (rows.map Row.d)
def tellD (G : Mst) : D := .tup [.tup ((saidOf G.rows).map nD), .tup (G.mem.map nD), nD G.beats]
theorem run_ok {B : Brd} (ok : BrdOk B) : ∀ (f : Nat) (M : Mst), MOk B.mem.length B.prog M → MOk B.mem.length B.prog (Mst.run B.ords B.prog f M)
  | 0, M, h => h
  | f + 1, M, h => by
    rw [Mst.run]
    cases ho : M.over B.prog with
    | true => exact h
    | false => exact run_ok ok f _ (beat_ok h ho ok.ords ok.eight ok.prog).1
theorem gone_ok {B : Brd} (ok : BrdOk B) (pace : List Bool) : MOk0 B.mem.length (gone B pace) ∧ (gone B pace).rows.length ≤ 90004 := by
  have h := run_ok ok 7000 _ (begin_ok ok pace)
  have g := cleans_ok h.toMOk0 4
  have := h.room
  refine ⟨g.1, ?_⟩
  have e : (gone B pace).rows.length ≤ (Mst.run B.ords B.prog 7000 (Mst.begin B pace)).rows.length + 4 := g.2
  omega
def spStory : Sp := fun vs H Q _ => ∃ (v : V) (B : Brd) (pl : Addr) (pace : List Bool), vs = [v, .ref pl] ∧ Pd H v B.d ∧ BrdOk B ∧ H pl = some (.lst (pace.map V.bl)) ∧ pace.length ≤ 1000 ∧
  ∀ (H' : Hp) (l : Addr) (xs : List V), Same H H' → H l = none → H' l = some (.lst xs) → Pds H' xs ((gone B pace).rows.map Row.d) → Q (.ref l) H'
def spEnded : Sp := fun vs H Q _ => ∃ (v : V) (B : Brd) (pl : Addr) (pace : List Bool), vs = [v, .ref pl] ∧ Pd H v B.d ∧ BrdOk B ∧ H pl = some (.lst (pace.map V.bl)) ∧ pace.length ≤ 1000 ∧
  ∀ (H' : Hp) (u : V), Same H H' → Pd H' u (tellD (gone B pace)) → Q u H'
theorem dep_rows : ∀ rs : List Row, deps (rs.map Row.d) ≤ 1
  | [] => by simp [deps]
  | r :: t => by
    have := dep_rows t
    simp only [List.map_cons, deps, Row.d, D.dep, nD]
    omega
theorem sm_row (r : Row) : r.d.sm = true := by simp [Row.d, D.sm, smAll, nD]
theorem sm_ns' {xs : List Nat} (h : xs.length ≤ 100000) : (D.tup (xs.map nD)).sm = true := by
  simp only [D.sm, List.length_map, Bool.and_eq_true, decide_eq_true_eq]
  exact ⟨h, sm_map sm_nD _⟩
theorem dep_ns' : ∀ xs : List Nat, deps (xs.map nD) = 0
  | [] => rfl
  | x :: r => by simp [deps, D.dep, nD, dep_ns' r]
theorem Keep.toSame {ow : Addr → Prop} {H H' : Hp} (k : Keep (fun _ => False) ow H H') : Same H H' := fun c o h => (k c o (by simp) h).1
/-- two lists of truths that are the same, asked whether they differ -/
theorem rd_nePace {K : PySem.W.Frag} {H : Hp} {a b : Addr} {bs : List Bool} {Q : VK} (ha : H a = some (.lst (bs.map V.bl))) (hb : H b = some (.lst (bs.map V.bl))) (q : Q (.bl false) H) : rNeD K (.ref a) (.ref b) H Q := by
  have hl := shaped_lst (ds := bs.map D.bl) (lay_map lay_bl _) (by rw [dep_bls]; decide)
  refine ⟨.list (pys (bs.map D.bl)), .list (pys (bs.map D.bl)), .lst (sqL_l ha) (pds_bls _).dp, .lst (sqL_l hb) (pds_bls _).dp, hl, hl, ?_⟩
  rw [PySem.SeqAt.eqv_refl _ (by rw [PyData.canLay0]; exact lay_map lay_bl _)]; exact q
theorem word_say (r : Row) : (decide (V.str r.word = V.str "say") = true) ↔ r.word = ("say" : Str) := by
  rw [decide_eq_true_iff]
  exact ⟨fun z => by injection z, fun z => by rw [z]⟩
theorem said_take {rows : List Row} {j : Nat} {r : Row} (h : rows[j]? = some r) : saidOf (rows.take (j + 1)) = saidOf (rows.take j) ++ (if r.word = ("say" : Str) then [r.num] else []) := by
  unfold saidOf
  rw [List.take_add_one, h]
  simp only [Option.toList_some, List.filter_append, List.map_append]
  by_cases e : r.word = ("say" : Str) <;> simp [e]
end Vt
namespace Vt
open PySem PySem.Spec PyProof.Rows L2
/-! ### the program's machine in the heap -/
structure PA where
  dx : Addr
  mem : Addr
  held : Addr
  tou : Addr
  left : Addr
  rows : Addr
  said : Addr
  ords : V
  prog : V
  ha : Nat → Addr
  xs : List V
  ls : List V
def PA.all (A : PA) (m : Addr) : List Addr := [m, A.dx, A.mem, A.held, A.tou, A.left, A.rows, A.said]
def slotV (A : PA) (M : Mst) (l : Nat) : V := if M.holds l = true then .ref (A.ha l) else .non
def heldV (A : PA) (M : Mst) : List V := (List.range M.held.length).map (slotV A M)
def fsM (A : PA) (at_ beats : Nat) : List (Str × V) :=
  [("memory", .ref A.mem), ("orders", A.ords), ("program", A.prog), ("deeds_done", nV at_), ("held", .ref A.held), ("touched", .ref A.tou), ("left", .ref A.left), ("beats", nV beats), ("rows", .ref A.rows), ("said", .ref A.said)]
def fieldNames : List Str := ["memory", "orders", "program", "deeds_done", "held", "touched", "left", "beats", "rows", "said"]
structure MC (K : PySem.W.Frag) (C : Addr) : Prop where
  cl : Cls K C
  n : ∀ f ∈ fieldNames, NoAttr K C f
structure PM (ow : Addr → Prop) (H : Hp) (C m : Addr) (M : Mst) (sd : List Nat) (A : PA) : Prop where
  obj : H m = some (.ins C A.dx (fsM A M.at_ M.beats))
  dxo : H A.dx = some (.own m)
  mem : H A.mem = some (.lst (M.mem.map nV))
  held : H A.held = some (.lst (heldV A M))
  tou : H A.tou = some (.lst (M.tou.map V.bl))
  left : H A.left = some (.lst A.ls)
  leftD : Pds H A.ls (M.left.map Mv.d)
  rows : H A.rows = some (.lst A.xs)
  rowsD : Pds H A.xs (M.rows.map Row.d)
  said : H A.said = some (.lst (sd.map nV))
  line : ∀ l, M.holds l = true → H (A.ha l) = some (.lst ((M.cellsOf l).map nV))
  inj : ∀ l k, M.holds l = true → M.holds k = true → A.ha l = A.ha k → l = k
  nd : (A.all m).Nodup
  hl : ∀ l, M.holds l = true → A.ha l ∉ A.all m
  oa : ∀ c ∈ A.all m, ow c
  ol : ∀ l, M.holds l = true → ow (A.ha l)
  kind : ∀ c, ow c → ∃ o, H c = some o ∧ ∀ xs, o ≠ .tup xs
theorem nd_dif : ∀ {l : List Addr} {i j : Nat} {a b : Addr}, l.Nodup → l[i]? = some a → l[j]? = some b → i ≠ j → b ≠ a
  | [], _, _, _, _, _, h, _, _ => by simp at h
  | x :: r, 0, 0, _, _, _, _, _, n => absurd rfl n
  | x :: r, 0, j + 1, a, b, nd, h1, h2, _ => by
    simp only [List.getElem?_cons_zero, Option.some.injEq] at h1
    simp only [List.getElem?_cons_succ] at h2
    subst h1
    exact fun e => (List.nodup_cons.mp nd).1 (by rw [← e]; exact List.mem_of_getElem? h2)
  | x :: r, i + 1, 0, a, b, nd, h1, h2, _ => by
    simp only [List.getElem?_cons_zero, Option.some.injEq] at h2
    simp only [List.getElem?_cons_succ] at h1
    subst h2
    exact fun e => (List.nodup_cons.mp nd).1 (by rw [e]; exact List.mem_of_getElem? h1)
  | x :: r, i + 1, j + 1, a, b, nd, h1, h2, n => nd_dif (List.nodup_cons.mp nd).2 (by simpa using h1) (by simpa using h2) (fun e => n (by rw [e]))
section
variable {ow : Addr → Prop} {H H' : Hp} {C m : Addr} {M : Mst} {sd : List Nat} {A : PA} {K : PySem.W.Frag}
theorem PM.notTup (h : PM ow H C m M sd A) {c : Addr} {xs : List V} (e : H c = some (.tup xs)) : ¬ ow c := fun n => by
  obtain ⟨o, e1, e2⟩ := h.kind c n
  rw [e1] at e
  exact e2 xs (Option.some.inj e)
theorem PM.fresh (h : PM ow H C m M sd A) {p : Addr} (np : H p = none) : ¬ ow p := fun n => by
  obtain ⟨o, e1, _⟩ := h.kind p n
  rw [np] at e1; cases e1
theorem PM.same (h : PM ow H C m M sd A) (s : Same H H') : PM ow H' C m M sd A :=
  ⟨s _ _ h.obj, s _ _ h.dxo, s _ _ h.mem, s _ _ h.held, s _ _ h.tou, s _ _ h.left, h.leftD.same s, s _ _ h.rows, h.rowsD.same s, s _ _ h.said, fun l e => s _ _ (h.line l e), h.inj, h.nd, h.hl, h.oa, h.ol,
    fun c n => by obtain ⟨o, e1, e2⟩ := h.kind c n; exact ⟨o, s _ _ e1, e2⟩⟩
theorem PM.fr (h : PM ow H C m M sd A) {i : Nat} {q : Addr} {o : HO} (hq : (A.all m)[i]? = some q) : (∀ (j : Nat) (c : Addr), j ≠ i → (A.all m)[j]? = some c → upd H q o c = H c) ∧ (∀ l, M.holds l = true → upd H q o (A.ha l) = H (A.ha l)) ∧ (∀ c xs, H c = some (.tup xs) → upd H q o c = some (.tup xs)) := by
  refine ⟨fun j c n e => upd_ne (nd_dif h.nd hq e (fun z => n z.symm)), fun l e => upd_ne (fun z => h.hl l e (by rw [z]; exact List.mem_of_getElem? hq)), fun c xs e => ?_⟩
  rw [upd_ne (fun z => h.notTup e (by rw [z]; exact h.oa _ (List.mem_of_getElem? hq)))]; exact e
theorem PM.kindU (h : PM ow H C m M sd A) {q : Addr} {o : HO} (no : ∀ xs, o ≠ .tup xs) : ∀ c, ow c → ∃ u, upd H q o c = some u ∧ ∀ xs, u ≠ .tup xs := fun c n => by
  by_cases e : c = q
  · subst e; exact ⟨o, upd_same, no⟩
  · rw [upd_ne e]; exact h.kind c n
theorem Keep.ofOw {q : Addr} {o : HO} (hq : ow q) : Keep ow ow H (upd H q o) := Keep.setOwn hq
theorem slot_congr {M' : Mst} {A' : PA} (e1 : M'.held.length = M.held.length) (e2 : ∀ l, slotV A' M' l = slotV A M l) : heldV A' M' = heldV A M := by
  unfold heldV
  rw [e1]
  exact List.map_congr_left fun l _ => e2 l
theorem slot_set {M' : Mst} {A' : PA} {l : Nat} {v : V} (e1 : M'.held.length = M.held.length) (e2 : ∀ k, k ≠ l → slotV A' M' k = slotV A M k) (e3 : slotV A' M' l = v) : (heldV A M).set l v = heldV A' M' := by
  refine List.ext_getElem? fun k => ?_
  unfold heldV
  rw [e1]
  by_cases ek : l = k
  · subst ek
    rcases Nat.lt_or_ge l M.held.length with c | c
    · rw [List.getElem?_set_self (by simpa using c), List.getElem?_map, List.getElem?_range c]
      simp [e3]
    · rw [List.getElem?_eq_none (by simpa using c), List.getElem?_eq_none (by simpa using c)]
  · rw [List.getElem?_set_ne ek, List.getElem?_map, List.getElem?_map]
    rcases Nat.lt_or_ge k M.held.length with c | c
    · rw [List.getElem?_range c]
      simp [e2 k (fun z => ek z.symm)]
    · rw [List.getElem?_eq_none (by simpa using c)]; rfl
theorem heldV_get {l : Nat} (hl : l < M.held.length) : (heldV A M)[l]? = some (slotV A M l) := by
  unfold heldV
  rw [List.getElem?_map, List.getElem?_range hl]; rfl
theorem heldV_len : (heldV A M).length = M.held.length := by simp [heldV]
/-! fields read -/
theorem PM.f (h : PM ow H C m M sd A) (c : MC K C) {f : Str} {v : V} {Q : VK} (hf : f ∈ fieldNames) (hl : (fsM A M.at_ M.beats).lookup f = some v) (q : Q v H) : ∃ a C' dx fs v', V.ref m = .ref a ∧ H a = some (.ins C' dx fs) ∧ Cls K C' ∧ NoAttr K C' f ∧ fs.lookup f = some v' ∧ Q v' H :=
  ⟨m, C, _, _, v, rfl, h.obj, c.cl, c.n f hf, hl, q⟩
/-! writes -/
theorem PM.tell (h : PM ow H C m M sd A) {T : Addr} {w : Str} {p n : Nat} (nT : H T = none) : (upd H T (.tup (Row.mk M.beats w p n).vs)) A.rows = some (.lst A.xs) ∧
    PM ow (upd (upd H T (.tup (Row.mk M.beats w p n).vs)) A.rows (.lst (A.xs ++ [.ref T]))) C m (M.tell w p n) sd { A with xs := A.xs ++ [.ref T] } ∧ Keep ow ow H (upd (upd H T (.tup (Row.mk M.beats w p n).vs)) A.rows (.lst (A.xs ++ [.ref T]))) := by
  have s := same_new (o := .tup (Row.mk M.beats w p n).vs) nT
  have h1 := h.same s
  have hT : (upd H T (.tup (Row.mk M.beats w p n).vs)) T = some (.tup (Row.mk M.beats w p n).vs) := upd_same
  generalize upd H T (.tup (Row.mk M.beats w p n).vs) = H1 at *
  obtain ⟨f1, f2, f3⟩ := h1.fr (i := 6) (q := A.rows) (o := .lst (A.xs ++ [.ref T])) rfl
  refine ⟨h1.rows, ⟨(f1 0 m (by decide) rfl).trans h1.obj, (f1 1 _ (by decide) rfl).trans h1.dxo, (f1 2 _ (by decide) rfl).trans h1.mem, (f1 3 _ (by decide) rfl).trans h1.held, (f1 4 _ (by decide) rfl).trans h1.tou, (f1 5 _ (by decide) rfl).trans h1.left, Pds.tups f3 (noLs_map noL_mv _) h1.leftD, upd_same, ?_,
    (f1 7 _ (by decide) rfl).trans h1.said, fun l e => (f2 l e).trans (h1.line l e), h1.inj, h1.nd, h1.hl, h1.oa, h1.ol, h1.kindU (fun xs z => by cases z)⟩, (Same.keep s).trans (Keep.ofOw (h1.oa _ (List.mem_of_getElem? (i := 6) rfl)))⟩
  show Pds _ _ ((M.rows ++ [Row.mk M.beats w p n]).map Row.d)
  rw [List.map_append]
  exact (Pds.tups f3 (noLs_map noL_row _) h1.rowsD).app (.cons (Row.pd (f3 _ _ hT)) .nil)
theorem PM.setNums (h : PM ow H C m M sd A) {a b : Nat} : PM ow (upd H m (.ins C A.dx (fsM A a b))) C m { M with at_ := a, beats := b } sd A := by
  obtain ⟨f1, f2, f3⟩ := h.fr (i := 0) (q := m) (o := .ins C A.dx (fsM A a b)) rfl
  exact ⟨upd_same, (f1 1 _ (by decide) rfl).trans h.dxo, (f1 2 _ (by decide) rfl).trans h.mem, (f1 3 _ (by decide) rfl).trans h.held, (f1 4 _ (by decide) rfl).trans h.tou, (f1 5 _ (by decide) rfl).trans h.left, Pds.tups f3 (noLs_map noL_mv _) h.leftD, (f1 6 _ (by decide) rfl).trans h.rows, Pds.tups f3 (noLs_map noL_row _) h.rowsD,
    (f1 7 _ (by decide) rfl).trans h.said, fun l e => (f2 l e).trans (h.line l e), h.inj, h.nd, h.hl, h.oa, h.ol, h.kindU (fun xs z => by cases z)⟩
theorem PM.setSaid (h : PM ow H C m M sd A) {sd' : List Nat} : PM ow (upd H A.said (.lst (sd'.map nV))) C m M sd' A := by
  obtain ⟨f1, f2, f3⟩ := h.fr (i := 7) (q := A.said) (o := .lst (sd'.map nV)) rfl
  exact ⟨(f1 0 m (by decide) rfl).trans h.obj, (f1 1 _ (by decide) rfl).trans h.dxo, (f1 2 _ (by decide) rfl).trans h.mem, (f1 3 _ (by decide) rfl).trans h.held, (f1 4 _ (by decide) rfl).trans h.tou, (f1 5 _ (by decide) rfl).trans h.left, Pds.tups f3 (noLs_map noL_mv _) h.leftD, (f1 6 _ (by decide) rfl).trans h.rows, Pds.tups f3 (noLs_map noL_row _) h.rowsD,
    upd_same, fun l e => (f2 l e).trans (h.line l e), h.inj, h.nd, h.hl, h.oa, h.ol, h.kindU (fun xs z => by cases z)⟩
theorem PM.setMem (h : PM ow H C m M sd A) {mm : List Nat} : PM ow (upd H A.mem (.lst (mm.map nV))) C m { M with mem := mm } sd A := by
  obtain ⟨f1, f2, f3⟩ := h.fr (i := 2) (q := A.mem) (o := .lst (mm.map nV)) rfl
  exact ⟨(f1 0 m (by decide) rfl).trans h.obj, (f1 1 _ (by decide) rfl).trans h.dxo, upd_same, (f1 3 _ (by decide) rfl).trans h.held, (f1 4 _ (by decide) rfl).trans h.tou, (f1 5 _ (by decide) rfl).trans h.left, Pds.tups f3 (noLs_map noL_mv _) h.leftD, (f1 6 _ (by decide) rfl).trans h.rows, Pds.tups f3 (noLs_map noL_row _) h.rowsD,
    (f1 7 _ (by decide) rfl).trans h.said, fun l e => (f2 l e).trans (h.line l e), h.inj, h.nd, h.hl, h.oa, h.ol, h.kindU (fun xs z => by cases z)⟩
theorem PM.setTou (h : PM ow H C m M sd A) {t : List Bool} : PM ow (upd H A.tou (.lst (t.map V.bl))) C m { M with tou := t } sd A := by
  obtain ⟨f1, f2, f3⟩ := h.fr (i := 4) (q := A.tou) (o := .lst (t.map V.bl)) rfl
  exact ⟨(f1 0 m (by decide) rfl).trans h.obj, (f1 1 _ (by decide) rfl).trans h.dxo, (f1 2 _ (by decide) rfl).trans h.mem, (f1 3 _ (by decide) rfl).trans h.held, upd_same, (f1 5 _ (by decide) rfl).trans h.left, Pds.tups f3 (noLs_map noL_mv _) h.leftD, (f1 6 _ (by decide) rfl).trans h.rows, Pds.tups f3 (noLs_map noL_row _) h.rowsD,
    (f1 7 _ (by decide) rfl).trans h.said, fun l e => (f2 l e).trans (h.line l e), h.inj, h.nd, h.hl, h.oa, h.ol, h.kindU (fun xs z => by cases z)⟩
theorem PM.setLeft (h : PM ow H C m M sd A) {ls : List V} {lf : List Mv} (d : Pds H ls (lf.map Mv.d)) : PM ow (upd H A.left (.lst ls)) C m { M with left := lf } sd { A with ls := ls } := by
  obtain ⟨f1, f2, f3⟩ := h.fr (i := 5) (q := A.left) (o := .lst ls) rfl
  exact ⟨(f1 0 m (by decide) rfl).trans h.obj, (f1 1 _ (by decide) rfl).trans h.dxo, (f1 2 _ (by decide) rfl).trans h.mem, (f1 3 _ (by decide) rfl).trans h.held, (f1 4 _ (by decide) rfl).trans h.tou, upd_same, Pds.tups f3 (noLs_map noL_mv _) d, (f1 6 _ (by decide) rfl).trans h.rows, Pds.tups f3 (noLs_map noL_row _) h.rowsD,
    (f1 7 _ (by decide) rfl).trans h.said, fun l e => (f2 l e).trans (h.line l e), h.inj, h.nd, h.hl, h.oa, h.ol, h.kindU (fun xs z => by cases z)⟩
theorem PM.rePace (h : PM ow H C m M sd A) {p : List Bool} : PM ow H C m { M with pace := p } sd A :=
  ⟨h.obj, h.dxo, h.mem, h.held, h.tou, h.left, h.leftD, h.rows, h.rowsD, h.said, h.line, h.inj, h.nd, h.hl, h.oa, h.ol, h.kind⟩
/-- a line is taken -/
theorem PM.takeL (h : PM ow H C m M sd A) {l : Nat} {p : Addr} {cs : List Nat} (hl2 : l < M.held.length) (e : H p = some (.lst (cs.map nV))) (np : ¬ ow p) (hn : M.holds l = false) :
    PM (fun c => ow c ∨ c = p) (upd H A.held (.lst ((heldV A M).set l (.ref p)))) C m { M with held := M.held.set l (some cs) } sd { A with ha := fun k => if k = l then p else A.ha k } := by
  obtain ⟨f1, f2, f3⟩ := h.fr (i := 3) (q := A.held) (o := .lst ((heldV A M).set l (.ref p))) rfl
  have hs : ∀ k, Mst.holds { M with held := M.held.set l (some cs) } k = true ↔ k = l ∨ M.holds k = true := fun k => by
    rw [Mst.holds_iff, Mst.holds_iff]
    by_cases ek : l = k
    · subst ek
      simp only [List.getElem?_set_self hl2, true_or, iff_true]
      exact ⟨cs, rfl⟩
    · simp only [List.getElem?_set_ne ek]
      exact ⟨.inr, fun z => z.elim (fun z => absurd z.symm ek) id⟩
  have cl : ∀ k, k ≠ l → Mst.cellsOf { M with held := M.held.set l (some cs) } k = M.cellsOf k := fun k ek => by
    unfold Mst.cellsOf
    rw [List.getElem?_set_ne (fun z => ek z.symm)]
  have cll : Mst.cellsOf { M with held := M.held.set l (some cs) } l = cs := Mst.cellsOf_of (List.getElem?_set_self hl2)
  have hb : ∀ k, k ≠ l → Mst.holds { M with held := M.held.set l (some cs) } k = M.holds k := fun k ek => by
    have := hs k
    cases h1 : Mst.holds { M with held := M.held.set l (some cs) } k <;> cases h2 : M.holds k <;> simp_all
  have nl : ∀ k, M.holds k = true → k ≠ l := fun k hk z => by rw [z, hn] at hk; cases hk
  have pall : p ∉ A.all m := fun z => np (h.oa _ z)
  have ph : p ≠ A.held := fun z => pall (by rw [z]; exact List.mem_of_getElem? (i := 3) rfl)
  refine ⟨(f1 0 m (by decide) rfl).trans h.obj, (f1 1 _ (by decide) rfl).trans h.dxo, (f1 2 _ (by decide) rfl).trans h.mem, ?_, (f1 4 _ (by decide) rfl).trans h.tou, (f1 5 _ (by decide) rfl).trans h.left, Pds.tups f3 (noLs_map noL_mv _) h.leftD, (f1 6 _ (by decide) rfl).trans h.rows, Pds.tups f3 (noLs_map noL_row _) h.rowsD,
    (f1 7 _ (by decide) rfl).trans h.said, fun j hj => ?_, fun j j' hj hj' ej => ?_, h.nd, fun j hj => ?_, fun c hc => .inl (h.oa c hc), fun j hj => ?_, fun c hc => ?_⟩
  · show upd H A.held _ A.held = _
    rw [upd_same]
    congr 2
    refine slot_set (by simp) (fun k ek => ?_) ?_
    · unfold slotV
      rw [hb k ek]
      simp only [if_neg ek]
    · unfold slotV
      rw [if_pos ((hs l).mpr (.inl rfl))]
      simp
  · by_cases ej : j = l
    · subst ej
      simp only [eq_self, if_true]
      rw [upd_ne ph, cll]; exact e
    · have hj' : M.holds j = true := ((hs j).mp hj).resolve_left ej
      simp only [if_neg ej]
      rw [f2 j hj', cl j ej]; exact h.line j hj'
  · rcases (hs j).mp hj with rfl | g
    · rcases (hs j').mp hj' with rfl | g'
      · rfl
      · simp only [eq_self, if_true, if_neg (nl j' g')] at ej
        exact absurd (h.ol j' g') (by rw [← ej]; exact np)
    · rcases (hs j').mp hj' with rfl | g'
      · simp only [eq_self, if_true, if_neg (nl j g)] at ej
        exact absurd (h.ol j g) (by rw [ej]; exact np)
      · simp only [if_neg (nl j g), if_neg (nl j' g')] at ej
        exact h.inj j j' g g' ej
  · by_cases ej : j = l
    · simp only [if_pos ej]; exact pall
    · simp only [if_neg ej]
      exact h.hl j (((hs j).mp hj).resolve_left ej)
  · by_cases ej : j = l
    · simp only [if_pos ej]; exact .inr trivial
    · simp only [if_neg ej]
      exact .inl (h.ol j (((hs j).mp hj).resolve_left ej))
  · rcases hc with hc | rfl
    · exact h.kindU (fun xs z => by cases z) c hc
    · exact ⟨_, by rw [upd_ne ph]; exact e, fun xs z => by cases z⟩
/-- a line is written -/
theorem PM.writeL (h : PM ow H C m M sd A) {l : Nat} {cs : List Nat} (hl : M.holds l = true) : PM ow (upd H (A.ha l) (.lst (cs.map nV))) C m { M with held := M.held.set l (some cs) } sd A := by
  have hl2 := Mst.holds_lt hl
  have f1 : ∀ (j : Nat) (c : Addr), (A.all m)[j]? = some c → upd H (A.ha l) (.lst (cs.map nV)) c = H c := fun j c e => upd_ne (fun z => h.hl l hl (by rw [← z]; exact List.mem_of_getElem? e))
  have f3 : ∀ c xs, H c = some (.tup xs) → upd H (A.ha l) (.lst (cs.map nV)) c = some (.tup xs) := fun c xs e => by
    rw [upd_ne (fun z => h.notTup e (by rw [z]; exact h.ol l hl))]; exact e
  have hs : ∀ k, Mst.holds { M with held := M.held.set l (some cs) } k = M.holds k := fun k => by
    by_cases ek : l = k
    · subst ek
      rw [hl]
      exact Mst.holds_iff.mpr ⟨cs, List.getElem?_set_self hl2⟩
    · unfold Mst.holds
      rw [List.getElem?_set_ne ek]
  have cll : Mst.cellsOf { M with held := M.held.set l (some cs) } l = cs := Mst.cellsOf_of (List.getElem?_set_self hl2)
  refine ⟨(f1 0 m rfl).trans h.obj, (f1 1 _ rfl).trans h.dxo, (f1 2 _ rfl).trans h.mem, ?_, (f1 4 _ rfl).trans h.tou, (f1 5 _ rfl).trans h.left, Pds.tups f3 (noLs_map noL_mv _) h.leftD, (f1 6 _ rfl).trans h.rows, Pds.tups f3 (noLs_map noL_row _) h.rowsD, (f1 7 _ rfl).trans h.said,
    fun j hj => ?_, fun j j' hj hj' ej => h.inj j j' (by rw [← hs]; exact hj) (by rw [← hs]; exact hj') ej, h.nd, fun j hj => h.hl j (by rw [← hs]; exact hj), h.oa, fun j hj => h.ol j (by rw [← hs]; exact hj), h.kindU (fun xs z => by cases z)⟩
  · rw [(f1 3 _ rfl).trans h.held]
    congr 2
    exact (slot_congr (by simp) fun k => by unfold slotV; rw [hs]).symm
  · rw [hs] at hj
    by_cases ej : j = l
    · subst ej; rw [upd_same, cll]
    · rw [upd_ne (fun z => ej (h.inj j l hj hl z)), h.line j hj]
      unfold Mst.cellsOf
      rw [List.getElem?_set_ne (fun z => ej z.symm)]
/-- a line is not held any more -/
theorem PM.unhold (h : PM ow H C m M sd A) {l : Nat} : PM ow (upd H A.held (.lst ((heldV A M).set l .non))) C m { M with held := M.held.set l none } sd A := by
  obtain ⟨f1, f2, f3⟩ := h.fr (i := 3) (q := A.held) (o := .lst ((heldV A M).set l .non)) rfl
  have hs : ∀ j, Mst.holds { M with held := M.held.set l none } j = true ↔ j ≠ l ∧ M.holds j = true := fun j => by
    rw [Mst.holds_iff, Mst.holds_iff]
    by_cases ek : l = j
    · subst ek
      constructor
      · rintro ⟨cs, e⟩
        simp only [List.getElem?_set] at e
        split at e <;> simp_all
      · rintro ⟨z, _⟩; exact absurd rfl z
    · simp only [List.getElem?_set_ne ek]
      exact ⟨fun z => ⟨fun q => ek q.symm, z⟩, fun z => z.2⟩
  have cl : ∀ j, j ≠ l → Mst.cellsOf { M with held := M.held.set l none } j = M.cellsOf j := fun j ek => by
    unfold Mst.cellsOf
    rw [List.getElem?_set_ne (fun z => ek z.symm)]
  have hb : ∀ k, k ≠ l → Mst.holds { M with held := M.held.set l none } k = M.holds k := fun k ek => by
    have := hs k
    cases h1 : Mst.holds { M with held := M.held.set l none } k <;> cases h2 : M.holds k <;> simp_all
  refine ⟨(f1 0 m (by decide) rfl).trans h.obj, (f1 1 _ (by decide) rfl).trans h.dxo, (f1 2 _ (by decide) rfl).trans h.mem, ?_, (f1 4 _ (by decide) rfl).trans h.tou, (f1 5 _ (by decide) rfl).trans h.left, Pds.tups f3 (noLs_map noL_mv _) h.leftD, (f1 6 _ (by decide) rfl).trans h.rows, Pds.tups f3 (noLs_map noL_row _) h.rowsD,
    (f1 7 _ (by decide) rfl).trans h.said, fun j hj => by obtain ⟨q1, q2⟩ := (hs j).mp hj; rw [f2 j q2, cl j q1]; exact h.line j q2, fun j j' hj hj' ej => h.inj j j' ((hs j).mp hj).2 ((hs j').mp hj').2 ej, h.nd, fun j hj => h.hl j ((hs j).mp hj).2, h.oa, fun j hj => h.ol j ((hs j).mp hj).2, h.kindU (fun xs z => by cases z)⟩
  rw [upd_same]
  congr 2
  refine slot_set (by simp) (fun k ek => ?_) ?_
  · unfold slotV; rw [hb k ek]
  · unfold slotV
    rw [if_neg (fun z => ((hs l).mp z).1 rfl)]
end
end Vt
namespace Vt
open PySem PySem.Spec PyProof.Rows L2
section
variable {P : Program} {w : World} {K : PySem.W.Frag} {mg : Str → Option Value} {base : Heap} {C : Addr}
abbrev st_Machine_tell : Stmt := (inClass (topS 21) 12)
abbrev nm_Machine_tell : List Str := ["self", "word", "place", "number"]
theorem sc_Machine_tell : FnScope ["self", "word", "place", "number"] ["self", "word", "place", "number"] (defScope st_Machine_tell) := ⟨rfl, rfl, rfl, by decide +kernel, rfl, by decide +kernel, by decide +kernel⟩
def spTell (C : Addr) : Sp := fun vs H Q _ => ∃ (ow : Addr → Prop) (m : Addr) (M : Mst) (sd : List Nat) (A : PA) (wd : Str) (p n : Nat), vs = [.ref m, .str wd, nV p, nV n] ∧ PM ow H C m M sd A ∧ M.rows.length ≤ 900000 ∧
  ∀ (H' : Hp) (A' : PA), PM ow H' C m (M.tell wd p n) sd A' → Keep ow ow H H' → A'.ords = A.ords → A'.prog = A.prog → Q .non H'
theorem ok_tell {f : Addr} {fd : FuncData} (F : Fun K "tell" "Machine.tell" st_Machine_tell f fd) (c : MC K C) : FnOk P w K mg base CX0 1 f fd ["self", "word", "place", "number"] (spTell C) := by
  refine F.ok sc_Machine_tell (fun vs H Q E h => ?_) (fun cdv A outer s H vs Q E hr h => ?_)
  · obtain ⟨ow, m, M, sd, A, wd, p, n, rfl, _⟩ := h
    rfl
  · obtain ⟨ow, m, M, sd, A, wd, p, n, rfl, hM, hl, q⟩ := h
    refine ⟨_, (pss_one (ps_expr (pe_bm PySem.F.plainAttrs_list PySem.F.slot_list_append PySem.F.type_list_append mt_append (pe_fld (pv 0) rfl) (pa_cons (pe_tup (pa_cons (pe_fld (pv 0) rfl) (pa_cons (pv 1) (pa_cons (pv 2) (pa_cons (pv 3) pa_nil))))) pa_nil)))), ?_⟩
    have xl : A.xs.length = M.rows.length := by rw [hM.rowsD.len, List.length_map]
    refine ⟨_, rfl, m, C, _, _, _, rfl, hM.obj, c.cl, c.n _ (by decide), rfl, .inl ⟨rfl, _, sqL_l hM.rows⟩, _, rfl, m, C, _, _, _, rfl, hM.obj, c.cl, c.n _ (by decide), rfl, _, rfl, _, rfl, _, rfl, by show 4 ≤ sizeLine; decide, fun T nT => ?_⟩
    obtain ⟨g1, g2, g3⟩ := hM.tell (w := wd) (p := p) (n := n) nT
    exact ⟨A.rows, A.xs, _, rfl, rfl, g1, big (by omega), q _ _ g2 g3 rfl rfl⟩
abbrev st_Machine_line_of : Stmt := (inClass (topS 21) 7)
abbrev nm_Machine_line_of : List Str := ["self", "cell", "line", "first"]
theorem sc_Machine_line_of : FnScope ["self", "cell", "line", "first"] ["self", "cell"] (defScope st_Machine_line_of) := ⟨rfl, rfl, rfl, by decide +kernel, rfl, by decide +kernel, by decide +kernel⟩
def spLineOf (C : Addr) : Sp := fun vs H Q _ => ∃ (ow : Addr → Prop) (m : Addr) (M : Mst) (sd : List Nat) (A : PA) (cells k : Nat), vs = [.ref m, nV k] ∧ PM ow H C m M sd A ∧ MOk0 cells M ∧ k < cells ∧ M.rows.length ≤ 800000 ∧
  ∀ (H' : Hp) (ow' : Addr → Prop) (A' : PA), PM ow' H' C m (M.take (k / 4)) sd A' → Keep ow ow' H H' → A'.ords = A.ords → A'.prog = A.prog → Q (.ref (A'.ha (k / 4))) H'
theorem ok_lineof {f : Addr} {fd : FuncData} (F : Fun K "line_of" "Machine.line_of" st_Machine_line_of f fd) (c : MC K C) (CC : Consts K mg) (m_tell : MCallee P w K mg base C "tell" 1 (spTell C)) : FnOk P w K mg base CX0 2 f fd ["self", "cell"] (spLineOf C) := by
  obtain ⟨tL, mc_LINE⟩ := CC.line
  refine F.ok sc_Machine_line_of (fun vs H Q E h => ?_) (fun cdv A outer s H vs Q E hr h => ?_)
  · obtain ⟨ow, m, M, sd, A, cells, k, rfl, _⟩ := h
    rfl
  · obtain ⟨ow, m, M, sd, A, cells, k, rfl, hM, ok, hk, hrow, q⟩ := h
    have hl := ok.line hk
    have c16 : cells ≤ 16 := by have := ok.lines; omega
    have lcells : 4 * (k / 4) + 4 ≤ cells := by have := ok.lines; omega
    refine ⟨_, (pss_cons (ps_set (i := 2) sc_Machine_line_of.nd rfl (Or.inl rfl) (pe_op op_fdiv (pv 1) (pe_glob (v := .int 4) rfl mc_LINE ⟨_, rfl⟩)))
  (pss_cut (ps_if (pt_cmpR op_isN (pe_ix ix_lt (pe_fld (pv 0) rfl) (pv 2) (fun _ _ => rfl)) pe_non (nomark _)) (pss_cons (ps_set (i := 3) sc_Machine_line_of.nd rfl (Or.inl rfl) (pe_op op_mul (pv 2) (pe_glob (v := .int 4) rfl mc_LINE ⟨_, rfl⟩)))
  (pss_cons (ps_asg (pe_slice sl_list (pe_fld (pv 0) rfl) (po_some (pv 3)) (po_some (pe_op op_add (pv 3) (pe_glob (v := .int 4) rfl mc_LINE ⟨_, rfl⟩)))) (pg_sub (pe_fld (pv 0) rfl) (pv 2) set_list))
  (pss_one (ps_expr (pe_mcal m_tell hr (by first | decide | exact Nat.le_refl _) (pv 0) (pa_cons pe_str (pa_cons (pv 2) (pa_cons pe_int pa_nil)))))))) pss_nil)
  (pss_one (ps_ret (pe_ix ix_lt (pe_fld (pv 0) rfl) (pv 2) (fun _ _ => rfl)))))), ?_⟩
    refine ⟨_, rfl, _, _, rfl, rfl, ⟨by decide, by decide⟩, ?_⟩
    refine chgN (y := nV (k / 4)) (congrArg V.int (by omega)) ?_
    refine ⟨fun σ' H' => ∃ (y : Option V), σ' = [some (.ref m), some (nV k), some (nV (k / 4)), y] ∧ ∃ (ow' : Addr → Prop) (A' : PA), PM ow' H' C m (M.take (k / 4)) sd A' ∧ Keep ow ow' H H' ∧ A'.ords = A.ords ∧ A'.prog = A.prog, ?_, fun σ' H' hMid => ?_⟩
    · have hlh : k / 4 < M.held.length := by rw [ok.held]; exact hl
      have g : atI (heldV A M) ((k / 4 : Nat) : Int) = some (slotV A M (k / 4)) := atI_nat (heldV_get hlh)
      refine ⟨_, rfl, m, C, _, _, _, rfl, hM.obj, c.cl, c.n _ (by decide), rfl, _, rfl, A.held, _, _, _, rfl, rfl, sqA_l hM.held, g, ?_⟩
      unfold slotV
      cases hh : M.holds (k / 4) with
      | true =>
        rw [if_pos rfl]
        refine ⟨rfl, _, rfl, iteF ?_⟩
        exact ⟨_, rfl, ow, A, by rw [Mst.take, if_pos hh]; exact hM, Keep.refl, rfl, rfl⟩
      | false =>
        rw [if_neg (by simp)]
        refine ⟨rfl, _, rfl, iteT ?_⟩
        -- first = line * LINE; self.held[line] = self.memory[first:first + LINE]
        refine ⟨_, rfl, _, _, rfl, rfl, .inl ⟨by omega, by omega⟩, ?_⟩
        refine chgN (y := nV (4 * (k / 4))) (congrArg V.int (by omega)) ?_
        refine ⟨_, rfl, m, C, _, _, _, rfl, hM.obj, c.cl, c.n _ (by decide), rfl, _, rfl, _, rfl, _, rfl, _, _, rfl, rfl, _, rfl, A.mem, _, rfl, sqL_l hM.mem, fun p np => ?_⟩
        have ecut : cutV (M.mem.map nV) (some ((4 * (k / 4) : Nat) : Int)) (some (((4 * (k / 4) : Nat) : Int) + 4)) = ((M.mem.drop (4 * (k / 4))).take 4).map nV := by
          have := cut_nat (α := V) (M.mem.map nV) (4 * (k / 4)) (4 * (k / 4) + 4) (by omega) (by rw [List.length_map, ok.mem]; omega)
          rw [show ((4 * (k / 4) + 4 : Nat) : Int) = ((4 * (k / 4) : Nat) : Int) + 4 by omega] at this
          rw [this, ← List.map_drop, ← List.map_take]
          congr 2; omega
        have s1 := same_new (o := .lst (cutV (M.mem.map nV) (some ((4 * (k / 4) : Nat) : Int)) (some (((4 * (k / 4) : Nat) : Int) + 4)))) np
        have hp : (upd H p (.lst (cutV (M.mem.map nV) (some ((4 * (k / 4) : Nat) : Int)) (some (((4 * (k / 4) : Nat) : Int) + 4))))) p = some (.lst (((M.mem.drop (4 * (k / 4))).take 4).map nV)) := by rw [upd_same, ecut]
        have hM1 := hM.same s1
        have now : ¬ ow p := hM.fresh np
        generalize upd H p (.lst (cutV (M.mem.map nV) (some ((4 * (k / 4) : Nat) : Int)) (some (((4 * (k / 4) : Nat) : Int) + 4)))) = H1 at s1 hp hM1
        refine ⟨_, rfl, m, C, _, _, _, rfl, hM1.obj, c.cl, c.n _ (by decide), rfl, _, rfl, A.held, _, _, k / 4, rfl, rfl, hM1.held, ixN_of rfl (by rw [heldV_len]; exact hlh), ?_⟩
        have hM2 := hM1.takeL hlh hp now hh
        have k2 : Keep ow (fun c => ow c ∨ c = p) H (upd H1 A.held (.lst ((heldV A M).set (k / 4) (.ref p)))) := fun c o nc hc => by
          obtain ⟨e1, _⟩ := Keep.ofOw (H := H1) (o := .lst ((heldV A M).set (k / 4) (.ref p))) (hM1.oa A.held (List.mem_of_getElem? (i := 3) rfl)) c o nc (s1 _ _ hc)
          exact ⟨e1, fun z => z.elim nc fun e => by rw [e, np] at hc; cases hc⟩
        generalize upd H1 A.held (.lst ((heldV A M).set (k / 4) (.ref p))) = H2 at hM2 k2
        refine ⟨_, rfl, m, _, _, rfl, hM2.obj, rfl, _, rfl, _, m, _, sd, _, "take", k / 4, 0, rfl, hM2, by show M.rows.length ≤ 900000; omega, fun H3 A3 hM3 k3 eo ep => ?_⟩
        refine ⟨_, rfl, _, A3, ?_, k2.trans k3, eo, ep⟩
        rw [Mst.take, if_neg (by rw [hh]; simp)]
        exact hM3
    · obtain ⟨y, rfl, ow', A', hM', k', eo, ep⟩ := hMid
      have hh := take_holds ok hl
      have ok' := ok.take hl
      have g : atI (heldV A' (M.take (k / 4))) ((k / 4 : Nat) : Int) = some (slotV A' (M.take (k / 4)) (k / 4)) := atI_nat (heldV_get (by rw [ok'.held]; exact hl))
      unfold slotV at g
      rw [if_pos hh] at g
      exact ⟨_, rfl, m, C, _, _, _, rfl, hM'.obj, c.cl, c.n _ (by decide), rfl, _, rfl, A'.held, _, _, _, rfl, rfl, sqA_l hM'.held, g, q H' ow' A' hM' k' eo ep⟩
abbrev st_Machine_read_cell : Stmt := (inClass (topS 21) 8)
abbrev nm_Machine_read_cell : List Str := ["self", "cell", "number"]
theorem sc_Machine_read_cell : FnScope ["self", "cell", "number"] ["self", "cell"] (defScope st_Machine_read_cell) := ⟨rfl, rfl, rfl, by decide +kernel, rfl, by decide +kernel, by decide +kernel⟩
def spReadCell (C : Addr) : Sp := fun vs H Q _ => ∃ (ow : Addr → Prop) (m : Addr) (M : Mst) (sd : List Nat) (A : PA) (cells k : Nat), vs = [.ref m, nV k] ∧ PM ow H C m M sd A ∧ MOk0 cells M ∧ k < cells ∧ M.rows.length ≤ 700000 ∧
  ∀ (H' : Hp) (ow' : Addr → Prop) (A' : PA), PM ow' H' C m (M.read k) sd A' → Keep ow ow' H H' → A'.ords = A.ords → A'.prog = A.prog → Q (nV (M.readN k)) H'
theorem ok_readcell {f : Addr} {fd : FuncData} (F : Fun K "read_cell" "Machine.read_cell" st_Machine_read_cell f fd) (c : MC K C) (CC : Consts K mg) (m_tell : MCallee P w K mg base C "tell" 1 (spTell C)) (m_line_of : MCallee P w K mg base C "line_of" 2 (spLineOf C)) : FnOk P w K mg base CX0 3 f fd ["self", "cell"] (spReadCell C) := by
  obtain ⟨tL, mc_LINE⟩ := CC.line
  refine F.ok sc_Machine_read_cell (fun vs H Q E h => ?_) (fun cdv A outer s H vs Q E hr h => ?_)
  · obtain ⟨ow, m, M, sd, A, cells, k, rfl, _⟩ := h
    rfl
  · obtain ⟨ow, m, M, sd, A, cells, k, rfl, hM, ok, hk, hrow, q⟩ := h
    have hl := ok.line hk
    refine ⟨_, (pss_cons (ps_set (i := 2) sc_Machine_read_cell.nd rfl (Or.inl rfl) (pe_ix ix_lt (pe_mcal m_line_of hr (by first | decide | exact Nat.le_refl _) (pv 0) (pa_cons (pv 1) pa_nil)) (pe_op op_mod (pv 1) (pe_glob (v := .int 4) rfl mc_LINE ⟨_, rfl⟩)) (fun _ _ => rfl)))
  (pss_cons (ps_expr (pe_mcal m_tell hr (by first | decide | exact Nat.le_refl _) (pv 0) (pa_cons pe_str (pa_cons (pv 1) (pa_cons (pv 2) pa_nil)))))
  (pss_one (ps_ret (pv 2))))), ?_⟩
    refine ⟨_, rfl, m, _, _, rfl, hM.obj, rfl, _, rfl, ow, m, M, sd, A, cells, k, rfl, hM, ok, hk, by omega, fun H1 ow1 A1 hM1 k1 eo1 ep1 => ?_⟩
    have ok1 := ok.take hl
    have hh := take_holds ok hl
    obtain ⟨cs, ecs⟩ := Mst.holds_iff.mp hh
    have clen : ((M.take (k / 4)).cellsOf (k / 4)).length = 4 := by rw [Mst.cellsOf_of ecs]; exact ok1.four _ _ ecs
    refine ⟨_, rfl, _, _, rfl, rfl, (by show (0 : Int) < 4; decide), A1.ha (k / 4), _, (k : Int) % 4, nV (M.readN k), rfl, rfl, sqA_l (hM1.line _ hh), ?_, ?_⟩
    · rw [show (k : Int) % 4 = ((k % 4 : Nat) : Int) by omega]
      exact atI_nat (nat_at (by rw [clen]; omega))
    have tr := (take_rows (M := M) (l := k / 4)).1
    refine ⟨_, rfl, m, _, _, rfl, hM1.obj, rfl, _, rfl, _, rfl, ow1, m, _, sd, A1, "read", k, M.readN k, rfl, hM1, by omega, fun H2 A2 hM2 k2 eo2 ep2 => ?_⟩
    exact ⟨_, rfl, q H2 ow1 A2 hM2 (k1.trans k2) (eo2.trans eo1) (ep2.trans ep1)⟩
abbrev st_Machine_write_cell : Stmt := (inClass (topS 21) 9)
abbrev nm_Machine_write_cell : List Str := ["self", "cell", "number"]
theorem sc_Machine_write_cell : FnScope ["self", "cell", "number"] ["self", "cell", "number"] (defScope st_Machine_write_cell) := ⟨rfl, rfl, rfl, by decide +kernel, rfl, by decide +kernel, by decide +kernel⟩
def spWriteCell (C : Addr) : Sp := fun vs H Q _ => ∃ (ow : Addr → Prop) (m : Addr) (M : Mst) (sd : List Nat) (A : PA) (cells k n : Nat), vs = [.ref m, nV k, nV n] ∧ PM ow H C m M sd A ∧ MOk0 cells M ∧ k < cells ∧ M.rows.length ≤ 700000 ∧
  ∀ (H' : Hp) (ow' : Addr → Prop) (A' : PA), PM ow' H' C m (M.write k n) sd A' → Keep ow ow' H H' → A'.ords = A.ords → A'.prog = A.prog → Q .non H'
theorem ok_writecell {f : Addr} {fd : FuncData} (F : Fun K "write_cell" "Machine.write_cell" st_Machine_write_cell f fd) (c : MC K C) (CC : Consts K mg) (m_tell : MCallee P w K mg base C "tell" 1 (spTell C)) (m_line_of : MCallee P w K mg base C "line_of" 2 (spLineOf C)) : FnOk P w K mg base CX0 3 f fd ["self", "cell", "number"] (spWriteCell C) := by
  obtain ⟨tL, mc_LINE⟩ := CC.line
  refine F.ok sc_Machine_write_cell (fun vs H Q E h => ?_) (fun cdv A outer s H vs Q E hr h => ?_)
  · obtain ⟨ow, m, M, sd, A, cells, k, n, rfl, _⟩ := h
    rfl
  · obtain ⟨ow, m, M, sd, A, cells, k, n, rfl, hM, ok, hk, hrow, q⟩ := h
    have hl := ok.line hk
    refine ⟨_, (pss_cons (ps_asg (pv 2) (pg_sub (pe_mcal m_line_of hr (by first | decide | exact Nat.le_refl _) (pv 0) (pa_cons (pv 1) pa_nil)) (pe_op op_mod (pv 1) (pe_glob (v := .int 4) rfl mc_LINE ⟨_, rfl⟩)) set_list))
  (pss_cons (ps_asg pe_bl (pg_sub (pe_fld (pv 0) rfl) (pe_op op_fdiv (pv 1) (pe_glob (v := .int 4) rfl mc_LINE ⟨_, rfl⟩)) set_list))
  (pss_one (ps_expr (pe_mcal m_tell hr (by first | decide | exact Nat.le_refl _) (pv 0) (pa_cons pe_str (pa_cons (pv 1) (pa_cons (pv 2) pa_nil)))))))), ?_⟩
    refine ⟨_, rfl, _, rfl, m, _, _, rfl, hM.obj, rfl, _, rfl, ow, m, M, sd, A, cells, k, rfl, hM, ok, hk, by omega, fun H1 ow1 A1 hM1 k1 eo1 ep1 => ?_⟩
    have ok1 := ok.take hl
    have hh := take_holds ok hl
    obtain ⟨cs, ecs⟩ := Mst.holds_iff.mp hh
    have clen : ((M.take (k / 4)).cellsOf (k / 4)).length = 4 := by rw [Mst.cellsOf_of ecs]; exact ok1.four _ _ ecs
    refine ⟨_, rfl, _, _, rfl, rfl, (by show (0 : Int) < 4; decide), A1.ha (k / 4), _, (k : Int) % 4, k % 4, rfl, rfl, hM1.line _ hh, ixN_of (by omega) (by rw [List.length_map, clen]; omega), ?_⟩
    rw [show (((M.take (k / 4)).cellsOf (k / 4)).map nV).set (k % 4) (nV n) = (((M.take (k / 4)).cellsOf (k / 4)).set (k % 4) n).map nV from set_map rfl]
    have hM2 := hM1.writeL (cs := ((M.take (k / 4)).cellsOf (k / 4)).set (k % 4) n) hh
    have k2 := k1.trans (Keep.ofOw (o := .lst ((((M.take (k / 4)).cellsOf (k / 4)).set (k % 4) n).map nV)) (hM1.ol _ hh))
    generalize upd H1 (A1.ha (k / 4)) (.lst ((((M.take (k / 4)).cellsOf (k / 4)).set (k % 4) n).map nV)) = H2 at hM2 k2
    -- self.touched[cell // LINE] = True
    refine ⟨_, rfl, m, C, _, _, _, rfl, hM2.obj, c.cl, c.n _ (by decide), rfl, _, rfl, _, _, rfl, rfl, ⟨by decide, by decide⟩, A1.tou, _, (k : Int) / 4, k / 4, rfl, rfl, hM2.tou, ixN_of (by omega) (by rw [List.length_map]; show k / 4 < (M.take (k / 4)).tou.length; rw [ok1.tou]; exact hl), ?_⟩
    rw [show ((M.take (k / 4)).tou.map V.bl).set (k / 4) (.bl true) = ((M.take (k / 4)).tou.set (k / 4) true).map V.bl from by rw [List.map_set]]
    have hM3 := hM2.setTou (t := (M.take (k / 4)).tou.set (k / 4) true)
    have k3 := k2.trans (Keep.ofOw (o := .lst (((M.take (k / 4)).tou.set (k / 4) true).map V.bl)) (hM2.oa A1.tou (List.mem_of_getElem? (i := 4) rfl)))
    generalize upd H2 A1.tou (.lst (((M.take (k / 4)).tou.set (k / 4) true).map V.bl)) = H3 at hM3 k3
    have tr := (take_rows (M := M) (l := k / 4)).1
    refine ⟨_, rfl, m, _, _, rfl, hM3.obj, rfl, _, rfl, _, rfl, ow1, m, _, sd, _, "write", k, n, rfl, hM3, by show (M.take (k / 4)).rows.length ≤ 900000; omega, fun H4 A4 hM4 k4 eo4 ep4 => ?_⟩
    exact q H4 ow1 A4 hM4 (k3.trans k4) (eo4.trans eo1) (ep4.trans ep1)
end
end Vt
namespace Vt
open PySem PySem.Spec PyProof.Rows L2
section
variable {P : Program} {w : World} {K : PySem.W.Frag} {mg : Str → Option Value} {base : Heap} {C : Addr}
abbrev st_Machine_clean_line : Stmt := (inClass (topS 21) 10)
abbrev nm_Machine_clean_line : List Str := ["self", "line", "first"]
theorem sc_Machine_clean_line : FnScope ["self", "line", "first"] ["self", "line"] (defScope st_Machine_clean_line) := ⟨rfl, rfl, rfl, by decide +kernel, rfl, by decide +kernel, by decide +kernel⟩
def spCleanLine (C : Addr) : Sp := fun vs H Q _ => ∃ (ow : Addr → Prop) (m : Addr) (M : Mst) (sd : List Nat) (A : PA) (cells l : Nat), vs = [.ref m, nV l] ∧ PM ow H C m M sd A ∧ MOk0 cells M ∧ l < cells / 4 ∧ M.rows.length ≤ 800000 ∧
  ∀ (H' : Hp) (A' : PA), PM ow H' C m (M.clean l) sd A' → Keep ow ow H H' → A'.ords = A.ords → A'.prog = A.prog → Q .non H'
theorem ok_cleanline {f : Addr} {fd : FuncData} (F : Fun K "clean_line" "Machine.clean_line" st_Machine_clean_line f fd) (c : MC K C) (CC : Consts K mg) (m_tell : MCallee P w K mg base C "tell" 1 (spTell C)) : FnOk P w K mg base CX0 2 f fd ["self", "line"] (spCleanLine C) := by
  obtain ⟨tL, mc_LINE⟩ := CC.line
  refine F.ok sc_Machine_clean_line (fun vs H Q E h => ?_) (fun cdv A outer s H vs Q E hr h => ?_)
  · obtain ⟨ow, m, M, sd, A, cells, l, rfl, _⟩ := h
    rfl
  · obtain ⟨ow, m, M, sd, A, cells, l, rfl, hM, ok, hl, hrow, q⟩ := h
    have lc : 4 * l + 4 ≤ cells := by have := ok.lines; omega
    have c16 : cells ≤ 16 := by have := ok.lines; omega
    have tl : l < M.tou.length := by rw [ok.tou]; exact hl
    refine ⟨_, (pss_one (ps_if (pt_val (pe_ix ix_lt (pe_fld (pv 0) rfl) (pv 1) (fun _ _ => rfl))) (pss_cons (ps_set (i := 2) sc_Machine_clean_line.nd rfl (Or.inl rfl) (pe_op op_mul (pv 1) (pe_glob (v := .int 4) rfl mc_LINE ⟨_, rfl⟩)))
  (pss_cons (ps_asg (pe_ix ix_lt (pe_fld (pv 0) rfl) (pv 1) (fun _ _ => rfl)) (pg_slset (pe_fld (pv 0) rfl) (po_some (pv 2)) (po_some (pe_op op_add (pv 2) (pe_glob (v := .int 4) rfl mc_LINE ⟨_, rfl⟩)))))
  (pss_cons (ps_asg pe_bl (pg_sub (pe_fld (pv 0) rfl) (pv 1) set_list))
  (pss_one (ps_expr (pe_mcal m_tell hr (by first | decide | exact Nat.le_refl _) (pv 0) (pa_cons pe_str (pa_cons (pv 1) (pa_cons pe_int pa_nil))))))))) pss_nil)), ?_⟩
    have g : atI (M.tou.map V.bl) (l : Int) = some (.bl (M.touched l)) := atI_nat (by
      rw [List.getElem?_map, List.getElem?_eq_getElem tl, Mst.touched, List.getD_eq_getElem?_getD, List.getElem?_eq_getElem tl]; rfl)
    refine ⟨_, rfl, m, C, _, _, _, rfl, hM.obj, c.cl, c.n _ (by decide), rfl, _, rfl, A.tou, _, _, _, rfl, rfl, sqA_l hM.tou, g, _, rfl, ?_⟩
    cases ht : M.touched l with
    | false => exact iteF (q H A (by rw [Mst.clean, if_neg (by rw [ht]; simp)]; exact hM) Keep.refl rfl rfl)
    | true =>
      refine iteT ?_
      have hh := ok.th l ht
      have hlh := Mst.holds_lt hh
      obtain ⟨cs, ecs⟩ := Mst.holds_iff.mp hh
      have clen : (M.cellsOf l).length = 4 := by rw [Mst.cellsOf_of ecs]; exact ok.four _ _ ecs
      have mlen : (M.mem.map nV).length = cells := by rw [List.length_map, ok.mem]
      have gh : atI (heldV A M) (l : Int) = some (slotV A M l) := atI_nat (heldV_get hlh)
      unfold slotV at gh
      rw [if_pos hh] at gh
      refine ⟨_, rfl, _, _, rfl, rfl, .inl ⟨by omega, by omega⟩, ?_⟩
      refine chgN (y := nV (4 * l)) (congrArg V.int (by omega)) ?_
      refine ⟨_, rfl, m, C, _, _, _, rfl, hM.obj, c.cl, c.n _ (by decide), rfl, _, rfl, A.held, _, _, _, rfl, rfl, sqA_l hM.held, gh, ?_⟩
      refine ⟨_, rfl, m, C, _, _, _, rfl, hM.obj, c.cl, c.n _ (by decide), rfl, _, rfl, _, rfl, _, rfl, _, _, rfl, rfl, _, rfl, A.mem, A.ha l, _, _, 4 * l, 4 * l + 4, rfl, rfl, rfl, congrArg some (by omega), hM.mem, hM.line l hh, fun z => hM.hl l hh (by rw [← z]; exact List.mem_of_getElem? (i := 2) rfl), by omega, by omega, by rw [mlen, List.length_map, clen]; exact big' (by omega), ?_⟩
      rw [show (M.mem.map nV).take (4 * l) ++ (M.cellsOf l).map nV ++ (M.mem.map nV).drop (4 * l + 4) = (M.mem.take (4 * l) ++ M.cellsOf l ++ M.mem.drop (4 * l + 4)).map nV by rw [List.map_append, List.map_append, List.map_take, List.map_drop]]
      have hM1 := hM.setMem (mm := M.mem.take (4 * l) ++ M.cellsOf l ++ M.mem.drop (4 * l + 4))
      have k1 : Keep ow ow H (upd H A.mem (.lst ((M.mem.take (4 * l) ++ M.cellsOf l ++ M.mem.drop (4 * l + 4)).map nV))) := Keep.ofOw (hM.oa A.mem (List.mem_of_getElem? (i := 2) rfl))
      generalize upd H A.mem (.lst ((M.mem.take (4 * l) ++ M.cellsOf l ++ M.mem.drop (4 * l + 4)).map nV)) = H1 at hM1 k1
      refine ⟨_, rfl, m, C, _, _, _, rfl, hM1.obj, c.cl, c.n _ (by decide), rfl, _, rfl, A.tou, _, _, l, rfl, rfl, hM1.tou, ixN_of rfl (by rw [List.length_map]; exact tl), ?_⟩
      rw [show (M.tou.map V.bl).set l (.bl false) = (M.tou.set l false).map V.bl from by rw [List.map_set]]
      have hM2 := hM1.setTou (t := M.tou.set l false)
      have k2 := k1.trans (Keep.ofOw (o := .lst ((M.tou.set l false).map V.bl)) (hM1.oa A.tou (List.mem_of_getElem? (i := 4) rfl)))
      generalize upd H1 A.tou (.lst ((M.tou.set l false).map V.bl)) = H2 at hM2 k2
      refine ⟨_, rfl, m, _, _, rfl, hM2.obj, rfl, _, rfl, ow, m, _, sd, _, "clean", l, 0, rfl, hM2, by show M.rows.length ≤ 900000; omega, fun H3 A3 hM3 k3 eo ep => ?_⟩
      refine q H3 A3 ?_ (k2.trans k3) eo ep
      rw [Mst.clean, if_pos ht]
      exact hM3
abbrev st_Machine_drop_line : Stmt := (inClass (topS 21) 11)
abbrev nm_Machine_drop_line : List Str := ["self", "line"]
theorem sc_Machine_drop_line : FnScope ["self", "line"] ["self", "line"] (defScope st_Machine_drop_line) := ⟨rfl, rfl, rfl, by decide +kernel, rfl, by decide +kernel, by decide +kernel⟩
def spDropLine (C : Addr) : Sp := fun vs H Q _ => ∃ (ow : Addr → Prop) (m : Addr) (M : Mst) (sd : List Nat) (A : PA) (cells l : Nat), vs = [.ref m, nV l] ∧ PM ow H C m M sd A ∧ MOk0 cells M ∧ l < cells / 4 ∧ M.rows.length ≤ 800000 ∧
  ∀ (H' : Hp) (A' : PA), PM ow H' C m (M.drop l) sd A' → Keep ow ow H H' → A'.ords = A.ords → A'.prog = A.prog → Q .non H'
theorem ok_dropline {f : Addr} {fd : FuncData} (F : Fun K "drop_line" "Machine.drop_line" st_Machine_drop_line f fd) (c : MC K C) (m_tell : MCallee P w K mg base C "tell" 1 (spTell C)) : FnOk P w K mg base CX0 2 f fd ["self", "line"] (spDropLine C) := by
  refine F.ok sc_Machine_drop_line (fun vs H Q E h => ?_) (fun cdv A outer s H vs Q E hr h => ?_)
  · obtain ⟨ow, m, M, sd, A, cells, l, rfl, _⟩ := h
    rfl
  · obtain ⟨ow, m, M, sd, A, cells, l, rfl, hM, ok, hl, hrow, q⟩ := h
    have tl : l < M.tou.length := by rw [ok.tou]; exact hl
    have hlh : l < M.held.length := by rw [ok.held]; exact hl
    refine ⟨_, (pss_one (ps_if (pt_cmpR op_notN (pe_ix ix_lt (pe_fld (pv 0) rfl) (pv 1) (fun _ _ => rfl)) pe_non (nomark _)) (pss_cons (ps_asg pe_non (pg_sub (pe_fld (pv 0) rfl) (pv 1) set_list))
  (pss_cons (ps_asg pe_bl (pg_sub (pe_fld (pv 0) rfl) (pv 1) set_list))
  (pss_one (ps_expr (pe_mcal m_tell hr (by first | decide | exact Nat.le_refl _) (pv 0) (pa_cons pe_str (pa_cons (pv 1) (pa_cons pe_int pa_nil)))))))) pss_nil)), ?_⟩
    have gh : atI (heldV A M) (l : Int) = some (slotV A M l) := atI_nat (heldV_get hlh)
    refine ⟨_, rfl, m, C, _, _, _, rfl, hM.obj, c.cl, c.n _ (by decide), rfl, _, rfl, A.held, _, _, _, rfl, rfl, sqA_l hM.held, gh, ?_⟩
    unfold slotV
    cases hh : M.holds l with
    | false =>
      rw [if_neg (by simp)]
      refine ⟨rfl, _, rfl, iteF ?_⟩
      exact q H A (by rw [Mst.drop, if_neg (by rw [hh]; simp)]; exact hM) Keep.refl rfl rfl
    | true =>
      rw [if_pos rfl]
      refine ⟨rfl, _, rfl, iteT ?_⟩
      refine ⟨_, rfl, m, C, _, _, _, rfl, hM.obj, c.cl, c.n _ (by decide), rfl, _, rfl, A.held, _, _, l, rfl, rfl, hM.held, ixN_of rfl (by rw [heldV_len]; exact hlh), ?_⟩
      have hM1 := hM.unhold (l := l)
      have k1 : Keep ow ow H (upd H A.held (.lst ((heldV A M).set l .non))) := Keep.ofOw (hM.oa A.held (List.mem_of_getElem? (i := 3) rfl))
      generalize upd H A.held (.lst ((heldV A M).set l .non)) = H1 at hM1 k1
      refine ⟨_, rfl, m, C, _, _, _, rfl, hM1.obj, c.cl, c.n _ (by decide), rfl, _, rfl, A.tou, _, _, l, rfl, rfl, hM1.tou, ixN_of rfl (by rw [List.length_map]; exact tl), ?_⟩
      rw [show (M.tou.map V.bl).set l (.bl false) = (M.tou.set l false).map V.bl from by rw [List.map_set]]
      have hM2 := hM1.setTou (t := M.tou.set l false)
      have k2 := k1.trans (Keep.ofOw (o := .lst ((M.tou.set l false).map V.bl)) (hM1.oa A.tou (List.mem_of_getElem? (i := 4) rfl)))
      generalize upd H1 A.tou (.lst ((M.tou.set l false).map V.bl)) = H2 at hM2 k2
      refine ⟨_, rfl, m, _, _, rfl, hM2.obj, rfl, _, rfl, ow, m, _, sd, _, "drop", l, 0, rfl, hM2, by show M.rows.length ≤ 900000; omega, fun H3 A3 hM3 k3 eo ep => ?_⟩
      refine q H3 A3 ?_ (k2.trans k3) eo ep
      rw [Mst.drop, if_pos hh]
      exact hM3
abbrev st_Machine_move_one : Stmt := (inClass (topS 21) 4)
abbrev nm_Machine_move_one : List Str := ["self", "source", "goal", "bell", "number"]
theorem sc_Machine_move_one : FnScope ["self", "source", "goal", "bell", "number"] ["self"] (defScope st_Machine_move_one) := ⟨rfl, rfl, rfl, by decide +kernel, rfl, by decide +kernel, by decide +kernel⟩
def spMoveOne (C : Addr) : Sp := fun vs H Q _ => ∃ (ow : Addr → Prop) (m : Addr) (M : Mst) (sd : List Nat) (A : PA) (cells : Nat), vs = [.ref m] ∧ PM ow H C m M sd A ∧ MOk0 cells M ∧ M.left ≠ [] ∧ M.rows.length ≤ 700000 ∧ M.left.length ≤ 5000 ∧
  ∀ (H' : Hp) (A' : PA), PM ow H' C m M.carry sd A' → Keep ow ow H H' → A'.ords = A.ords → A'.prog = A.prog → Q .non H'
theorem ok_moveone {f : Addr} {fd : FuncData} (F : Fun K "move_one" "Machine.move_one" st_Machine_move_one f fd) (c : MC K C) (m_tell : MCallee P w K mg base C "tell" 1 (spTell C)) : FnOk P w K mg base CX0 2 f fd ["self"] (spMoveOne C) := by
  refine F.ok sc_Machine_move_one (fun vs H Q E h => ?_) (fun cdv A outer s H vs Q E hr h => ?_)
  · obtain ⟨ow, m, M, sd, A, cells, rfl, _⟩ := h
    rfl
  · obtain ⟨ow, m, M, sd, A, cells, rfl, hM, ok, hne, hrow, hleft, q⟩ := h
    refine ⟨_, (pss_cons (ps_asg (pe_bm PySem.F.plainAttrs_list PySem.F.slot_list_pop PySem.F.type_list_pop mt_popAt (pe_fld (pv 0) rfl) (pa_cons pe_int pa_nil)) (pg_tup rfl (pgs_cons (pg_name (i := 1) sc_Machine_move_one.nd rfl (Or.inl rfl)) (pgs_cons (pg_name (i := 2) sc_Machine_move_one.nd rfl (Or.inl rfl)) (pgs_cons (pg_name (i := 3) sc_Machine_move_one.nd rfl (Or.inl rfl)) pgs_nil)))))
  (pss_cons (ps_set (i := 4) sc_Machine_move_one.nd rfl (Or.inl rfl) (pe_ix ix_lt (pe_fld (pv 0) rfl) (pv 1) (fun _ _ => rfl)))
  (pss_cons (ps_expr (pe_mcal m_tell hr (by first | decide | exact Nat.le_refl _) (pv 0) (pa_cons pe_str (pa_cons (pv 1) (pa_cons (pv 4) pa_nil)))))
  (pss_cons (ps_asg (pv 4) (pg_sub (pe_fld (pv 0) rfl) (pv 2) set_list))
  (pss_cons (ps_expr (pe_mcal m_tell hr (by first | decide | exact Nat.le_refl _) (pv 0) (pa_cons pe_str (pa_cons (pv 2) (pa_cons (pv 4) pa_nil)))))
  (pss_one (ps_if (pt_cmpR op_notN (pv 3) pe_non (nomark _)) (pss_one (ps_expr (pe_mcal m_tell hr (by first | decide | exact Nat.le_refl _) (pv 0) (pa_cons pe_str (pa_cons (pv 3) (pa_cons pe_int pa_nil)))))) pss_nil))))))), ?_⟩
    cases hlf : M.left with
    | nil => exact absurd hlf hne
    | cons mv r =>
      obtain ⟨hsrc, hgoal⟩ := ok.left mv (by rw [hlf]; simp)
      have hls := hM.leftD
      rw [hlf, List.map_cons] at hls
      obtain ⟨x0, xr, hx⟩ : ∃ x0 xr, A.ls = x0 :: xr := by
        cases e : A.ls with
        | nil => rw [e] at hls; cases hls
        | cons x0 xr => exact ⟨x0, xr, rfl⟩
      have hl0 := hM.left
      rw [hx] at hls hl0
      have h1 : Pd H x0 mv.d := by cases hls with | cons h _ => exact h
      have h2 : Pds H xr (r.map Mv.d) := by cases hls with | cons _ h => exact h
      obtain ⟨ma, rfl, hma⟩ := Mv.of h1
      have nma : ma ≠ A.left := ne_of hma hl0 (by intro z; cases z)
      refine ⟨_, rfl, m, C, _, _, _, rfl, hM.obj, c.cl, c.n _ (by decide), rfl, .inl ⟨rfl, _, sqL_l hl0⟩, A.left, _, 0, 0, .ref ma, rfl, rfl, hl0, by decide, by decide, seqIx_of rfl (by simp), rfl, ?_⟩
      have hM1 := hM.setLeft (lf := r) (ls := xr) h2
      have k1 : Keep ow ow H (upd H A.left (.lst xr)) := Keep.ofOw (hM.oa A.left (List.mem_of_getElem? (i := 5) rfl))
      have hma1 : (upd H A.left (.lst xr)) ma = some (.tup mv.vs) := by rw [upd_ne nma]; exact hma
      show gTup _ 3 _ _ _ (upd H A.left (.lst xr)) _
      generalize upd H A.left (.lst xr) = H1 at hM1 k1 hma1
      refine ⟨ma, _, rfl, sqT_t hma1, rfl, _, _, rfl, _, _, rfl, _, _, rfl, rfl, ?_⟩
      have hs2 : mv.src < M.mem.length := by rw [ok.mem]; exact hsrc
      have hg2 : mv.goal < M.mem.length := by rw [ok.mem]; exact hgoal
      refine ⟨_, rfl, m, C, _, _, _, rfl, hM1.obj, c.cl, c.n _ (by decide), rfl, _, rfl, A.mem, _, (mv.src : Int), nV (M.mem.getD mv.src 0), rfl, rfl, sqA_l hM1.mem, atI_nat (nat_at hs2), ?_⟩
      refine ⟨_, rfl, m, _, _, rfl, hM1.obj, rfl, _, rfl, _, rfl, ow, m, _, sd, _, "fetch", mv.src, M.mem.getD mv.src 0, rfl, hM1, by show M.rows.length ≤ 900000; omega, fun H2 A2 hM2 k2 eo2 ep2 => ?_⟩
      refine ⟨_, rfl, _, rfl, m, C, _, _, _, rfl, hM2.obj, c.cl, c.n _ (by decide), rfl, _, rfl, A2.mem, _, (mv.goal : Int), mv.goal, rfl, rfl, hM2.mem, ixN_of rfl (by rw [List.length_map]; exact hg2), ?_⟩
      rw [show ((Mst.tell { M with left := r } "fetch" mv.src (M.mem.getD mv.src 0)).mem.map nV).set mv.goal (nV (M.mem.getD mv.src 0)) = (M.mem.set mv.goal (M.mem.getD mv.src 0)).map nV from set_map rfl]
      have hM3 := hM2.setMem (mm := M.mem.set mv.goal (M.mem.getD mv.src 0))
      have k3 := (k1.trans k2).trans (Keep.ofOw (o := .lst ((M.mem.set mv.goal (M.mem.getD mv.src 0)).map nV)) (hM2.oa A2.mem (List.mem_of_getElem? (i := 2) rfl)))
      generalize upd H2 A2.mem (.lst ((M.mem.set mv.goal (M.mem.getD mv.src 0)).map nV)) = H3 at hM3 k3
      refine ⟨_, rfl, m, _, _, rfl, hM3.obj, rfl, _, rfl, _, rfl, ow, m, _, sd, _, "put", mv.goal, M.mem.getD mv.src 0, rfl, hM3, by simp only [Mst.tell, List.length_append, List.length_cons, List.length_nil]; omega, fun H4 A4 hM4 k4 eo4 ep4 => ?_⟩
      have k14 := k3.trans k4
      cases hb : mv.bell with
      | none =>
        refine ⟨_, rfl, rfl, _, rfl, iteF ?_⟩
        refine q H4 A4 ?_ k14 (eo4.trans eo2) (ep4.trans ep2)
        rw [Mst.carry, hlf]
        dsimp only
        rw [hb]
        exact hM4
      | some b =>
        refine ⟨_, rfl, rfl, _, rfl, iteT ?_⟩
        refine ⟨_, rfl, m, _, _, rfl, hM4.obj, rfl, _, rfl, ow, m, _, sd, A4, "bell", b, 0, rfl, hM4, by simp only [Mst.tell, List.length_append, List.length_cons, List.length_nil]; omega, fun H5 A5 hM5 k5 eo5 ep5 => ?_⟩
        refine q H5 A5 ?_ (k14.trans k5) (eo5.trans (eo4.trans eo2)) (ep5.trans (ep4.trans ep2))
        rw [Mst.carry, hlf]
        dsimp only
        rw [hb]
        exact hM5
end
end Vt
namespace Vt
open PySem PySem.Spec PyProof.Rows L2
theorem hd_w {K : PySem.W.Frag} {H : Hp} {a : Addr} {d : Deed} (h : H a = some (.tup d.vs)) : SqT K H a (.str d.word :: d.args.map nV) := sqT_t h
theorem nwd {a b : Str} {n k : Nat} (h : decide (a = b) = false) : ¬ (a = b ∧ n = k) := fun z => of_decide_eq_false h z.1
/-! ### what is said in a story -/
theorem said_app (rs : List Row) (r : Row) : saidOf (rs ++ [r]) = saidOf rs ++ (if r.word = ("say" : Str) then [r.num] else []) := by
  unfold saidOf
  simp only [List.filter_append, List.map_append]
  by_cases e : r.word = ("say" : Str) <;> simp [e]
theorem said_tell {M : Mst} {w : Str} {p n : Nat} (h : decide (w = ("say" : Str)) = false) : saidOf (M.tell w p n).rows = saidOf M.rows := by
  show saidOf (M.rows ++ [⟨M.beats, w, p, n⟩]) = _
  rw [said_app, if_neg (of_decide_eq_false h), List.append_nil]
theorem said_takeL {M : Mst} {l : Nat} : saidOf (M.take l).rows = saidOf M.rows := by
  unfold Mst.take
  split
  · rfl
  · exact said_tell (by decide)
theorem said_read {M : Mst} {k : Nat} : saidOf (M.read k).rows = saidOf M.rows := (said_tell (by decide)).trans said_takeL
theorem said_write {M : Mst} {k n : Nat} : saidOf (M.write k n).rows = saidOf M.rows := (said_tell (by decide)).trans said_takeL
theorem said_clean {M : Mst} {l : Nat} : saidOf (M.clean l).rows = saidOf M.rows := by
  unfold Mst.clean
  split
  · exact said_tell (by decide)
  · rfl
theorem said_drop {M : Mst} {l : Nat} : saidOf (M.drop l).rows = saidOf M.rows := by
  unfold Mst.drop
  split
  · exact said_tell (by decide)
  · rfl
theorem said_carry {M : Mst} : saidOf M.carry.rows = saidOf M.rows := by
  unfold Mst.carry
  split
  · rfl
  · dsimp only
    split
    · exact (said_tell (by decide)).trans (said_tell (by decide))
    · exact (said_tell (by decide)).trans ((said_tell (by decide)).trans (said_tell (by decide)))
/-- the orders and the program that a machine holds -/
def PB (H : Hp) (A : PA) (B : Brd) : Prop := Pd H A.ords (.tup (B.ords.map Ord.d)) ∧ Pd H A.prog (.tup (B.prog.map Deed.d))
theorem PB.keep {ow ow' : Addr → Prop} {H H' : Hp} {C m : Addr} {M : Mst} {sd : List Nat} {A A' : PA} {B : Brd} (h : PB H A B) (hM : PM ow H C m M sd A) (k : Keep ow ow' H H') (eo : A'.ords = A.ords) (ep : A'.prog = A.prog) : PB H' A' B := by
  have t : ∀ a xs, H a = some (.tup xs) → H' a = some (.tup xs) := fun a xs e => (k a _ (hM.notTup e) e).1
  refine ⟨?_, ?_⟩
  · rw [eo]; exact Pd.tups t (by rw [D.noL]; exact noLs_map noL_ord _) h.1
  · rw [ep]; exact Pd.tups t (by rw [D.noL]; exact noLs_map noL_deed _) h.2
theorem PB.same {H H' : Hp} {A : PA} {B : Brd} (h : PB H A B) (s : Same H H') : PB H' A B := ⟨h.1.same s, h.2.same s⟩
theorem Pd.tupOf {H : Hp} {v : V} {ds : List D} (h : Pd H v (.tup ds)) : ∃ a xs, v = .ref a ∧ H a = some (.tup xs) ∧ Pds H xs ds := by
  cases h with
  | tup h hs => exact ⟨_, _, rfl, h, hs⟩
section
variable {P : Program} {w : World} {K : PySem.W.Frag} {mg : Str → Option Value} {base : Heap} {C : Addr}
abbrev st_Machine_end_beat : Stmt := (inClass (topS 21) 5)
abbrev nm_Machine_end_beat : List Str := ["self"]
theorem sc_Machine_end_beat : FnScope ["self"] ["self"] (defScope st_Machine_end_beat) := ⟨rfl, rfl, rfl, by decide +kernel, rfl, by decide +kernel, by decide +kernel⟩
def spEndBeat (C : Addr) : Sp := fun vs H Q _ => ∃ (ow : Addr → Prop) (m : Addr) (M : Mst) (sd : List Nat) (A : PA), vs = [.ref m] ∧ PM ow H C m M sd A ∧
  ∀ (H' : Hp), PM ow H' C m { M with beats := M.beats + 1 } sd A → Keep ow ow H H' → Q .non H'
theorem ok_endbeat {f : Addr} {fd : FuncData} (F : Fun K "end_beat" "Machine.end_beat" st_Machine_end_beat f fd) (c : MC K C) : FnOk P w K mg base CX0 1 f fd ["self"] (spEndBeat C) := by
  refine F.ok sc_Machine_end_beat (fun vs H Q E h => ?_) (fun cdv A outer s H vs Q E hr h => ?_)
  · obtain ⟨ow, m, M, sd, A, rfl, _⟩ := h
    rfl
  · obtain ⟨ow, m, M, sd, A, rfl, hM, q⟩ := h
    refine ⟨_, (pss_one (ps_fldaug (pv 0) pe_int in_add)), ?_⟩
    refine ⟨_, rfl, m, C, _, _, _, rfl, hM.obj, c.cl, c.n _ (by decide), rfl, _, _, rfl, rfl, A.dx, _, hM.obj, by show 10 < 1000; decide, ?_⟩
    exact q _ (hM.setNums (a := M.at_) (b := M.beats + 1)) (Keep.ofOw (hM.oa m (List.mem_of_getElem? (i := 0) rfl)))
abbrev st_Machine_is_over : Stmt := (inClass (topS 21) 1)
abbrev nm_Machine_is_over : List Str := ["self"]
theorem sc_Machine_is_over : FnScope ["self"] ["self"] (defScope st_Machine_is_over) := ⟨rfl, rfl, rfl, by decide +kernel, rfl, by decide +kernel, by decide +kernel⟩
def spIsOver (C : Addr) : Sp := fun vs H Q _ => ∃ (ow : Addr → Prop) (m : Addr) (M : Mst) (sd : List Nat) (A : PA) (B : Brd), vs = [.ref m] ∧ PM ow H C m M sd A ∧ PB H A B ∧ Q (.bl (M.over B.prog)) H
theorem ls_empty {ow : Addr → Prop} {H : Hp} {m : Addr} {M : Mst} {sd : List Nat} {A : PA} (hM : PM ow H C m M sd A) : A.ls.isEmpty = M.left.isEmpty := by
  have := hM.leftD.len
  rw [List.length_map] at this
  cases h1 : A.ls <;> cases h2 : M.left <;> rw [h1, h2] at this <;> simp_all
theorem ok_isover {f : Addr} {fd : FuncData} (F : Fun K "is_over" "Machine.is_over" st_Machine_is_over f fd) (c : MC K C) (z_len : mg "len" = none) : FnOk P w K mg base CX0 1 f fd ["self"] (spIsOver C) := by
  refine F.ok sc_Machine_is_over (fun vs H Q E h => ?_) (fun cdv A outer s H vs Q E hr h => ?_)
  · obtain ⟨ow, m, M, sd, A, B, rfl, _⟩ := h
    rfl
  · obtain ⟨ow, m, M, sd, A, B, rfl, hM, hPB, q⟩ := h
    obtain ⟨p, ps, ep, hp, hps⟩ := Pd.tupOf hPB.2
    have pl : ps.length = B.prog.length := by rw [hps.len, List.length_map]
    refine ⟨_, (pss_one (ps_ret (pe_and (pe_cmpR op_eq (pe_fld (pv 0) rfl) (pe_callB call_len_seq (by rfl) z_len (by decide +kernel) (pa_cons (pe_fld (pv 0) rfl) pa_nil)) (nomark _)) (pe_one (pe_notT (pe_fld (pv 0) rfl)))))), ?_⟩
    refine ⟨_, rfl, m, C, _, _, _, rfl, hM.obj, c.cl, c.n _ (by decide), rfl, _, rfl, m, C, _, _, _, rfl, hM.obj, c.cl, c.n _ (by decide), rfl, p, ps, by rw [ep], .inr (sqT_t hp), rfl, _, rfl, ?_⟩
    have e : decide (nV M.at_ = V.int (ps.length : Int)) = decide (M.at_ = B.prog.length) := by
      rw [pl]
      exact decide_eq_decide.mpr ⟨fun z => by have := V.int.inj z; omega, fun z => by rw [z]; rfl⟩
    rw [e]
    unfold Mst.over at q
    cases ho : decide (M.at_ = B.prog.length) with
    | false =>
      rw [ho] at q
      exact iteF q
    | true =>
      rw [ho] at q
      refine iteT ⟨_, rfl, m, C, _, _, _, rfl, hM.obj, c.cl, c.n _ (by decide), rfl, _, .inl ⟨A.ls, sqL_l hM.left, rfl⟩, ?_⟩
      rw [ls_empty hM, Bool.not_not]
      exact q
abbrev st_Machine_clean_all : Stmt := (inClass (topS 21) 6)
abbrev nm_Machine_clean_all : List Str := ["self", "line"]
theorem sc_Machine_clean_all : FnScope ["self", "line"] ["self"] (defScope st_Machine_clean_all) := ⟨rfl, rfl, rfl, by decide +kernel, rfl, by decide +kernel, by decide +kernel⟩
def spCleanAll (C : Addr) : Sp := fun vs H Q _ => ∃ (ow : Addr → Prop) (m : Addr) (M : Mst) (sd : List Nat) (A : PA) (cells : Nat), vs = [.ref m] ∧ PM ow H C m M sd A ∧ MOk0 cells M ∧ M.rows.length ≤ 700000 ∧
  ∀ (H' : Hp) (A' : PA), PM ow H' C m M.finish sd A' → Keep ow ow H H' → A'.ords = A.ords → A'.prog = A.prog → Q .non H'
theorem clean_out {cells : Nat} {M : Mst} {l : Nat} (ok : MOk0 cells M) (h : cells / 4 ≤ l) : M.clean l = M := by
  unfold Mst.clean
  rw [if_neg]
  unfold Mst.touched
  rw [List.getD_eq_getElem?_getD, List.getElem?_eq_none (by rw [ok.tou]; exact h)]
  decide
theorem cleans_fin {cells : Nat} {M : Mst} (ok : MOk0 cells M) : cleans M (cells / 4) = M.finish := by
  have h4 : M.finish = cleans M 4 := rfl
  rw [h4]
  rcases ok.lines with e | e | e | e
  · have e' : cells / 4 = 1 := by omega
    rw [e']
    have o1 := (cleans_ok ok 1).1
    have s1 : cleans M 2 = cleans M 1 := clean_out (l := 1) o1 (by omega)
    have s2 : cleans M 3 = cleans M 2 := by show (cleans M 2).clean 2 = _; rw [s1]; exact clean_out (l := 2) o1 (by omega)
    have s3 : cleans M 4 = cleans M 3 := by show (cleans M 3).clean 3 = _; rw [s2, s1]; exact clean_out (l := 3) o1 (by omega)
    rw [s3, s2, s1]
  · have e' : cells / 4 = 2 := by omega
    rw [e']
    have o1 := (cleans_ok ok 2).1
    have s2 : cleans M 3 = cleans M 2 := clean_out (l := 2) o1 (by omega)
    have s3 : cleans M 4 = cleans M 3 := by show (cleans M 3).clean 3 = _; rw [s2]; exact clean_out (l := 3) o1 (by omega)
    rw [s3, s2]
  · have e' : cells / 4 = 3 := by omega
    rw [e']
    exact (clean_out (l := 3) (cleans_ok ok 3).1 (by omega)).symm
  · have e' : cells / 4 = 4 := by omega
    rw [e']
theorem ok_cleanall {f : Addr} {fd : FuncData} (F : Fun K "clean_all" "Machine.clean_all" st_Machine_clean_all f fd) (c : MC K C) (m_clean_line : MCallee P w K mg base C "clean_line" 2 (spCleanLine C)) (z_len : mg "len" = none) (z_range : mg "range" = none) : FnOk P w K mg base CX0 3 f fd ["self"] (spCleanAll C) := by
  refine F.ok sc_Machine_clean_all (fun vs H Q E h => ?_) (fun cdv A outer s H vs Q E hr h => ?_)
  · obtain ⟨ow, m, M, sd, A, cells, rfl, _⟩ := h
    rfl
  · obtain ⟨ow, m, M, sd, A, cells, rfl, hM, ok, hrow, q⟩ := h
    have c16 : cells ≤ 16 := by have := ok.lines; omega
    have hlen : (heldV A M).length = cells / 4 := by rw [heldV_len, ok.held]
    refine ⟨_, (pss_one (ps_for PassesOwn.never rfl (pi_range1 (by rfl) z_range (pa_cons (pe_callB call_len_seq (by rfl) z_len (by decide +kernel) (pa_cons (pe_fld (pv 0) rfl) pa_nil)) pa_nil)) (pg_name (i := 1) sc_Machine_clean_all.nd rfl (Or.inl rfl))
  (pss_one (ps_expr (pe_mcal m_clean_line hr (by first | decide | exact Nat.le_refl _) (pv 0) (pa_cons (pv 1) pa_nil)))))), ?_⟩
    refine ⟨_, rfl, m, C, _, _, _, rfl, hM.obj, c.cl, c.n _ (by decide), rfl, A.held, _, rfl, .inl (sqL_l hM.held), ((heldV A M).length : Int), rfl, by omega, by omega, ?_⟩
    rw [hlen]
    refine for_it (walk_range (lo := 0) (n := ((cells / 4 : Nat) : Int).toNat)) (fun i σ H' => ∃ (y : Option V) (A' : PA), σ = [some (.ref m), y] ∧ PM ow H' C m (cleans M i) sd A' ∧ Keep ow ow H H' ∧ A'.ords = A.ords ∧ A'.prog = A.prog)
      ⟨_, A, rfl, hM, Keep.refl, rfl, rfl⟩ (fun _ _ _ _ _ => trivial) (fun i x σ H1 H2 hi hp hy => ?_) (fun σ H1 hp => ?_)
    · obtain ⟨y, A1, rfl, hM1, k1, eo1, ep1⟩ := hp
      obtain ⟨rfl, rfl⟩ := hy
      obtain ⟨o1, o2⟩ := cleans_ok ok i
      have i4 : i < cells / 4 := by rw [Int.toNat_natCast] at hi; exact hi
      refine ⟨_, rfl, m, _, _, rfl, hM1.obj, rfl, _, rfl, ow, m, cleans M i, sd, A1, cells, i, by simp [nV], hM1, o1, i4, by omega, fun H3 A3 hM3 k3 eo3 ep3 => ?_⟩
      exact ⟨_, A3, rfl, hM3, k1.trans k3, eo3.trans eo1, ep3.trans ep1⟩
    · obtain ⟨y, A1, rfl, hM1, k1, eo1, ep1⟩ := hp
      refine q H1 A1 ?_ k1 eo1 ep1
      rw [← cleans_fin ok]
      rw [Int.toNat_natCast] at hM1
      exact hM1
end
end Vt
namespace Vt
open PySem PySem.Spec PyProof.Rows L2
section
variable {P : Program} {w : World} {K : PySem.W.Frag} {mg : Str → Option Value} {base : Heap} {C : Addr}
abbrev st_Machine_do_deed : Stmt := (inClass (topS 21) 3)
abbrev nm_Machine_do_deed : List Str := ["self", "deed", "cell", "number", "other", "seen", "order", "line"]
theorem sc_Machine_do_deed : FnScope ["self", "deed", "cell", "number", "other", "seen", "order", "line"] ["self", "deed"] (defScope st_Machine_do_deed) := ⟨rfl, rfl, rfl, by decide +kernel, rfl, by decide +kernel, by decide +kernel⟩
def spDoDeed (C : Addr) : Sp := fun vs H Q _ => ∃ (ow : Addr → Prop) (m da : Addr) (M : Mst) (A : PA) (B : Brd) (d : Deed), vs = [.ref m, .ref da] ∧ PM ow H C m M (saidOf M.rows) A ∧ PB H A B ∧ BrdOk B ∧ MOk0 B.mem.length M ∧ H da = some (.tup d.vs) ∧ DeedOk d B.ords.length B.mem.length ∧ M.rows.length ≤ 600000 ∧ M.left.length ≤ 2000 ∧
  ∀ (H' : Hp) (ow' : Addr → Prop) (A' : PA), PM ow' H' C m (M.deed B.ords d) (saidOf (M.deed B.ords d).rows) A' → Keep ow ow' H H' → A'.ords = A.ords → A'.prog = A.prog → Q .non H'
theorem ok_dodeed {f : Addr} {fd : FuncData} (F : Fun K "do_deed" "Machine.do_deed" st_Machine_do_deed f fd) (c : MC K C) (CC : Consts K mg) (m_tell : MCallee P w K mg base C "tell" 1 (spTell C)) (m_read_cell : MCallee P w K mg base C "read_cell" 3 (spReadCell C)) (m_write_cell : MCallee P w K mg base C "write_cell" 3 (spWriteCell C))
    (m_clean_line : MCallee P w K mg base C "clean_line" 2 (spCleanLine C)) (m_drop_line : MCallee P w K mg base C "drop_line" 2 (spDropLine C)) (c_moves_told : Callee P w K mg base "moves_told" 1 2 spMoves) : FnOk P w K mg base CX0 4 f fd ["self", "deed"] (spDoDeed C) := by
  obtain ⟨tN, mc_NUMBERS⟩ := CC.numbers
  refine F.ok sc_Machine_do_deed (fun vs H Q E h => ?_) (fun cdv A outer s H vs Q E hr h => ?_)
  · obtain ⟨ow, m, da, M, A, B, d, rfl, _⟩ := h
    rfl
  · obtain ⟨ow, m, da, M, A, B, d, rfl, hM, hPB, ok, mok, hda, dok, hrow, hleft, q⟩ := h
    refine ⟨_, (pss_one (ps_match (pv 1)
  (pc_seq2 (i0 := 2) (i1 := 3) sc_Machine_do_deed.nd (pss_one (ps_expr (pe_mcal m_write_cell hr (by first | decide | exact Nat.le_refl _) (pv 0) (pa_cons (pv 2) (pa_cons (pv 3) pa_nil)))))
  (pc_seq2 (i0 := 2) (i1 := 4) sc_Machine_do_deed.nd (pss_cons (ps_set (i := 5) sc_Machine_do_deed.nd rfl (Or.inl rfl) (pe_mcal m_read_cell hr (by first | decide | exact Nat.le_refl _) (pv 0) (pa_cons (pv 2) pa_nil)))
  (pss_one (ps_expr (pe_mcal m_write_cell hr (by first | decide | exact Nat.le_refl _) (pv 0) (pa_cons (pv 2) (pa_cons (pe_op op_mod (pe_op op_add (pv 5) (pe_mcal m_read_cell hr (by first | decide | exact Nat.le_refl _) (pv 0) (pa_cons (pv 4) pa_nil))) (pe_glob (v := .int 10) rfl mc_NUMBERS ⟨_, rfl⟩)) pa_nil))))))
  (pc_seq1 (i0 := 2) sc_Machine_do_deed.nd (pss_cons (ps_set (i := 5) sc_Machine_do_deed.nd rfl (Or.inl rfl) (pe_mcal m_read_cell hr (by first | decide | exact Nat.le_refl _) (pv 0) (pa_cons (pv 2) pa_nil)))
  (pss_cons (ps_expr (pe_bm PySem.F.plainAttrs_list PySem.F.slot_list_append PySem.F.type_list_append mt_append (pe_fld (pv 0) rfl) (pa_cons (pv 5) pa_nil)))
  (pss_one (ps_expr (pe_mcal m_tell hr (by first | decide | exact Nat.le_refl _) (pv 0) (pa_cons pe_str (pa_cons (pv 2) (pa_cons (pv 5) pa_nil))))))))
  (pc_seq1 (i0 := 6) sc_Machine_do_deed.nd (pss_cons (ps_expr (pe_mcal m_tell hr (by first | decide | exact Nat.le_refl _) (pv 0) (pa_cons pe_str (pa_cons (pv 6) (pa_cons pe_int pa_nil)))))
  (pss_one (ps_expr (pe_bm PySem.F.plainAttrs_list PySem.F.slot_list_extend PySem.F.type_list_extend mt_extend (pe_fld (pv 0) rfl) (pa_cons (pe_cal c_moves_told hr (by first | decide | exact Nat.le_refl _) (pa_cons (pe_fld (pv 0) rfl) (pa_cons (pv 6) pa_nil))) pa_nil)))))
  (pc_seq1 (i0 := 7) sc_Machine_do_deed.nd (pss_one (ps_expr (pe_mcal m_clean_line hr (by first | decide | exact Nat.le_refl _) (pv 0) (pa_cons (pv 7) pa_nil))))
  (pc_seq1 (i0 := 7) sc_Machine_do_deed.nd (pss_one (ps_expr (pe_mcal m_drop_line hr (by first | decide | exact Nat.le_refl _) (pv 0) (pa_cons (pv 7) pa_nil))))
  pc_nil)))))))), ?_⟩
    have hsq := hd_w (K := K) hda
    cases d with
    | set k n =>
      refine ⟨_, rfl, da, "set", [nV k, nV n], rfl, hsq, .inl ⟨rfl, rfl, ?_⟩⟩
      refine ⟨_, rfl, m, _, _, rfl, hM.obj, rfl, _, rfl, _, rfl, ow, m, M, _, A, B.mem.length, k, n, rfl, hM, mok, dok.1, by omega, fun H1 ow1 A1 hM1 k1 eo1 ep1 => ?_⟩
      exact q H1 ow1 A1 (by rw [show saidOf (M.deed B.ords (.set k n)).rows = saidOf M.rows from said_write]; exact hM1) k1 eo1 ep1
    | add k o =>
      refine ⟨_, rfl, da, "add", [nV k, nV o], rfl, hsq, .inr ⟨nwd rfl, da, "add", [nV k, nV o], rfl, hsq, .inl ⟨rfl, rfl, ?_⟩⟩⟩
      refine ⟨_, rfl, m, _, _, rfl, hM.obj, rfl, _, rfl, ow, m, M, _, A, B.mem.length, k, rfl, hM, mok, dok.1, by omega, fun H1 ow1 A1 hM1 k1 eo1 ep1 => ?_⟩
      have rr := (read_rows (M := M) (c := k)).1
      have ok1 := mok.read dok.1
      refine ⟨_, rfl, m, _, _, rfl, hM1.obj, rfl, _, rfl, _, rfl, _, rfl, m, _, _, rfl, hM1.obj, rfl, _, rfl, ow1, m, _, _, A1, B.mem.length, o, rfl, hM1, ok1, dok.2, by omega, fun H2 ow2 A2 hM2 k2 eo2 ep2 => ?_⟩
      have rr2 := (read_rows (M := M.read k) (c := o)).1
      have ok2 := ok1.read dok.2
      refine ⟨_, _, rfl, rfl, _, _, rfl, rfl, (by show (0 : Int) < 10; decide), ow2, m, _, _, A2, B.mem.length, k, (M.readN k + (M.read k).readN o) % 10, ?_, hM2, ok2, dok.1, by omega, fun H3 ow3 A3 hM3 k3 eo3 ep3 => ?_⟩
      · show [V.ref m, nV k, V.int _] = [V.ref m, nV k, V.int _]
        congr 3
      · exact q H3 ow3 A3 (by rw [show saidOf (M.deed B.ords (.add k o)).rows = saidOf M.rows from said_write.trans (said_read.trans said_read)]; exact hM3) ((k1.trans k2).trans k3) (eo3.trans (eo2.trans eo1)) (ep3.trans (ep2.trans ep1))
    | say k =>
      refine ⟨_, rfl, da, "say", [nV k], rfl, hsq, .inr ⟨nwd rfl, da, "say", [nV k], rfl, hsq, .inr ⟨nwd rfl, da, "say", [nV k], rfl, hsq, .inl ⟨rfl, rfl, ?_⟩⟩⟩⟩
      refine ⟨_, rfl, m, _, _, rfl, hM.obj, rfl, _, rfl, ow, m, M, _, A, B.mem.length, k, rfl, hM, mok, dok, by omega, fun H1 ow1 A1 hM1 k1 eo1 ep1 => ?_⟩
      have rr := (read_rows (M := M) (c := k)).1
      have sl : (saidOf M.rows).length ≤ M.rows.length := by
        unfold saidOf
        rw [List.length_map]
        exact List.length_filter_le _ _
      refine ⟨_, rfl, m, C, _, _, _, rfl, hM1.obj, c.cl, c.n _ (by decide), rfl, .inl ⟨rfl, _, sqL_l hM1.said⟩, _, rfl, A1.said, _, _, rfl, rfl, hM1.said, by rw [List.length_map]; exact big (by omega), ?_⟩
      rw [show (saidOf M.rows).map nV ++ [nV (M.readN k)] = (saidOf M.rows ++ [M.readN k]).map nV from by rw [List.map_append]; rfl]
      have hM2 := hM1.setSaid (sd' := saidOf M.rows ++ [M.readN k])
      have k2 := k1.trans (Keep.ofOw (o := .lst ((saidOf M.rows ++ [M.readN k]).map nV)) (hM1.oa A1.said (List.mem_of_getElem? (i := 7) rfl)))
      generalize upd H1 A1.said (.lst ((saidOf M.rows ++ [M.readN k]).map nV)) = H2 at hM2 k2
      refine ⟨_, rfl, m, _, _, rfl, hM2.obj, rfl, _, rfl, _, rfl, ow1, m, _, _, A1, "say", k, M.readN k, rfl, hM2, by omega, fun H3 A3 hM3 k3 eo3 ep3 => ?_⟩
      refine q H3 ow1 A3 ?_ (k2.trans k3) (eo3.trans eo1) (ep3.trans ep1)
      have e : saidOf (M.deed B.ords (.say k)).rows = saidOf M.rows ++ [M.readN k] := by
        show saidOf ((M.read k).rows ++ [⟨(M.read k).beats, "say", k, M.readN k⟩]) = _
        rw [said_app, if_pos rfl, said_read]
      rw [e]
      exact hM3
    | start k =>
      refine ⟨_, rfl, da, "start", [nV k], rfl, hsq, .inr ⟨nwd rfl, da, "start", [nV k], rfl, hsq, .inr ⟨nwd rfl, da, "start", [nV k], rfl, hsq, .inr ⟨nwd rfl, da, "start", [nV k], rfl, hsq, .inl ⟨rfl, rfl, ?_⟩⟩⟩⟩⟩
      refine ⟨_, rfl, m, _, _, rfl, hM.obj, rfl, _, rfl, ow, m, M, _, A, "start", k, 0, rfl, hM, by omega, fun H1 A1 hM1 k1 eo1 ep1 => ?_⟩
      have hPB1 := hPB.keep hM k1 eo1 ep1
      obtain ⟨o, os, eo, ho, hos⟩ := Pd.tupOf hPB1.1
      refine ⟨_, rfl, m, C, _, _, _, rfl, hM1.obj, c.cl, c.n _ (by decide), rfl, .inl ⟨rfl, _, sqL_l hM1.left⟩, _, rfl, m, C, _, _, _, rfl, hM1.obj, c.cl, c.n _ (by decide), rfl, _, rfl, o, os, B.ords, B.mem.length, k, by rw [eo]; rfl, ho, hos, ok.four, ok.ords, dok, fun H2 l ms s2 nl hl hms => ?_⟩
      have hM2 := hM1.same s2
      have ll : A1.ls.length = M.left.length := by have := hM1.leftD.len; rw [List.length_map] at this; exact this
      have ml : ms.length ≤ 32 := by rw [hms.len, List.length_map]; exact told_len ok.eight k
      refine ⟨A1.left, l, _, _, rfl, rfl, hM2.left, hl, big' (by omega), ?_⟩
      refine q _ ow { A1 with ls := A1.ls ++ ms } ?_ ((k1.trans (Same.keep s2)).trans (Keep.ofOw (o := .lst (A1.ls ++ ms)) (hM2.oa A1.left (List.mem_of_getElem? (i := 5) rfl)))) eo1 ep1
      rw [show saidOf (M.deed B.ords (.start k)).rows = saidOf M.rows from said_tell (M := { M with left := M.left ++ told B.ords k }) (by decide)]
      exact hM2.setLeft (lf := M.left ++ told B.ords k) (ls := A1.ls ++ ms) (by rw [List.map_append]; exact hM2.leftD.app hms)
    | wait =>
      refine ⟨_, rfl, da, "wait", [], rfl, hsq, .inr ⟨nwd rfl, da, "wait", [], rfl, hsq, .inr ⟨nwd rfl, da, "wait", [], rfl, hsq, .inr ⟨nwd rfl, da, "wait", [], rfl, hsq, .inr ⟨nwd rfl, da, "wait", [], rfl, hsq, .inr ⟨nwd rfl, da, "wait", [], rfl, hsq, .inr ⟨nwd rfl, ?_⟩⟩⟩⟩⟩⟩⟩
      exact q H ow A hM Keep.refl rfl rfl
    | clean l =>
      refine ⟨_, rfl, da, "clean", [nV l], rfl, hsq, .inr ⟨nwd rfl, da, "clean", [nV l], rfl, hsq, .inr ⟨nwd rfl, da, "clean", [nV l], rfl, hsq, .inr ⟨nwd rfl, da, "clean", [nV l], rfl, hsq, .inr ⟨nwd rfl, da, "clean", [nV l], rfl, hsq, .inl ⟨rfl, rfl, ?_⟩⟩⟩⟩⟩⟩
      refine ⟨_, rfl, m, _, _, rfl, hM.obj, rfl, _, rfl, ow, m, M, _, A, B.mem.length, l, rfl, hM, mok, dok, by omega, fun H1 A1 hM1 k1 eo1 ep1 => ?_⟩
      exact q H1 ow A1 (by rw [show saidOf (M.deed B.ords (.clean l)).rows = saidOf M.rows from said_clean]; exact hM1) k1 eo1 ep1
    | drop l =>
      refine ⟨_, rfl, da, "drop", [nV l], rfl, hsq, .inr ⟨nwd rfl, da, "drop", [nV l], rfl, hsq, .inr ⟨nwd rfl, da, "drop", [nV l], rfl, hsq, .inr ⟨nwd rfl, da, "drop", [nV l], rfl, hsq, .inr ⟨nwd rfl, da, "drop", [nV l], rfl, hsq, .inr ⟨nwd rfl, da, "drop", [nV l], rfl, hsq, .inl ⟨rfl, rfl, ?_⟩⟩⟩⟩⟩⟩⟩
      refine ⟨_, rfl, m, _, _, rfl, hM.obj, rfl, _, rfl, ow, m, M, _, A, B.mem.length, l, rfl, hM, mok, dok, by omega, fun H1 A1 hM1 k1 eo1 ep1 => ?_⟩
      exact q H1 ow A1 (by rw [show saidOf (M.deed B.ords (.drop l)).rows = saidOf M.rows from said_drop]; exact hM1) k1 eo1 ep1
abbrev st_Machine_do_next_deed : Stmt := (inClass (topS 21) 2)
abbrev nm_Machine_do_next_deed : List Str := ["self", "deed"]
theorem sc_Machine_do_next_deed : FnScope ["self", "deed"] ["self"] (defScope st_Machine_do_next_deed) := ⟨rfl, rfl, rfl, by decide +kernel, rfl, by decide +kernel, by decide +kernel⟩
def spNext (C : Addr) : Sp := fun vs H Q _ => ∃ (ow : Addr → Prop) (m : Addr) (M : Mst) (A : PA) (B : Brd), vs = [.ref m] ∧ PM ow H C m M (saidOf M.rows) A ∧ PB H A B ∧ BrdOk B ∧ MOk B.mem.length B.prog M ∧
  ∀ (H' : Hp) (ow' : Addr → Prop) (A' : PA), PM ow' H' C m (M.proc B.ords B.prog) (saidOf (M.proc B.ords B.prog).rows) A' → Keep ow ow' H H' → A'.ords = A.ords → A'.prog = A.prog → Q (.bl (!M.idle B.prog)) H'
theorem ok_next {f : Addr} {fd : FuncData} (F : Fun K "do_next_deed" "Machine.do_next_deed" st_Machine_do_next_deed f fd) (c : MC K C) (m_do_deed : MCallee P w K mg base C "do_deed" 4 (spDoDeed C)) (z_len : mg "len" = none) : FnOk P w K mg base CX0 5 f fd ["self"] (spNext C) := by
  refine F.ok sc_Machine_do_next_deed (fun vs H Q E h => ?_) (fun cdv A outer s H vs Q E hr h => ?_)
  · obtain ⟨ow, m, M, A, B, rfl, _⟩ := h
    rfl
  · obtain ⟨ow, m, M, A, B, rfl, hM, hPB, ok, mok, q⟩ := h
    obtain ⟨p, ps, ep, hp, hps⟩ := Pd.tupOf hPB.2
    have pl : ps.length = B.prog.length := by rw [hps.len, List.length_map]
    refine ⟨_, (pss_cons (ps_if (pt_cmpR op_eq (pe_fld (pv 0) rfl) (pe_callB call_len_seq (by rfl) z_len (by decide +kernel) (pa_cons (pe_fld (pv 0) rfl) pa_nil)) (nomark _)) (pss_one (ps_ret pe_bl)) pss_nil)
  (pss_cons (ps_set (i := 1) sc_Machine_do_next_deed.nd rfl (Or.inl rfl) (pe_ix ix_lt (pe_fld (pv 0) rfl) (pe_fld (pv 0) rfl) (fun _ _ => rfl)))
  (pss_cons (ps_if (PW.pt (pw_and (pt_cmpR op_eq (pe_ix ix_lt (pv 1) pe_int (fun _ _ => rfl)) pe_str (nomark _)) (pw_and1 (pt_truth (pe_fld (pv 0) rfl) (fun _ => rfl))))) (pss_one (ps_ret pe_bl)) pss_nil)
  (pss_cons (ps_expr (pe_mcal m_do_deed hr (by first | decide | exact Nat.le_refl _) (pv 0) (pa_cons (pv 1) pa_nil)))
  (pss_cons (ps_fldaug (pv 0) pe_int in_add)
  (pss_one (ps_ret pe_bl))))))), ?_⟩
    refine ⟨_, rfl, m, C, _, _, _, rfl, hM.obj, c.cl, c.n _ (by decide), rfl, _, rfl, m, C, _, _, _, rfl, hM.obj, c.cl, c.n _ (by decide), rfl, p, ps, by rw [ep], .inr (sqT_t hp), rfl, _, rfl, ?_⟩
    have e : decide (nV M.at_ = V.int (ps.length : Int)) = decide (M.at_ = B.prog.length) := by
      rw [pl]
      exact decide_eq_decide.mpr ⟨fun z => by have := V.int.inj z; omega, fun z => by rw [z]; rfl⟩
    rw [e]
    by_cases hat : M.at_ = B.prog.length
    · rw [decide_eq_true hat]
      have hid : M.idle B.prog = true := by
        unfold Mst.idle
        rw [List.getElem?_eq_none (by omega)]
      rw [hid, proc_idle hid] at q
      exact iteT (q H ow A hM Keep.refl rfl rfl)
    · rw [decide_eq_false hat]
      have hlt : M.at_ < B.prog.length := by have := mok.at_; omega
      have hd : B.prog[M.at_]? = some B.prog[M.at_] := List.getElem?_eq_getElem hlt
      generalize B.prog[M.at_] = d at hd
      have dok := ok.prog d (List.mem_of_getElem? hd)
      obtain ⟨x, hx, px⟩ := hps.get (show (B.prog.map Deed.d)[M.at_]? = some d.d by rw [List.getElem?_map, hd]; rfl)
      obtain ⟨da, rfl, hda⟩ := Deed.of px
      refine iteF ⟨_, rfl, m, C, _, _, _, rfl, hM.obj, c.cl, c.n _ (by decide), rfl, _, rfl, m, C, _, _, _, rfl, hM.obj, c.cl, c.n _ (by decide), rfl, p, ps, (M.at_ : Int), .ref da, ep, rfl, sqA_t hp, atI_nat hx, ?_⟩
      have hidle : M.idle B.prog = (decide (d = .wait) && !M.left.isEmpty) := by
        unfold Mst.idle
        rw [hd]
      have ll := ls_empty hM
      have go : M.idle B.prog = false → tSeq (tDrop (tMeth C "do_deed" (spDoDeed C) [] E0 (tVar 0) (tCons (tVar 1) tNil))) (tSeq (sFldAug K (tVar 0) (tC (.int 1)) rAdd "deeds_done") (tRet (tC (.bl true)))) { nx := fun _ H' => Q V.non H', rt := Q } [some (.ref m), some (.ref da)] H := fun hid => by
        rw [hid, proc_some (ords := B.ords) hid hd] at q
        refine ⟨_, rfl, m, _, _, rfl, hM.obj, rfl, _, rfl, ow, m, da, M, A, B, d, rfl, hM, hPB, ok, mok.toMOk0, hda, dok, by have := mok.room; omega, by have := mok.n32; have := mok.at_; have := mok.sixty; omega, fun H1 ow1 A1 hM1 k1 eo1 ep1 => ?_⟩
        have e1 : (M.deed B.ords d).at_ = M.at_ := (deed_rows ok.eight).2.2.1
        refine ⟨_, rfl, m, C, _, _, _, rfl, hM1.obj, c.cl, c.n _ (by decide), rfl, _, _, rfl, rfl, A1.dx, _, hM1.obj, by show 10 < 1000; decide, ?_⟩
        have hM2 := hM1.setNums (a := (M.deed B.ords d).at_ + 1) (b := (M.deed B.ords d).beats)
        refine q _ ow1 A1 ?_ (k1.trans (Keep.ofOw (hM1.oa m (List.mem_of_getElem? (i := 0) rfl)))) eo1 ep1
        have e2 : atN (M.deed B.ords d) (M.at_ + 1) = { M.deed B.ords d with at_ := (M.deed B.ords d).at_ + 1, beats := (M.deed B.ords d).beats } := by rw [e1]; rfl
        rw [e2]
        exact hM2
      refine rd_word rfl hda ?_
      have hww : decide (d.word = "wait") = decide (d = .wait) := decide_eq_decide.mpr ⟨fun z => by cases d <;> first | rfl | exact absurd z (of_decide_eq_false rfl), fun z => by rw [z]; rfl⟩
      rw [hww]
      cases hw : decide (d = .wait) with
      | false =>
        rw [hw] at hidle
        exact iteF (iteF (go hidle))
      | true =>
        rw [hw] at hidle
        refine iteT ⟨_, rfl, m, C, _, _, _, rfl, hM.obj, c.cl, c.n _ (by decide), rfl, _, .inl ⟨A.ls, sqL_l hM.left, rfl⟩, ?_⟩
        rw [ll]
        cases he : M.left.isEmpty with
        | true =>
          rw [he] at hidle
          exact iteF (go hidle)
        | false =>
          rw [he] at hidle
          rw [show M.idle B.prog = true from hidle, proc_idle hidle] at q
          exact iteT (q H ow A hM Keep.refl rfl rfl)
end
end Vt
namespace Vt
open PySem PySem.Spec PyProof.Rows L2
section
variable {P : Program} {w : World} {K : PySem.W.Frag} {mg : Str → Option Value} {base : Heap} {C : Addr}
def spInit (C : Addr) : Sp := fun vs H Q _ => ∃ (m dx : Addr) (v : V) (B : Brd), vs = [.ref m, v] ∧ H m = some (.ins C dx []) ∧ H dx = some (.own m) ∧ Pd H v B.d ∧ BrdOk B ∧
  ∀ (H' : Hp) (ow : Addr → Prop) (A : PA), (∀ pace, PM ow H' C m (Mst.begin B pace) [] A) → PB H' A B → (∀ c o, c ≠ m → c ≠ dx → H c = some o → H' c = some o ∧ ¬ ow c) → Q .non H'
abbrev st_run : Stmt := (topS 25)
abbrev nm_run : List Str := ["board", "pace", "machine", "used", "did", "moves"]
theorem sc_run : FnScope ["board", "pace", "machine", "used", "did", "moves"] ["board", "pace"] (defScope st_run) := ⟨rfl, rfl, rfl, by decide +kernel, rfl, by decide +kernel, by decide +kernel⟩
def spRunM (C : Addr) : Sp := fun vs H Q _ => ∃ (v : V) (B : Brd) (pl : Addr) (pace : List Bool), vs = [v, .ref pl] ∧ Pd H v B.d ∧ BrdOk B ∧ H pl = some (.lst (pace.map V.bl)) ∧ pace.length ≤ 1000 ∧
  ∀ (H' : Hp) (ow : Addr → Prop) (m : Addr) (A : PA), PM ow H' C m (gone B pace) (saidOf (gone B pace).rows) A → Keep (fun _ => False) ow H H' → Q (.ref m) H'
theorem said_finish {M : Mst} : saidOf M.finish.rows = saidOf M.rows := by
  unfold Mst.finish
  rw [said_clean, said_clean, said_clean, said_clean]
theorem ok_runM {f : Addr} {fd : FuncData} (F : Fun K "run" "run" st_run f fd) (c : MC K C) (c_require_board : Callee P w K mg base "require_board" 3 1 spReq) (k_Machine : Maker P w K mg base "Machine" C 1 (spInit C)) (m_is_over : MCallee P w K mg base C "is_over" 1 (spIsOver C)) (m_do_next_deed : MCallee P w K mg base C "do_next_deed" 5 (spNext C))
    (m_move_one : MCallee P w K mg base C "move_one" 2 (spMoveOne C)) (m_end_beat : MCallee P w K mg base C "end_beat" 1 (spEndBeat C)) (m_clean_all : MCallee P w K mg base C "clean_all" 3 (spCleanAll C)) (z_len : mg "len" = none) : FnOk P w K mg base CX0 6 f fd ["board", "pace"] (spRunM C) := by
  refine F.ok sc_run (fun vs H Q E h => ?_) (fun cdv A outer s H vs Q E hr h => ?_)
  · obtain ⟨v, B, pl, pace, rfl, _⟩ := h
    rfl
  · obtain ⟨v, B, pl, pace, rfl, hB, ok, hpl, plen, q⟩ := h
    refine ⟨_, (pss_cons (ps_expr (pe_cal c_require_board hr (by first | decide | exact Nat.le_refl _) (pa_cons (pv 0) pa_nil)))
  (pss_cons (ps_set (i := 2) sc_run.nd rfl (Or.inl rfl) (pe_mkc k_Machine hr (by first | decide | exact Nat.le_refl _) (pa_cons (pv 0) pa_nil)))
  (pss_cons (ps_set (i := 3) sc_run.nd rfl (Or.inl rfl) pe_int)
  (pss_cons (ps_while PassesOwn.never (pt_not (pt_val (pe_mcal0 m_is_over hr (by first | decide | exact Nat.le_refl _) (pv 2))))
  (pss_cons (ps_set (i := 4) sc_run.nd rfl (Or.inl rfl) (pe_mcal0 m_do_next_deed hr (by first | decide | exact Nat.le_refl _) (pv 2)))
  (pss_cons (ps_set (i := 5) sc_run.nd rfl (Or.inl rfl) pe_bl)
  (pss_cut (ps_if (PW.pt (pw_and (pt_val (pv 4)) (pw_and (pt_truth (pe_fld (pv 2) rfl) (fun _ => rfl)) (pw_and1 (pt_cmpR op_lt (pv 3) (pe_callB call_len_seq (by rfl) z_len (by decide +kernel) (pa_cons (pv 1) pa_nil)) (nomark _)))))) (pss_cons (ps_set (i := 5) sc_run.nd rfl (Or.inl rfl) (pe_ix ix_lt (pv 1) (pv 3) (fun _ _ => rfl)))
  (pss_one (ps_aug (i := 3) sc_run.nd rfl (Or.inl rfl) pe_int ip_add))) pss_nil)
  (pss_cut (ps_if (PW.pt (pw_and (pt_val (pv 5)) (pw_and1 (pt_truth (pe_fld (pv 2) rfl) (fun _ => rfl))))) (pss_one (ps_expr (pe_mcal0 m_move_one hr (by first | decide | exact Nat.le_refl _) (pv 2)))) pss_nil)
  (pss_one (ps_expr (pe_mcal0 m_end_beat hr (by first | decide | exact Nat.le_refl _) (pv 2)))))))))
  (pss_cons (ps_expr (pe_mcal0 m_clean_all hr (by first | decide | exact Nat.le_refl _) (pv 2)))
  (pss_one (ps_ret (pv 2)))))))), ?_⟩
    refine ⟨_, rfl, v, B, rfl, hB, ok, fun H1 s1 => ?_⟩
    refine ⟨_, rfl, fun m dx nm ndx dm => ?_⟩
    have sA : Same H1 (upd (upd H1 dx (.own m)) m (.ins C dx [])) := fun b o e => by rw [upd_ne (ne_of_none e nm), upd_ne (ne_of_none e ndx)]; exact e
    refine ⟨m, dx, v, B, rfl, upd_same, by rw [upd_ne dm, upd_same], (hB.same s1).same sA, ok, fun H2 ow A2 hM2 hPB2 k2 => ⟨rfl, ?_⟩⟩
    have K2 : Keep (fun _ => False) ow H H2 := fun b o _ e => k2 b o (ne_of_none (s1 _ _ e) nm) (ne_of_none (s1 _ _ e) ndx) (sA _ _ (s1 _ _ e))
    refine while_to (fun n σ H' => ∃ (y4 y5 : Option V) (ow : Addr → Prop) (M : Mst) (A : PA) (f used : Nat), σ = [some v, some (.ref pl), some (.ref m), some (nV used), y4, y5] ∧ n = M.mu B.prog ∧ PM ow H' C m M (saidOf M.rows) A ∧ PB H' A B ∧ MOk B.mem.length B.prog M ∧
        Mst.run B.ords B.prog f M = goneM B pace ∧ M.mu B.prog ≤ f ∧ M.pace = pace.drop used ∧ used ≤ pace.length ∧ Keep (fun _ => False) ow H H')
      ⟨_, _, _, ow, Mst.begin B pace, A2, 7000, 0, rfl, rfl, hM2 pace, hPB2, begin_ok ok pace, rfl, begin_mu ok pace, rfl, Nat.zero_le _, K2⟩ (fun n σ H3 hp => ?_) (fun σ H1 Q1 Q2 hq h => ?_)
    · obtain ⟨y4, y5, ow3, M, A3, f, used, rfl, rfl, hM, hPB, mok, hrun, hmu, hpace, hused, K3⟩ := hp
      refine ⟨_, rfl, m, _, _, rfl, hM.obj, rfl, ow3, m, M, _, A3, B, rfl, hM, hPB, _, rfl, ?_⟩
      have rows3 : M.rows.length ≤ 90000 := by have := mok.room; omega
      cases ho : M.over B.prog with
      | true =>
        refine iteF ?_
        refine ⟨_, rfl, m, _, _, rfl, hM.obj, rfl, ow3, m, M, _, A3, B.mem.length, rfl, hM, mok.toMOk0, by omega, fun H4 A4 hM4 k4 _ _ => ?_⟩
        have e : gone B pace = M.finish := by
          show (goneM B pace).finish = _
          rw [← hrun, run_over ho]
        refine ⟨_, rfl, q H4 ow3 m A4 ?_ (K3.trans k4)⟩
        rw [e, said_finish]
        exact hM4
      | false =>
        refine iteT ?_
        refine ⟨_, rfl, m, _, _, rfl, hM.obj, rfl, ow3, m, M, A3, B, rfl, hM, hPB, ok, mok, fun H5 ow5 A5 hM5 k5 eo5 ep5 => ?_⟩
        have K5 := K3.trans k5
        have hPB5 := hPB.keep hM k5 eo5 ep5
        obtain ⟨p1, p2, p3, p4, p5⟩ := proc_ok mok ok.ords ok.eight ok.prog
        have hbn := beat_no (ords := B.ords) (prog := B.prog) (M := M)
        have hby : ∀ b r, _ → _ → _ := fun b r => beat_yes (ords := B.ords) (prog := B.prog) (M := M) (b := b) (r := r)
        obtain ⟨b1, b2⟩ := beat_ok mok ho ok.ords ok.eight ok.prog
        obtain ⟨f', rfl, hrun'⟩ := run_on (ords := B.ords) mok.at_ ho hmu
        have hle : M.left.length ≤ 32 * 60 := by have := mok.n32; have := mok.at_; have := mok.sixty; omega
        unfold Mst.uses at hbn hby
        have hpl5 := (K5 pl _ (by simp) hpl).1
        have plm : (pace.drop used).isEmpty = decide (pace.length ≤ used) := by
          cases h : pace.drop used with
          | nil => rw [decide_eq_true (List.drop_eq_nil_iff.mp h)]; rfl
          | cons x r => rw [decide_eq_false (fun z => by rw [List.drop_eq_nil_iff.mpr z] at h; cases h)]; rfl
        generalize hM1 : M.proc B.ords B.prog = M1 at *
        have ll5 := ls_empty hM5
        refine ⟨fun σ' H' => ∃ (mv : Bool) (M2 : Mst) (used' : Nat), σ' = [some v, some (.ref pl), some (.ref m), some (nV used'), some (.bl (!M.idle B.prog)), some (.bl mv)] ∧ PM ow5 H' C m M2 (saidOf M2.rows) A5 ∧ PB H' A5 B ∧ Keep (fun _ => False) ow5 H H' ∧ MOk0 B.mem.length M2 ∧
          M2.rows.length ≤ 700000 ∧ M2.left.length ≤ 5000 ∧ M2.pace = pace.drop used' ∧ used' ≤ pace.length ∧ M2.beats = M.beats ∧ M.beat B.ords B.prog = { (if mv = true then M2.carry else M2) with beats := M.beats + 1 }, ?_, fun σ' H' hmid => ?_⟩
        · have stay : (!M.idle B.prog && !M1.left.isEmpty && !M.pace.isEmpty) = false → ∃ (mv : Bool) (M2 : Mst) (used' : Nat), [some v, some (.ref pl), some (.ref m), some (nV used), some (.bl (!M.idle B.prog)), some (.bl true)] = [some v, some (.ref pl), some (.ref m), some (nV used'), some (.bl (!M.idle B.prog)), some (.bl mv)] ∧ PM ow5 H5 C m M2 (saidOf M2.rows) A5 ∧ PB H5 A5 B ∧ Keep (fun _ => False) ow5 H H5 ∧ MOk0 B.mem.length M2 ∧
              M2.rows.length ≤ 700000 ∧ M2.left.length ≤ 5000 ∧ M2.pace = pace.drop used' ∧ used' ≤ pace.length ∧ M2.beats = M.beats ∧ M.beat B.ords B.prog = { (if mv = true then M2.carry else M2) with beats := M.beats + 1 } := fun hu =>
            ⟨true, M1, used, rfl, hM5, hPB5, K5, p1, by omega, by omega, by rw [p2]; exact hpace, hused, p3, by rw [if_pos rfl]; exact hbn hu⟩
          refine ⟨_, rfl, _, rfl, ?_⟩
          cases hi : M.idle B.prog with
          | true =>
            rw [hi] at stay
            exact iteF (iteF (stay rfl))
          | false =>
            rw [hi] at stay hby
            refine iteT ⟨_, rfl, m, C, _, _, _, rfl, hM5.obj, c.cl, c.n _ (by decide), rfl, _, .inl ⟨A5.ls, sqL_l hM5.left, rfl⟩, ?_⟩
            rw [ll5]
            cases hl : M1.left.isEmpty with
            | true =>
              rw [hl] at stay
              exact iteF (iteF (stay rfl))
            | false =>
              rw [hl] at stay hby
              refine iteT ⟨_, rfl, _, rfl, pl, _, rfl, .inl (sqL_l hpl5), _, _, rfl, rfl, _, rfl, ?_⟩
              rw [List.length_map]
              rw [hpace, plm] at stay
              by_cases hlt : used < pace.length
              · rw [decide_eq_true (show (used : Int) < (pace.length : Int) by omega)]
                have hget : pace.drop used = pace[used] :: pace.drop (used + 1) := List.drop_eq_getElem_cons hlt
                refine iteT ⟨_, rfl, _, rfl, pl, _, (used : Int), .bl pace[used], rfl, rfl, sqA_l hpl5, atI_nat (by rw [List.getElem?_map, List.getElem?_eq_getElem hlt]; rfl), ?_⟩
                refine ⟨_, rfl, _, _, rfl, rfl, ?_⟩
                refine ⟨pace[used], { M1 with pace := pace.drop (used + 1) }, used + 1, rfl, hM5.rePace, hPB5, K5, ⟨p1.lines, p1.mem, p1.held, p1.tou, p1.four, p1.th, p1.left⟩, by show M1.rows.length ≤ _; omega, by show M1.left.length ≤ _; omega, rfl, by omega, p3, ?_⟩
                exact hby _ _ (by rw [hpace, hget]; rfl) (by rw [hpace]; exact hget)
              · rw [decide_eq_false (show ¬ (used : Int) < (pace.length : Int) by omega)]
                rw [decide_eq_true (show pace.length ≤ used by omega)] at stay
                exact iteF (stay rfl)
        obtain ⟨mv, M2, used', rfl, hM6, hPB6, K6, ok6, r6, l6, pc6, us6, be6, hbeat⟩ := hmid
        refine ⟨fun σ' H' => ∃ (X : Mst) (A7 : PA), σ' = [some v, some (.ref pl), some (.ref m), some (nV used'), some (.bl (!M.idle B.prog)), some (.bl mv)] ∧ PM ow5 H' C m X (saidOf X.rows) A7 ∧ PB H' A7 B ∧ Keep (fun _ => False) ow5 H H' ∧ X.pace = pace.drop used' ∧ X.beats = M.beats ∧ M.beat B.ords B.prog = { X with beats := M.beats + 1 }, ?_, fun σ'' H'' hmid => ?_⟩
        · refine ⟨_, rfl, _, rfl, ?_⟩
          cases mv with
          | false => exact iteF (iteF ⟨M2, A5, rfl, hM6, hPB6, K6, pc6, be6, by rw [hbeat]; rfl⟩)
          | true =>
            refine iteT ⟨_, rfl, m, C, _, _, _, rfl, hM6.obj, c.cl, c.n _ (by decide), rfl, _, .inl ⟨A5.ls, sqL_l hM6.left, rfl⟩, ?_⟩
            rw [ls_empty hM6]
            cases hl : M2.left with
            | nil =>
              have ec : M2.carry = M2 := by unfold Mst.carry; rw [hl]
              exact iteF ⟨M2, A5, rfl, hM6, hPB6, K6, pc6, be6, by rw [hbeat, if_pos rfl, ec]⟩
            | cons x r =>
              obtain ⟨c1, c2, c3, c4, c5⟩ := carry_rows (M := M2)
              refine iteT ⟨_, rfl, m, _, _, rfl, hM6.obj, rfl, ow5, m, M2, _, A5, B.mem.length, rfl, hM6, ok6, by rw [hl]; simp, r6, l6, fun H8 A8 hM8 k8 eo8 ep8 => ?_⟩
              exact ⟨M2.carry, A8, rfl, by rw [said_carry]; exact hM8, hPB6.keep hM6 k8 eo8 ep8, K6.trans k8, by rw [c5]; exact pc6, by rw [c4]; exact be6, by rw [hbeat, if_pos rfl]⟩
        obtain ⟨X, A7, rfl, hM7, hPB7, K7, pc7, be7, hbeat7⟩ := hmid
        refine ⟨_, rfl, m, _, _, rfl, hM7.obj, rfl, ow5, m, X, _, A7, rfl, hM7, fun H8 hM8 k8 => ?_⟩
        have e8 : M.beat B.ords B.prog = { X with beats := X.beats + 1 } := by rw [hbeat7, be7]
        have re : (M.beat B.ords B.prog).rows = X.rows := by rw [e8]
        have pe : (M.beat B.ords B.prog).pace = X.pace := by rw [e8]
        refine ⟨_, b2, _, _, ow5, M.beat B.ords B.prog, A7, f', used', rfl, rfl, ?_, hPB7.keep hM7 k8 rfl rfl, b1, by rw [← hrun']; exact hrun, by omega, by rw [pe]; exact pc7, us6, K7.trans k8⟩
        rw [re, e8]
        exact hM8
    · obtain ⟨v0, e1, a0, dx0, fs0, e2, e3, e4, ow, m', M, sd, A', B', e5, hM', hPB', c0, e6, h⟩ := h
      exact ⟨v0, e1, a0, dx0, fs0, e2, e3, e4, ow, m', M, sd, A', B', e5, hM', hPB', c0, e6, hq _ _ h⟩
end
end Vt
namespace Vt
open PySem PySem.Spec PyProof.Rows L2
/-- addresses that differ, and stand -/
def Frs (H : Hp) (l : List Addr) : Prop := l.Nodup ∧ ∀ y ∈ l, ∃ o, H y = some o
theorem Frs.new {H : Hp} {l : List Addr} {p : Addr} {o : HO} (h : Frs H l) (n : H p = none) : Frs (upd H p o) (l ++ [p]) := by
  refine ⟨List.nodup_append.mpr ⟨h.1, by simp, fun a ha b hb e => ?_⟩, fun y hy => ?_⟩
  · rw [List.mem_singleton.mp hb] at e
    obtain ⟨u, hu⟩ := h.2 a ha
    rw [e, n] at hu; cases hu
  · by_cases e : y = p
    · exact ⟨o, by rw [e]; exact upd_same⟩
    · rw [upd_ne e]
      rcases List.mem_append.mp hy with q | q
      · exact h.2 y q
      · exact absurd (List.mem_singleton.mp q) e
theorem Frs.set {H : Hp} {l : List Addr} {p : Addr} {o : HO} (h : Frs H l) : Frs (upd H p o) l :=
  ⟨h.1, fun y hy => by
    by_cases e : y = p
    · exact ⟨o, by rw [e]; exact upd_same⟩
    · rw [upd_ne e]; exact h.2 y hy⟩
section
variable {P : Program} {w : World} {K : PySem.W.Frag} {mg : Str → Option Value} {base : Heap} {C : Addr}
abbrev st_Machine___init__ : Stmt := (inClass (topS 21) 0)
abbrev nm_Machine___init__ : List Str := ["self", "board", "memory", "orders", "program"]
theorem sc_Machine___init__ : FnScope ["self", "board", "memory", "orders", "program"] ["self", "board"] (defScope st_Machine___init__) := ⟨rfl, rfl, rfl, by decide +kernel, rfl, by decide +kernel, by decide +kernel⟩
theorem ok_init {f : Addr} {fd : FuncData} (F : Fun K "__init__" "Machine.__init__" st_Machine___init__ f fd) (c : MC K C) (CC : Consts K mg) (z_list : mg "list" = none) (z_len : mg "len" = none) : FnOk P w K mg base CX0 1 f fd ["self", "board"] (spInit C) := by
  obtain ⟨tL, mc_LINE⟩ := CC.line
  refine F.ok sc_Machine___init__ (fun vs H Q E h => ?_) (fun cdv A outer s H vs Q E hr h => ?_)
  · obtain ⟨m, dx, v, B, rfl, _⟩ := h
    rfl
  · obtain ⟨m, dx, v, B, rfl, hm0, hdx, hB, ok, q⟩ := h
    obtain ⟨a, mm, o, p, os, ps, rfl, ha, hm, ho, hos, hp, hps⟩ := Brd.of hB
    have mdx : m ≠ dx := ne_of hm0 hdx (by intro z; cases z)
    have fr0 : Frs H [m, dx] := ⟨by simp [mdx], fun y hy => by
      rcases List.mem_cons.mp hy with rfl | hy
      · exact ⟨_, hm0⟩
      · rw [List.mem_singleton.mp hy]; exact ⟨_, hdx⟩⟩
    have c16 : B.mem.length ≤ 16 := by have := ok.cells; omega
    refine ⟨_, (pss_cons (ps_asg (pv 1) (pg_tup rfl (pgs_cons (pg_name (i := 2) sc_Machine___init__.nd rfl (Or.inl rfl)) (pgs_cons (pg_name (i := 3) sc_Machine___init__.nd rfl (Or.inl rfl)) (pgs_cons (pg_name (i := 4) sc_Machine___init__.nd rfl (Or.inl rfl)) pgs_nil)))))
  (pss_cons (ps_fld (pv 0) (pe_callTy call_list_of (by rfl) z_list (by decide +kernel) (pa_cons (pv 2) pa_nil)) rfl)
  (pss_cons (ps_fld (pv 0) (pv 3) rfl)
  (pss_cons (ps_fld (pv 0) (pv 4) rfl)
  (pss_cons (ps_fld (pv 0) pe_int rfl)
  (pss_cons (ps_fld (pv 0) (pe_op op_rep (pe_lst (pa_cons pe_non pa_nil)) (pe_op op_fdiv (pe_callB call_len_seq (by rfl) z_len (by decide +kernel) (pa_cons (pv 2) pa_nil)) (pe_glob (v := .int 4) rfl mc_LINE ⟨_, rfl⟩))) rfl)
  (pss_cons (ps_fld (pv 0) (pe_op op_rep (pe_lst (pa_cons pe_bl pa_nil)) (pe_op op_fdiv (pe_callB call_len_seq (by rfl) z_len (by decide +kernel) (pa_cons (pv 2) pa_nil)) (pe_glob (v := .int 4) rfl mc_LINE ⟨_, rfl⟩))) rfl)
  (pss_cons (ps_fld (pv 0) (pe_lst pa_nil) rfl)
  (pss_cons (ps_fld (pv 0) pe_int rfl)
  (pss_cons (ps_fld (pv 0) (pe_lst pa_nil) rfl)
  (pss_one (ps_fld (pv 0) (pe_lst pa_nil) rfl)))))))))))), ?_⟩
    refine ⟨_, rfl, a, _, rfl, sqT_t ha, rfl, _, _, rfl, _, _, rfl, _, _, rfl, rfl, ?_⟩
    refine ⟨_, rfl, mm, _, rfl, .inr (sqT_t hm), fun l nl => ?_⟩
    have s_1 := same_new (o := .lst (B.mem.map nV)) nl
    have c_1 : (upd H l (.lst (B.mem.map nV))) l = some (.lst (B.mem.map nV)) := upd_same
    have fr_1 : Frs (upd H l (.lst (B.mem.map nV))) _ := Frs.new fr0 nl
    have b_1 : But [m] H (upd H l (.lst (B.mem.map nV))) := But.trans But.refl (Same.but s_1)
    generalize upd H l (.lst (B.mem.map nV)) = H1 at s_1 c_1 fr_1 b_1
    have hm_1 := s_1 _ _ hm0
    have hmm_1 := s_1 _ _ hm
    refine ⟨_, rfl, m, C, dx, [], rfl, hm_1, c.cl, c.n _ (by decide), by show 0 < 1000; decide, ?_⟩
    have hm_2 : (upd H1 m (.ins C dx (putF "memory" (.ref l) []))) m = some (.ins C dx [("memory", (.ref l))]) := upd_same
    have w_2 : ∀ y u, y ≠ m → H1 y = some u → (upd H1 m (.ins C dx (putF "memory" (.ref l) []))) y = some u := fun y u ne e => by rw [upd_ne ne]; exact e
    have fr_2 : Frs (upd H1 m (.ins C dx (putF "memory" (.ref l) []))) _ := Frs.set fr_1
    have b_2 : But [m] H (upd H1 m (.ins C dx (putF "memory" (.ref l) []))) := But.trans b_1 (But.set (by simp))
    generalize upd H1 m (.ins C dx (putF "memory" (.ref l) [])) = H2 at hm_2 w_2 fr_2 b_2
    have hmm_2 := w_2 _ _ (ne_of hmm_1 hm_1 (by intro z; cases z)) hmm_1
    have hl_2 := w_2 _ _ (ne_of c_1 hm_1 (by intro z; cases z)) c_1
    refine ⟨_, rfl, _, rfl, m, C, dx, [("memory", (.ref l))], rfl, hm_2, c.cl, c.n _ (by decide), by show 1 < 1000; decide, ?_⟩
    have hm_3 : (upd H2 m (.ins C dx (putF "orders" (.ref o) [("memory", (.ref l))]))) m = some (.ins C dx [("memory", (.ref l)), ("orders", (.ref o))]) := upd_same
    have w_3 : ∀ y u, y ≠ m → H2 y = some u → (upd H2 m (.ins C dx (putF "orders" (.ref o) [("memory", (.ref l))]))) y = some u := fun y u ne e => by rw [upd_ne ne]; exact e
    have fr_3 : Frs (upd H2 m (.ins C dx (putF "orders" (.ref o) [("memory", (.ref l))]))) _ := Frs.set fr_2
    have b_3 : But [m] H (upd H2 m (.ins C dx (putF "orders" (.ref o) [("memory", (.ref l))]))) := But.trans b_2 (But.set (by simp))
    generalize upd H2 m (.ins C dx (putF "orders" (.ref o) [("memory", (.ref l))])) = H3 at hm_3 w_3 fr_3 b_3
    have hmm_3 := w_3 _ _ (ne_of hmm_2 hm_2 (by intro z; cases z)) hmm_2
    have hl_3 := w_3 _ _ (ne_of hl_2 hm_2 (by intro z; cases z)) hl_2
    refine ⟨_, rfl, _, rfl, m, C, dx, [("memory", (.ref l)), ("orders", (.ref o))], rfl, hm_3, c.cl, c.n _ (by decide), by show 2 < 1000; decide, ?_⟩
    have hm_4 : (upd H3 m (.ins C dx (putF "program" (.ref p) [("memory", (.ref l)), ("orders", (.ref o))]))) m = some (.ins C dx [("memory", (.ref l)), ("orders", (.ref o)), ("program", (.ref p))]) := upd_same
    have w_4 : ∀ y u, y ≠ m → H3 y = some u → (upd H3 m (.ins C dx (putF "program" (.ref p) [("memory", (.ref l)), ("orders", (.ref o))]))) y = some u := fun y u ne e => by rw [upd_ne ne]; exact e
    have fr_4 : Frs (upd H3 m (.ins C dx (putF "program" (.ref p) [("memory", (.ref l)), ("orders", (.ref o))]))) _ := Frs.set fr_3
    have b_4 : But [m] H (upd H3 m (.ins C dx (putF "program" (.ref p) [("memory", (.ref l)), ("orders", (.ref o))]))) := But.trans b_3 (But.set (by simp))
    generalize upd H3 m (.ins C dx (putF "program" (.ref p) [("memory", (.ref l)), ("orders", (.ref o))])) = H4 at hm_4 w_4 fr_4 b_4
    have hmm_4 := w_4 _ _ (ne_of hmm_3 hm_3 (by intro z; cases z)) hmm_3
    have hl_4 := w_4 _ _ (ne_of hl_3 hm_3 (by intro z; cases z)) hl_3
    refine ⟨_, rfl, m, C, dx, [("memory", (.ref l)), ("orders", (.ref o)), ("program", (.ref p))], rfl, hm_4, c.cl, c.n _ (by decide), by show 3 < 1000; decide, ?_⟩
    have hm_5 : (upd H4 m (.ins C dx (putF "deeds_done" (.int 0) [("memory", (.ref l)), ("orders", (.ref o)), ("program", (.ref p))]))) m = some (.ins C dx [("memory", (.ref l)), ("orders", (.ref o)), ("program", (.ref p)), ("deeds_done", (.int 0))]) := upd_same
    have w_5 : ∀ y u, y ≠ m → H4 y = some u → (upd H4 m (.ins C dx (putF "deeds_done" (.int 0) [("memory", (.ref l)), ("orders", (.ref o)), ("program", (.ref p))]))) y = some u := fun y u ne e => by rw [upd_ne ne]; exact e
    have fr_5 : Frs (upd H4 m (.ins C dx (putF "deeds_done" (.int 0) [("memory", (.ref l)), ("orders", (.ref o)), ("program", (.ref p))]))) _ := Frs.set fr_4
    have b_5 : But [m] H (upd H4 m (.ins C dx (putF "deeds_done" (.int 0) [("memory", (.ref l)), ("orders", (.ref o)), ("program", (.ref p))]))) := But.trans b_4 (But.set (by simp))
    generalize upd H4 m (.ins C dx (putF "deeds_done" (.int 0) [("memory", (.ref l)), ("orders", (.ref o)), ("program", (.ref p))])) = H5 at hm_5 w_5 fr_5 b_5
    have hmm_5 := w_5 _ _ (ne_of hmm_4 hm_4 (by intro z; cases z)) hmm_4
    have hl_5 := w_5 _ _ (ne_of hl_4 hm_4 (by intro z; cases z)) hl_4
    refine ⟨by show 1 ≤ sizeLine; decide, fun T1 nT1 => ?_⟩
    have s_6 := same_new (o := .lst [.non]) nT1
    have c_6 : (upd H5 T1 (.lst [.non])) T1 = some (.lst [.non]) := upd_same
    have fr_6 : Frs (upd H5 T1 (.lst [.non])) _ := Frs.set fr_5
    have b_6 : But [m] H (upd H5 T1 (.lst [.non])) := But.trans b_5 (Same.but s_6)
    generalize upd H5 T1 (.lst [.non]) = H6 at s_6 c_6 fr_6 b_6
    have hm_6 := s_6 _ _ hm_5
    have hmm_6 := s_6 _ _ hmm_5
    have hl_6 := s_6 _ _ hl_5
    refine ⟨_, rfl, mm, _, rfl, .inr (sqT_t hmm_6), _, _, rfl, rfl, ⟨by decide, by decide⟩, T1, _, [.non], rfl, rfl, c_6, by rw [List.length_map]; omega, by rw [List.length_map]; omega, by rw [List.length_map]; exact big' (by simp only [List.length_cons, List.length_nil]; omega), fun p1 np1 => ?_⟩
    have s_7 := same_new (o := .lst (List.replicate (((B.mem.map nV).length : Int) / 4).toNat [.non]).flatten) np1
    have c_7 : (upd H6 p1 (.lst (List.replicate (((B.mem.map nV).length : Int) / 4).toNat [.non]).flatten)) p1 = some (.lst (List.replicate (((B.mem.map nV).length : Int) / 4).toNat [.non]).flatten) := upd_same
    have fr_7 : Frs (upd H6 p1 (.lst (List.replicate (((B.mem.map nV).length : Int) / 4).toNat [.non]).flatten)) _ := Frs.new fr_6 np1
    have b_7 : But [m] H (upd H6 p1 (.lst (List.replicate (((B.mem.map nV).length : Int) / 4).toNat [.non]).flatten)) := But.trans b_6 (Same.but s_7)
    generalize upd H6 p1 (.lst (List.replicate (((B.mem.map nV).length : Int) / 4).toNat [.non]).flatten) = H7 at s_7 c_7 fr_7 b_7
    have hm_7 := s_7 _ _ hm_6
    have hmm_7 := s_7 _ _ hmm_6
    have hl_7 := s_7 _ _ hl_6
    refine ⟨_, rfl, m, C, dx, [("memory", (.ref l)), ("orders", (.ref o)), ("program", (.ref p)), ("deeds_done", (.int 0))], rfl, hm_7, c.cl, c.n _ (by decide), by show 4 < 1000; decide, ?_⟩
    have hm_8 : (upd H7 m (.ins C dx (putF "held" (.ref p1) [("memory", (.ref l)), ("orders", (.ref o)), ("program", (.ref p)), ("deeds_done", (.int 0))]))) m = some (.ins C dx [("memory", (.ref l)), ("orders", (.ref o)), ("program", (.ref p)), ("deeds_done", (.int 0)), ("held", (.ref p1))]) := upd_same
    have w_8 : ∀ y u, y ≠ m → H7 y = some u → (upd H7 m (.ins C dx (putF "held" (.ref p1) [("memory", (.ref l)), ("orders", (.ref o)), ("program", (.ref p)), ("deeds_done", (.int 0))]))) y = some u := fun y u ne e => by rw [upd_ne ne]; exact e
    have fr_8 : Frs (upd H7 m (.ins C dx (putF "held" (.ref p1) [("memory", (.ref l)), ("orders", (.ref o)), ("program", (.ref p)), ("deeds_done", (.int 0))]))) _ := Frs.set fr_7
    have b_8 : But [m] H (upd H7 m (.ins C dx (putF "held" (.ref p1) [("memory", (.ref l)), ("orders", (.ref o)), ("program", (.ref p)), ("deeds_done", (.int 0))]))) := But.trans b_7 (But.set (by simp))
    generalize upd H7 m (.ins C dx (putF "held" (.ref p1) [("memory", (.ref l)), ("orders", (.ref o)), ("program", (.ref p)), ("deeds_done", (.int 0))])) = H8 at hm_8 w_8 fr_8 b_8
    have hmm_8 := w_8 _ _ (ne_of hmm_7 hm_7 (by intro z; cases z)) hmm_7
    have hl_8 := w_8 _ _ (ne_of hl_7 hm_7 (by intro z; cases z)) hl_7
    have hp1_8 := w_8 _ _ (ne_of c_7 hm_7 (by intro z; cases z)) c_7
    refine ⟨by show 1 ≤ sizeLine; decide, fun T2 nT2 => ?_⟩
    have s_9 := same_new (o := .lst [.bl false]) nT2
    have c_9 : (upd H8 T2 (.lst [.bl false])) T2 = some (.lst [.bl false]) := upd_same
    have fr_9 : Frs (upd H8 T2 (.lst [.bl false])) _ := Frs.set fr_8
    have b_9 : But [m] H (upd H8 T2 (.lst [.bl false])) := But.trans b_8 (Same.but s_9)
    generalize upd H8 T2 (.lst [.bl false]) = H9 at s_9 c_9 fr_9 b_9
    have hm_9 := s_9 _ _ hm_8
    have hmm_9 := s_9 _ _ hmm_8
    have hl_9 := s_9 _ _ hl_8
    have hp1_9 := s_9 _ _ hp1_8
    refine ⟨_, rfl, mm, _, rfl, .inr (sqT_t hmm_9), _, _, rfl, rfl, ⟨by decide, by decide⟩, T2, _, [.bl false], rfl, rfl, c_9, by rw [List.length_map]; omega, by rw [List.length_map]; omega, by rw [List.length_map]; exact big' (by simp only [List.length_cons, List.length_nil]; omega), fun p2 np2 => ?_⟩
    have s_10 := same_new (o := .lst (List.replicate (((B.mem.map nV).length : Int) / 4).toNat [.bl false]).flatten) np2
    have c_10 : (upd H9 p2 (.lst (List.replicate (((B.mem.map nV).length : Int) / 4).toNat [.bl false]).flatten)) p2 = some (.lst (List.replicate (((B.mem.map nV).length : Int) / 4).toNat [.bl false]).flatten) := upd_same
    have fr_10 : Frs (upd H9 p2 (.lst (List.replicate (((B.mem.map nV).length : Int) / 4).toNat [.bl false]).flatten)) _ := Frs.new fr_9 np2
    have b_10 : But [m] H (upd H9 p2 (.lst (List.replicate (((B.mem.map nV).length : Int) / 4).toNat [.bl false]).flatten)) := But.trans b_9 (Same.but s_10)
    generalize upd H9 p2 (.lst (List.replicate (((B.mem.map nV).length : Int) / 4).toNat [.bl false]).flatten) = H10 at s_10 c_10 fr_10 b_10
    have hm_10 := s_10 _ _ hm_9
    have hmm_10 := s_10 _ _ hmm_9
    have hl_10 := s_10 _ _ hl_9
    have hp1_10 := s_10 _ _ hp1_9
    refine ⟨_, rfl, m, C, dx, [("memory", (.ref l)), ("orders", (.ref o)), ("program", (.ref p)), ("deeds_done", (.int 0)), ("held", (.ref p1))], rfl, hm_10, c.cl, c.n _ (by decide), by show 5 < 1000; decide, ?_⟩
    have hm_11 : (upd H10 m (.ins C dx (putF "touched" (.ref p2) [("memory", (.ref l)), ("orders", (.ref o)), ("program", (.ref p)), ("deeds_done", (.int 0)), ("held", (.ref p1))]))) m = some (.ins C dx [("memory", (.ref l)), ("orders", (.ref o)), ("program", (.ref p)), ("deeds_done", (.int 0)), ("held", (.ref p1)), ("touched", (.ref p2))]) := upd_same
    have w_11 : ∀ y u, y ≠ m → H10 y = some u → (upd H10 m (.ins C dx (putF "touched" (.ref p2) [("memory", (.ref l)), ("orders", (.ref o)), ("program", (.ref p)), ("deeds_done", (.int 0)), ("held", (.ref p1))]))) y = some u := fun y u ne e => by rw [upd_ne ne]; exact e
    have fr_11 : Frs (upd H10 m (.ins C dx (putF "touched" (.ref p2) [("memory", (.ref l)), ("orders", (.ref o)), ("program", (.ref p)), ("deeds_done", (.int 0)), ("held", (.ref p1))]))) _ := Frs.set fr_10
    have b_11 : But [m] H (upd H10 m (.ins C dx (putF "touched" (.ref p2) [("memory", (.ref l)), ("orders", (.ref o)), ("program", (.ref p)), ("deeds_done", (.int 0)), ("held", (.ref p1))]))) := But.trans b_10 (But.set (by simp))
    generalize upd H10 m (.ins C dx (putF "touched" (.ref p2) [("memory", (.ref l)), ("orders", (.ref o)), ("program", (.ref p)), ("deeds_done", (.int 0)), ("held", (.ref p1))])) = H11 at hm_11 w_11 fr_11 b_11
    have hmm_11 := w_11 _ _ (ne_of hmm_10 hm_10 (by intro z; cases z)) hmm_10
    have hl_11 := w_11 _ _ (ne_of hl_10 hm_10 (by intro z; cases z)) hl_10
    have hp1_11 := w_11 _ _ (ne_of hp1_10 hm_10 (by intro z; cases z)) hp1_10
    have hp2_11 := w_11 _ _ (ne_of c_10 hm_10 (by intro z; cases z)) c_10
    refine ⟨Nat.zero_le _, fun L3 nL3 => ?_⟩
    have s_12 := same_new (o := .lst []) nL3
    have c_12 : (upd H11 L3 (.lst [])) L3 = some (.lst []) := upd_same
    have fr_12 : Frs (upd H11 L3 (.lst [])) _ := Frs.new fr_11 nL3
    have b_12 : But [m] H (upd H11 L3 (.lst [])) := But.trans b_11 (Same.but s_12)
    generalize upd H11 L3 (.lst []) = H12 at s_12 c_12 fr_12 b_12
    have hm_12 := s_12 _ _ hm_11
    have hmm_12 := s_12 _ _ hmm_11
    have hl_12 := s_12 _ _ hl_11
    have hp1_12 := s_12 _ _ hp1_11
    have hp2_12 := s_12 _ _ hp2_11
    refine ⟨_, rfl, m, C, dx, [("memory", (.ref l)), ("orders", (.ref o)), ("program", (.ref p)), ("deeds_done", (.int 0)), ("held", (.ref p1)), ("touched", (.ref p2))], rfl, hm_12, c.cl, c.n _ (by decide), by show 6 < 1000; decide, ?_⟩
    have hm_13 : (upd H12 m (.ins C dx (putF "left" (.ref L3) [("memory", (.ref l)), ("orders", (.ref o)), ("program", (.ref p)), ("deeds_done", (.int 0)), ("held", (.ref p1)), ("touched", (.ref p2))]))) m = some (.ins C dx [("memory", (.ref l)), ("orders", (.ref o)), ("program", (.ref p)), ("deeds_done", (.int 0)), ("held", (.ref p1)), ("touched", (.ref p2)), ("left", (.ref L3))]) := upd_same
    have w_13 : ∀ y u, y ≠ m → H12 y = some u → (upd H12 m (.ins C dx (putF "left" (.ref L3) [("memory", (.ref l)), ("orders", (.ref o)), ("program", (.ref p)), ("deeds_done", (.int 0)), ("held", (.ref p1)), ("touched", (.ref p2))]))) y = some u := fun y u ne e => by rw [upd_ne ne]; exact e
    have fr_13 : Frs (upd H12 m (.ins C dx (putF "left" (.ref L3) [("memory", (.ref l)), ("orders", (.ref o)), ("program", (.ref p)), ("deeds_done", (.int 0)), ("held", (.ref p1)), ("touched", (.ref p2))]))) _ := Frs.set fr_12
    have b_13 : But [m] H (upd H12 m (.ins C dx (putF "left" (.ref L3) [("memory", (.ref l)), ("orders", (.ref o)), ("program", (.ref p)), ("deeds_done", (.int 0)), ("held", (.ref p1)), ("touched", (.ref p2))]))) := But.trans b_12 (But.set (by simp))
    generalize upd H12 m (.ins C dx (putF "left" (.ref L3) [("memory", (.ref l)), ("orders", (.ref o)), ("program", (.ref p)), ("deeds_done", (.int 0)), ("held", (.ref p1)), ("touched", (.ref p2))])) = H13 at hm_13 w_13 fr_13 b_13
    have hmm_13 := w_13 _ _ (ne_of hmm_12 hm_12 (by intro z; cases z)) hmm_12
    have hl_13 := w_13 _ _ (ne_of hl_12 hm_12 (by intro z; cases z)) hl_12
    have hp1_13 := w_13 _ _ (ne_of hp1_12 hm_12 (by intro z; cases z)) hp1_12
    have hp2_13 := w_13 _ _ (ne_of hp2_12 hm_12 (by intro z; cases z)) hp2_12
    have hL_13 := w_13 _ _ (ne_of c_12 hm_12 (by intro z; cases z)) c_12
    refine ⟨_, rfl, m, C, dx, [("memory", (.ref l)), ("orders", (.ref o)), ("program", (.ref p)), ("deeds_done", (.int 0)), ("held", (.ref p1)), ("touched", (.ref p2)), ("left", (.ref L3))], rfl, hm_13, c.cl, c.n _ (by decide), by show 7 < 1000; decide, ?_⟩
    have hm_14 : (upd H13 m (.ins C dx (putF "beats" (.int 0) [("memory", (.ref l)), ("orders", (.ref o)), ("program", (.ref p)), ("deeds_done", (.int 0)), ("held", (.ref p1)), ("touched", (.ref p2)), ("left", (.ref L3))]))) m = some (.ins C dx [("memory", (.ref l)), ("orders", (.ref o)), ("program", (.ref p)), ("deeds_done", (.int 0)), ("held", (.ref p1)), ("touched", (.ref p2)), ("left", (.ref L3)), ("beats", (.int 0))]) := upd_same
    have w_14 : ∀ y u, y ≠ m → H13 y = some u → (upd H13 m (.ins C dx (putF "beats" (.int 0) [("memory", (.ref l)), ("orders", (.ref o)), ("program", (.ref p)), ("deeds_done", (.int 0)), ("held", (.ref p1)), ("touched", (.ref p2)), ("left", (.ref L3))]))) y = some u := fun y u ne e => by rw [upd_ne ne]; exact e
    have fr_14 : Frs (upd H13 m (.ins C dx (putF "beats" (.int 0) [("memory", (.ref l)), ("orders", (.ref o)), ("program", (.ref p)), ("deeds_done", (.int 0)), ("held", (.ref p1)), ("touched", (.ref p2)), ("left", (.ref L3))]))) _ := Frs.set fr_13
    have b_14 : But [m] H (upd H13 m (.ins C dx (putF "beats" (.int 0) [("memory", (.ref l)), ("orders", (.ref o)), ("program", (.ref p)), ("deeds_done", (.int 0)), ("held", (.ref p1)), ("touched", (.ref p2)), ("left", (.ref L3))]))) := But.trans b_13 (But.set (by simp))
    generalize upd H13 m (.ins C dx (putF "beats" (.int 0) [("memory", (.ref l)), ("orders", (.ref o)), ("program", (.ref p)), ("deeds_done", (.int 0)), ("held", (.ref p1)), ("touched", (.ref p2)), ("left", (.ref L3))])) = H14 at hm_14 w_14 fr_14 b_14
    have hmm_14 := w_14 _ _ (ne_of hmm_13 hm_13 (by intro z; cases z)) hmm_13
    have hl_14 := w_14 _ _ (ne_of hl_13 hm_13 (by intro z; cases z)) hl_13
    have hp1_14 := w_14 _ _ (ne_of hp1_13 hm_13 (by intro z; cases z)) hp1_13
    have hp2_14 := w_14 _ _ (ne_of hp2_13 hm_13 (by intro z; cases z)) hp2_13
    have hL_14 := w_14 _ _ (ne_of hL_13 hm_13 (by intro z; cases z)) hL_13
    refine ⟨Nat.zero_le _, fun L4 nL4 => ?_⟩
    have s_15 := same_new (o := .lst []) nL4
    have c_15 : (upd H14 L4 (.lst [])) L4 = some (.lst []) := upd_same
    have fr_15 : Frs (upd H14 L4 (.lst [])) _ := Frs.new fr_14 nL4
    have b_15 : But [m] H (upd H14 L4 (.lst [])) := But.trans b_14 (Same.but s_15)
    generalize upd H14 L4 (.lst []) = H15 at s_15 c_15 fr_15 b_15
    have hm_15 := s_15 _ _ hm_14
    have hmm_15 := s_15 _ _ hmm_14
    have hl_15 := s_15 _ _ hl_14
    have hp1_15 := s_15 _ _ hp1_14
    have hp2_15 := s_15 _ _ hp2_14
    have hL_15 := s_15 _ _ hL_14
    refine ⟨_, rfl, m, C, dx, [("memory", (.ref l)), ("orders", (.ref o)), ("program", (.ref p)), ("deeds_done", (.int 0)), ("held", (.ref p1)), ("touched", (.ref p2)), ("left", (.ref L3)), ("beats", (.int 0))], rfl, hm_15, c.cl, c.n _ (by decide), by show 8 < 1000; decide, ?_⟩
    have hm_16 : (upd H15 m (.ins C dx (putF "rows" (.ref L4) [("memory", (.ref l)), ("orders", (.ref o)), ("program", (.ref p)), ("deeds_done", (.int 0)), ("held", (.ref p1)), ("touched", (.ref p2)), ("left", (.ref L3)), ("beats", (.int 0))]))) m = some (.ins C dx [("memory", (.ref l)), ("orders", (.ref o)), ("program", (.ref p)), ("deeds_done", (.int 0)), ("held", (.ref p1)), ("touched", (.ref p2)), ("left", (.ref L3)), ("beats", (.int 0)), ("rows", (.ref L4))]) := upd_same
    have w_16 : ∀ y u, y ≠ m → H15 y = some u → (upd H15 m (.ins C dx (putF "rows" (.ref L4) [("memory", (.ref l)), ("orders", (.ref o)), ("program", (.ref p)), ("deeds_done", (.int 0)), ("held", (.ref p1)), ("touched", (.ref p2)), ("left", (.ref L3)), ("beats", (.int 0))]))) y = some u := fun y u ne e => by rw [upd_ne ne]; exact e
    have fr_16 : Frs (upd H15 m (.ins C dx (putF "rows" (.ref L4) [("memory", (.ref l)), ("orders", (.ref o)), ("program", (.ref p)), ("deeds_done", (.int 0)), ("held", (.ref p1)), ("touched", (.ref p2)), ("left", (.ref L3)), ("beats", (.int 0))]))) _ := Frs.set fr_15
    have b_16 : But [m] H (upd H15 m (.ins C dx (putF "rows" (.ref L4) [("memory", (.ref l)), ("orders", (.ref o)), ("program", (.ref p)), ("deeds_done", (.int 0)), ("held", (.ref p1)), ("touched", (.ref p2)), ("left", (.ref L3)), ("beats", (.int 0))]))) := But.trans b_15 (But.set (by simp))
    generalize upd H15 m (.ins C dx (putF "rows" (.ref L4) [("memory", (.ref l)), ("orders", (.ref o)), ("program", (.ref p)), ("deeds_done", (.int 0)), ("held", (.ref p1)), ("touched", (.ref p2)), ("left", (.ref L3)), ("beats", (.int 0))])) = H16 at hm_16 w_16 fr_16 b_16
    have hmm_16 := w_16 _ _ (ne_of hmm_15 hm_15 (by intro z; cases z)) hmm_15
    have hl_16 := w_16 _ _ (ne_of hl_15 hm_15 (by intro z; cases z)) hl_15
    have hp1_16 := w_16 _ _ (ne_of hp1_15 hm_15 (by intro z; cases z)) hp1_15
    have hp2_16 := w_16 _ _ (ne_of hp2_15 hm_15 (by intro z; cases z)) hp2_15
    have hL_16 := w_16 _ _ (ne_of hL_15 hm_15 (by intro z; cases z)) hL_15
    have hR_16 := w_16 _ _ (ne_of c_15 hm_15 (by intro z; cases z)) c_15
    refine ⟨Nat.zero_le _, fun L5 nL5 => ?_⟩
    have s_17 := same_new (o := .lst []) nL5
    have c_17 : (upd H16 L5 (.lst [])) L5 = some (.lst []) := upd_same
    have fr_17 : Frs (upd H16 L5 (.lst [])) _ := Frs.new fr_16 nL5
    have b_17 : But [m] H (upd H16 L5 (.lst [])) := But.trans b_16 (Same.but s_17)
    generalize upd H16 L5 (.lst []) = H17 at s_17 c_17 fr_17 b_17
    have hm_17 := s_17 _ _ hm_16
    have hmm_17 := s_17 _ _ hmm_16
    have hl_17 := s_17 _ _ hl_16
    have hp1_17 := s_17 _ _ hp1_16
    have hp2_17 := s_17 _ _ hp2_16
    have hL_17 := s_17 _ _ hL_16
    have hR_17 := s_17 _ _ hR_16
    refine ⟨_, rfl, m, C, dx, [("memory", (.ref l)), ("orders", (.ref o)), ("program", (.ref p)), ("deeds_done", (.int 0)), ("held", (.ref p1)), ("touched", (.ref p2)), ("left", (.ref L3)), ("beats", (.int 0)), ("rows", (.ref L4))], rfl, hm_17, c.cl, c.n _ (by decide), by show 9 < 1000; decide, ?_⟩
    have hm_18 : (upd H17 m (.ins C dx (putF "said" (.ref L5) [("memory", (.ref l)), ("orders", (.ref o)), ("program", (.ref p)), ("deeds_done", (.int 0)), ("held", (.ref p1)), ("touched", (.ref p2)), ("left", (.ref L3)), ("beats", (.int 0)), ("rows", (.ref L4))]))) m = some (.ins C dx [("memory", (.ref l)), ("orders", (.ref o)), ("program", (.ref p)), ("deeds_done", (.int 0)), ("held", (.ref p1)), ("touched", (.ref p2)), ("left", (.ref L3)), ("beats", (.int 0)), ("rows", (.ref L4)), ("said", (.ref L5))]) := upd_same
    have w_18 : ∀ y u, y ≠ m → H17 y = some u → (upd H17 m (.ins C dx (putF "said" (.ref L5) [("memory", (.ref l)), ("orders", (.ref o)), ("program", (.ref p)), ("deeds_done", (.int 0)), ("held", (.ref p1)), ("touched", (.ref p2)), ("left", (.ref L3)), ("beats", (.int 0)), ("rows", (.ref L4))]))) y = some u := fun y u ne e => by rw [upd_ne ne]; exact e
    have fr_18 : Frs (upd H17 m (.ins C dx (putF "said" (.ref L5) [("memory", (.ref l)), ("orders", (.ref o)), ("program", (.ref p)), ("deeds_done", (.int 0)), ("held", (.ref p1)), ("touched", (.ref p2)), ("left", (.ref L3)), ("beats", (.int 0)), ("rows", (.ref L4))]))) _ := Frs.set fr_17
    have b_18 : But [m] H (upd H17 m (.ins C dx (putF "said" (.ref L5) [("memory", (.ref l)), ("orders", (.ref o)), ("program", (.ref p)), ("deeds_done", (.int 0)), ("held", (.ref p1)), ("touched", (.ref p2)), ("left", (.ref L3)), ("beats", (.int 0)), ("rows", (.ref L4))]))) := But.trans b_17 (But.set (by simp))
    generalize upd H17 m (.ins C dx (putF "said" (.ref L5) [("memory", (.ref l)), ("orders", (.ref o)), ("program", (.ref p)), ("deeds_done", (.int 0)), ("held", (.ref p1)), ("touched", (.ref p2)), ("left", (.ref L3)), ("beats", (.int 0)), ("rows", (.ref L4))])) = H18 at hm_18 w_18 fr_18 b_18
    have hmm_18 := w_18 _ _ (ne_of hmm_17 hm_17 (by intro z; cases z)) hmm_17
    have hl_18 := w_18 _ _ (ne_of hl_17 hm_17 (by intro z; cases z)) hl_17
    have hp1_18 := w_18 _ _ (ne_of hp1_17 hm_17 (by intro z; cases z)) hp1_17
    have hp2_18 := w_18 _ _ (ne_of hp2_17 hm_17 (by intro z; cases z)) hp2_17
    have hL_18 := w_18 _ _ (ne_of hL_17 hm_17 (by intro z; cases z)) hL_17
    have hR_18 := w_18 _ _ (ne_of hR_17 hm_17 (by intro z; cases z)) hR_17
    have hS_18 := w_18 _ _ (ne_of c_17 hm_17 (by intro z; cases z)) c_17
    have n4 : (((B.mem.map nV).length : Int) / 4).toNat = B.mem.length / 4 := by rw [List.length_map]; omega
    have hh1 : H18 p1 = some (.lst (List.replicate (B.mem.length / 4) V.non)) := by rw [hp1_18, n4, List.flatten_replicate_singleton]
    have hh2 : H18 p2 = some (.lst ((List.replicate (B.mem.length / 4) false).map V.bl)) := by rw [hp2_18, n4, List.flatten_replicate_singleton, List.map_replicate]
    have hdx2 : H18 dx = some (.own m) := b_18 dx _ (by simp [mdx.symm]) hdx
    have tt : ∀ y us, H y = some (.tup us) → H18 y = some (.tup us) := fun y us e => b_18 y _ (by simp [ne_of e hm0 (by intro z; cases z)]) e
    have nh : ∀ pace k, (Mst.begin B pace).holds k = true → False := fun pace k z => by rw [begin_holds] at z; cases z
    refine q H18 (fun y => y ∈ [m, dx, l, p1, p2, L3, L4, L5]) ⟨dx, l, p1, p2, L3, L4, L5, .ref o, .ref p, fun _ => 0, [], []⟩ (fun pace => ?_) ⟨.tup (tt _ _ ho) (Pds.tups tt (noLs_map noL_ord _) hos), .tup (tt _ _ hp) (Pds.tups tt (noLs_map noL_deed _) hps)⟩ (fun y u ym yd e => ⟨b_18 y u (by simp [ym]) e, fun z => ?_⟩)
    · refine ⟨hm_18, hdx2, hl_18, ?_, hh2, hL_18, .nil, hR_18, .nil, hS_18, fun k z => (nh pace k z).elim, fun k _ z => (nh pace k z).elim, fr_18.1, fun k z => (nh pace k z).elim, fun y hy => hy, fun k z => (nh pace k z).elim, fun y hy => ?_⟩
      · show H18 p1 = _
        rw [hh1]
        congr 2
        unfold heldV
        refine (List.eq_replicate_iff.mpr ⟨by simp [Mst.begin], fun x hx => ?_⟩).symm
        obtain ⟨k, _, rfl⟩ := List.mem_map.mp hx
        unfold slotV
        rw [begin_holds]; rfl
      · simp only [List.mem_cons, List.not_mem_nil, or_false] at hy
        rcases hy with rfl | rfl | rfl | rfl | rfl | rfl | rfl | rfl
        · exact ⟨_, hm_18, fun xs z => by cases z⟩
        · exact ⟨_, hdx2, fun xs z => by cases z⟩
        · exact ⟨_, hl_18, fun xs z => by cases z⟩
        · exact ⟨_, hh1, fun xs z => by cases z⟩
        · exact ⟨_, hh2, fun xs z => by cases z⟩
        · exact ⟨_, hL_18, fun xs z => by cases z⟩
        · exact ⟨_, hR_18, fun xs z => by cases z⟩
        · exact ⟨_, hS_18, fun xs z => by cases z⟩
    · -- an address that stood before is none of them
      simp only [List.mem_cons, List.not_mem_nil, or_false] at z
      have nn : ∀ (Hx : Hp) (x : Addr), But [m] H Hx → Hx x = none → x ≠ y := fun Hx x bx nx e2 => by
        subst e2
        rw [bx x u (by simp [ym]) e] at nx; cases nx
      rcases z with z | z | z | z | z | z | z | z
      · exact ym z
      · exact yd z
      · exact nn H l But.refl nl z.symm
      · exact nn H6 p1 b_6 np1 z.symm
      · exact nn H9 p2 b_9 np2 z.symm
      · exact nn H11 L3 b_11 nL3 z.symm
      · exact nn H14 L4 b_14 nL4 z.symm
      · exact nn H16 L5 b_16 nL5 z.symm
end
end Vt
namespace Vt
open PySem PySem.Spec PyProof.Rows L2
section
variable {P : Program} {w : World} {K : PySem.W.Frag} {mg : Str → Option Value} {base : Heap} {C : Addr}
abbrev st_story : Stmt := (topS 23)
abbrev nm_story : List Str := ["board", "pace"]
theorem sc_story : FnScope ["board", "pace"] ["board", "pace"] (defScope st_story) := ⟨rfl, rfl, rfl, by decide +kernel, rfl, by decide +kernel, by decide +kernel⟩
theorem ok_story {f : Addr} {fd : FuncData} (F : Fun K "story" "story" st_story f fd) (c : MC K C) (c_run : Callee P w K mg base "run" 6 2 (spRunM C)) : FnOk P w K mg base CX0 7 f fd ["board", "pace"] spStory := by
  refine F.ok sc_story (fun vs H Q E h => ?_) (fun cdv A outer s H vs Q E hr h => ?_)
  · obtain ⟨v, B, pl, pace, rfl, _⟩ := h
    rfl
  · obtain ⟨v, B, pl, pace, rfl, hB, ok, hpl, plen, q⟩ := h
    refine ⟨_, (pss_one (ps_ret (pe_fld (pe_cal c_run hr (by first | decide | exact Nat.le_refl _) (pa_cons (pv 0) (pa_cons (pv 1) pa_nil))) rfl))), ?_⟩
    refine ⟨_, rfl, _, rfl, v, B, pl, pace, rfl, hB, ok, hpl, plen, fun H1 ow m A1 hM k => ?_⟩
    have nr : H A1.rows = none := by
      cases h : H A1.rows with
      | none => rfl
      | some o => exact absurd (hM.oa A1.rows (List.mem_of_getElem? (i := 6) rfl)) (k _ o (by simp) h).2
    exact ⟨m, C, _, _, _, rfl, hM.obj, c.cl, c.n _ (by decide), rfl, q H1 A1.rows A1.xs (Keep.toSame k) nr hM.rows hM.rowsD⟩
abbrev st_ended : Stmt := (topS 24)
abbrev nm_ended : List Str := ["board", "pace", "machine"]
theorem sc_ended : FnScope ["board", "pace", "machine"] ["board", "pace"] (defScope st_ended) := ⟨rfl, rfl, rfl, by decide +kernel, rfl, by decide +kernel, by decide +kernel⟩
theorem ok_ended {f : Addr} {fd : FuncData} (F : Fun K "ended" "ended" st_ended f fd) (c : MC K C) (c_run : Callee P w K mg base "run" 6 2 (spRunM C)) (z_tuple : mg "tuple" = none) : FnOk P w K mg base CX0 7 f fd ["board", "pace"] spEnded := by
  refine F.ok sc_ended (fun vs H Q E h => ?_) (fun cdv A outer s H vs Q E hr h => ?_)
  · obtain ⟨v, B, pl, pace, rfl, _⟩ := h
    rfl
  · obtain ⟨v, B, pl, pace, rfl, hB, ok, hpl, plen, q⟩ := h
    refine ⟨_, (pss_cons (ps_set (i := 2) sc_ended.nd rfl (Or.inl rfl) (pe_cal c_run hr (by first | decide | exact Nat.le_refl _) (pa_cons (pv 0) (pa_cons (pv 1) pa_nil))))
  (pss_one (ps_ret (pe_tup (pa_cons (pe_callTy call_tuple_of (by rfl) z_tuple (by decide +kernel) (pa_cons (pe_fld (pv 2) rfl) pa_nil)) (pa_cons (pe_callTy call_tuple_of (by rfl) z_tuple (by decide +kernel) (pa_cons (pe_fld (pv 2) rfl) pa_nil)) (pa_cons (pe_fld (pv 2) rfl) pa_nil))))))), ?_⟩
    refine ⟨_, rfl, _, rfl, v, B, pl, pace, rfl, hB, ok, hpl, plen, fun H1 ow m A1 hM k => ?_⟩
    refine ⟨_, rfl, m, C, _, _, _, rfl, hM.obj, c.cl, c.n _ (by decide), rfl, A1.said, _, rfl, .inl ⟨sqL_l hM.said, fun ta nta => ?_⟩⟩
    have t1 := same_new (o := .tup ((saidOf (gone B pace).rows).map nV)) nta
    have hM1 := hM.same t1
    refine ⟨_, rfl, m, C, _, _, _, rfl, hM1.obj, c.cl, c.n _ (by decide), rfl, A1.mem, _, rfl, .inl ⟨sqL_l hM1.mem, fun tb ntb => ?_⟩⟩
    have t2 := same_new (o := .tup ((gone B pace).mem.map nV)) ntb
    have hM2 := hM1.same t2
    refine ⟨_, rfl, m, C, _, _, _, rfl, hM2.obj, c.cl, c.n _ (by decide), rfl, by show 3 ≤ sizeLine; decide, fun tc ntc => ?_⟩
    have t3 := same_new (o := .tup [.ref ta, .ref tb, nV (gone B pace).beats]) ntc
    exact q _ (.ref tc) ((Keep.toSame k).trans ((t1.trans t2).trans t3)) (.tup upd_same (.cons (.tup (t3 _ _ (t2 _ _ upd_same)) (pds_ns _)) (.cons (.tup (t3 _ _ upd_same) (pds_ns _)) (.cons (.int _) .nil))))
end
end Vt
namespace Vt
open PySem PySem.Spec PyProof.Rows L2
/-! ### the defs as they stand behind the top -/
def Found (K : PySem.W.Frag) (x : Str) (st : Stmt) (f : Addr) : Prop := ∃ (oc : Value) (od : Option Addr) (kV doc pm : Value) (an : Option Addr) (cdv ct : Value) (osl : Array (Option Value)),
  PySem.W.nsIn K mainGlobals x = some (some (.ref f)) ∧ K.lookup f = some ⟨oc, od, .func (PySem.W.fnOf x x (defArgs st) (defBody st) (defScope st) .none kV doc pm an cdv ct), osl⟩ ∧ PySem.W.codeIn K cdv x = true ∧ PySem.W.keepIn K (.ref f) = true
theorem found_mk {K : PySem.W.Frag} {x : Str} {st : Stmt} {f : Addr} {oc : Value} {od an : Option Addr} {kV doc pm cdv ct : Value} {osl : Array (Option Value)} (a : PySem.W.nsIn K mainGlobals x = some (some (.ref f)))
    (l : K.lookup f = some ⟨oc, od, .func (PySem.W.fnOf x x (defArgs st) (defBody st) (defScope st) .none kV doc pm an cdv ct), osl⟩) (c : PySem.W.codeIn K cdv x = true) (k : PySem.W.keepIn K (.ref f) = true) : ∃ f, Found K x st f :=
  ⟨f, oc, od, kV, doc, pm, an, cdv, ct, osl, a, l, c, k⟩
theorem callee_mk {P : Program} {w : World} {K : PySem.W.Frag} {mg : Str → Option Value} {base h : Heap} {x : Str} {st : Stmt} {k n : Nat} {sp : Sp} {ps : List Str} (X : K.In h) (G : h.Ns mainGlobals mg) (hf : ∃ f, Found K x st f)
    (ok : ∀ (f : Addr) (fd : FuncData), Fun K x x st f fd → FnOk P w K mg base CX0 k f fd ps sp)
    (hb : ∀ (kV doc pm : Value) (an : Option Addr) (cdv ct : Value) (us : List Value), us.length = ps.length → bindArgs (PySem.W.fnOf x x (defArgs st) (defBody st) (defScope st) .none kV doc pm an cdv ct) ⟨us, []⟩ = pure (ps.zip us)) : Callee P w K mg base x k n sp := by
  obtain ⟨f, oc, od, kV, doc, pm, an, cdv, ct, osl, a, l, c, kp⟩ := hf
  have F := fun_mk (st := st) l c kp
  exact ⟨f, _, ps, ok f _ F, PySem.W.mg_of X G a, kp, F.binds hb⟩
/-- a tuple of the written part, as it stands -/
theorem ktup_mk {K : PySem.W.Frag} {a : Addr} {xs : List V} {od : Option Addr} {its : Array Value} {n : Nat} {sl : Array (Option Value)} (l : K.lookup a = some ⟨.type "tuple", od, .seq its n, sl⟩) (hz : its.size ≤ sizeLine) (hv : Vals xs its.toList) : KTup K a xs :=
  ⟨_, its, n, l, rfl, rfl, hz, hv⟩
theorem kinds_mk {K : PySem.W.Frag} {w : World} {mg : Str → Option Value} {dd k1 k2 k3 k4 k5 k6 k7 : Addr} {es : Array DictEntry} {n : Nat} (m : mg "DEEDS" = some (.ref dd)) (low : (dd == sysModules) = false) (l : K.lookup dd = some ⟨.type "dict", none, .dict es n, #[]⟩) (kl : PySem.W.KeysLit w.params es.toList)
    (a1 : PySem.W.nsIn K dd "set" = some (some (.ref k1))) (a2 : PySem.W.nsIn K dd "add" = some (some (.ref k2))) (a3 : PySem.W.nsIn K dd "say" = some (some (.ref k3))) (a4 : PySem.W.nsIn K dd "start" = some (some (.ref k4)))
    (a5 : PySem.W.nsIn K dd "wait" = some (some (.ref k5))) (a6 : PySem.W.nsIn K dd "clean" = some (some (.ref k6))) (a7 : PySem.W.nsIn K dd "drop" = some (some (.ref k7)))
    (t1 : KTup K k1 [.str "cell", .str "number"]) (t2 : KTup K k2 [.str "cell", .str "cell"]) (t3 : KTup K k3 [.str "cell"]) (t4 : KTup K k4 [.str "order"]) (t5 : KTup K k5 []) (t6 : KTup K k6 [.str "line"]) (t7 : KTup K k7 [.str "line"]) : Kinds K w mg dd := by
  refine ⟨m, low, ⟨es, n, l, kl⟩, fun z ks h => ?_⟩
  have kd : ∀ (x : Str) (k : Addr), PySem.W.nsIn K dd x = some (some (.ref k)) → KDct K w dd x (.ref k) := fun x k e => ⟨es, n, _, l, kl, e, rfl⟩
  unfold kindsOf at h
  split at h
  · rename_i e; subst e; cases h; exact ⟨k1, kd _ _ a1, t1⟩
  split at h
  · rename_i e; subst e; cases h; exact ⟨k2, kd _ _ a2, t2⟩
  split at h
  · rename_i e; subst e; cases h; exact ⟨k3, kd _ _ a3, t3⟩
  split at h
  · rename_i e; subst e; cases h; exact ⟨k4, kd _ _ a4, t4⟩
  split at h
  · rename_i e; subst e; cases h; exact ⟨k5, kd _ _ a5, t5⟩
  split at h
  · rename_i e; subst e; cases h; exact ⟨k6, kd _ _ a6, t6⟩
  split at h
  · rename_i e; subst e; cases h; exact ⟨k7, kd _ _ a7, t7⟩
  cases h
end Vt
namespace Vt
open PySem PySem.Spec PyProof.Rows L2
def FoundM (K : PySem.W.Frag) (C : Addr) (x q : Str) (st : Stmt) (f : Addr) : Prop := ∃ (oc : Value) (od : Option Addr) (kV doc pm : Value) (an : Option Addr) (cdv ct : Value) (osl : Array (Option Value)),
  PySem.W.findIn K (.ref C) x = some (some (.ref f)) ∧ K.lookup f = some ⟨oc, od, .func (PySem.W.fnOf x q (defArgs st) (defBody st) (defScope st) .none kV doc pm an cdv ct), osl⟩ ∧ PySem.W.codeIn K cdv q = true ∧ PySem.W.keepIn K (.ref f) = true ∧ PySem.W.isFn K (.ref f) = true
theorem foundm_mk {K : PySem.W.Frag} {C : Addr} {x q : Str} {st : Stmt} {f : Addr} {oc : Value} {od an : Option Addr} {kV doc pm cdv ct : Value} {osl : Array (Option Value)} (a : PySem.W.findIn K (.ref C) x = some (some (.ref f)))
    (l : K.lookup f = some ⟨oc, od, .func (PySem.W.fnOf x q (defArgs st) (defBody st) (defScope st) .none kV doc pm an cdv ct), osl⟩) (c : PySem.W.codeIn K cdv q = true) (k : PySem.W.keepIn K (.ref f) = true) (i : PySem.W.isFn K (.ref f) = true) : ∃ f, FoundM K C x q st f :=
  ⟨f, oc, od, kV, doc, pm, an, cdv, ct, osl, a, l, c, k, i⟩
theorem mcallee_mk {P : Program} {w : World} {K : PySem.W.Frag} {mg : Str → Option Value} {base : Heap} {C : Addr} {x q : Str} {st : Stmt} {k : Nat} {sp : Sp} {ps : List Str} (cl : Cls K C) (hf : ∃ f, FoundM K C x q st f)
    (ok : ∀ (f : Addr) (fd : FuncData), Fun K x q st f fd → FnOk P w K mg base CX0 k f fd ps sp)
    (hb : ∀ (kV doc pm : Value) (an : Option Addr) (cdv ct : Value) (us : List Value), us.length = ps.length → bindArgs (PySem.W.fnOf x q (defArgs st) (defBody st) (defScope st) .none kV doc pm an cdv ct) ⟨us, []⟩ = pure (ps.zip us)) : MCallee P w K mg base C x k sp := by
  obtain ⟨f, oc, od, kV, doc, pm, an, cdv, ct, osl, a, l, c, kp, i⟩ := hf
  have F := fun_mk (st := st) l c kp
  exact ⟨f, _, ps, cl, ⟨a, i, kp⟩, ok f _ F, F.binds hb⟩
theorem maker_mk {P : Program} {w : World} {K : PySem.W.Frag} {mg : Str → Option Value} {base : Heap} {C : Addr} {x q : Str} {st : Stmt} {k : Nat} {sp : Sp} {ps : List Str} (hm : mg x = some (.ref C)) (mk : PySem.W.makesIn K C = true) (kc : PySem.W.keepIn K (.ref C) = true) (hf : ∃ f, FoundM K C "__init__" q st f)
    (ok : ∀ (f : Addr) (fd : FuncData), Fun K "__init__" q st f fd → FnOk P w K mg base CX0 k f fd ps sp)
    (hb : ∀ (kV doc pm : Value) (an : Option Addr) (cdv ct : Value) (us : List Value), us.length = ps.length → bindArgs (PySem.W.fnOf "__init__" q (defArgs st) (defBody st) (defScope st) .none kV doc pm an cdv ct) ⟨us, []⟩ = pure (ps.zip us)) : Maker P w K mg base x C k sp := by
  obtain ⟨f, oc, od, kV, doc, pm, an, cdv, ct, osl, a, l, c, kp, i⟩ := hf
  have F := fun_mk (st := st) l c kp
  exact ⟨f, _, ps, ⟨mk, a, i, kc⟩, ok f _ F, hm, F.binds hb⟩
end Vt
namespace Vt
open PySem PySem.Spec PyProof.Rows L2
/-! ### of a story: each cell once, in turn -/
def isW' (w : Str) (r : Row) : Bool := decide (r.word = w)
def sel (w : Str) (rows : List Row) : List Row := rows.filter (isW' w)
theorem sel_app (w : Str) (a b : List Row) : sel w (a ++ b) = sel w a ++ sel w b := by simp [sel]
theorem sel_one (w v : Str) (b p n : Nat) : sel w [⟨b, v, p, n⟩] = if v = w then [⟨b, v, p, n⟩] else [] := by
  unfold sel isW'
  by_cases h : v = w
  · rw [if_pos h, List.filter_cons_of_pos (by simpa using h)]; rfl
  · rw [if_neg h, List.filter_cons_of_neg (by simpa using h)]; rfl
structure Ust where
  left : List Mv
  at_ : Nat
  mh : Nat × Nat
def ustep (ords : List Ord) (u : Ust) (r : Row) : Option Ust :=
  if r.word = ("start" : Str) then some { u with left := u.left ++ told ords r.place }
  else if r.word = ("fetch" : Str) then (match u.left[u.at_]? with
    | none => none
    | some m => if m.src = r.place then some { u with mh := (r.beat, r.num) } else none)
  else if r.word = ("put" : Str) then (match u.left[u.at_]? with
    | none => none
    | some m => if m.goal = r.place ∧ (r.beat, r.num) = u.mh then some { u with at_ := u.at_ + 1 } else none)
  else if r.word = ("bell" : Str) then (match u.at_ with
    | 0 => none
    | k + 1 => if (u.left[k]?.bind Mv.bell) = some r.place then some u else none)
  else some u
def ugo (ords : List Ord) (u : Option Ust) (rows : List Row) : Option Ust := rows.foldl (fun o r => o.bind fun u => ustep ords u r) u
def ugo0 (ords : List Ord) (rows : List Row) : Option Ust := ugo ords (some ⟨[], 0, (0, 0)⟩) rows
theorem ugo_app {ords : List Ord} {u : Option Ust} {a b : List Row} : ugo ords u (a ++ b) = ugo ords (ugo ords u a) b := by simp [ugo]
def quiets : List Str := ["take", "read", "write", "say", "clean", "drop"]
def Quiet (N : List Row) : Prop := ∀ r ∈ N, r.word ∈ quiets
theorem quiet_ne {w v : Str} (h : w ∈ quiets) (hv : v = "start" ∨ v = "fetch" ∨ v = "put" ∨ v = "bell") : ¬ w = v := fun e => by
  subst e
  simp only [quiets, List.mem_cons, List.not_mem_nil, or_false] at h
  rcases hv with rfl | rfl | rfl | rfl <;> rcases h with h | h | h | h | h | h <;> exact absurd h (by decide)
theorem quiet_sel {w : Str} (hw : w = "start" ∨ w = "fetch" ∨ w = "put" ∨ w = "bell") : ∀ {N : List Row}, Quiet N → sel w N = []
  | [], _ => rfl
  | r :: t, h => by
    have h1 := quiet_ne (h r (List.mem_cons_self ..)) hw
    have h2 := quiet_sel hw (N := t) fun x hx => h x (List.mem_cons_of_mem _ hx)
    unfold sel at h2 ⊢
    rw [List.filter_cons_of_neg (by simpa [isW'] using h1), h2]
theorem quiet_step {ords : List Ord} {u : Ust} {r : Row} (h : r.word ∈ quiets) : ustep ords u r = some u := by
  unfold ustep
  rw [if_neg (quiet_ne h (.inl rfl)), if_neg (quiet_ne h (.inr (.inl rfl))), if_neg (quiet_ne h (.inr (.inr (.inl rfl)))), if_neg (quiet_ne h (.inr (.inr (.inr rfl))))]
theorem quiet_go {ords : List Ord} : ∀ {N : List Row} {u : Option Ust}, Quiet N → ugo ords u N = u
  | [], u, _ => rfl
  | r :: t, u, h => by
    have h2 := quiet_go (ords := ords) (N := t) (u := u) fun x hx => h x (List.mem_cons_of_mem _ hx)
    cases u with
    | none =>
      show ugo ords none t = none
      exact h2
    | some u =>
      show ugo ords (ustep ords u r) t = some u
      rw [quiet_step (h r (List.mem_cons_self ..))]
      exact h2
structure Ext (M M' : Mst) : Prop where
  ex : ∃ N, M'.rows = M.rows ++ N ∧ (∀ r ∈ N, r.beat = M.beats) ∧ Quiet N
  beats : M'.beats = M.beats
  left : M'.left = M.left
section
variable {M M1 M2 : Mst} {ords : List Ord} {prog : List Deed}
theorem Ext.refl (M : Mst) : Ext M M := ⟨⟨[], by simp, fun r h => (by cases h), fun r h => (by cases h)⟩, rfl, rfl⟩
theorem Ext.trans (a : Ext M M1) (b : Ext M1 M2) : Ext M M2 := by
  obtain ⟨⟨N, h1, h2, h3⟩, e1, l1⟩ := a
  obtain ⟨⟨N', g1, g2, g3⟩, e2, l2⟩ := b
  refine ⟨⟨N ++ N', by rw [g1, h1, List.append_assoc], fun r hr => ?_, fun r hr => ?_⟩, e2.trans e1, l2.trans l1⟩
  · rcases List.mem_append.mp hr with h | h
    · exact h2 r h
    · rw [g2 r h, e1]
  · rcases List.mem_append.mp hr with h | h
    · exact h3 r h
    · exact g3 r h
theorem Ext.tell {M' : Mst} {w : Str} {p n : Nat} (h1 : M'.rows = M.rows) (h2 : M'.beats = M.beats) (h3 : M'.left = M.left) (hw : w ∈ quiets) : Ext M (M'.tell w p n) :=
  ⟨⟨[⟨M.beats, w, p, n⟩], by simp [Mst.tell, h1, h2], fun r h => by rw [List.mem_singleton.mp h], fun r h => by rw [List.mem_singleton.mp h]; exact hw⟩, h2, h3⟩
theorem ext_take {l : Nat} : Ext M (M.take l) := by
  unfold Mst.take
  split
  · exact .refl M
  · exact .tell rfl rfl rfl (by decide)
theorem ext_read {c : Nat} : Ext M (M.read c) := ext_take.trans (.tell rfl rfl rfl (by decide))
theorem ext_write {c n : Nat} : Ext M (M.write c n) := ext_take.trans (.tell rfl rfl rfl (by decide))
theorem ext_clean {l : Nat} : Ext M (M.clean l) := by
  unfold Mst.clean
  split
  · exact .tell rfl rfl rfl (by decide)
  · exact .refl M
theorem ext_drop {l : Nat} : Ext M (M.drop l) := by
  unfold Mst.drop
  split
  · exact .tell rfl rfl rfl (by decide)
  · exact .refl M
theorem ext_finish : Ext M M.finish := ((ext_clean.trans ext_clean).trans ext_clean).trans ext_clean
def startOf : Deed → List Nat
  | .start k => [k]
  | _ => []
theorem ext_deed {d : Deed} (h : isStart d = false) : Ext M (M.deed ords d) := by
  cases d with
  | set c n => exact ext_write
  | add c o => exact (ext_read.trans ext_read).trans ext_write
  | say c => exact ext_read.trans (.tell rfl rfl rfl (by decide))
  | start k => cases h
  | wait => exact .refl M
  | clean l => exact ext_clean
  | drop l => exact ext_drop
def lefts (ords : List Ord) (rows : List Row) : List Mv := rows.flatMap fun r => if r.word = ("start" : Str) then told ords r.place else []
/-- what holds within a beat -/
structure KC (ords : List Ord) (M : Mst) : Prop where
  srt : (M.rows.map Row.beat).Pairwise (· ≤ ·)
  le : ∀ r ∈ M.rows, r.beat ≤ M.beats
  pps : ((sel "put" M.rows).map Row.beat).Pairwise (· < ·)
  pst : ((sel "start" M.rows).map Row.beat).Pairwise (· < ·)
  w : ∃ u, ugo0 ords M.rows = some u ∧ u.at_ ≤ u.left.length ∧ u.left.drop u.at_ = M.left ∧ u.at_ = (sel "fetch" M.rows).length ∧ u.at_ = (sel "put" M.rows).length ∧ u.left = lefts ords M.rows ∧ (sel "bell" M.rows).map Row.place ++ M.left.filterMap Mv.bell = u.left.filterMap Mv.bell
theorem srt_app {xs ys : List Nat} {b : Nat} (h : xs.Pairwise (· ≤ ·)) (h1 : ∀ x ∈ xs, x ≤ b) (h2 : ∀ y ∈ ys, y = b) : (xs ++ ys).Pairwise (· ≤ ·) := by
  rw [List.pairwise_append]
  refine ⟨h, ?_, fun x hx y hy => by rw [h2 y hy]; exact h1 x hx⟩
  induction ys with
  | nil => exact .nil
  | cons y r ih =>
    refine .cons (fun z hz => ?_) (ih fun z hz => h2 z (List.mem_cons_of_mem _ hz))
    rw [h2 y (List.mem_cons_self ..), h2 z (List.mem_cons_of_mem _ hz)]
    exact Nat.le_refl _
theorem lt_snoc {xs : List Nat} {b : Nat} (h : xs.Pairwise (· < ·)) (h1 : ∀ x ∈ xs, x < b) : (xs ++ [b]).Pairwise (· < ·) := by
  rw [List.pairwise_append]
  exact ⟨h, List.pairwise_singleton _ _, fun x hx y hy => by rw [List.mem_singleton.mp hy]; exact h1 x hx⟩
theorem lefts_app {a b : List Row} : lefts ords (a ++ b) = lefts ords a ++ lefts ords b := by simp [lefts]
theorem quiet_lefts : ∀ {N : List Row}, Quiet N → lefts ords N = []
  | [], _ => rfl
  | r :: t, h => by
    have h2 := quiet_lefts (N := t) fun x hx => h x (List.mem_cons_of_mem _ hx)
    unfold lefts at h2 ⊢
    rw [List.flatMap_cons, if_neg (quiet_ne (h r (List.mem_cons_self ..)) (.inl rfl)), h2]; rfl
theorem KC.ext {M' : Mst} (k : KC ords M) (e : Ext M M') : KC ords M' ∧ (∀ w : Str, w = "start" ∨ w = "fetch" ∨ w = "put" ∨ w = "bell" → sel w M'.rows = sel w M.rows) := by
  obtain ⟨⟨N, h1, h2, h3⟩, e1, l1⟩ := e
  have hs : ∀ w : Str, w = "start" ∨ w = "fetch" ∨ w = "put" ∨ w = "bell" → sel w M'.rows = sel w M.rows := fun w hw => by
    rw [h1, sel_app, quiet_sel hw h3, List.append_nil]
  refine ⟨⟨?_, fun r hr => ?_, ?_, ?_, ?_⟩, hs⟩
  · rw [h1, List.map_append]
    exact srt_app (b := M.beats) k.srt (fun x hx => by obtain ⟨r, hr, rfl⟩ := List.mem_map.mp hx; exact k.le r hr) fun y hy => by obtain ⟨r, hr, rfl⟩ := List.mem_map.mp hy; exact h2 r hr
  · rw [h1] at hr
    rw [e1]
    rcases List.mem_append.mp hr with h | h
    · exact k.le r h
    · exact Nat.le_of_eq (h2 r h)
  · rw [hs _ (.inr (.inr (.inl rfl)))]; exact k.pps
  · rw [hs _ (.inl rfl)]; exact k.pst
  · obtain ⟨u, w1, w2, w3, w4, w5, w6, w7⟩ := k.w
    refine ⟨u, ?_, w2, by rw [l1]; exact w3, by rw [hs _ (.inr (.inl rfl))]; exact w4, by rw [hs _ (.inr (.inr (.inl rfl)))]; exact w5, ?_, by rw [hs _ (.inr (.inr (.inr rfl))), l1]; exact w7⟩
    · unfold ugo0 at w1 ⊢
      rw [h1, ugo_app, quiet_go h3]; exact w1
    · rw [h1, lefts_app, quiet_lefts h3, List.append_nil]; exact w6
theorem KC.rePace {p : List Bool} (k : KC ords M) : KC ords { M with pace := p } := ⟨k.srt, k.le, k.pps, k.pst, k.w⟩
theorem KC.start {M' : Mst} {k0 : Nat} (k : KC ords M) (lt : ∀ r ∈ M.rows, r.beat < M.beats) (h1 : M'.rows = M.rows ++ [⟨M.beats, "start", k0, 0⟩]) (h2 : M'.beats = M.beats) (h3 : M'.left = M.left ++ told ords k0) : KC ords M' := by
  have n1 : sel "put" [(⟨M.beats, "start", k0, 0⟩ : Row)] = [] := by rw [sel_one, if_neg (by decide)]
  have n2 : sel "fetch" [(⟨M.beats, "start", k0, 0⟩ : Row)] = [] := by rw [sel_one, if_neg (by decide)]
  have n3 : sel "bell" [(⟨M.beats, "start", k0, 0⟩ : Row)] = [] := by rw [sel_one, if_neg (by decide)]
  have n4 : sel "start" [(⟨M.beats, "start", k0, 0⟩ : Row)] = [⟨M.beats, "start", k0, 0⟩] := by rw [sel_one, if_pos rfl]
  refine ⟨?_, fun r hr => ?_, ?_, ?_, ?_⟩
  · rw [h1, List.map_append]
    exact srt_app (b := M.beats) k.srt (fun x hx => by obtain ⟨r, hr, rfl⟩ := List.mem_map.mp hx; exact k.le r hr) fun y hy => by simpa using hy
  · rw [h1] at hr
    rw [h2]
    rcases List.mem_append.mp hr with h | h
    · exact k.le r h
    · rw [List.mem_singleton.mp h]; exact Nat.le_refl _
  · rw [h1, sel_app, n1, List.append_nil]; exact k.pps
  · rw [h1, sel_app, n4, List.map_append]
    exact lt_snoc k.pst fun x hx => by
      obtain ⟨r, hr, rfl⟩ := List.mem_map.mp hx
      exact lt r (List.mem_filter.mp hr).1
  · obtain ⟨u, w1, w2, w3, w4, w5, w6, w7⟩ := k.w
    refine ⟨{ u with left := u.left ++ told ords k0 }, ?_, by simp; omega, ?_, by rw [h1, sel_app, n2, List.append_nil]; exact w4, by rw [h1, sel_app, n1, List.append_nil]; exact w5, ?_, ?_⟩
    · unfold ugo0 at w1 ⊢
      rw [h1, ugo_app, w1]; rfl
    · show (u.left ++ told ords k0).drop u.at_ = M'.left
      rw [List.drop_append_of_le_length w2, w3, h3]
    · show u.left ++ told ords k0 = _
      rw [h1, lefts_app, ← w6]
      simp [lefts]
    · show _ = (u.left ++ told ords k0).filterMap Mv.bell
      rw [h1, sel_app, n3, List.append_nil, h3, List.filterMap_append, List.filterMap_append, ← w7, List.append_assoc]
theorem KC.carry (k : KC ords M) (pl : ∀ r ∈ sel "put" M.rows, r.beat < M.beats) : KC ords M.carry ∧ sel "start" M.carry.rows = sel "start" M.rows ∧ M.carry.beats = M.beats ∧ (M.left ≠ [] → (sel "put" M.carry.rows).length = (sel "put" M.rows).length + 1) ∧ (sel "put" M.rows).length ≤ (sel "put" M.carry.rows).length := by
  have hb : M.carry.beats = M.beats := carry_rows.2.2.2.1
  cases e : M.left with
  | nil =>
    have ec : M.carry = M := by unfold Mst.carry; rw [e]
    rw [ec]
    exact ⟨k, rfl, rfl, fun z => absurd rfl z, Nat.le_refl _⟩
  | cons mv r =>
    obtain ⟨u, w1, w2, w3, w4, w5, w6, w7⟩ := k.w
    rw [e] at w3 w7
    have hat : u.left[u.at_]? = some mv := by
      have h := List.getElem?_drop (xs := u.left) (i := u.at_) (j := 0)
      rw [w3] at h
      simpa using h.symm
    have hlt : u.at_ < u.left.length := (List.getElem?_eq_some_iff.mp hat).1
    have hdr : u.left.drop (u.at_ + 1) = r := by
      rw [← List.drop_drop, w3]; rfl
    -- the rows that come
    have hrows : ∃ N, M.carry.rows = M.rows ++ N ∧ M.carry.left = r ∧ N = [⟨M.beats, "fetch", mv.src, M.mem.getD mv.src 0⟩, ⟨M.beats, "put", mv.goal, M.mem.getD mv.src 0⟩] ++ (match mv.bell with | none => [] | some b => [⟨M.beats, "bell", b, 0⟩]) := by
      refine ⟨_, ?_, ?_, rfl⟩
      · unfold Mst.carry
        rw [e]
        dsimp only
        cases hb : mv.bell <;> simp [Mst.tell]
      · unfold Mst.carry
        rw [e]
        dsimp only
        cases hb : mv.bell <;> simp [Mst.tell]
    obtain ⟨N, hN, hleft, rfl⟩ := hrows
    generalize hn : M.mem.getD mv.src 0 = nm at *
    generalize hB : (match mv.bell with | none => ([] : List Row) | some b => [⟨M.beats, "bell", b, 0⟩]) = Bl at *
    have q1 : sel "put" Bl = [] ∧ sel "fetch" Bl = [] ∧ sel "start" Bl = [] ∧ sel "bell" Bl = Bl ∧ (∀ r ∈ Bl, r.beat = M.beats) ∧ Bl.map Row.place = mv.bell.toList ∧ lefts ords Bl = [] := by
      cases hb : mv.bell with
      | none => rw [hb] at hB; subst hB; exact ⟨rfl, rfl, rfl, rfl, fun r h => (by cases h), rfl, rfl⟩
      | some b =>
        rw [hb] at hB
        subst hB
        refine ⟨by rw [sel_one, if_neg (by decide)], by rw [sel_one, if_neg (by decide)], by rw [sel_one, if_neg (by decide)], by rw [sel_one, if_pos rfl], fun r h => by rw [List.mem_singleton.mp h], rfl, ?_⟩
        unfold lefts
        rw [List.flatMap_cons, if_neg (by show ¬ ("bell" : Str) = "start"; decide)]; rfl
    obtain ⟨b1, b2, b3, b4, b5, b6, b7⟩ := q1
    have two : ∀ w : Str, sel w [(⟨M.beats, "fetch", mv.src, nm⟩ : Row), ⟨M.beats, "put", mv.goal, nm⟩] = (if ("fetch" : Str) = w then [⟨M.beats, "fetch", mv.src, nm⟩] else []) ++ (if ("put" : Str) = w then [⟨M.beats, "put", mv.goal, nm⟩] else []) := fun w => by
      rw [show [(⟨M.beats, "fetch", mv.src, nm⟩ : Row), ⟨M.beats, "put", mv.goal, nm⟩] = [⟨M.beats, "fetch", mv.src, nm⟩] ++ [⟨M.beats, "put", mv.goal, nm⟩] from rfl, sel_app, sel_one, sel_one]
    have s1 : sel "put" M.carry.rows = sel "put" M.rows ++ [⟨M.beats, "put", mv.goal, nm⟩] := by rw [hN, sel_app, sel_app, two, b1, if_neg (by decide), if_pos rfl]; simp
    have s2 : sel "fetch" M.carry.rows = sel "fetch" M.rows ++ [⟨M.beats, "fetch", mv.src, nm⟩] := by rw [hN, sel_app, sel_app, two, b2, if_pos rfl, if_neg (by decide)]; simp
    have s3 : sel "start" M.carry.rows = sel "start" M.rows := by rw [hN, sel_app, sel_app, two, b3, if_neg (by decide), if_neg (by decide)]; simp
    have s4 : sel "bell" M.carry.rows = sel "bell" M.rows ++ Bl := by rw [hN, sel_app, sel_app, two, b4, if_neg (by decide), if_neg (by decide)]; simp
    refine ⟨⟨?_, fun x hx => ?_, ?_, by rw [s3]; exact k.pst, ?_⟩, s3, hb, fun _ => by rw [s1, List.length_append]; rfl, by rw [s1, List.length_append]; omega⟩
    · rw [hN, List.map_append]
      refine srt_app (b := M.beats) k.srt (fun x hx => by obtain ⟨r, hr, rfl⟩ := List.mem_map.mp hx; exact k.le r hr) fun y hy => ?_
      obtain ⟨x, hx, rfl⟩ := List.mem_map.mp hy
      rcases List.mem_append.mp hx with h | h
      · simp only [List.mem_cons, List.not_mem_nil, or_false] at h
        rcases h with rfl | rfl <;> rfl
      · exact b5 x h
    · rw [hb]
      rw [hN] at hx
      rcases List.mem_append.mp hx with h | h
      · exact k.le x h
      · rcases List.mem_append.mp h with h | h
        · simp only [List.mem_cons, List.not_mem_nil, or_false] at h
          rcases h with rfl | rfl <;> exact Nat.le_refl _
        · exact Nat.le_of_eq (b5 x h)
    · rw [s1, List.map_append]
      exact lt_snoc k.pps fun x hx => by obtain ⟨r, hr, rfl⟩ := List.mem_map.mp hx; exact pl r hr
    · refine ⟨⟨u.left, u.at_ + 1, (M.beats, nm)⟩, ?_, hlt, by rw [hleft]; exact hdr, by rw [s2, List.length_append, ← w4]; rfl, by rw [s1, List.length_append, ← w5]; rfl, ?_, ?_⟩
      · unfold ugo0 at w1 ⊢
        rw [hN, ugo_app, w1, ugo_app]
        have f1 : ustep ords u ⟨M.beats, "fetch", mv.src, nm⟩ = some { u with mh := (M.beats, nm) } := by
          unfold ustep
          rw [if_neg (by show ¬ ("fetch" : Str) = "start"; decide), if_pos rfl, hat]
          exact if_pos rfl
        have f2 : ustep ords { u with mh := (M.beats, nm) } ⟨M.beats, "put", mv.goal, nm⟩ = some ⟨u.left, u.at_ + 1, (M.beats, nm)⟩ := by
          unfold ustep
          rw [if_neg (by show ¬ ("put" : Str) = "start"; decide), if_neg (by show ¬ ("put" : Str) = "fetch"; decide), if_pos rfl]
          dsimp only
          rw [hat]
          exact if_pos ⟨rfl, rfl⟩
        have f3 : ugo ords (some u) [⟨M.beats, "fetch", mv.src, nm⟩, ⟨M.beats, "put", mv.goal, nm⟩] = some ⟨u.left, u.at_ + 1, (M.beats, nm)⟩ := by
          show (((some u).bind fun u => ustep ords u ⟨M.beats, "fetch", mv.src, nm⟩).bind fun u => ustep ords u ⟨M.beats, "put", mv.goal, nm⟩) = _
          rw [Option.bind_some, f1, Option.bind_some, f2]
        rw [f3]
        cases hb : mv.bell with
        | none => rw [hb] at hB; subst hB; rfl
        | some b =>
          rw [hb] at hB
          subst hB
          show ((some (⟨u.left, u.at_ + 1, (M.beats, nm)⟩ : Ust)).bind fun u => ustep ords u ⟨M.beats, "bell", b, 0⟩) = _
          rw [Option.bind_some]
          unfold ustep
          rw [if_neg (by show ¬ ("bell" : Str) = "start"; decide), if_neg (by show ¬ ("bell" : Str) = "fetch"; decide), if_neg (by show ¬ ("bell" : Str) = "put"; decide), if_pos rfl]
          dsimp only
          rw [hat, Option.bind_some]
          exact if_pos hb
      · show u.left = _
        have l0 : lefts ords [(⟨M.beats, "fetch", mv.src, nm⟩ : Row), ⟨M.beats, "put", mv.goal, nm⟩] = [] := by
          unfold lefts
          rw [List.flatMap_cons, if_neg (by show ¬ ("fetch" : Str) = "start"; decide), List.flatMap_cons, if_neg (by show ¬ ("put" : Str) = "start"; decide)]; rfl
        rw [hN, lefts_app, lefts_app, b7, l0, List.append_nil, List.append_nil, w6]
      · show _ = u.left.filterMap Mv.bell
        rw [s4, hleft, List.map_append, b6, ← w7, List.append_assoc, List.filterMap_cons]
        cases hb : mv.bell <;> simp
/-- what holds as a beat begins -/
structure KI (ords : List Ord) (prog : List Deed) (M : Mst) : Prop extends KC ords M where
  lt : ∀ r ∈ M.rows, r.beat < M.beats
  sp : (sel "start" M.rows).map Row.place = (prog.take M.at_).flatMap startOf
  b1 : M.at_ ≤ M.beats
  b2 : M.beats ≤ M.at_ + (sel "put" M.rows).length
theorem ext_proc (hs : ∀ d, prog[M.at_]? = some d → isStart d = false) : Ext M (M.proc ords prog) := by
  unfold Mst.proc
  split
  · exact .refl M
  · split
    · exact .refl M
    · rename_i d e
      obtain ⟨⟨N, h1, h2, h3⟩, e1, l1⟩ := ext_deed (M := M) (ords := ords) (hs d e)
      exact ⟨⟨N, h1, h2, h3⟩, e1, l1⟩
theorem at_deed {d : Deed} (hm : ∀ o ∈ ords, o.many ≤ 8) : (M.deed ords d).at_ = M.at_ := (deed_rows hm).2.2.1
theorem KI.beat {M : Mst} (k : KI ords prog M) (hm : ∀ o ∈ ords, o.many ≤ 8) (hat : M.at_ ≤ prog.length) (ho : M.over prog = false) : KI ords prog (M.beat ords prog) := by
  -- the processor
  have P1 : KC ords (M.proc ords prog) ∧ (sel "put" (M.proc ords prog).rows) = sel "put" M.rows ∧ (M.proc ords prog).beats = M.beats ∧ (sel "start" (M.proc ords prog).rows).map Row.place = (prog.take (M.proc ords prog).at_).flatMap startOf ∧
      ((M.idle prog = true ∧ (M.proc ords prog) = M ∧ M.left ≠ []) ∨ (M.idle prog = false ∧ (M.proc ords prog).at_ = M.at_ + 1)) := by
    cases hi : M.idle prog with
    | true =>
      have e : M.proc ords prog = M := by unfold Mst.proc; rw [if_pos hi]
      rw [e]
      refine ⟨k.toKC, rfl, rfl, k.sp, .inl ⟨rfl, rfl, fun z => ?_⟩⟩
      unfold Mst.idle at hi
      unfold Mst.over at ho
      split at hi
      · rename_i e
        have := List.getElem?_eq_none_iff.mp e
        rw [z, decide_eq_true (show M.at_ = prog.length by omega)] at ho
        simp at ho
      · rw [z] at hi; simp at hi
    | false =>
      have hd : ∃ d, prog[M.at_]? = some d := by
        unfold Mst.idle at hi
        split at hi
        · cases hi
        · rename_i d e; exact ⟨d, e⟩
      obtain ⟨d, hd⟩ := hd
      have e : M.proc ords prog = { M.deed ords d with at_ := M.at_ + 1 } := by
        unfold Mst.proc
        rw [if_neg (by rw [hi]; decide), hd]
      have tk : prog.take (M.at_ + 1) = prog.take M.at_ ++ [d] := by rw [List.take_add_one, hd]; rfl
      rw [e]
      cases hst : isStart d with
      | false =>
        obtain ⟨kc, hs⟩ := k.toKC.ext (ext_deed (M := M) (ords := ords) hst)
        refine ⟨⟨kc.srt, kc.le, kc.pps, kc.pst, kc.w⟩, hs _ (.inr (.inr (.inl rfl))), (ext_deed (M := M) (ords := ords) hst).beats, ?_, .inr ⟨rfl, rfl⟩⟩
        show (sel "start" (M.deed ords d).rows).map Row.place = (prog.take (M.at_ + 1)).flatMap startOf
        rw [hs _ (.inl rfl), k.sp, tk, List.flatMap_append]
        cases d <;> first | (cases hst; done) | simp [startOf]
      | true =>
        cases d with
        | start k0 =>
          have kc := k.toKC.start (M' := { M.deed ords (.start k0) with at_ := M.at_ + 1 }) (k0 := k0) k.lt rfl rfl rfl
          refine ⟨kc, ?_, rfl, ?_, .inr ⟨rfl, rfl⟩⟩
          · show sel "put" (M.rows ++ [⟨M.beats, "start", k0, 0⟩]) = _
            rw [sel_app, sel_one, if_neg (by decide), List.append_nil]
          · show (sel "start" (M.rows ++ [⟨M.beats, "start", k0, 0⟩])).map Row.place = (prog.take (M.at_ + 1)).flatMap startOf
            rw [sel_app, sel_one, if_pos rfl, List.map_append, k.sp, tk, List.flatMap_append]
            simp [startOf]
        | _ => cases hst
  obtain ⟨p1, p2, p3, p4, p5⟩ := P1
  unfold Mst.beat
  generalize hM1 : M.proc ords prog = M1 at *
  dsimp only
  have fin : ∀ X : Mst, KC ords X → X.beats = M.beats → sel "start" X.rows = sel "start" M1.rows → X.at_ = M1.at_ → (sel "put" M.rows).length ≤ (sel "put" X.rows).length → (M.idle prog = true → (sel "put" X.rows).length = (sel "put" M.rows).length + 1) → KI ords prog { X with beats := M.beats + 1 } := fun X kc h1 h2 h3 h4 h5 => by
    refine ⟨⟨kc.srt, fun r hr => ?_, kc.pps, kc.pst, kc.w⟩, fun r hr => ?_, ?_, ?_, ?_⟩
    · have := kc.le r hr
      show r.beat ≤ M.beats + 1
      omega
    · have := kc.le r hr
      show r.beat < M.beats + 1
      omega
    · show (sel "start" X.rows).map Row.place = (prog.take X.at_).flatMap startOf
      rw [h2, h3]; exact p4
    · show X.at_ ≤ M.beats + 1
      have := k.b1
      rcases p5 with ⟨_, e, _⟩ | ⟨_, e⟩
      · rw [h3, e]; omega
      · rw [h3, e]; omega
    · show M.beats + 1 ≤ X.at_ + (sel "put" X.rows).length
      have := k.b2
      rcases p5 with ⟨hi, e, _⟩ | ⟨_, e⟩
      · have := h5 hi
        rw [h3, e]; omega
      · rw [h3, e]; omega
  have putlt : ∀ r ∈ sel "put" M1.rows, r.beat < M1.beats := fun r hr => by
    rw [p2] at hr
    rw [p3]
    exact k.lt r (List.mem_filter.mp hr).1
  have idl : M.idle prog = true → Mst.uses prog M M1 = false := fun hi => by unfold Mst.uses; rw [hi]; rfl
  split
  · rename_i hu
    have hni : M.idle prog = false := by
      cases hi : M.idle prog with
      | false => rfl
      | true => rw [idl hi] at hu; cases hu
    split
    · obtain ⟨c1, c2, c3, c4, c5⟩ := (p1.rePace (p := M.pace.tail)).carry (M := { M1 with pace := M.pace.tail }) putlt
      exact fin _ c1 (c3.trans p3) c2 carry_rows.2.2.1 (by rw [← p2]; exact c5) (fun z => by rw [hni] at z; cases z)
    · exact fin _ p1.rePace p3 rfl rfl (by rw [← p2]; exact Nat.le_refl _) (fun z => by rw [hni] at z; cases z)
  · obtain ⟨c1, c2, c3, c4, c5⟩ := p1.carry putlt
    refine fin _ c1 (c3.trans p3) c2 carry_rows.2.2.1 (by rw [← p2]; exact c5) fun hi => ?_
    rcases p5 with ⟨_, e, hl⟩ | ⟨hf, _⟩
    · rw [c4 (by rw [e]; exact hl), p2]
    · rw [hi] at hf; cases hf
end
theorem run_KI {B : Brd} (ok : BrdOk B) : ∀ (f : Nat) (M : Mst), MOk B.mem.length B.prog M → KI B.ords B.prog M → KI B.ords B.prog (Mst.run B.ords B.prog f M)
  | 0, _, _, h => h
  | f + 1, M, mok, h => by
    rw [Mst.run]
    cases ho : M.over B.prog with
    | true => exact h
    | false => exact run_KI ok f _ (beat_ok mok ho ok.ords ok.eight ok.prog).1 (h.beat ok.eight mok.at_ ho)
theorem run_ends' {B : Brd} (ok : BrdOk B) : ∀ (f : Nat) (M : Mst), MOk B.mem.length B.prog M → M.mu B.prog ≤ f → (Mst.run B.ords B.prog f M).over B.prog = true
  | 0, M, h, hf => by
    have := h.at_
    simp only [Mst.mu] at hf
    rw [Mst.run]
    unfold Mst.over
    have hl : M.left = [] := List.length_eq_zero_iff.mp (by omega)
    rw [hl, decide_eq_true (show M.at_ = B.prog.length by omega)]; rfl
  | f + 1, M, h, hf => by
    cases ho : M.over B.prog with
    | true => rw [run_over ho]; exact ho
    | false =>
      rw [Mst.run, ho]
      obtain ⟨b1, b2⟩ := beat_ok h ho ok.ords ok.eight ok.prog
      exact run_ends' ok f _ b1 (by omega)
/-- what a story keeps -/
structure Kept (B : Brd) (G : Mst) : Prop where
  srt : (G.rows.map Row.beat).Pairwise (· ≤ ·)
  le : ∀ r ∈ G.rows, r.beat ≤ G.beats
  pps : ((sel "put" G.rows).map Row.beat).Pairwise (· < ·)
  pst : ((sel "start" G.rows).map Row.beat).Pairwise (· < ·)
  w : ∃ u, ugo0 B.ords G.rows = some u ∧ u.at_ = u.left.length ∧ u.at_ = (sel "fetch" G.rows).length
  puts : (sel "put" G.rows).length = (lefts B.ords G.rows).length
  bells : (sel "bell" G.rows).map Row.place = (lefts B.ords G.rows).filterMap Mv.bell
  sp : (sel "start" G.rows).map Row.place = B.prog.flatMap startOf
  b1 : B.prog.length ≤ G.beats
  b2 : G.beats ≤ B.prog.length + (sel "put" G.rows).length
theorem gone_kept {B : Brd} (ok : BrdOk B) (pace : List Bool) : Kept B (gone B pace) := by
  have k0 : KI B.ords B.prog (Mst.begin B pace) := by
    refine ⟨⟨.nil, fun r h => (by cases h), .nil, .nil, ⟨_, rfl, Nat.le_refl _, rfl, rfl, rfl, rfl, rfl⟩⟩, fun r h => (by cases h), rfl, Nat.le_refl _, Nat.le_refl _⟩
  have k : KI B.ords B.prog (goneM B pace) := run_KI ok _ _ (begin_ok ok pace) k0
  have o : (goneM B pace).over B.prog = true := run_ends' ok _ _ (begin_ok ok pace) (begin_mu ok pace)
  have e : gone B pace = (goneM B pace).finish := rfl
  unfold Mst.over at o
  obtain ⟨o1, o2⟩ := Bool.and_eq_true_iff.mp o
  have o1' := of_decide_eq_true o1
  have o2' := List.isEmpty_iff.mp o2
  have ef := ext_finish (M := goneM B pace)
  obtain ⟨kc, hs⟩ := k.toKC.ext ef
  have hb := ef.beats
  have hl := ef.left
  rw [← e] at kc hs hb hl
  obtain ⟨u, w1, w2, w3, w4, w5, w6, w7⟩ := kc.w
  rw [hl, o2'] at w3 w7
  have hlen : u.at_ = u.left.length := by
    have := congrArg List.length w3
    rw [List.length_drop, List.length_nil] at this
    omega
  refine ⟨kc.srt, kc.le, kc.pps, kc.pst, ⟨u, w1, hlen, w4⟩, by rw [← w5, hlen, w6], ?_, ?_, ?_, ?_⟩
  · rw [← w6, ← w7]; simp
  · rw [hs _ (.inl rfl), k.sp, o1', List.take_length]
  · rw [hb, ← o1']; exact k.b1
  · rw [hb, hs _ (.inr (.inr (.inl rfl))), ← o1']; exact k.b2
end Vt
namespace Vt
open PySem PySem.Spec PyProof.Rows L2
theorem rd_pairNe' {K : PySem.W.Frag} {H : Hp} {a b : Addr} {c n p m : Nat} {Q : VK} (ha : H a = some (.tup [nV c, nV n])) (hb : H b = some (.tup [nV p, nV m])) (e : c = p ∧ n = m) (q : Q (.bl false) H) : rNeD K (.ref a) (.ref b) H Q := by
  have sh : ∀ x y : Int, SeqAt.shaped (.tuple [.int x, .int y]) = true := fun x y => by
    simp [SeqAt.shaped, PyData.canLay0, PyData.canLayAll0, PyData.depth, PyData.depthAll]
  obtain ⟨rfl, rfl⟩ := e
  refine ⟨.tuple [.int c, .int n], .tuple [.int c, .int n], .tup (sqT_t ha) (.cons (.int _) (.cons (.int _) .nil)), .tup (sqT_t hb) (.cons (.int _) (.cons (.int _) .nil)), sh _ _, sh _ _, ?_⟩
  have e : PyData.eqv (.tuple [.int (c : Int), .int (n : Int)]) (.tuple [.int (c : Int), .int (n : Int)]) = true := by
    simp [PyData.eqv, PyData.eqvAll]
  rw [e]; exact q
theorem ugo_none {ords : List Ord} : ∀ {N : List Row}, ugo ords none N = none
  | [] => rfl
  | r :: t => ugo_none (N := t)
theorem ugo_at {ords : List Ord} {rows : List Row} {u : Ust} (h : ugo0 ords rows = some u) {i : Nat} {r : Row} (hr : rows[i]? = some r) : ∃ v v', ugo0 ords (rows.take i) = some v ∧ ustep ords v r = some v' ∧ ugo0 ords (rows.take (i + 1)) = some v' := by
  have e : rows = rows.take (i + 1) ++ rows.drop (i + 1) := (List.take_append_drop _ _).symm
  have tk : rows.take (i + 1) = rows.take i ++ [r] := by rw [List.take_add_one, hr]; rfl
  unfold ugo0 at h ⊢
  rw [e, ugo_app, tk, ugo_app] at h
  cases h1 : ugo ords (some ⟨[], 0, (0, 0)⟩) (rows.take i) with
  | none =>
    rw [h1, ugo_none, ugo_none] at h; cases h
  | some v =>
    rw [h1] at h
    have h2 : ugo ords (some v) [r] = ustep ords v r := rfl
    rw [h2] at h
    cases h3 : ustep ords v r with
    | none => rw [h3, ugo_none] at h; cases h
    | some v' => exact ⟨v, v', rfl, h3, by rw [tk, ugo_app, h1, h2, h3]⟩
theorem ustep_left {ords : List Ord} {u u' : Ust} {r : Row} (h : ustep ords u r = some u') : u'.left = u.left ++ (if r.word = ("start" : Str) then told ords r.place else []) := by
  unfold ustep at h
  split at h
  · rename_i e; cases h; rw [if_pos e]
  · rename_i e
    rw [if_neg e, List.append_nil]
    split at h
    · split at h
      · cases h
      · split at h
        · cases h; rfl
        · cases h
    · split at h
      · split at h
        · cases h
        · split at h
          · cases h; rfl
          · cases h
      · split at h
        · split at h
          · cases h
          · split at h
            · cases h; rfl
            · cases h
        · cases h; rfl
theorem ugo_left {ords : List Ord} : ∀ {N : List Row} {u u' : Ust}, ugo ords (some u) N = some u' → u'.left = u.left ++ lefts ords N
  | [], u, u', h => by cases h; simp [lefts]
  | r :: t, u, u', h => by
    have h' : ugo ords (ustep ords u r) t = some u' := h
    cases e : ustep ords u r with
    | none => rw [e, ugo_none] at h'; cases h'
    | some v =>
      rw [e] at h'
      have h1 := ugo_left h'
      have h2 := ustep_left e
      rw [h1, h2]
      simp [lefts]
theorem lefts_len {ords : List Ord} (hm : ∀ o ∈ ords, o.many ≤ 8) : ∀ N : List Row, (lefts ords N).length ≤ 32 * (sel "start" N).length
  | [] => by simp [lefts]
  | r :: t => by
    have h := lefts_len hm t
    obtain ⟨b, wd, p, n⟩ := r
    have e : sel "start" (⟨b, wd, p, n⟩ :: t) = sel "start" [⟨b, wd, p, n⟩] ++ sel "start" t := sel_app _ [_] t
    rw [e, sel_one, List.length_append]
    unfold lefts at h ⊢
    rw [List.flatMap_cons, List.length_append]
    by_cases c : wd = ("start" : Str)
    · have := told_len hm p
      rw [if_pos c, if_pos c]
      simp only [List.length_cons, List.length_nil]; omega
    · rw [if_neg c, if_neg c]
      simp only [List.length_nil]; omega
theorem starts60 {B : Brd} (ok : BrdOk B) : (B.prog.flatMap startOf).length ≤ 60 := by
  have : ∀ ds : List Deed, (ds.flatMap startOf).length ≤ ds.length := by
    intro ds
    induction ds with
    | nil => simp
    | cons d r ih =>
      rw [List.flatMap_cons, List.length_append, List.length_cons]
      have : (startOf d).length ≤ 1 := by cases d <;> simp [startOf]
      omega
  have := this B.prog
  have := ok.sixty
  omega
theorem Kept.startAt {B : Brd} {G : Mst} (k : Kept B G) (ok : BrdOk B) {i : Nat} {r : Row} (h : G.rows[i]? = some r) (hw : r.word = ("start" : Str)) : r.place < B.ords.length := by
  have hm : r.place ∈ (sel "start" G.rows).map Row.place := List.mem_map.mpr ⟨r, List.mem_filter.mpr ⟨List.mem_of_getElem? h, by simpa [isW'] using hw⟩, rfl⟩
  rw [k.sp] at hm
  obtain ⟨d, hd, hr⟩ := List.mem_flatMap.mp hm
  have hdk := ok.prog d hd
  cases d with
  | start k0 =>
    rw [startOf, List.mem_singleton] at hr
    rw [hr]; exact hdk
  | _ => simp [startOf] at hr
theorem sel_take_le {w : Str} {rows : List Row} {i : Nat} : (sel w (rows.take i)).length ≤ (sel w rows).length :=
  List.Sublist.length_le ((List.take_sublist _ _).filter _)
theorem sel_snoc {w : Str} {rows : List Row} {i : Nat} {r : Row} (h : rows[i]? = some r) : sel w (rows.take (i + 1)) = sel w (rows.take i) ++ (if r.word = w then [r] else []) := by
  rw [List.take_add_one, h]
  obtain ⟨b, wd, p, n⟩ := r
  show sel w (rows.take i ++ [⟨b, wd, p, n⟩]) = _
  rw [sel_app, sel_one]
section
variable {P : Program} {w : World} {K : PySem.W.Frag} {mg : Str → Option Value} {base : Heap}
abbrev st_law_moved : Stmt := (topS 34)
abbrev nm_law_moved : List Str := ["_law_board_here", "_law_rows", "_law_left", "_law_at", "_law_moved_here", "_law_beat", "_law_word", "_law_place", "_law_number", "_law_row"]
theorem sc_law_moved : FnScope ["_law_board_here", "_law_rows", "_law_left", "_law_at", "_law_moved_here", "_law_beat", "_law_word", "_law_place", "_law_number", "_law_row"] ["_law_board_here", "_law_rows"] (defScope st_law_moved) := ⟨rfl, rfl, rfl, by decide +kernel, rfl, by decide +kernel, by decide +kernel⟩
def spLMoved : Sp := fun vs H Q _ => ∃ (v : V) (B : Brd) (G : Mst) (rl : Addr) (xs : List V), vs = [v, .ref rl] ∧ Pd H v B.d ∧ BrdOk B ∧ Kept B G ∧ H rl = some (.lst xs) ∧ Pds H xs (G.rows.map Row.d) ∧ G.rows.length ≤ 90010 ∧ ∀ H', Same H H' → Q (.bl true) H'
theorem ok_lmoved {f : Addr} {fd : FuncData} (F : Fun K "_law_moved" "_law_moved" st_law_moved f fd) (c_law_moves : Callee P w K mg base "_law_moves" 1 2 spMoves) (z_len : mg "len" = none) : FnOk P w K mg base CX0 2 f fd ["_law_board_here", "_law_rows"] spLMoved := by
  refine F.ok sc_law_moved (fun vs H Q E h => ?_) (fun cdv A outer s H vs Q E hr h => ?_)
  · obtain ⟨v, B, G, rl, xs, rfl, _⟩ := h
    rfl
  · obtain ⟨v, B, G, rl, xs, rfl, hB, ok, kp, hrl, hxs, hlen, q⟩ := h
    refine ⟨_, (pss_cons (ps_set (i := 2) sc_law_moved.nd rfl (Or.inl rfl) (pe_lst pa_nil))
  (pss_cons (ps_set (i := 3) sc_law_moved.nd rfl (Or.inl rfl) pe_int)
  (pss_cons (ps_set (i := 4) sc_law_moved.nd rfl (Or.inl rfl) (pe_tup (pa_cons pe_int (pa_cons pe_int pa_nil))))
  (pss_cons (ps_for PassesOwn.never rfl (pi_lt (pv 1)) (pg_tup rfl (pgs_cons (pg_name (i := 5) sc_law_moved.nd rfl (Or.inl rfl)) (pgs_cons (pg_name (i := 6) sc_law_moved.nd rfl (Or.inl rfl)) (pgs_cons (pg_name (i := 7) sc_law_moved.nd rfl (Or.inl rfl)) (pgs_cons (pg_name (i := 8) sc_law_moved.nd rfl (Or.inl rfl)) pgs_nil)))))
  (pss_cut (ps_if (pt_cmpR op_eq (pv 6) pe_str (nomark _)) (pss_one (ps_set (i := 2) sc_law_moved.nd rfl (Or.inl rfl) (pe_op op_cat (pv 2) (pe_cal c_law_moves hr (by first | decide | exact Nat.le_refl _) (pa_cons (pe_ix ix_lt (pv 0) pe_int (fun _ _ => rfl)) (pa_cons (pv 7) pa_nil)))))) pss_nil)
  (pss_cut (ps_if (pt_cmpR op_eq (pv 6) pe_str (nomark _)) (pss_cons (ps_if (PW.pt (pw_or (pt_cmpR op_ge (pv 3) (pe_callB call_len_seq (by rfl) z_len (by decide +kernel) (pa_cons (pv 2) pa_nil)) (nomark _)) (pw_or1 (pt_cmpR op_ne (pe_ix ix_lt (pe_ix ix_lt (pv 2) (pv 3) (fun _ _ => rfl)) pe_int (fun _ _ => rfl)) (pv 7) (nomark _))))) (pss_one (ps_ret pe_bl)) pss_nil)
  (pss_one (ps_set (i := 4) sc_law_moved.nd rfl (Or.inl rfl) (pe_tup (pa_cons (pv 5) (pa_cons (pv 8) pa_nil)))))) pss_nil)
  (pss_cut (ps_if (pt_cmpR op_eq (pv 6) pe_str (nomark _)) (pss_cons (ps_if (PW.pt (pw_or (pt_cmpR op_ge (pv 3) (pe_callB call_len_seq (by rfl) z_len (by decide +kernel) (pa_cons (pv 2) pa_nil)) (nomark _)) (pw_or (pt_cmpR op_ne (pe_ix ix_lt (pe_ix ix_lt (pv 2) (pv 3) (fun _ _ => rfl)) pe_int (fun _ _ => rfl)) (pv 7) (nomark _)) (pw_or1 (pt_cmpR (op_neD hr.units) (pe_tup (pa_cons (pv 5) (pa_cons (pv 8) pa_nil))) (pv 4) (nomark _)))))) (pss_one (ps_ret pe_bl)) pss_nil)
  (pss_one (ps_set (i := 3) sc_law_moved.nd rfl (Or.inl rfl) (pe_op op_add (pv 3) pe_int)))) pss_nil)
  (pss_one (ps_if (PW.pt (pw_and (pt_cmpR op_eq (pv 6) pe_str (nomark _)) (pw_and1 (PW.pt (pw_or (pt_cmpR op_eq (pv 3) pe_int (nomark _)) (pw_or1 (pt_cmpR op_ne (pe_ix ix_lt (pe_ix ix_lt (pv 2) (pe_op op_sub (pv 3) pe_int) (fun _ _ => rfl)) pe_int (fun _ _ => rfl)) (pv 7) (nomark _)))))))) (pss_one (ps_ret pe_bl)) pss_nil))))))
  (pss_one (ps_ret (pe_and (pe_cmpR op_eq (pv 3) (pe_callB call_len_seq (by rfl) z_len (by decide +kernel) (pa_cons (pv 2) pa_nil)) (nomark _)) (pe_one (pe_cmpR op_eq (pe_callB call_len_seq (by rfl) z_len (by decide +kernel) (pa_cons (pe_lc (own := [("_law_row", 9)]) rfl sc_law_moved.nd (pi_lt (pv 1)) (blkOk_by (own := [("_law_row", 9)]) (N := nm_law_moved) (sc := defScope (topS 34)) (by decide +kernel)) (fun _ _ _ _ _ => (pg_name (i := 9) sc_law_moved.nd rfl (Or.inl rfl))) (fun _ _ _ _ _ => (pts_one (pt_cmpR op_eq (pe_ix (ix_ltk K) (pv 9) pe_int (fun _ _ => rfl)) pe_str (nomark _)))) (fun _ _ _ _ _ => (pv 9))) pa_nil)) (pv 3) (nomark _)))))))))), ?_⟩
    obtain ⟨a, mm, o, p, os, ps, rfl, ha, hm, ho, hos, hp', hps⟩ := Brd.of hB
    obtain ⟨uf, w1, w2, w3⟩ := kp.w
    have xlen : xs.length = G.rows.length := by rw [hxs.len, List.length_map]
    have s60 : (sel "start" G.rows).length ≤ 60 := by
      have := congrArg List.length kp.sp
      rw [List.length_map] at this
      rw [this]; exact starts60 ok
    have ulen : ∀ i u, ugo0 B.ords (G.rows.take i) = some u → u.left.length ≤ 1920 := fun i u hu => by
      have h1 := ugo_left hu
      rw [h1, List.nil_append]
      have h2 := lefts_len ok.eight (G.rows.take i)
      have h3 := sel_take_le (w := "start") (rows := G.rows) (i := i)
      omega
    refine ⟨Nat.zero_le _, fun L nL => ?_⟩
    refine ⟨by show 2 ≤ sizeLine; decide, fun T nT => ?_⟩
    have t1 := same_new (o := .lst []) nL
    have t2 := same_new (o := .tup [.int 0, .int 0]) nT
    refine ⟨_, rfl, rl, rfl, .inl ⟨_, sqL_l (t2 _ _ (t1 _ _ hrl)), ?_⟩⟩
    refine for_it (walk_list (xs := xs)) (fun i σ H' => ∃ (y5 y6 y7 y8 y9 : Option V) (u : Ust) (Lf Mh : Addr) (ls : List V), σ = [some (.ref a), some (.ref rl), some (.ref Lf), some (nV u.at_), some (.ref Mh), y5, y6, y7, y8, y9] ∧ ugo0 B.ords (G.rows.take i) = some u ∧
        H' Lf = some (.lst ls) ∧ Pds H' ls (u.left.map Mv.d) ∧ H' Mh = some (.tup [nV u.mh.1, nV u.mh.2]) ∧ Same H H')
      ⟨_, _, _, _, _, ⟨[], 0, (0, 0)⟩, L, T, [], rfl, rfl, t2 _ _ upd_same, .nil, upd_same, t1.trans t2⟩ (fun i σ H' _ hp => by obtain ⟨_, _, _, _, _, _, _, _, _, _, _, _, _, _, sm⟩ := hp; exact sqL_l (sm _ _ hrl)) (fun i x σ H3 H4 hi hp hy => ?_) (fun σ H3 hp => ?_)
    · obtain ⟨y5, y6, y7, y8, y9, u, Lf, Mh, ls, rfl, hu, hL, hls, hMh, sm⟩ := hp
      obtain ⟨rfl, hx⟩ := hy
      obtain ⟨dr, hdr, hpd⟩ := hxs.get' hx
      rw [List.getElem?_map] at hdr
      obtain ⟨r0, hr0, rfl⟩ : ∃ r0, G.rows[i]? = some r0 ∧ r0.d = dr := by simpa using hdr
      obtain ⟨a0, rfl, ha0⟩ := Row.of (hpd.same sm)
      obtain ⟨v, v', g1, g2, g3⟩ := ugo_at w1 hr0
      rw [hu] at g1
      cases g1
      have lsl : ls.length = u.left.length := by rw [hls.len, List.length_map]
      have l19 := ulen _ _ hu
      have l19' := ulen _ _ g3
      have hpl := fun hw => kp.startAt ok hr0 hw
      have hmv : ∀ m, u.left[u.at_]? = some m → ∃ ma, ls[u.at_]? = some (.ref ma) ∧ H4 ma = some (.tup m.vs) := fun m hm => by
        obtain ⟨vv, hv, hpv⟩ := hls.get (show (u.left.map Mv.d)[u.at_]? = some m.d by rw [List.getElem?_map, hm]; rfl)
        obtain ⟨ma, rfl, hma⟩ := Mv.of hpv
        exact ⟨ma, hv, hma⟩
      obtain ⟨bt, wd, pl, nm⟩ := r0
      refine ⟨a0, _, rfl, sqT_t ha0, rfl, _, _, rfl, _, _, rfl, _, _, rfl, _, _, rfl, rfl, ?_⟩
      let S0 : L2.St := [some (.ref a), some (.ref rl), some (.ref Lf), some (nV u.at_), some (.ref Mh), some (nV bt), some (.str wd), some (nV pl), some (nV nm), y9]
      unfold ustep at g2
      by_cases c1 : wd = ("start" : Str)
      · subst c1
        rw [if_pos rfl] at g2
        cases g2
        -- what was left and the new ones
        refine ⟨fun σ' H' => ∃ (Lf : Addr) (ls : List V), σ' = [some (.ref a), some (.ref rl), some (.ref Lf), some (nV u.at_), some (.ref Mh), some (nV bt), some (.str "start"), some (nV pl), some (nV nm), y9] ∧ H' Lf = some (.lst ls) ∧ Pds H' ls ((u.left ++ told B.ords pl).map Mv.d) ∧ Same H4 H', ?_, fun σ' H' hM => ?_⟩
        · refine ⟨_, rfl, rfl, _, rfl, iteT ?_⟩
          refine ⟨_, rfl, _, rfl, a, _, 1, .ref o, rfl, rfl, sqA_t (sm _ _ ha), rfl, _, rfl, o, os, B.ords, B.mem.length, pl, rfl, sm _ _ ho, hos.same sm, ok.four, ok.ords, hpl rfl, fun H5 p5 zs s5 np5 hp5 hz5 => ?_⟩
          have zl : zs.length ≤ 32 := by
            rw [hz5.len, List.length_map]; exact told_len ok.eight pl
          refine ⟨Lf, p5, _, _, rfl, rfl, s5 _ _ hL, hp5, fits' (by omega), fun q5 nq5 => ?_⟩
          have s6 := same_new (o := .lst (ls ++ zs)) nq5
          refine ⟨q5, ls ++ zs, rfl, upd_same, ?_, s5.trans s6⟩
          rw [List.map_append]
          exact Pds.app (hls.same (s5.trans s6)) (hz5.same s6)
        · obtain ⟨Lf', ls', rfl, hL', hls', s5⟩ := hM
          refine ⟨fun σ'' H'' => σ'' = [some (.ref a), some (.ref rl), some (.ref Lf'), some (nV u.at_), some (.ref Mh), some (nV bt), some (.str "start"), some (nV pl), some (nV nm), y9] ∧ H'' = H', ?_, fun σ'' H'' hM => ?_⟩
          · exact ⟨_, rfl, rfl, _, rfl, iteF ⟨rfl, rfl⟩⟩
          · obtain ⟨rfl, rfl⟩ := hM
            refine ⟨fun σ'' H3 => σ'' = [some (.ref a), some (.ref rl), some (.ref Lf'), some (nV u.at_), some (.ref Mh), some (nV bt), some (.str "start"), some (nV pl), some (nV nm), y9] ∧ H3 = H'', ?_, fun σ'' H3 hM => ?_⟩
            · exact ⟨_, rfl, rfl, _, rfl, iteF ⟨rfl, rfl⟩⟩
            · obtain ⟨rfl, rfl⟩ := hM
              refine ⟨_, rfl, rfl, _, rfl, iteF (iteF ?_)⟩
              exact ⟨_, _, _, _, _, { u with left := u.left ++ told B.ords pl }, Lf', Mh, ls', rfl, g3, hL', hls', s5 _ _ hMh, sm.trans s5⟩
      rw [if_neg c1] at g2
      by_cases c2 : wd = ("fetch" : Str)
      · subst c2
        rw [if_pos rfl] at g2
        split at g2
        · cases g2
        rename_i m hm
        split at g2
        case isFalse => cases g2
        rename_i hsrc
        dsimp only at hsrc
        subst hsrc
        cases g2
        have hlt : u.at_ < u.left.length := (List.getElem?_eq_some_iff.mp hm).1
        obtain ⟨ma, hv, hma⟩ := hmv m hm
        refine ⟨fun σ' H' => σ' = [some (.ref a), some (.ref rl), some (.ref Lf), some (nV u.at_), some (.ref Mh), some (nV bt), some (.str "fetch"), some (nV m.src), some (nV nm), y9] ∧ H' = H4, ⟨_, rfl, rfl, _, rfl, iteF ⟨rfl, rfl⟩⟩, fun σ' H' hM => ?_⟩
        obtain ⟨rfl, rfl⟩ := hM
        refine ⟨fun σ' H3 => ∃ Z : Addr, σ' = [some (.ref a), some (.ref rl), some (.ref Lf), some (nV u.at_), some (.ref Z), some (nV bt), some (.str "fetch"), some (nV m.src), some (nV nm), y9] ∧ H3 Z = some (.tup [nV bt, nV nm]) ∧ Same H' H3, ?_, fun σ' H3 hM => ?_⟩
        · refine ⟨_, rfl, rfl, _, rfl, iteT ?_⟩
          refine ⟨_, rfl, _, rfl, Lf, _, rfl, .inl (sqL_l hL), _, _, rfl, rfl, _, rfl, ?_⟩
          rw [decide_eq_false (show ¬ ((ls.length : Nat) : Int) ≤ (u.at_ : Int) by omega)]
          refine iteF ⟨_, rfl, _, rfl, Lf, ls, (u.at_ : Int), .ref ma, rfl, rfl, sqA_l hL, atI_nat hv, ma, _, 0, nV m.src, rfl, rfl, sqA_t hma, at0, _, rfl, rfl, _, rfl, ?_⟩
          rw [show (!decide (nV m.src = nV m.src)) = false by simp]
          refine iteF ⟨_, rfl, _, rfl, by show 2 ≤ sizeLine; decide, fun Z nZ => ?_⟩
          exact ⟨Z, rfl, upd_same, same_new nZ⟩
        · obtain ⟨Z, rfl, hZ, s5⟩ := hM
          refine ⟨fun σ' H' => σ' = [some (.ref a), some (.ref rl), some (.ref Lf), some (nV u.at_), some (.ref Z), some (nV bt), some (.str "fetch"), some (nV m.src), some (nV nm), y9] ∧ H' = H3, ⟨_, rfl, rfl, _, rfl, iteF ⟨rfl, rfl⟩⟩, fun σ' H5 hM => ?_⟩
          obtain ⟨rfl, rfl⟩ := hM
          refine ⟨_, rfl, rfl, _, rfl, iteF (iteF ?_)⟩
          exact ⟨_, _, _, _, _, { u with mh := (bt, nm) }, Lf, Z, ls, rfl, g3, s5 _ _ hL, hls.same s5, hZ, sm.trans s5⟩
      rw [if_neg c2] at g2
      by_cases c3 : wd = ("put" : Str)
      · subst c3
        rw [if_pos rfl] at g2
        split at g2
        · cases g2
        rename_i m hm
        split at g2
        case isFalse => cases g2
        rename_i hc
        obtain ⟨hgo, hmh⟩ := hc
        dsimp only at hgo
        subst hgo
        cases g2
        have hlt : u.at_ < u.left.length := (List.getElem?_eq_some_iff.mp hm).1
        obtain ⟨ma, hv, hma⟩ := hmv m hm
        have hm1 : bt = u.mh.1 ∧ nm = u.mh.2 := ⟨congrArg Prod.fst hmh, congrArg Prod.snd hmh⟩
        refine ⟨fun σ' H' => σ' = [some (.ref a), some (.ref rl), some (.ref Lf), some (nV u.at_), some (.ref Mh), some (nV bt), some (.str "put"), some (nV m.goal), some (nV nm), y9] ∧ H' = H4, ⟨_, rfl, rfl, _, rfl, iteF ⟨rfl, rfl⟩⟩, fun σ' H' hM => ?_⟩
        obtain ⟨rfl, rfl⟩ := hM
        refine ⟨fun σ' H3 => σ' = [some (.ref a), some (.ref rl), some (.ref Lf), some (nV u.at_), some (.ref Mh), some (nV bt), some (.str "put"), some (nV m.goal), some (nV nm), y9] ∧ H3 = H', ⟨_, rfl, rfl, _, rfl, iteF ⟨rfl, rfl⟩⟩, fun σ' H3 hM => ?_⟩
        obtain ⟨rfl, rfl⟩ := hM
        refine ⟨fun σ' H5 => σ' = [some (.ref a), some (.ref rl), some (.ref Lf), some (nV (u.at_ + 1)), some (.ref Mh), some (nV bt), some (.str "put"), some (nV m.goal), some (nV nm), y9] ∧ Same H3 H5, ?_, fun σ' H5 hM => ?_⟩
        · refine ⟨_, rfl, rfl, _, rfl, iteT ?_⟩
          refine ⟨_, rfl, _, rfl, Lf, _, rfl, .inl (sqL_l hL), _, _, rfl, rfl, _, rfl, ?_⟩
          rw [decide_eq_false (show ¬ ((ls.length : Nat) : Int) ≤ (u.at_ : Int) by omega)]
          refine iteF ⟨_, rfl, _, rfl, Lf, ls, (u.at_ : Int), .ref ma, rfl, rfl, sqA_l hL, atI_nat hv, ma, _, 1, nV m.goal, rfl, rfl, sqA_t hma, rfl, _, rfl, rfl, _, rfl, ?_⟩
          rw [show (!decide (nV m.goal = nV m.goal)) = false by simp]
          refine iteF ⟨_, rfl, _, rfl, by show 2 ≤ sizeLine; decide, fun Z nZ => ?_⟩
          have sZ := same_new (o := .tup [nV bt, nV nm]) nZ
          refine ⟨_, rfl, rd_pairNe' upd_same (sZ _ _ hMh) hm1 ⟨_, rfl, iteF ?_⟩⟩
          exact ⟨_, rfl, _, _, rfl, rfl, rfl, sZ⟩
        · obtain ⟨rfl, s5⟩ := hM
          refine ⟨_, rfl, rfl, _, rfl, iteF (iteF ?_)⟩
          exact ⟨_, _, _, _, _, { u with at_ := u.at_ + 1 }, Lf, Mh, ls, rfl, g3, s5 _ _ hL, hls.same s5, s5 _ _ hMh, sm.trans s5⟩
      rw [if_neg c3] at g2
      have ne1 : decide (V.str wd = V.str "start") = false := decide_eq_false fun z => c1 (by injection z)
      have ne2 : decide (V.str wd = V.str "fetch") = false := decide_eq_false fun z => c2 (by injection z)
      have ne3 : decide (V.str wd = V.str "put") = false := decide_eq_false fun z => c3 (by injection z)
      refine ⟨fun σ' H' => σ' = [some (.ref a), some (.ref rl), some (.ref Lf), some (nV u.at_), some (.ref Mh), some (nV bt), some (.str wd), some (nV pl), some (nV nm), y9] ∧ H' = H4, ⟨_, rfl, rfl, _, rfl, by rw [ne1]; exact iteF ⟨rfl, rfl⟩⟩, fun σ' H' hM => ?_⟩
      obtain ⟨rfl, rfl⟩ := hM
      refine ⟨fun σ' H3 => σ' = [some (.ref a), some (.ref rl), some (.ref Lf), some (nV u.at_), some (.ref Mh), some (nV bt), some (.str wd), some (nV pl), some (nV nm), y9] ∧ H3 = H', ⟨_, rfl, rfl, _, rfl, by rw [ne2]; exact iteF ⟨rfl, rfl⟩⟩, fun σ' H3 hM => ?_⟩
      obtain ⟨rfl, rfl⟩ := hM
      refine ⟨fun σ' H5 => σ' = [some (.ref a), some (.ref rl), some (.ref Lf), some (nV u.at_), some (.ref Mh), some (nV bt), some (.str wd), some (nV pl), some (nV nm), y9] ∧ H5 = H3, ⟨_, rfl, rfl, _, rfl, by rw [ne3]; exact iteF ⟨rfl, rfl⟩⟩, fun σ' H5 hM => ?_⟩
      obtain ⟨rfl, rfl⟩ := hM
      by_cases c4 : wd = ("bell" : Str)
      · subst c4
        rw [if_pos rfl] at g2
        split at g2
        · cases g2
        rename_i k hk
        split at g2
        case isFalse => cases g2
        rename_i hb
        cases g2
        obtain ⟨m, hm, hbl⟩ : ∃ m, u.left[k]? = some m ∧ m.bell = some pl := by
          cases e : u.left[k]? with
          | none => rw [e] at hb; cases hb
          | some m => rw [e] at hb; exact ⟨m, rfl, by simpa using hb⟩
        obtain ⟨vv, hv, hpv⟩ := hls.get (show (u.left.map Mv.d)[k]? = some m.d by rw [List.getElem?_map, hm]; rfl)
        obtain ⟨ma, rfl, hma⟩ := Mv.of hpv
        refine ⟨_, rfl, rfl, _, rfl, iteT ⟨_, rfl, rfl, _, rfl, ?_⟩⟩
        rw [show decide (nV u.at_ = V.int 0) = false from decide_eq_false fun z => by injection z with z; omega]
        refine iteF ⟨_, rfl, _, rfl, _, _, rfl, rfl, Lf, ls, ((u.at_ : Int) - 1), .ref ma, rfl, rfl, sqA_l hL, ?_, ma, _, 2, nV pl, rfl, rfl, sqA_t hma, ?_, _, rfl, rfl, _, rfl, ?_⟩
        · rw [show (u.at_ : Int) - 1 = (k : Int) by omega]; exact atI_nat hv
        · rw [Mv.vs, hbl]; rfl
        rw [show (!decide (nV pl = nV pl)) = false by simp]
        refine iteF ?_
        exact ⟨_, _, _, _, _, u, Lf, Mh, ls, rfl, g3, hL, hls, hMh, sm⟩
      · rw [if_neg c4] at g2
        cases g2
        have ne4 : decide (V.str wd = V.str "bell") = false := decide_eq_false fun z => c4 (by injection z)
        refine ⟨_, rfl, rfl, _, rfl, ?_⟩
        rw [ne4]
        refine iteF (iteF ?_)
        exact ⟨_, _, _, _, _, u, Lf, Mh, ls, rfl, g3, hL, hls, hMh, sm⟩
    · obtain ⟨y5, y6, y7, y8, y9, u, Lf, Mh, ls, rfl, hu, hL, hls, hMh, sm⟩ := hp
      rw [xlen, List.take_length] at hu
      rw [w1] at hu
      cases hu
      have lsl : ls.length = uf.left.length := by rw [hls.len, List.length_map]
      refine ⟨_, rfl, _, rfl, Lf, _, rfl, .inl (sqL_l hL), rfl, ?_⟩
      rw [show decide (nV uf.at_ = V.int ((ls.length : Nat) : Int)) = true from decide_eq_true (by rw [lsl, ← w2]; rfl)]
      refine ⟨_, rfl, iteT ?_⟩
      refine ⟨_, rfl, rl, rfl, .inl ⟨_, sqL_l (sm _ _ hrl), fun D nD => ?_⟩⟩
      refine lc_it (walk_list (xs := xs)) (fun j H' => ∃ ds : List V, H' D = some (.lst ds) ∧ ds.length = (sel "fetch" (G.rows.take j)).length ∧ Same H3 H')
        ⟨[], upd_same, rfl, same_new nD⟩ (fun j H' _ hp => by obtain ⟨_, _, _, s⟩ := hp; exact sqL_l (s _ _ (sm _ _ hrl))) (fun j x H4 H5 hj hp hy => ?_) (fun H4 hp => ?_)
      · obtain ⟨ds, hD, dl, s4⟩ := hp
        obtain ⟨rfl, hx⟩ := hy
        obtain ⟨dr, hdr, hpd⟩ := hxs.get' hx
        rw [List.getElem?_map] at hdr
        obtain ⟨r0, hr0, rfl⟩ : ∃ r0, G.rows[j]? = some r0 ∧ r0.d = dr := by simpa using hdr
        obtain ⟨a0, rfl, ha0⟩ := Row.of (hpd.same (sm.trans s4))
        have sn := sel_snoc (w := "fetch") hr0
        refine ⟨rfl, _, rfl, a0, _, 1, .str r0.word, rfl, rfl, sqA_t ha0, rfl, rfl, _, rfl, ite2 (fun e => ?_) (fun e => ?_)⟩
        · have ew : r0.word = ("fetch" : Str) := by injection of_decide_eq_true e
          rw [if_pos ew] at sn
          refine ⟨_, rfl, ds, hD, big ?_, ds ++ [.ref a0], upd_same, by rw [sn, List.length_append, List.length_append, dl]; rfl, fun b u e => by rw [upd_ne (ne_of_none e nD)]; exact s4 _ _ e⟩
          have := sel_take_le (w := "fetch") (rows := G.rows) (i := j)
          have h2 : (sel "fetch" G.rows).length ≤ G.rows.length := List.length_filter_le _ _
          omega
        · have ew : ¬ r0.word = ("fetch" : Str) := fun z => e (by rw [z]; exact decide_eq_true rfl)
          rw [if_neg ew, List.append_nil] at sn
          exact ⟨ds, hD, by rw [sn]; exact dl, s4⟩
      · obtain ⟨ds, hD, dl, s4⟩ := hp
        rw [xlen, List.take_length] at dl
        refine ⟨D, _, rfl, .inl (sqL_l hD), _, rfl, rfl, ?_⟩
        rw [show decide (V.int ((ds.length : Nat) : Int) = nV uf.at_) = true from decide_eq_true (by rw [dl, ← w3]; rfl)]
        exact q _ (sm.trans s4)
end
end Vt
namespace Vt
open PySem PySem.Spec PyProof.Rows L2
theorem starts3 {B : Brd} (ok : BrdOk B) : (B.prog.flatMap startOf).length ≤ 3 := by
  have : ∀ ds : List Deed, (ds.flatMap startOf).length = (ds.filter isStart).length := by
    intro ds
    induction ds with
    | nil => rfl
    | cons d r ih =>
      rw [List.flatMap_cons, List.length_append, ih]
      cases d <;> simp [startOf, isStart, List.filter_cons] <;> omega
  rw [this]; exact ok.starts
theorem Kept.puts96 {B : Brd} {G : Mst} (k : Kept B G) (ok : BrdOk B) : (sel "put" G.rows).length ≤ 96 ∧ (sel "start" G.rows).length ≤ 3 := by
  have h1 : (sel "start" G.rows).length ≤ 3 := by
    have := congrArg List.length k.sp
    rw [List.length_map] at this
    rw [this]; exact starts3 ok
  have h2 := lefts_len ok.eight G.rows
  exact ⟨by rw [k.puts]; omega, h1⟩
theorem bell_len {ms : List Mv} : (ms.filterMap Mv.bell).length ≤ ms.length := List.length_filterMap_le _ _
section
variable {P : Program} {w : World} {K : PySem.W.Frag} {mg : Str → Option Value} {base : Heap}
abbrev st_law_bells : Stmt := (topS 35)
abbrev nm_law_bells : List Str := ["_law_board_here", "_law_rows", "_law_found", "_law_row", "_law_move"]
theorem sc_law_bells : FnScope ["_law_board_here", "_law_rows", "_law_found", "_law_row", "_law_move"] ["_law_board_here", "_law_rows"] (defScope st_law_bells) := ⟨rfl, rfl, rfl, by decide +kernel, rfl, by decide +kernel, by decide +kernel⟩
def spLBells : Sp := fun vs H Q _ => ∃ (v : V) (B : Brd) (G : Mst) (rl : Addr) (xs : List V), vs = [v, .ref rl] ∧ Pd H v B.d ∧ BrdOk B ∧ Kept B G ∧ H rl = some (.lst xs) ∧ Pds H xs (G.rows.map Row.d) ∧ ∀ (H' : Hp) (l : Addr), Same H H' → H' l = some (.lst (((lefts B.ords G.rows).filterMap Mv.bell).map nV)) → Q (.ref l) H'
theorem ok_lbells {f : Addr} {fd : FuncData} (F : Fun K "_law_bells" "_law_bells" st_law_bells f fd) (c_law_moves : Callee P w K mg base "_law_moves" 1 2 spMoves) : FnOk P w K mg base CX0 2 f fd ["_law_board_here", "_law_rows"] spLBells := by
  refine F.ok sc_law_bells (fun vs H Q E h => ?_) (fun cdv A outer s H vs Q E hr h => ?_)
  · obtain ⟨v, B, G, rl, xs, rfl, _⟩ := h
    rfl
  · obtain ⟨v, B, G, rl, xs, rfl, hB, ok, kp, hrl, hxs, q⟩ := h
    refine ⟨_, (pss_cons (ps_set (i := 2) sc_law_bells.nd rfl (Or.inl rfl) (pe_lst pa_nil))
  (pss_cons (ps_for PassesOwn.never rfl (pi_lt (pv 1)) (pg_name (i := 3) sc_law_bells.nd rfl (Or.inl rfl))
  (pss_one (ps_if (pt_cmpR op_eq (pe_ix ix_lt (pv 3) pe_int (fun _ _ => rfl)) pe_str (nomark _)) (pss_one (ps_set (i := 2) sc_law_bells.nd rfl (Or.inl rfl) (pe_op op_cat (pv 2) (pe_lc (own := [("_law_move", 4)]) rfl sc_law_bells.nd (pi_lt (pe_cal c_law_moves hr (by first | decide | exact Nat.le_refl _) (pa_cons (pe_ix ix_lt (pv 0) pe_int (fun _ _ => rfl)) (pa_cons (pe_ix ix_lt (pv 3) pe_int (fun _ _ => rfl)) pa_nil)))) (blkOk_by (own := [("_law_move", 4)]) (N := nm_law_bells) (sc := defScope (topS 35)) (by decide +kernel)) (fun _ _ _ _ _ => (pg_name (i := 4) sc_law_bells.nd rfl (Or.inl rfl))) (fun _ _ _ _ _ => (pts_one (pt_cmpR op_notN (pe_ix (ix_ltk K) (pv 4) pe_int (fun _ _ => rfl)) pe_non (nomark _)))) (fun _ _ _ _ _ => (pe_ix (ix_ltk K) (pv 4) pe_int (fun _ _ => rfl))))))) pss_nil)))
  (pss_one (ps_ret (pv 2))))), ?_⟩
    obtain ⟨a, mm, o, p, os, ps, rfl, ha, hm, ho, hos, hp', hps⟩ := Brd.of hB
    have xlen : xs.length = G.rows.length := by rw [hxs.len, List.length_map]
    have s3 := (kp.puts96 ok).2
    refine ⟨Nat.zero_le _, fun L nL => ?_⟩
    have t1 := same_new (o := .lst []) nL
    refine ⟨_, rfl, rl, rfl, .inl ⟨_, sqL_l (t1 _ _ hrl), ?_⟩⟩
    refine for_it (walk_list (xs := xs)) (fun i σ H' => ∃ (y3 y4 : Option V) (Lf : Addr), σ = [some (.ref a), some (.ref rl), some (.ref Lf), y3, y4] ∧ H' Lf = some (.lst (((lefts B.ords (G.rows.take i)).filterMap Mv.bell).map nV)) ∧ Same H H')
      ⟨_, _, L, rfl, upd_same, t1⟩ (fun i σ H' _ hp => by obtain ⟨_, _, _, _, _, sm⟩ := hp; exact sqL_l (sm _ _ hrl)) (fun i x σ H3 H4 hi hp hy => ?_) (fun σ H3 hp => ?_)
    · obtain ⟨y3, y4, Lf, rfl, hL, sm⟩ := hp
      obtain ⟨rfl, hx⟩ := hy
      obtain ⟨dr, hdr, hpd⟩ := hxs.get' hx
      rw [List.getElem?_map] at hdr
      obtain ⟨r0, hr0, rfl⟩ : ∃ r0, G.rows[i]? = some r0 ∧ r0.d = dr := by simpa using hdr
      obtain ⟨a0, rfl, ha0⟩ := Row.of (hpd.same sm)
      have hpl := fun hw => kp.startAt ok hr0 hw
      have tk : lefts B.ords (G.rows.take (i + 1)) = lefts B.ords (G.rows.take i) ++ (if r0.word = ("start" : Str) then told B.ords r0.place else []) := by
        rw [List.take_add_one, hr0, Option.toList_some, lefts_app]
        simp [lefts]
      have l96 : (lefts B.ords (G.rows.take i)).length ≤ 96 := by
        have h2 := lefts_len ok.eight (G.rows.take i)
        have h3 := sel_take_le (w := "start") (rows := G.rows) (i := i)
        omega
      have bl := bell_len (ms := lefts B.ords (G.rows.take i))
      refine ⟨_, rfl, a0, _, 1, .str r0.word, rfl, rfl, sqA_t ha0, rfl, rfl, _, rfl, ite2 (fun e => ?_) (fun e => ?_)⟩
      · have ew : r0.word = ("start" : Str) := by injection of_decide_eq_true e
        rw [if_pos ew] at tk
        refine ⟨_, rfl, _, rfl, a, _, 1, .ref o, rfl, rfl, sqA_t (sm _ _ ha), rfl, _, rfl, a0, _, 2, nV r0.place, rfl, rfl, sqA_t ha0, rfl, o, os, B.ords, B.mem.length, r0.place, rfl, sm _ _ ho, hos.same sm, ok.four, ok.ords, hpl ew, fun H5 p5 zs s5 np5 hp5 hz5 => ?_⟩
        have zlen : zs.length = (told B.ords r0.place).length := by rw [hz5.len, List.length_map]
        refine ⟨p5, rfl, .inl ⟨_, sqL_l hp5, fun D nD => ?_⟩⟩
        refine lc_it (walk_list (xs := zs)) (fun j H' => H' D = some (.lst ((((told B.ords r0.place).take j).filterMap Mv.bell).map nV)) ∧ Same H5 H')
          ⟨upd_same, same_new nD⟩ (fun j H' _ hp => sqL_l (hp.2 _ _ hp5)) (fun j x H6 H7 hj hp hy => ?_) (fun H6 hp => ?_)
        · obtain ⟨hD, s6⟩ := hp
          obtain ⟨rfl, hx⟩ := hy
          obtain ⟨dm, hdm, hpm⟩ := hz5.get' hx
          rw [List.getElem?_map] at hdm
          obtain ⟨m, hm, rfl⟩ : ∃ m, (told B.ords r0.place)[j]? = some m ∧ m.d = dm := by simpa using hdm
          obtain ⟨ma, rfl, hma⟩ := Mv.of (hpm.same s6)
          have tj : ((told B.ords r0.place).take (j + 1)).filterMap Mv.bell = ((told B.ords r0.place).take j).filterMap Mv.bell ++ m.bell.toList := by
            rw [List.take_add_one, hm, Option.toList_some, List.filterMap_append]
            cases hb : m.bell <;> simp [hb]
          have lenD : ((((told B.ords r0.place).take j).filterMap Mv.bell).map nV).length < sizeLine := fits (by
            rw [List.length_map]
            have h1 := bell_len (ms := (told B.ords r0.place).take j)
            have h2 := List.length_take_le' j (told B.ords r0.place)
            have h3 := told_len ok.eight r0.place
            omega)
          have hat : atI m.vs 2 = some (oV m.bell) := rfl
          cases hb : m.bell with
          | none =>
            rw [hb] at tj hat
            rw [Option.toList_none, List.append_nil] at tj
            exact ⟨rfl, _, rfl, ma, _, 2, .non, rfl, rfl, sqA_t hma, hat, rfl, _, rfl, iteF ⟨by rw [tj]; exact hD, s6⟩⟩
          | some k =>
            rw [hb] at tj hat
            refine ⟨rfl, _, rfl, ma, _, 2, nV k, rfl, rfl, sqA_t hma, hat, rfl, _, rfl, iteT ⟨_, rfl, ma, _, 2, nV k, rfl, rfl, sqA_t hma, hat, _, hD, lenD, ?_, fun b u e => by rw [upd_ne (ne_of_none e nD)]; exact s6 _ _ e⟩⟩
            rw [upd_same, tj, List.map_append]; rfl
        · obtain ⟨hD, s6⟩ := hp
          rw [zlen, List.take_length] at hD
          have s56 := s5.trans s6
          refine ⟨Lf, D, _, _, rfl, rfl, s56 _ _ hL, hD, fits' ?_, fun q5 nq5 => ?_⟩
          · rw [List.length_map, List.length_map]
            have h1 := bell_len (ms := told B.ords r0.place)
            have h3 := told_len ok.eight r0.place
            omega
          · refine ⟨_, _, q5, rfl, ?_, (sm.trans s56).trans (same_new nq5)⟩
            rw [upd_same, tk, List.filterMap_append, List.map_append]
      · have ew : ¬ r0.word = ("start" : Str) := fun z => e (by rw [z]; exact decide_eq_true rfl)
        rw [if_neg ew, List.append_nil] at tk
        exact ⟨_, _, Lf, rfl, by rw [tk]; exact hL, sm⟩
    · obtain ⟨y3, y4, Lf, rfl, hL, sm⟩ := hp
      rw [xlen, List.take_length] at hL
      exact ⟨_, rfl, q _ Lf sm hL⟩
end
end Vt
namespace Vt
open PySem PySem.Spec PyProof.Rows L2
theorem perm_eq : ∀ {xs ys : List Int}, xs.Perm ys → xs.Pairwise (· ≤ ·) → ys.Pairwise (· ≤ ·) → xs = ys
  | [], ys, p, _, _ => (List.nil_perm.mp p).symm
  | x :: xs, [], p, _, _ => (List.perm_nil.mp p)
  | x :: xs, y :: ys, p, h1, h2 => by
    have hx : x ∈ y :: ys := p.mem_iff.mp (List.mem_cons_self ..)
    have hy : y ∈ x :: xs := p.mem_iff.mpr (List.mem_cons_self ..)
    have e : x = y := by
      have a1 : y ≤ x := by
        rcases List.mem_cons.mp hx with h | h
        · omega
        · exact (List.pairwise_cons.mp h2).1 x h
      have a2 : x ≤ y := by
        rcases List.mem_cons.mp hy with h | h
        · omega
        · exact (List.pairwise_cons.mp h1).1 y h
      omega
    subst e
    rw [perm_eq (List.perm_cons _ |>.mp p) (List.pairwise_cons.mp h1).2 (List.pairwise_cons.mp h2).2]
/-- two lists of the same numbers, asked whether they differ -/
theorem rd_neNats {K : PySem.W.Frag} {H : Hp} {a b : Addr} {ns : List Nat} {Q : VK} (ha : H a = some (.lst (ns.map nV))) (hb : H b = some (.lst (ns.map nV))) (q : Q (.bl false) H) : rNeD K (.ref a) (.ref b) H Q := by
  have hs := shapedInts (ns.map fun (k : Nat) => (k : Int))
  have e : ns.map nV = (ns.map fun (k : Nat) => (k : Int)).map V.int := by rw [List.map_map]; rfl
  rw [e] at ha hb
  refine ⟨.list ((ns.map fun (k : Nat) => (k : Int)).map PyData.int), .list ((ns.map fun (k : Nat) => (k : Int)).map PyData.int), .lst (sqL_l ha) (dpInts _), .lst (sqL_l hb) (dpInts _), hs, hs, ?_⟩
  have hl : PyData.canLay0 (.list ((ns.map fun (k : Nat) => (k : Int)).map PyData.int)) = true := by
    rw [PyData.canLay0]
    have : ∀ zs : List Int, PyData.canLayAll0 (zs.map PyData.int) = true := by
      intro zs
      induction zs with
      | nil => simp [PyData.canLayAll0]
      | cons n r ih => simp [PyData.canLayAll0, PyData.canLay0, ih]
    exact this _
  rw [PySem.SeqAt.eqv_refl _ hl]; exact q
theorem tell_of {H : Hp} {u : V} {G : Mst} (h : Pd H u (tellD G)) : ∃ t x y, u = .ref t ∧ H t = some (.tup [x, y, nV G.beats]) := by
  cases h with
  | tup h hs =>
    cases hs with
    | cons h1 hs => cases hs with
      | cons h2 hs => cases hs with
        | cons h3 hs =>
          cases h3; cases hs
          exact ⟨_, _, _, rfl, h⟩
def words5 : List Str := ["set", "add", "say", "start", "start", "start", "wait", "clean", "drop"]
section
variable {P : Program} {w : World} {K : PySem.W.Frag} {mg : Str → Option Value} {base : Heap}
abbrev st_law : Stmt := (topS 36)
abbrev nm_law : List Str := ["_law_script", "_law_box", "_law_kinds", "_law_board_here", "_law_turn", "_law_pace_here", "_law_rows", "_law_beats", "_law_row", "_law_puts", "_law_starts", "_law_said", "_law_memory", "_law_many", "_law_deed_here"]
theorem sc_law : FnScope ["_law_script", "_law_box", "_law_kinds", "_law_board_here", "_law_turn", "_law_pace_here", "_law_rows", "_law_beats", "_law_row", "_law_puts", "_law_starts", "_law_said", "_law_memory", "_law_many", "_law_deed_here"] ["_law_script"] (defScope st_law) := ⟨rfl, rfl, rfl, by decide +kernel, rfl, by decide +kernel, by decide +kernel⟩
def spLaw (K : PySem.W.Frag) : Sp := fun vs H Q _ => ∃ (a : Addr) (ns : List Int), vs = [.ref a] ∧ SqL K H a (ns.map V.int) ∧ ns.length ≤ 63 ∧ ∀ H', Q (.bl true) H'
set_option maxHeartbeats 0 in
theorem ok_law {f : Addr} {fd : FuncData} (F : Fun K "law" "law" st_law f fd) (c_law_begun : Callee P w K mg base "_law_begun" 1 1 (spBegun K)) (c_law_take : Callee P w K mg base "_law_take" 1 2 spTake) (c_law_board : Callee P w K mg base "_law_board" 3 4 spBoard)
    (c_law_pace : Callee P w K mg base "_law_pace" 2 1 spPace) (c_law_moved : Callee P w K mg base "_law_moved" 2 2 spLMoved) (c_law_bells : Callee P w K mg base "_law_bells" 2 2 spLBells)
    (c_story : Callee P w K mg base "story" 7 2 spStory) (c_ended : Callee P w K mg base "ended" 7 2 spEnded) (z_range : mg "range" = none) (z_int : mg "int" = none) (z_len : mg "len" = none) (z_set : mg "set" = none) (z_sorted : mg "sorted" = none) : FnOk P w K mg base CX0 8 f fd ["_law_script"] (spLaw K) := by
  refine F.ok sc_law (fun vs H Q E h => ?_) (fun cdv A outer s H vs Q E hr h => ?_)
  · obtain ⟨a, ns, rfl, _⟩ := h
    rfl
  · obtain ⟨a, ns, rfl, hS, hlen, q⟩ := h
    refine ⟨_, (pss_cons (ps_set (i := 1) sc_law.nd rfl (Or.inl rfl) (pe_cal c_law_begun hr (by first | decide | exact Nat.le_refl _) (pa_cons (pv 0) pa_nil)))
  (pss_cons (ps_set (i := 2) sc_law.nd rfl (Or.inl rfl) (pe_lst (pa_cons pe_str (pa_cons pe_str (pa_cons pe_str (pa_cons pe_str (pa_cons pe_str (pa_cons pe_str (pa_cons pe_str (pa_cons pe_str (pa_cons pe_str pa_nil)))))))))))
  (pss_cons (ps_set (i := 3) sc_law.nd rfl (Or.inl rfl) (pe_cal c_law_board hr (by first | decide | exact Nat.le_refl _) (pa_cons (pv 1) (pa_cons pe_int (pa_cons (pe_ix ix_lt (pe_lst (pa_cons pe_int (pa_cons pe_int pa_nil))) (pe_callTy call_int1 (by rfl) z_int (by decide +kernel) (pa_cons (pe_cmpR op_eq (pe_cal c_law_take hr (by first | decide | exact Nat.le_refl _) (pa_cons (pv 1) (pa_cons pe_int pa_nil))) pe_int (nomark _)) pa_nil)) (fun _ _ => rfl)) (pa_cons (pv 2) pa_nil))))))
  (pss_cons (ps_for PassesOwn.never rfl (pi_range1 (by rfl) z_range (pa_cons pe_int pa_nil)) (pg_name (i := 4) sc_law.nd rfl (Or.inl rfl))
  (pss_cons (ps_set (i := 5) sc_law.nd rfl (Or.inl rfl) (pe_cal c_law_pace hr (by first | decide | exact Nat.le_refl _) (pa_cons (pv 1) pa_nil)))
  (pss_cons (ps_set (i := 6) sc_law.nd rfl (Or.inl rfl) (pe_cal c_story hr (by first | decide | exact Nat.le_refl _) (pa_cons (pv 3) (pa_cons (pv 5) pa_nil))))
  (pss_cons (ps_setLc (i := 7) (own := [("_law_row", 8)]) rfl sc_law.nd rfl rfl (sw_true rfl rfl rfl (by decide +kernel)) (pi_lt (pv 6)) (blkOk_by (own := [("_law_row", 8)]) (N := nm_law) (sc := defScope (topS 36)) (by decide +kernel)) (fun _ _ _ _ _ => (pg_name (i := 8) sc_law.nd rfl (Or.inl rfl))) (fun _ _ _ _ _ => pts_nil) (fun _ _ _ _ _ => (pe_ix (ix_ltk K) (pv 8) pe_int (fun _ _ => rfl))))
  (pss_cons (ps_if (PW.pt (pw_or (pt_cmpR (op_neD hr.units) (pv 7) (pe_callB cr_sortedI (by rfl) z_sorted (by decide +kernel) (pa_cons (pv 7) pa_nil)) (nomark _)) (pw_or1 (pt_not (pt_val (pe_cal c_law_moved hr (by first | decide | exact Nat.le_refl _) (pa_cons (pv 3) (pa_cons (pv 6) pa_nil)))))))) (pss_one (ps_ret pe_bl)) pss_nil)
  (pss_cons (ps_if (pt_cmpR (op_neD hr.units) (pe_lc (own := [("_law_row", 8)]) rfl sc_law.nd (pi_lt (pv 6)) (blkOk_by (own := [("_law_row", 8)]) (N := nm_law) (sc := defScope (topS 36)) (by decide +kernel)) (fun _ _ _ _ _ => (pg_name (i := 8) sc_law.nd rfl (Or.inl rfl))) (fun _ _ _ _ _ => (pts_one (pt_cmpR op_eq (pe_ix (ix_ltk K) (pv 8) pe_int (fun _ _ => rfl)) pe_str (nomark _)))) (fun _ _ _ _ _ => (pe_ix (ix_ltk K) (pv 8) pe_int (fun _ _ => rfl)))) (pe_cal c_law_bells hr (by first | decide | exact Nat.le_refl _) (pa_cons (pv 3) (pa_cons (pv 6) pa_nil))) (nomark _)) (pss_one (ps_ret pe_bl)) pss_nil)
  (pss_cons (ps_setLc (i := 9) (own := [("_law_row", 8)]) rfl sc_law.nd rfl rfl (sw_true rfl rfl rfl (by decide +kernel)) (pi_lt (pv 6)) (blkOk_by (own := [("_law_row", 8)]) (N := nm_law) (sc := defScope (topS 36)) (by decide +kernel)) (fun _ _ _ _ _ => (pg_name (i := 8) sc_law.nd rfl (Or.inl rfl))) (fun _ _ _ _ _ => (pts_one (pt_cmpR op_eq (pe_ix (ix_ltk K) (pv 8) pe_int (fun _ _ => rfl)) pe_str (nomark _)))) (fun _ _ _ _ _ => (pe_ix (ix_ltk K) (pv 8) pe_int (fun _ _ => rfl))))
  (pss_cons (ps_setLc (i := 10) (own := [("_law_row", 8)]) rfl sc_law.nd rfl rfl (sw_true rfl rfl rfl (by decide +kernel)) (pi_lt (pv 6)) (blkOk_by (own := [("_law_row", 8)]) (N := nm_law) (sc := defScope (topS 36)) (by decide +kernel)) (fun _ _ _ _ _ => (pg_name (i := 8) sc_law.nd rfl (Or.inl rfl))) (fun _ _ _ _ _ => (pts_one (pt_cmpR op_eq (pe_ix (ix_ltk K) (pv 8) pe_int (fun _ _ => rfl)) pe_str (nomark _)))) (fun _ _ _ _ _ => (pe_ix (ix_ltk K) (pv 8) pe_int (fun _ _ => rfl))))
  (pss_cons (ps_if (PW.pt (pw_or (pt_cmpR op_ne (pe_lenSetB rfl rfl z_len rfl z_set (pv 9)) (pe_callB call_len_seq (by rfl) z_len (by decide +kernel) (pa_cons (pv 9) pa_nil)) (nomark _)) (pw_or1 (pt_cmpR op_ne (pe_lenSetB rfl rfl z_len rfl z_set (pv 10)) (pe_callB call_len_seq (by rfl) z_len (by decide +kernel) (pa_cons (pv 10) pa_nil)) (nomark _))))) (pss_one (ps_ret pe_bl)) pss_nil)
  (pss_cons (ps_asg (pe_cal c_ended hr (by first | decide | exact Nat.le_refl _) (pa_cons (pv 3) (pa_cons (pv 5) pa_nil))) (pg_tup rfl (pgs_cons (pg_name (i := 11) sc_law.nd rfl (Or.inl rfl)) (pgs_cons (pg_name (i := 12) sc_law.nd rfl (Or.inl rfl)) (pgs_cons (pg_name (i := 13) sc_law.nd rfl (Or.inl rfl)) pgs_nil)))))
  (pss_cons (ps_if (pt_cmpR (op_neD hr.units) (pe_lc (own := [("_law_row", 8)]) rfl sc_law.nd (pi_lt (pv 6)) (blkOk_by (own := [("_law_row", 8)]) (N := nm_law) (sc := defScope (topS 36)) (by decide +kernel)) (fun _ _ _ _ _ => (pg_name (i := 8) sc_law.nd rfl (Or.inl rfl))) (fun _ _ _ _ _ => (pts_one (pt_cmpR op_eq (pe_ix (ix_ltk K) (pv 8) pe_int (fun _ _ => rfl)) pe_str (nomark _)))) (fun _ _ _ _ _ => (pe_ix (ix_ltk K) (pv 8) pe_int (fun _ _ => rfl)))) (pe_lc (own := [("_law_deed_here", 14)]) rfl sc_law.nd (pi_lt (pe_ix ix_lt (pv 3) pe_int (fun _ _ => rfl))) (blkOk_by (own := [("_law_deed_here", 14)]) (N := nm_law) (sc := defScope (topS 36)) (by decide +kernel)) (fun _ _ _ _ _ => (pg_name (i := 14) sc_law.nd rfl (Or.inl rfl))) (fun _ _ _ _ _ => (pts_one (pt_cmpR op_eq (pe_ix (ix_ltk K) (pv 14) pe_int (fun _ _ => rfl)) pe_str (nomark _)))) (fun _ _ _ _ _ => (pe_ix (ix_ltk K) (pv 14) pe_int (fun _ _ => rfl)))) (nomark _)) (pss_one (ps_ret pe_bl)) pss_nil)
  (pss_one (ps_if (PW.pt (pw_or (pt_cmpR op_gt (pe_callB call_len_seq (by rfl) z_len (by decide +kernel) (pa_cons (pe_ix ix_lt (pv 3) pe_int (fun _ _ => rfl)) pa_nil)) (pv 13) (nomark _)) (pw_or (pt_cmpR op_gt (pv 13) (pe_op op_add (pe_callB call_len_seq (by rfl) z_len (by decide +kernel) (pa_cons (pe_ix ix_lt (pv 3) pe_int (fun _ _ => rfl)) pa_nil)) (pe_callB call_len_seq (by rfl) z_len (by decide +kernel) (pa_cons (pv 9) pa_nil))) (nomark _)) (pw_or1 (PW.pt (pw_and (pt_cmpR (op_neD hr.units) (pv 7) (pe_lst pa_nil) (nomark _)) (pw_and1 (pt_cmpR op_gt (pe_ix ix_lt (pv 7) (pe_un un_neg pe_int) (fun _ _ => rfl)) (pv 13) (nomark _))))))))) (pss_one (ps_ret pe_bl)) pss_nil)))))))))))))
  (pss_one (ps_ret pe_bl)))))), ?_⟩
    refine ⟨_, rfl, a, ns, rfl, hS, hlen, fun H1 b l hB2 sm1 => ?_⟩
    -- kinds
    refine ⟨by show 9 ≤ sizeLine; decide, fun KL nKL => ?_⟩
    have hB3 := hB2.same (same_new (o := .lst (words5.map V.str)) nKL)
    have hKL : (upd H1 KL (.lst (words5.map V.str))) KL = some (.lst (words5.map V.str)) := upd_same
    have KLb : KL ∉ [b, l] := fun m => by
      obtain ⟨ys, e⟩ := hB2.lsts _ m
      rw [nKL] at e; cases e
    show L2.Ends.nx _ _ (upd H1 KL (.lst (words5.map V.str)))
    generalize upd H1 KL (.lst (words5.map V.str)) = H3 at hB3 hKL
    -- the board
    refine ⟨_, rfl, by show 2 ≤ sizeLine; decide, fun L nL => ?_⟩
    have hB4 := hB3.same (same_new (o := .lst [.int 16, .int 60]) nL)
    have hKL4 := (same_new (o := .lst [.int 16, .int 60]) nL) _ _ hKL
    have hL : (upd H3 L (.lst [.int 16, .int 60])) L = some (.lst [.int 16, .int 60]) := upd_same
    have Lb : L ∉ [b, l] := fun m => by
      obtain ⟨ys, e⟩ := hB3.lsts _ m
      rw [nL] at e; cases e
    generalize upd H3 L (.lst [.int 16, .int 60]) = H4 at hB4 hKL4 hL
    refine ⟨_, rfl, b, l, _, 8, rfl, rfl, hB4, by decide, by decide, fun H5 r hB5 bt5 hr5 => ?_⟩
    have hL5 := bt5 _ _ Lb hL
    have hKL5 := bt5 _ _ KLb hKL4
    refine ⟨rfl, .inr ⟨_, rfl, ?_⟩⟩
    obtain ⟨deeds, hdd, ix, hix, hat⟩ : ∃ deeds : Nat, deeds ≤ 60 ∧ ∃ ix : Int, (if decide (nV r = V.int 7) = true then (1 : Int) else 0) = ix ∧ atI [V.int 16, V.int 60] ix = some (nV deeds) := by
      by_cases e : decide (nV r = V.int 7) = true
      · exact ⟨60, by decide, 1, if_pos e, rfl⟩
      · exact ⟨16, by decide, 0, if_neg e, rfl⟩
    refine ⟨L, _, ix, _, rfl, congrArg V.int hix, sqA_l hL5, hat, _, rfl, b, l, KL, 4, deeds, words5, rfl, hB5, by decide, by decide, hdd, hKL5, by decide, by decide, by decide, fun H7 v B hB7 bt7 hv ok _ _ _ _ => ?_⟩
    -- twice, at a pace
    refine ⟨2, rfl, by decide, by decide, ?_⟩
    refine for_it (walk_range (lo := 0) (n := (2 : Int).toNat)) (fun i σ H' => ∃ (y4 y5 y6 y7 y8 y9 y10 y11 y12 y13 y14 : Option V), σ = [some (.ref a), some (.ref b), some (.ref KL), some v, y4, y5, y6, y7, y8, y9, y10, y11, y12, y13, y14] ∧ Box H' b l ∧ Pd H' v B.d)
      ⟨_, _, _, _, _, _, _, _, _, _, _, rfl, hB7, hv⟩ (fun _ _ _ _ _ => trivial) (fun i x σ H8 H9 hi hp hy => ?_) (fun σ H8 hp => q H8)
    obtain ⟨y4, y5, y6, y7, y8, y9, y10, y11, y12, y13, y14, rfl, hB9, hv9⟩ := hp
    obtain ⟨rfl, rfl⟩ := hy
    refine ⟨_, rfl, b, l, rfl, hB9, fun H10 pl bs hB10 bt10 _ hpl hbs => ?_⟩
    have hv10 := Pd.but bt10 hB9.lsts (noL_brd B) hv9
    refine ⟨_, rfl, _, rfl, v, B, pl, bs, rfl, hv10, ok, hpl, by omega, fun H11 rl xs s11 nrl hrl hxs => ?_⟩
    have hB11 := hB10.same s11
    have hv11 := hv10.same s11
    have hpl11 := s11 _ _ hpl
    have kp := gone_kept ok bs
    obtain ⟨gok, grows⟩ := gone_ok ok bs
    generalize hG : gone B bs = G at hxs kp gok grows
    obtain ⟨p96, st3⟩ := kp.puts96 ok
    have xlen : xs.length = G.rows.length := by rw [hxs.len, List.length_map]
    -- beats
    refine ⟨_, rfl, rl, rfl, .inl ⟨_, sqL_l hrl, fun D1 nD1 => ?_⟩⟩
    refine lc_it (walk_list (xs := xs)) (fun j H' => H' D1 = some (.lst (((G.rows.take j).map Row.beat).map nV)) ∧ Same H11 H')
      ⟨upd_same, same_new nD1⟩ (fun j H' _ hp => sqL_l (hp.2 _ _ hrl)) (fun j x Ha Hb hj hp hy => ?_) (fun H12 hp => ?_)
    · obtain ⟨a2, sm⟩ := hp
      obtain ⟨rfl, hx⟩ := hy
      obtain ⟨dd, hdd, hpd⟩ := (hxs).get' hx
      rw [List.getElem?_map] at hdd
      obtain ⟨r0, hr0, rfl⟩ : ∃ r0, G.rows[j]? = some r0 ∧ r0.d = dd := by simpa using hdd
      obtain ⟨a0, rfl, ha0⟩ := Row.of hpd
      have ha1 := sm _ _ ha0
      have tk : (G.rows.take (j + 1)).map Row.beat = (G.rows.take j).map Row.beat ++ [r0.beat] := by rw [List.take_add_one, hr0, List.map_append]; rfl
      refine ⟨rfl, iteT (B := True) ⟨_, rfl, a0, _, 0, nV r0.beat, rfl, rfl, sqA_t ha1, rfl, _, a2, big (by have := List.length_take_le' j G.rows; simp only [List.length_map]; omega), ?_, fun c u hc => by rw [upd_ne (ne_of_none hc nD1)]; exact sm _ _ hc⟩⟩
      rw [upd_same, tk, List.map_append]; rfl
    obtain ⟨hD1, s12⟩ := hp
    rw [xlen, List.take_length] at hD1
    have hrl12 := s12 _ _ hrl
    have hxs12 := hxs.same s12
    -- sorted
    refine ⟨_, rfl, _, rfl, D1, (G.rows.map Row.beat).map (fun (k : Nat) => (k : Int)), rfl, ?_, fun ns' p2 perm rise np2 => ?_⟩
    · refine sqL_l ?_
      rw [hD1, List.map_map, List.map_map, List.map_map]; rfl
    have e1 : ns' = (G.rows.map Row.beat).map (fun (k : Nat) => (k : Int)) := perm_eq perm rise (by
      rw [List.pairwise_map]
      exact kp.srt.imp fun h => by omega)
    subst e1
    have e2 : ((G.rows.map Row.beat).map (fun (k : Nat) => (k : Int))).map V.int = (G.rows.map Row.beat).map nV := by rw [List.map_map]; rfl
    rw [e2]
    have s13 := same_new (o := .lst ((G.rows.map Row.beat).map nV)) np2
    refine rd_neNats (s13 _ _ hD1) upd_same ⟨_, rfl, iteF ?_⟩
    generalize upd H12 p2 (.lst ((G.rows.map Row.beat).map nV)) = H13 at s13
    have s1113 := s12.trans s13
    -- moved
    refine ⟨_, rfl, _, rfl, v, B, G, rl, xs, rfl, hv11.same s1113, ok, kp, s1113 _ _ hrl, hxs.same s1113, by omega, fun H14 s14 => ⟨_, rfl, iteF ?_⟩⟩
    have s1114 := s1113.trans s14
    have hrl14 := s1114 _ _ hrl
    have hxs14 := hxs.same s1114
    have hD14 := (s13.trans s14) _ _ hD1
    -- bells
    refine ⟨_, rfl, rl, rfl, .inl ⟨_, sqL_l hrl14, fun D2 nD2 => ?_⟩⟩
    refine lc_it (walk_list (xs := xs)) (fun j H' => H' D2 = some (.lst (((sel "bell" (G.rows.take j)).map Row.place).map nV)) ∧ Same H14 H')
      ⟨upd_same, same_new nD2⟩ (fun j H' _ hp => sqL_l (hp.2 _ _ hrl14)) (fun j x Ha Hb hj hp hy => ?_) (fun H15 hp => ?_)
    · obtain ⟨a2, sm⟩ := hp
      obtain ⟨rfl, hx⟩ := hy
      obtain ⟨dd, hdd, hpd⟩ := (hxs14).get' hx
      rw [List.getElem?_map] at hdd
      obtain ⟨r0, hr0, rfl⟩ : ∃ r0, G.rows[j]? = some r0 ∧ r0.d = dd := by simpa using hdd
      obtain ⟨a0, rfl, ha0⟩ := Row.of hpd
      have ha1 := sm _ _ ha0
      have tk := sel_snoc (w := "bell") hr0
      have tl := sel_take_le (w := "bell") (rows := G.rows) (i := j)
      have tl2 : (sel "bell" G.rows).length ≤ G.rows.length := List.length_filter_le _ _
      refine ⟨rfl, _, rfl, a0, _, 1, .str r0.word, rfl, rfl, sqA_t ha1, rfl, rfl, _, rfl, ite2 (fun e => ?_) (fun e => ?_)⟩
      · have ew : r0.word = ("bell" : Str) := by injection of_decide_eq_true e
        rw [if_pos ew] at tk
        refine ⟨_, rfl, a0, _, 2, nV r0.place, rfl, rfl, sqA_t ha1, rfl, _, a2, big (by simp only [List.length_map]; omega), ?_, fun c u hc => by rw [upd_ne (ne_of_none hc nD2)]; exact sm _ _ hc⟩
        rw [upd_same, tk, List.map_append, List.map_append]; rfl
      · have ew : ¬ r0.word = ("bell" : Str) := fun z => e (by rw [z]; exact decide_eq_true rfl)
        rw [if_neg ew, List.append_nil] at tk
        exact ⟨by rw [tk]; exact a2, sm⟩
    obtain ⟨hD2, s15⟩ := hp
    rw [xlen, List.take_length] at hD2
    have s1115 := s1114.trans s15
    refine ⟨_, rfl, _, rfl, v, B, G, rl, xs, rfl, hv11.same s1115, ok, kp, s1115 _ _ hrl, hxs.same s1115, fun H16 bl s16 hbl => ?_⟩
    rw [← kp.bells] at hbl
    refine rd_neNats (s16 _ _ hD2) hbl ⟨_, rfl, iteF ?_⟩
    have s1116 := s1115.trans s16
    have hrl16 := s1116 _ _ hrl
    have hxs16 := hxs.same s1116
    have hD16 := (s15.trans s16) _ _ hD14
    -- puts, starts
    refine ⟨_, rfl, rl, rfl, .inl ⟨_, sqL_l hrl16, fun D3 nD3 => ?_⟩⟩
    refine lc_it (walk_list (xs := xs)) (fun j H' => H' D3 = some (.lst (((sel "put" (G.rows.take j)).map Row.beat).map nV)) ∧ Same H16 H')
      ⟨upd_same, same_new nD3⟩ (fun j H' _ hp => sqL_l (hp.2 _ _ hrl16)) (fun j x Ha Hb hj hp hy => ?_) (fun H17 hp => ?_)
    · obtain ⟨a2, sm⟩ := hp
      obtain ⟨rfl, hx⟩ := hy
      obtain ⟨dd, hdd, hpd⟩ := (hxs16).get' hx
      rw [List.getElem?_map] at hdd
      obtain ⟨r0, hr0, rfl⟩ : ∃ r0, G.rows[j]? = some r0 ∧ r0.d = dd := by simpa using hdd
      obtain ⟨a0, rfl, ha0⟩ := Row.of hpd
      have ha1 := sm _ _ ha0
      have tk := sel_snoc (w := "put") hr0
      have tl := sel_take_le (w := "put") (rows := G.rows) (i := j)
      have tl2 : (sel "put" G.rows).length ≤ G.rows.length := List.length_filter_le _ _
      refine ⟨rfl, _, rfl, a0, _, 1, .str r0.word, rfl, rfl, sqA_t ha1, rfl, rfl, _, rfl, ite2 (fun e => ?_) (fun e => ?_)⟩
      · have ew : r0.word = ("put" : Str) := by injection of_decide_eq_true e
        rw [if_pos ew] at tk
        refine ⟨_, rfl, a0, _, 0, nV r0.beat, rfl, rfl, sqA_t ha1, rfl, _, a2, big (by simp only [List.length_map]; omega), ?_, fun c u hc => by rw [upd_ne (ne_of_none hc nD3)]; exact sm _ _ hc⟩
        rw [upd_same, tk, List.map_append, List.map_append]; rfl
      · have ew : ¬ r0.word = ("put" : Str) := fun z => e (by rw [z]; exact decide_eq_true rfl)
        rw [if_neg ew, List.append_nil] at tk
        exact ⟨by rw [tk]; exact a2, sm⟩
    obtain ⟨hD3, s17⟩ := hp
    rw [xlen, List.take_length] at hD3
    have s1117 := s1116.trans s17
    have hrl17 := s1117 _ _ hrl
    have hxs17 := hxs.same s1117
    refine ⟨_, rfl, rl, rfl, .inl ⟨_, sqL_l hrl17, fun D4 nD4 => ?_⟩⟩
    refine lc_it (walk_list (xs := xs)) (fun j H' => H' D4 = some (.lst (((sel "start" (G.rows.take j)).map Row.beat).map nV)) ∧ Same H17 H')
      ⟨upd_same, same_new nD4⟩ (fun j H' _ hp => sqL_l (hp.2 _ _ hrl17)) (fun j x Ha Hb hj hp hy => ?_) (fun H18 hp => ?_)
    · obtain ⟨a2, sm⟩ := hp
      obtain ⟨rfl, hx⟩ := hy
      obtain ⟨dd, hdd, hpd⟩ := (hxs17).get' hx
      rw [List.getElem?_map] at hdd
      obtain ⟨r0, hr0, rfl⟩ : ∃ r0, G.rows[j]? = some r0 ∧ r0.d = dd := by simpa using hdd
      obtain ⟨a0, rfl, ha0⟩ := Row.of hpd
      have ha1 := sm _ _ ha0
      have tk := sel_snoc (w := "start") hr0
      have tl := sel_take_le (w := "start") (rows := G.rows) (i := j)
      have tl2 : (sel "start" G.rows).length ≤ G.rows.length := List.length_filter_le _ _
      refine ⟨rfl, _, rfl, a0, _, 1, .str r0.word, rfl, rfl, sqA_t ha1, rfl, rfl, _, rfl, ite2 (fun e => ?_) (fun e => ?_)⟩
      · have ew : r0.word = ("start" : Str) := by injection of_decide_eq_true e
        rw [if_pos ew] at tk
        refine ⟨_, rfl, a0, _, 0, nV r0.beat, rfl, rfl, sqA_t ha1, rfl, _, a2, big (by simp only [List.length_map]; omega), ?_, fun c u hc => by rw [upd_ne (ne_of_none hc nD4)]; exact sm _ _ hc⟩
        rw [upd_same, tk, List.map_append, List.map_append]; rfl
      · have ew : ¬ r0.word = ("start" : Str) := fun z => e (by rw [z]; exact decide_eq_true rfl)
        rw [if_neg ew, List.append_nil] at tk
        exact ⟨by rw [tk]; exact a2, sm⟩
    obtain ⟨hD4, s18⟩ := hp
    rw [xlen, List.take_length] at hD4
    have hD3' := s18 _ _ hD3
    have s1118 := s1117.trans s18
    have len3 : ((sel "put" G.rows).map Row.beat).length ≤ 96 := by rw [List.length_map]; exact p96
    have len4 : ((sel "start" G.rows).map Row.beat).length ≤ 3 := by rw [List.length_map]; exact st3
    have nd : ∀ ns : List Nat, ns.Pairwise (· < ·) → (ns.map (fun (k : Nat) => (k : Int))).Nodup := fun ns h => by
      rw [List.Nodup, List.pairwise_map]
      exact h.imp fun h => by omega
    have toI : ∀ ns : List Nat, ns.map nV = (ns.map (fun (k : Nat) => (k : Int))).map V.int := fun ns => by rw [List.map_map]; rfl
    refine ⟨_, rfl, D3, ((sel "put" G.rows).map Row.beat).map (fun (k : Nat) => (k : Int)), rfl, sqL_l (by rw [hD3', toI]), by rw [List.length_map]; omega, nd _ kp.pps, _, rfl, D3, _, rfl, .inl (sqL_l hD3'), rfl, _, rfl, ?_⟩
    rw [List.length_map (f := fun (k : Nat) => (k : Int)), List.length_map (f := nV), show (!decide (V.int ((((sel "put" G.rows).map Row.beat).length : Nat) : Int) = V.int ((((sel "put" G.rows).map Row.beat).length : Nat) : Int))) = false by simp]
    refine iteF ?_
    refine ⟨_, rfl, D4, ((sel "start" G.rows).map Row.beat).map (fun (k : Nat) => (k : Int)), rfl, sqL_l (by rw [hD4, toI]), by rw [List.length_map]; omega, nd _ kp.pst, _, rfl, D4, _, rfl, .inl (sqL_l hD4), rfl, _, rfl, ?_⟩
    rw [List.length_map (f := fun (k : Nat) => (k : Int)), List.length_map (f := nV), show (!decide (V.int ((((sel "start" G.rows).map Row.beat).length : Nat) : Int) = V.int ((((sel "start" G.rows).map Row.beat).length : Nat) : Int))) = false by simp]
    refine iteF ?_
    -- ended
    refine ⟨_, rfl, _, rfl, v, B, pl, bs, rfl, hv11.same s1118, ok, s1118 _ _ hpl11, by omega, fun H19 u s19 hu => ?_⟩
    rw [hG] at hu
    obtain ⟨t, x1, x2, rfl, ht⟩ := tell_of hu
    refine ⟨t, _, rfl, sqT_t ht, rfl, _, _, rfl, _, _, rfl, _, _, rfl, rfl, ?_⟩
    have s1119 := s1118.trans s19
    have hrl19 := s1119 _ _ hrl
    have hxs19 := hxs.same s1119
    have hD19 := ((s17.trans s18).trans s19) _ _ hD16
    have hD3'' := s19 _ _ hD3'
    -- starts' orders
    refine ⟨_, rfl, rl, rfl, .inl ⟨_, sqL_l hrl19, fun D5 nD5 => ?_⟩⟩
    refine lc_it (walk_list (xs := xs)) (fun j H' => H' D5 = some (.lst (((sel "start" (G.rows.take j)).map Row.place).map nV)) ∧ Same H19 H')
      ⟨upd_same, same_new nD5⟩ (fun j H' _ hp => sqL_l (hp.2 _ _ hrl19)) (fun j x Ha Hb hj hp hy => ?_) (fun H20 hp => ?_)
    · obtain ⟨a2, sm⟩ := hp
      obtain ⟨rfl, hx⟩ := hy
      obtain ⟨dd, hdd, hpd⟩ := (hxs19).get' hx
      rw [List.getElem?_map] at hdd
      obtain ⟨r0, hr0, rfl⟩ : ∃ r0, G.rows[j]? = some r0 ∧ r0.d = dd := by simpa using hdd
      obtain ⟨a0, rfl, ha0⟩ := Row.of hpd
      have ha1 := sm _ _ ha0
      have tk := sel_snoc (w := "start") hr0
      have tl := sel_take_le (w := "start") (rows := G.rows) (i := j)
      have tl2 : (sel "start" G.rows).length ≤ G.rows.length := List.length_filter_le _ _
      refine ⟨rfl, _, rfl, a0, _, 1, .str r0.word, rfl, rfl, sqA_t ha1, rfl, rfl, _, rfl, ite2 (fun e => ?_) (fun e => ?_)⟩
      · have ew : r0.word = ("start" : Str) := by injection of_decide_eq_true e
        rw [if_pos ew] at tk
        refine ⟨_, rfl, a0, _, 2, nV r0.place, rfl, rfl, sqA_t ha1, rfl, _, a2, big (by simp only [List.length_map]; omega), ?_, fun c u hc => by rw [upd_ne (ne_of_none hc nD5)]; exact sm _ _ hc⟩
        rw [upd_same, tk, List.map_append, List.map_append]; rfl
      · have ew : ¬ r0.word = ("start" : Str) := fun z => e (by rw [z]; exact decide_eq_true rfl)
        rw [if_neg ew, List.append_nil] at tk
        exact ⟨by rw [tk]; exact a2, sm⟩
    obtain ⟨hD5, s20⟩ := hp
    rw [xlen, List.take_length] at hD5
    have s1120 := s1119.trans s20
    obtain ⟨ba, mm, o, p, os, ps, rfl, hba, hm, ho, hos, hp', hps⟩ := Brd.of (hv11.same s1120)
    have plen : ps.length = B.prog.length := by rw [hps.len, List.length_map]
    refine ⟨_, rfl, ba, _, 2, .ref p, rfl, rfl, sqA_t hba, rfl, p, rfl, .inr ⟨_, sqT_t hp', fun D6 nD6 => ?_⟩⟩
    refine lc_it (walk_tup (xs := ps)) (fun j H' => H' D6 = some (.lst (((B.prog.take j).flatMap startOf).map nV)) ∧ Same H20 H')
      ⟨upd_same, same_new nD6⟩ (fun j H' _ hp => sqT_t (hp.2 _ _ hp')) (fun j x Ha Hb hj hp hy => ?_) (fun H21 hp => ?_)
    · obtain ⟨a2, sm⟩ := hp
      obtain ⟨rfl, hx⟩ := hy
      obtain ⟨dd, hdd2, hpd⟩ := hps.get' hx
      rw [List.getElem?_map] at hdd2
      obtain ⟨d0, hd0, rfl⟩ : ∃ d0, B.prog[j]? = some d0 ∧ d0.d = dd := by simpa using hdd2
      obtain ⟨da, rfl, hda⟩ := Deed.of hpd
      have hda1 := sm _ _ hda
      have tk : (B.prog.take (j + 1)).flatMap startOf = (B.prog.take j).flatMap startOf ++ startOf d0 := by
        rw [List.take_add_one, hd0, Option.toList_some, List.flatMap_append]; simp
      have tl : ((B.prog.take j).flatMap startOf).length ≤ 60 := by
        have : ∀ ds : List Deed, (ds.flatMap startOf).length ≤ ds.length := by
          intro ds
          induction ds with
          | nil => simp
          | cons d r ih =>
            rw [List.flatMap_cons, List.length_append, List.length_cons]
            have : (startOf d).length ≤ 1 := by cases d <;> simp [startOf]
            omega
        have := this (B.prog.take j)
        have := List.length_take_le' j B.prog
        have := ok.sixty
        omega
      refine ⟨rfl, _, rfl, da, _, 0, .str d0.word, rfl, rfl, sqA_t hda1, at0, rfl, _, rfl, ?_⟩
      cases d0 with
      | start k0 =>
        refine iteT ⟨_, rfl, da, _, 1, nV k0, rfl, rfl, sqA_t hda1, rfl, _, a2, fits (by rw [List.length_map]; omega), ?_, fun c u hc => by rw [upd_ne (ne_of_none hc nD6)]; exact sm _ _ hc⟩
        rw [upd_same, tk, List.map_append]; rfl
      | _ =>
        refine iteF ⟨?_, sm⟩
        rw [tk]
        simpa [startOf] using a2
    obtain ⟨hD6, s21⟩ := hp
    rw [plen, List.take_length, ← kp.sp] at hD6
    refine rd_neNats (s21 _ _ hD5) hD6 ⟨_, rfl, iteF ?_⟩
    -- how many beats
    have s1121 := s1120.trans s21
    have hba21 := s21 _ _ hba
    have hp21 := s21 _ _ hp'
    have hD321 := (s20.trans s21) _ _ hD3''
    have hD121 := (s20.trans s21) _ _ hD19
    have b1 := kp.b1
    have b2 := kp.b2
    refine ⟨_, rfl, ba, _, 2, .ref p, rfl, rfl, sqA_t hba21, rfl, p, _, rfl, .inr (sqT_t hp21), _, rfl, _, _, rfl, rfl, _, rfl, ?_⟩
    rw [decide_eq_false (show ¬ ((G.beats : Nat) : Int) < ((ps.length : Nat) : Int) by omega)]
    refine iteF ⟨_, rfl, _, rfl, ba, _, 2, .ref p, rfl, rfl, sqA_t hba21, rfl, p, _, rfl, .inr (sqT_t hp21), _, rfl, D3, _, rfl, .inl (sqL_l hD321), _, _, rfl, rfl, _, _, rfl, rfl, _, rfl, ?_⟩
    rw [decide_eq_false (show ¬ (((ps.length : Nat) : Int) + ((((sel "put" G.rows).map Row.beat).map nV).length : Nat) : Int) < ((G.beats : Nat) : Int) by rw [List.length_map, List.length_map]; omega)]
    refine iteF ⟨_, rfl, Nat.zero_le _, fun E0 nE0 => ?_⟩
    have s22 := same_new (o := .lst []) nE0
    have hBx := hB11.same (s1121.trans s22)
    have hvx := hv11.same (s1121.trans s22)
    have lay0 : ∀ xs : List Nat, PyData.canLayAll0 (pys (xs.map nD)) = true := fun xs => lay_map (fun n => by simp [nD, D.py, PyData.canLay0]) xs
    refine rd_neNil (s22 _ _ hD121) (pds_ns _) (lay0 _) (by rw [dep_ns']; decide) upd_same ⟨_, rfl, ?_⟩
    cases hbe : G.rows.getLast? with
    | none =>
      have : G.rows = [] := List.getLast?_eq_none_iff.mp hbe
      rw [this]
      exact iteF (iteF ⟨_, _, _, _, _, _, _, _, _, _, _, rfl, hBx, hvx⟩)
    | some r9 =>
      have hne : G.rows ≠ [] := fun z => by rw [z] at hbe; cases hbe
      have hpos : 0 < G.rows.length := List.length_pos_iff.mpr hne
      have hr9 : G.rows[G.rows.length - 1]? = some r9 := by rw [← List.getLast?_eq_getElem?]; exact hbe
      have hb9 := kp.le r9 (List.mem_of_getElem? hr9)
      rw [show (!((G.rows.map Row.beat).map nD).isEmpty) = true by
        cases hr : G.rows with
        | nil => exact absurd hr hne
        | cons x r => rfl]
      have atl : atI ((G.rows.map Row.beat).map nV) (-1) = some (nV r9.beat) := by
        have h1 : ((G.rows.map Row.beat).map nV).length = G.rows.length := by simp
        have h2 : ixN ((G.rows.map Row.beat).map nV).length (-1) = some (G.rows.length - 1) := by
          rw [h1]
          unfold ixN
          rw [if_neg (by decide), if_pos (by omega)]
          congr 1; omega
        unfold atI
        rw [h2, Option.bind_some, List.getElem?_map, List.getElem?_map, hr9]; rfl
      refine iteT ⟨_, rfl, _, rfl, D1, _, (-1), nV r9.beat, rfl, rfl, sqA_l (s22 _ _ hD121), atl, _, rfl, _, _, rfl, rfl, _, rfl, ?_⟩
      rw [decide_eq_false (show ¬ ((G.beats : Nat) : Int) < ((r9.beat : Nat) : Int) by omega)]
      exact iteF ⟨_, _, _, _, _, _, _, _, _, _, _, rfl, hBx, hvx⟩
end
end Vt
namespace Vt
open PySem PySem.Spec PyProof.Rows L2
set_option maxHeartbeats 0 in
theorem all_mk {l : PySem.W.OpenLaw} {w : World} {K : PySem.W.Frag} {h : Heap} {mg : Str → Option Value} {fa dd msz C : Addr} {t1 t2 t3 t4 t5 t6 : Tok} (X : K.In h) (G : h.Ns mainGlobals mg) (hfa : mg "law" = some (.ref fa))
    (h_first_wrong_cell : ∃ f, Found K "first_wrong_cell" st_first_wrong_cell f) (h_first_wrong_order : ∃ f, Found K "first_wrong_order" st_first_wrong_order f) (h_order_can_be : ∃ f, Found K "order_can_be" st_order_can_be f) (h_counts_of_things : ∃ f, Found K "counts_of_things" st_counts_of_things f) (h_first_wrong_deed : ∃ f, Found K "first_wrong_deed" st_first_wrong_deed f) (h_deed_can_be : ∃ f, Found K "deed_can_be" st_deed_can_be f) (h_require_board : ∃ f, Found K "require_board" st_require_board f) (h_moves_told : ∃ f, Found K "moves_told" st_moves_told f) (h_run : ∃ f, Found K "run" st_run f) (h_story : ∃ f, Found K "story" st_story f) (h_ended : ∃ f, Found K "ended" st_ended f) (h_law_begun : ∃ f, Found K "_law_begun" st_law_begun f) (h_law_take : ∃ f, Found K "_law_take" st_law_take f) (h_law_order : ∃ f, Found K "_law_order" st_law_order f) (h_law_deed : ∃ f, Found K "_law_deed" st_law_deed f) (h_law_board : ∃ f, Found K "_law_board" st_law_board f) (h_law_moves : ∃ f, Found K "_law_moves" st_law_moves f) (h_law_pace : ∃ f, Found K "_law_pace" st_law_pace f) (h_law_moved : ∃ f, Found K "_law_moved" st_law_moved f) (h_law_bells : ∃ f, Found K "_law_bells" st_law_bells f) (h_law : ∃ f, Found K "law" st_law f)
    (gC : PySem.W.nsIn K mainGlobals "Machine" = some (some (.ref C))) (kC1 : PySem.W.plainGet K C Str.empty = true) (kC2 : PySem.W.hasDictIn K C = true) (kC3 : PySem.W.plainOver K C = true) (kC4 : PySem.W.findIn K (.ref C) "__setattr__" = some (some (.builtin "object.__setattr__")))
    (kC5 : PySem.W.makesIn K C = true) (kC6 : PySem.W.keepIn K (.ref C) = true) (kN1 : PySem.W.findIn K (.ref C) "memory" = some none) (kN2 : PySem.W.findIn K (.ref C) "orders" = some none) (kN3 : PySem.W.findIn K (.ref C) "program" = some none) (kN4 : PySem.W.findIn K (.ref C) "deeds_done" = some none) (kN5 : PySem.W.findIn K (.ref C) "held" = some none) (kN6 : PySem.W.findIn K (.ref C) "touched" = some none) (kN7 : PySem.W.findIn K (.ref C) "left" = some none) (kN8 : PySem.W.findIn K (.ref C) "beats" = some none) (kN9 : PySem.W.findIn K (.ref C) "rows" = some none) (kN10 : PySem.W.findIn K (.ref C) "said" = some none)
    (h_m___init__ : ∃ f, FoundM K C "__init__" "Machine.__init__" st_Machine___init__ f) (h_m_is_over : ∃ f, FoundM K C "is_over" "Machine.is_over" st_Machine_is_over f) (h_m_do_next_deed : ∃ f, FoundM K C "do_next_deed" "Machine.do_next_deed" st_Machine_do_next_deed f) (h_m_do_deed : ∃ f, FoundM K C "do_deed" "Machine.do_deed" st_Machine_do_deed f) (h_m_move_one : ∃ f, FoundM K C "move_one" "Machine.move_one" st_Machine_move_one f) (h_m_end_beat : ∃ f, FoundM K C "end_beat" "Machine.end_beat" st_Machine_end_beat f) (h_m_clean_all : ∃ f, FoundM K C "clean_all" "Machine.clean_all" st_Machine_clean_all f) (h_m_line_of : ∃ f, FoundM K C "line_of" "Machine.line_of" st_Machine_line_of f) (h_m_read_cell : ∃ f, FoundM K C "read_cell" "Machine.read_cell" st_Machine_read_cell f) (h_m_write_cell : ∃ f, FoundM K C "write_cell" "Machine.write_cell" st_Machine_write_cell f) (h_m_clean_line : ∃ f, FoundM K C "clean_line" "Machine.clean_line" st_Machine_clean_line f) (h_m_drop_line : ∃ f, FoundM K C "drop_line" "Machine.drop_line" st_Machine_drop_line f) (h_m_tell : ∃ f, FoundM K C "tell" "Machine.tell" st_Machine_tell f)
    (g1 : PySem.W.nsIn K mainGlobals "LINE" = some (some (.int 4 t1))) (g2 : PySem.W.nsIn K mainGlobals "NUMBERS" = some (some (.int 10 t2))) (g3 : PySem.W.nsIn K mainGlobals "MOST_ORDERS" = some (some (.int 4 t3))) (g4 : PySem.W.nsIn K mainGlobals "MOST_MOVED" = some (some (.int 8 t4))) (g5 : PySem.W.nsIn K mainGlobals "MOST_DEEDS" = some (some (.int 60 t5))) (g6 : PySem.W.nsIn K mainGlobals "MOST_STARTS" = some (some (.int 3 t6)))
    (g7 : PySem.W.nsIn K mainGlobals "MEMORY_SIZES" = some (some (.ref msz))) (g8 : KTup K msz [.int 4, .int 8, .int 12, .int 16]) (g9 : PySem.W.nsIn K mainGlobals "DEEDS" = some (some (.ref dd))) (Kd : mg "DEEDS" = some (.ref dd) → Kinds K w mg dd)
    (z_len : PySem.W.nsIn K mainGlobals "len" = some none) (z_enumerate : PySem.W.nsIn K mainGlobals "enumerate" = some none) (z_all : PySem.W.nsIn K mainGlobals "all" = some none) (z_zip : PySem.W.nsIn K mainGlobals "zip" = some none) (z_range : PySem.W.nsIn K mainGlobals "range" = some none) (z_list : PySem.W.nsIn K mainGlobals "list" = some none) (z_tuple : PySem.W.nsIn K mainGlobals "tuple" = some none) (z_int : PySem.W.nsIn K mainGlobals "int" = some none) (z_min : PySem.W.nsIn K mainGlobals "min" = some none) (z_bool : PySem.W.nsIn K mainGlobals "bool" = some none) (z_str : PySem.W.nsIn K mainGlobals "str" = some none) (z_isinstance : PySem.W.nsIn K mainGlobals "isinstance" = some none) (z_set : PySem.W.nsIn K mainGlobals "set" = some none) (z_sorted : PySem.W.nsIn K mainGlobals "sorted" = some none) :
    ∃ fd : FuncData, (∀ (s : Shared) (v : Value), BindsTo s fd ⟨[v], []⟩ [("_law_script", v)]) ∧ ∀ base : Heap, K.In base → base.Ns mainGlobals mg → FnOk l.prog w K mg base CX0 8 fa fd ["_law_script"] (spLaw K) := by
  have n := fun {x : Str} (z : PySem.W.nsIn K mainGlobals x = some none) => PySem.W.mg_none_of X G z
  have Kd' := Kd (PySem.W.mg_of X G g9)
  have C_ : Consts K mg := ⟨⟨_, PySem.W.mg_of X G g1⟩, ⟨_, PySem.W.mg_of X G g2⟩, ⟨_, PySem.W.mg_of X G g3⟩, ⟨_, PySem.W.mg_of X G g4⟩, ⟨_, PySem.W.mg_of X G g5⟩, ⟨_, PySem.W.mg_of X G g6⟩, ⟨_, PySem.W.mg_of X G g7, g8⟩⟩
  obtain ⟨f, oc, od, kV, doc, pm, an, cdv, ct, osl, la, ll, lc, lk⟩ := h_law
  have e := hfa.symm.trans (PySem.W.mg_of X G la)
  cases e
  refine ⟨PySem.W.fnOf "law" "law" (defArgs st_law) (defBody st_law) (defScope st_law) .none kV doc pm an cdv ct, fun s v => .of_eq rfl, fun base _ _ => ?_⟩
  have cl : Cls K C := ⟨kC1, kC2, kC3, kC4⟩
  have mc : MC K C := ⟨cl, List.forall_mem_cons.mpr ⟨kN1, List.forall_mem_cons.mpr ⟨kN2, List.forall_mem_cons.mpr ⟨kN3, List.forall_mem_cons.mpr ⟨kN4, List.forall_mem_cons.mpr ⟨kN5, List.forall_mem_cons.mpr ⟨kN6, List.forall_mem_cons.mpr ⟨kN7, List.forall_mem_cons.mpr ⟨kN8, List.forall_mem_cons.mpr ⟨kN9, List.forall_mem_cons.mpr ⟨kN10, fun _ h => by cases h⟩⟩⟩⟩⟩⟩⟩⟩⟩⟩⟩
  have c_take : Callee l.prog w K mg base "_law_take" 1 2 spTake := callee_mk X G h_law_take (fun f fd F => ok_take F) (fun _ _ _ _ _ _ us hl => match us, hl with | [_, _], _ => rfl)
  have c_order : Callee l.prog w K mg base "_law_order" 2 4 spOrder := callee_mk X G h_law_order (fun f fd F => ok_order F c_take (n z_min)) (fun _ _ _ _ _ _ us hl => match us, hl with | [_, _, _, _], _ => rfl)
  have c_deed : Callee l.prog w K mg base "_law_deed" 2 4 spDeed := callee_mk X G h_law_deed (fun f fd F => ok_deed F c_take (n z_len) (n z_int)) (fun _ _ _ _ _ _ us hl => match us, hl with | [_, _, _, _], _ => rfl)
  have c_board : Callee l.prog w K mg base "_law_board" 3 4 spBoard := callee_mk X G h_law_board (fun f fd F => ok_board F c_take c_order c_deed (n z_len) (n z_tuple) (n z_range)) (fun _ _ _ _ _ _ us hl => match us, hl with | [_, _, _, _], _ => rfl)
  have c_lmoves : Callee l.prog w K mg base "_law_moves" 1 2 spMoves := callee_mk X G h_law_moves (fun f fd F => ok_lmoves F (n z_range) (n z_int)) (fun _ _ _ _ _ _ us hl => match us, hl with | [_, _], _ => rfl)
  have c_begun : Callee l.prog w K mg base "_law_begun" 1 1 (spBegun K) := callee_mk X G h_law_begun (fun f fd F => ok_begun F (n z_len) (n z_int) (n z_list)) (fun _ _ _ _ _ _ us hl => match us, hl with | [_], _ => rfl)
  have c_fwc : Callee l.prog w K mg base "first_wrong_cell" 1 1 spFwCell := callee_mk X G h_first_wrong_cell (fun f fd F => ok_fwcell F C_ (n z_len) (n z_enumerate)) (fun _ _ _ _ _ _ us hl => match us, hl with | [_], _ => rfl)
  have c_oc : Callee l.prog w K mg base "order_can_be" 1 4 spOrdCan := callee_mk X G h_order_can_be (fun f fd F => ok_ordcan F C_) (fun _ _ _ _ _ _ us hl => match us, hl with | [_, _, _, _], _ => rfl)
  have c_fwo : Callee l.prog w K mg base "first_wrong_order" 2 2 spFwOrd := callee_mk X G h_first_wrong_order (fun f fd F => ok_fword F C_ c_oc (n z_len) (n z_enumerate)) (fun _ _ _ _ _ _ us hl => match us, hl with | [_, _], _ => rfl)
  have c_dc : Callee l.prog w K mg base "deed_can_be" 1 2 (spDeedCan K w dd) := callee_mk X G h_deed_can_be (fun f fd F => ok_deedcan F Kd' (n z_len) (n z_all) (n z_zip)) (fun _ _ _ _ _ _ us hl => match us, hl with | [_, _], _ => rfl)
  have c_counts : Callee l.prog w K mg base "counts_of_things" 1 2 spCounts := callee_mk X G h_counts_of_things (fun f fd F => ok_counts F C_) (fun _ _ _ _ _ _ us hl => match us, hl with | [_, _], _ => rfl)
  have c_fwd : Callee l.prog w K mg base "first_wrong_deed" 2 3 (spFwDeed K w dd) := callee_mk X G h_first_wrong_deed (fun f fd F => ok_fwdeed F C_ c_dc c_counts (n z_enumerate)) (fun _ _ _ _ _ _ us hl => match us, hl with | [_, _, _], _ => rfl)
  have c_req : Callee l.prog w K mg base "require_board" 3 1 spReq := callee_mk X G h_require_board (fun f fd F => ok_req F c_fwc c_fwo c_fwd (n z_len)) (fun _ _ _ _ _ _ us hl => match us, hl with | [_], _ => rfl)
  have c_moves : Callee l.prog w K mg base "moves_told" 1 2 spMoves := callee_mk X G h_moves_told (fun f fd F => ok_moves F (n z_range)) (fun _ _ _ _ _ _ us hl => match us, hl with | [_, _], _ => rfl)
  have c_law_pace : Callee l.prog w K mg base "_law_pace" 2 1 spPace := callee_mk X G h_law_pace (fun f fd F => ok_pace F c_take (n z_int) (n z_range)) (fun _ _ _ _ _ _ us hl => match us, hl with | [_], _ => rfl)
  have m_tell : MCallee l.prog w K mg base C "tell" 1 (spTell C) := mcallee_mk cl h_m_tell (fun f fd F => ok_tell F mc) (fun _ _ _ _ _ _ us hl => match us, hl with | [_, _, _, _], _ => rfl)
  have m_line_of : MCallee l.prog w K mg base C "line_of" 2 (spLineOf C) := mcallee_mk cl h_m_line_of (fun f fd F => ok_lineof F mc C_ m_tell) (fun _ _ _ _ _ _ us hl => match us, hl with | [_, _], _ => rfl)
  have m_read_cell : MCallee l.prog w K mg base C "read_cell" 3 (spReadCell C) := mcallee_mk cl h_m_read_cell (fun f fd F => ok_readcell F mc C_ m_tell m_line_of) (fun _ _ _ _ _ _ us hl => match us, hl with | [_, _], _ => rfl)
  have m_write_cell : MCallee l.prog w K mg base C "write_cell" 3 (spWriteCell C) := mcallee_mk cl h_m_write_cell (fun f fd F => ok_writecell F mc C_ m_tell m_line_of) (fun _ _ _ _ _ _ us hl => match us, hl with | [_, _, _], _ => rfl)
  have m_clean_line : MCallee l.prog w K mg base C "clean_line" 2 (spCleanLine C) := mcallee_mk cl h_m_clean_line (fun f fd F => ok_cleanline F mc C_ m_tell) (fun _ _ _ _ _ _ us hl => match us, hl with | [_, _], _ => rfl)
  have m_drop_line : MCallee l.prog w K mg base C "drop_line" 2 (spDropLine C) := mcallee_mk cl h_m_drop_line (fun f fd F => ok_dropline F mc m_tell) (fun _ _ _ _ _ _ us hl => match us, hl with | [_, _], _ => rfl)
  have m_move_one : MCallee l.prog w K mg base C "move_one" 2 (spMoveOne C) := mcallee_mk cl h_m_move_one (fun f fd F => ok_moveone F mc m_tell) (fun _ _ _ _ _ _ us hl => match us, hl with | [_], _ => rfl)
  have m_end_beat : MCallee l.prog w K mg base C "end_beat" 1 (spEndBeat C) := mcallee_mk cl h_m_end_beat (fun f fd F => ok_endbeat F mc) (fun _ _ _ _ _ _ us hl => match us, hl with | [_], _ => rfl)
  have m_is_over : MCallee l.prog w K mg base C "is_over" 1 (spIsOver C) := mcallee_mk cl h_m_is_over (fun f fd F => ok_isover F mc (n z_len)) (fun _ _ _ _ _ _ us hl => match us, hl with | [_], _ => rfl)
  have m_clean_all : MCallee l.prog w K mg base C "clean_all" 3 (spCleanAll C) := mcallee_mk cl h_m_clean_all (fun f fd F => ok_cleanall F mc m_clean_line (n z_len) (n z_range)) (fun _ _ _ _ _ _ us hl => match us, hl with | [_], _ => rfl)
  have m_do_deed : MCallee l.prog w K mg base C "do_deed" 4 (spDoDeed C) := mcallee_mk cl h_m_do_deed (fun f fd F => ok_dodeed F mc C_ m_tell m_read_cell m_write_cell m_clean_line m_drop_line c_moves) (fun _ _ _ _ _ _ us hl => match us, hl with | [_, _], _ => rfl)
  have m_do_next_deed : MCallee l.prog w K mg base C "do_next_deed" 5 (spNext C) := mcallee_mk cl h_m_do_next_deed (fun f fd F => ok_next F mc m_do_deed (n z_len)) (fun _ _ _ _ _ _ us hl => match us, hl with | [_], _ => rfl)
  have k_Machine : Maker l.prog w K mg base "Machine" C 1 (spInit C) := maker_mk (PySem.W.mg_of X G gC) kC5 kC6 h_m___init__ (fun f fd F => ok_init F mc C_ (n z_list) (n z_len)) (fun _ _ _ _ _ _ us hl => match us, hl with | [_, _], _ => rfl)
  have c_run : Callee l.prog w K mg base "run" 6 2 (spRunM C) := callee_mk X G h_run (fun f fd F => ok_runM F mc c_req k_Machine m_is_over m_do_next_deed m_move_one m_end_beat m_clean_all (n z_len)) (fun _ _ _ _ _ _ us hl => match us, hl with | [_, _], _ => rfl)
  have c_story : Callee l.prog w K mg base "story" 7 2 spStory := callee_mk X G h_story (fun f fd F => ok_story F mc c_run) (fun _ _ _ _ _ _ us hl => match us, hl with | [_, _], _ => rfl)
  have c_ended : Callee l.prog w K mg base "ended" 7 2 spEnded := callee_mk X G h_ended (fun f fd F => ok_ended F mc c_run (n z_tuple)) (fun _ _ _ _ _ _ us hl => match us, hl with | [_, _], _ => rfl)
  have c_lmoved : Callee l.prog w K mg base "_law_moved" 2 2 spLMoved := callee_mk X G h_law_moved (fun f fd F => ok_lmoved F c_lmoves (n z_len)) (fun _ _ _ _ _ _ us hl => match us, hl with | [_, _], _ => rfl)
  have c_lbells : Callee l.prog w K mg base "_law_bells" 2 2 spLBells := callee_mk X G h_law_bells (fun f fd F => ok_lbells F c_lmoves) (fun _ _ _ _ _ _ us hl => match us, hl with | [_, _], _ => rfl)
  exact ok_law (fun_mk (st := st_law) ll lc lk) c_begun c_take c_board c_law_pace c_lmoved c_lbells c_story c_ended (n z_range) (n z_int) (n z_len) (n z_set) (n z_sorted)
end Vt
open PySem PySem.W PyProof.Rows
set_option maxHeartbeats 0 in
theorem PySem.Challenge.cw_blockcarrier_k05_whole_each_cell_once_holds : PySem.Challenge.rw_blockcarrier_k05_whole_each_cell_once.Holds := by
  w_on; o_law; k_head; (case hw => w_witness2)
  k_fill
  refine L2.walk_of (l := PySem.Challenge.rw_blockcarrier_k05_whole_each_cell_once) (n := 63) (k := 8) (x := "_law_script") (CX := fun _ => L2.CX0) (sp := fun w => Vt.spLaw _) rfl (by decide) rfl ⟨rfl, by decide, by decide⟩ (fun w h Y => PySem.W.kIn_of Y) ?F (fun _ _ a ns hl _ hS => ⟨a, ns, rfl, hS, hl, fun _ => rfl⟩) (fun _ _ _ _ _ h => h)
  case F =>
    intro w mg fa h KX G hmg
    refine' Vt.all_mk KX G hmg ?h_first_wrong_cell ?h_first_wrong_order ?h_order_can_be ?h_counts_of_things ?h_first_wrong_deed ?h_deed_can_be ?h_require_board ?h_moves_told ?h_run ?h_story ?h_ended ?h_law_begun ?h_law_take ?h_law_order ?h_law_deed ?h_law_board ?h_law_moves ?h_law_pace ?h_law_moved ?h_law_bells ?h_law ?gC ?kC1 ?kC2 ?kC3 ?kC4 ?kC5 ?kC6 ?kN1 ?kN2 ?kN3 ?kN4 ?kN5 ?kN6 ?kN7 ?kN8 ?kN9 ?kN10 ?h_m___init__ ?h_m_is_over ?h_m_do_next_deed ?h_m_do_deed ?h_m_move_one ?h_m_end_beat ?h_m_clean_all ?h_m_line_of ?h_m_read_cell ?h_m_write_cell ?h_m_clean_line ?h_m_drop_line ?h_m_tell ?g1 ?g2 ?g3 ?g4 ?g5 ?g6 ?g7 ?g8 ?g9 ?g10 ?z_len ?z_enumerate ?z_all ?z_zip ?z_range ?z_list ?z_tuple ?z_int ?z_min ?z_bool ?z_str ?z_isinstance ?z_set ?z_sorted
    (case h_first_wrong_cell => (refine' Vt.found_mk ?a ?l ?c ?k; (case a => k_is); (case l => k_is); (case c => k_is); (case k => k_is)))
    (case h_first_wrong_order => (refine' Vt.found_mk ?a ?l ?c ?k; (case a => k_is); (case l => k_is); (case c => k_is); (case k => k_is)))
    (case h_order_can_be => (refine' Vt.found_mk ?a ?l ?c ?k; (case a => k_is); (case l => k_is); (case c => k_is); (case k => k_is)))
    (case h_counts_of_things => (refine' Vt.found_mk ?a ?l ?c ?k; (case a => k_is); (case l => k_is); (case c => k_is); (case k => k_is)))
    (case h_first_wrong_deed => (refine' Vt.found_mk ?a ?l ?c ?k; (case a => k_is); (case l => k_is); (case c => k_is); (case k => k_is)))
    (case h_deed_can_be => (refine' Vt.found_mk ?a ?l ?c ?k; (case a => k_is); (case l => k_is); (case c => k_is); (case k => k_is)))
    (case h_require_board => (refine' Vt.found_mk ?a ?l ?c ?k; (case a => k_is); (case l => k_is); (case c => k_is); (case k => k_is)))
    (case h_moves_told => (refine' Vt.found_mk ?a ?l ?c ?k; (case a => k_is); (case l => k_is); (case c => k_is); (case k => k_is)))
    (case h_run => (refine' Vt.found_mk ?a ?l ?c ?k; (case a => k_is); (case l => k_is); (case c => k_is); (case k => k_is)))
    (case h_story => (refine' Vt.found_mk ?a ?l ?c ?k; (case a => k_is); (case l => k_is); (case c => k_is); (case k => k_is)))
    (case h_ended => (refine' Vt.found_mk ?a ?l ?c ?k; (case a => k_is); (case l => k_is); (case c => k_is); (case k => k_is)))
    (case h_law_begun => (refine' Vt.found_mk ?a ?l ?c ?k; (case a => k_is); (case l => k_is); (case c => k_is); (case k => k_is)))
    (case h_law_take => (refine' Vt.found_mk ?a ?l ?c ?k; (case a => k_is); (case l => k_is); (case c => k_is); (case k => k_is)))
    (case h_law_order => (refine' Vt.found_mk ?a ?l ?c ?k; (case a => k_is); (case l => k_is); (case c => k_is); (case k => k_is)))
    (case h_law_deed => (refine' Vt.found_mk ?a ?l ?c ?k; (case a => k_is); (case l => k_is); (case c => k_is); (case k => k_is)))
    (case h_law_board => (refine' Vt.found_mk ?a ?l ?c ?k; (case a => k_is); (case l => k_is); (case c => k_is); (case k => k_is)))
    (case h_law_moves => (refine' Vt.found_mk ?a ?l ?c ?k; (case a => k_is); (case l => k_is); (case c => k_is); (case k => k_is)))
    (case h_law_pace => (refine' Vt.found_mk ?a ?l ?c ?k; (case a => k_is); (case l => k_is); (case c => k_is); (case k => k_is)))
    (case h_law_moved => (refine' Vt.found_mk ?a ?l ?c ?k; (case a => k_is); (case l => k_is); (case c => k_is); (case k => k_is)))
    (case h_law_bells => (refine' Vt.found_mk ?a ?l ?c ?k; (case a => k_is); (case l => k_is); (case c => k_is); (case k => k_is)))
    (case h_law => (refine' Vt.found_mk ?a ?l ?c ?k; (case a => k_is); (case l => k_is); (case c => k_is); (case k => k_is)))
    (case gC => k_is); (case kC1 => k_is); (case kC2 => k_is); (case kC3 => k_is); (case kC4 => k_is); (case kC5 => k_is); (case kC6 => k_is); (case kN1 => k_is); (case kN2 => k_is); (case kN3 => k_is); (case kN4 => k_is); (case kN5 => k_is); (case kN6 => k_is); (case kN7 => k_is); (case kN8 => k_is); (case kN9 => k_is); (case kN10 => k_is)
    (case h_m___init__ => (refine' Vt.foundm_mk ?a ?l ?c ?k ?i; (case a => k_is); (case l => k_is); (case c => k_is); (case k => k_is); (case i => k_is)))
    (case h_m_is_over => (refine' Vt.foundm_mk ?a ?l ?c ?k ?i; (case a => k_is); (case l => k_is); (case c => k_is); (case k => k_is); (case i => k_is)))
    (case h_m_do_next_deed => (refine' Vt.foundm_mk ?a ?l ?c ?k ?i; (case a => k_is); (case l => k_is); (case c => k_is); (case k => k_is); (case i => k_is)))
    (case h_m_do_deed => (refine' Vt.foundm_mk ?a ?l ?c ?k ?i; (case a => k_is); (case l => k_is); (case c => k_is); (case k => k_is); (case i => k_is)))
    (case h_m_move_one => (refine' Vt.foundm_mk ?a ?l ?c ?k ?i; (case a => k_is); (case l => k_is); (case c => k_is); (case k => k_is); (case i => k_is)))
    (case h_m_end_beat => (refine' Vt.foundm_mk ?a ?l ?c ?k ?i; (case a => k_is); (case l => k_is); (case c => k_is); (case k => k_is); (case i => k_is)))
    (case h_m_clean_all => (refine' Vt.foundm_mk ?a ?l ?c ?k ?i; (case a => k_is); (case l => k_is); (case c => k_is); (case k => k_is); (case i => k_is)))
    (case h_m_line_of => (refine' Vt.foundm_mk ?a ?l ?c ?k ?i; (case a => k_is); (case l => k_is); (case c => k_is); (case k => k_is); (case i => k_is)))
    (case h_m_read_cell => (refine' Vt.foundm_mk ?a ?l ?c ?k ?i; (case a => k_is); (case l => k_is); (case c => k_is); (case k => k_is); (case i => k_is)))
    (case h_m_write_cell => (refine' Vt.foundm_mk ?a ?l ?c ?k ?i; (case a => k_is); (case l => k_is); (case c => k_is); (case k => k_is); (case i => k_is)))
    (case h_m_clean_line => (refine' Vt.foundm_mk ?a ?l ?c ?k ?i; (case a => k_is); (case l => k_is); (case c => k_is); (case k => k_is); (case i => k_is)))
    (case h_m_drop_line => (refine' Vt.foundm_mk ?a ?l ?c ?k ?i; (case a => k_is); (case l => k_is); (case c => k_is); (case k => k_is); (case i => k_is)))
    (case h_m_tell => (refine' Vt.foundm_mk ?a ?l ?c ?k ?i; (case a => k_is); (case l => k_is); (case c => k_is); (case k => k_is); (case i => k_is)))
    (case g1 => k_is); (case g2 => k_is); (case g3 => k_is); (case g4 => k_is); (case g5 => k_is); (case g6 => k_is); (case g7 => k_is)
    (case z_len => k_is); (case z_enumerate => k_is); (case z_all => k_is); (case z_zip => k_is); (case z_range => k_is); (case z_list => k_is); (case z_tuple => k_is); (case z_int => k_is); (case z_min => k_is); (case z_bool => k_is); (case z_str => k_is); (case z_isinstance => k_is); (case z_set => k_is); (case z_sorted => k_is)
    case g8 => exact Vt.ktup_mk (by k_is) (by decide) (.cons ⟨_, rfl⟩ (.cons ⟨_, rfl⟩ (.cons ⟨_, rfl⟩ (.cons ⟨_, rfl⟩ .nil))))
    case g9 => k_is
    case g10 =>
      intro m
      refine' Vt.kinds_mk m ?low ?l ?kl ?a1 ?a2 ?a3 ?a4 ?a5 ?a6 ?a7 ?t1 ?t2 ?t3 ?t4 ?t5 ?t6 ?t7
      (case low => decide)
      (case l => k_is)
      (case a1 => k_is); (case a2 => k_is); (case a3 => k_is); (case a4 => k_is); (case a5 => k_is); (case a6 => k_is); (case a7 => k_is)
      (case t1 => exact Vt.ktup_mk (by k_is) (by decide) (.cons ⟨_, rfl⟩ (.cons ⟨_, rfl⟩ .nil)))
      (case t2 => exact Vt.ktup_mk (by k_is) (by decide) (.cons ⟨_, rfl⟩ (.cons ⟨_, rfl⟩ .nil)))
      (case t3 => exact Vt.ktup_mk (by k_is) (by decide) (.cons ⟨_, rfl⟩ .nil))
      (case t4 => exact Vt.ktup_mk (by k_is) (by decide) (.cons ⟨_, rfl⟩ .nil))
      (case t5 => exact Vt.ktup_mk (by k_is) (by decide) .nil)
      (case t6 => exact Vt.ktup_mk (by k_is) (by decide) (.cons ⟨_, rfl⟩ .nil))
      (case t7 => exact Vt.ktup_mk (by k_is) (by decide) (.cons ⟨_, rfl⟩ .nil))
      case kl => exact ⟨⟨_, _, rfl, rfl⟩, ⟨_, _, rfl, rfl⟩, ⟨_, _, rfl, rfl⟩, ⟨_, _, rfl, rfl⟩, ⟨_, _, rfl, rfl⟩, ⟨_, _, rfl, rfl⟩, ⟨_, _, rfl, rfl⟩, trivial⟩
