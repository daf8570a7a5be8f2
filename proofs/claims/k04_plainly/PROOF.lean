import PyProof.Rows.All
import Wide.All
import OpenK.AllK
import Wide.FinOn
import HandS.ForMost
import HandS.IsInst
import HandS.Zip
import HandS.Walk
import HandS.WrittenGet
import HandS.TupAny
import HandS.SetFor
import KE.GoesNew
import KE.KUnpackStar
import PySem.Challenge.RW_blockcarrier_k04_plainly
set_option Elab.async false
set_option linter.all false
set_option maxRecDepth 100000
namespace Vt
open PySem PySem.Spec PyProof.Rows L2
def topS (i : Nat) : Stmt := PySem.Challenge.pw_blockcarrier_k04_plainly.main.body.getD i (.Pass ⟨0, 0, 0, 0⟩)
end Vt
namespace Vt
open PySem PySem.Spec PyProof.Rows L2
/-! ### calls of own defs by what they promise -/
structure Callee (P : Program) (w : World) (K : PySem.W.Frag) (mg : Str → Option Value) (base : Heap) (x : Str) (k : Nat) (n : Nat) (sp : Sp) : Prop where
  ex : ∃ (f : Addr) (fd : FuncData) (ps : List Str), FnOk P w K mg base CX0 k f fd ps sp ∧ mg x = some (.ref f) ∧ PySem.W.keepIn K (.ref f) = true ∧ Binds K fd ps []
section
variable {X : Cx} {x : Str} {k j n : Nat} {sp : Sp} {p pos : Pos} {e : Expr} {es : List Expr} {t : TA}
theorem pe_cal (C : Callee X.prog X.w X.K X.mg X.base x k n sp) (hr : Room j X.A) (hk : k ≤ j) (ha : PA X (e :: es) t) (hg : Gl X x := by rfl)
    (hdb : (x == ("__debug__" : Str)) = false := by decide) (he : starEach (e :: es) X.env = (false, eval e X.env) :: starEach es X.env := by rfl) (hpl : (backTo pos (starEach es X.env)).any (·.1) = false := by rfl) :
    PE X (.Call (.Name x p) (e :: es) [] pos) (tCall sp [] E0 t) := by
  have ⟨f, fd, ps, F, hm, hkp, hb⟩ := C.ex
  exact pe_call F (hr.mono hk) hg hm hkp hb .nil pass0 ha hdb he hpl
theorem pe_cal0 (C : Callee X.prog X.w X.K X.mg X.base x k n sp) (hr : Room j X.A) (hk : k ≤ j) (hg : Gl X x := by rfl)
    (hdb : (x == ("__debug__" : Str)) = false := by decide) : PE X (.Call (.Name x p) [] [] pos) (tCall sp [] E0 tNil) := by
  have ⟨f, fd, ps, F, hm, hkp, hb⟩ := C.ex
  exact pe_call0 F (hr.mono hk) hg hm hkp hb .nil pass0 hdb
end
/-- a statement, then the rest, with a word between them -/
def tCut (t u : TS) : TS := fun D σ H => ∃ Mid : L2.St → Hp → Prop, t { D with nx := Mid } σ H ∧ ∀ σ' H', Mid σ' H' → u D σ' H'
theorem pss_cut {X : Cx} {st : Stmt} {rest : List Stmt} {t u : TS} (h1 : PS X st t) (h2 : PSs X rest u) : PSs X (st :: rest) (tCut t u) := by
  refine ⟨fun pins s σ H D I h => ?_⟩
  obtain ⟨Mid, hm, hu⟩ := h
  refine wpAny_execs_cons (thn (h1.run pins s σ H { D with nx := Mid } I hm) fun f s1 q => ?_)
  cases f with
  | next =>
    obtain ⟨σ', H', I', q⟩ := q
    exact h2.run pins s1 σ' H' D I' (hu σ' H' q)
  | ret v => exact q
  | brk => exact q
  | cont => exact q
/-! ### lists or tuples -/
def SqA (K : PySem.W.Frag) (H : Hp) (a : Addr) (xs : List V) : Prop := SqL K H a xs ∨ SqT K H a xs
def rIxLT (K : PySem.W.Frag) : R2 := fun x y H Q => ∃ p xs i v, x = .ref p ∧ y = .int i ∧ SqA K H p xs ∧ atI xs i = some v ∧ Q v H
section
variable {X : Cx} {tg l : Expr} {tl : TE}
theorem ix_lt : IxR X (rIxLT X.K) := by
  intro value slice pins s σ H x y v u Q I rx ry h hs
  obtain ⟨p, xs, i, z, ex, ey, hq | hq, he, q⟩ := h
  · exact ix_list value slice pins s σ H x y v u Q I rx ry ⟨p, xs, i, z, ex, ey, hq, he, q⟩ hs
  · exact ix_tup value slice pins s σ H x y v u Q I rx ry ⟨p, xs, i, z, ex, ey, hq, he, q⟩ hs
theorem ix_ltk (K : PySem.W.Frag) (h : X.K = K := by rfl) : IxR X (rIxLT K) := by
  subst h
  exact ix_lt
def iLT (K : PySem.W.Frag) (tl : TE) : TI := fun σ H R => tl σ H fun x H1 => ∃ a, x = .ref a ∧ ((∃ xs, SqL K H1 a xs ∧ R (Itl K a) H1) ∨ ∃ xs, SqT K H1 a xs ∧ R (Itt K a) H1)
theorem pi_lt (hl : PE X l tl) : PI X tg l (iLT X.K tl) := by
  refine ⟨fun pins s σ H R I h => ?_⟩
  refine thn (hl.run pins s σ H _ I h) fun v s1 ⟨x, H1, I1, r1, q1⟩ => ?_
  obtain ⟨a, e, q⟩ := q1
  subst e
  cases r1
  rcases q with ⟨xs, hq, q⟩ | ⟨xs, hq, q⟩
  · obtain ⟨its, rv, p, hz⟩ := I1.list hq
    refine wpAny_pyIter_list p.isList ?_
    refine ⟨s1.heap.objs.size, [s1.heap.objs.size], _, _, H1, rfl, I1.kept (t' := s1.toks) fun b o e => Heap.get?_push_of_some _ e, turn_list a _, ⟨_, Heap.get?_push_size _ rfl, rfl, rfl⟩, fun b hb => ?_, q⟩
    have e : b = s1.heap.objs.size := by simpa using hb
    subst e
    exact I1.fpOk (Nat.le_refl _) (I1.hok.fresh (Nat.le_refl _))
  · obtain ⟨its, rv, p, hz⟩ := I1.tuple hq
    refine wpAny_pyIter_tuple (show s1.heap.IsTuple a its.toArray from p) ?_
    refine ⟨s1.heap.objs.size, [s1.heap.objs.size], _, _, H1, rfl, I1.kept (t' := s1.toks) fun b o e => Heap.get?_push_of_some _ e, turn_tuple a _, ⟨_, Heap.get?_push_size _ rfl, rfl, rfl⟩, fun b hb => ?_, q⟩
    have e : b = s1.heap.objs.size := by simpa using hb
    subst e
    exact I1.fpOk (Nat.le_refl _) (I1.hok.fresh (Nat.le_refl _))
end
theorem pg_tupk {X : Cx} (K : PySem.W.Frag) {es : List Expr} {k n : Nat} {pos : Pos} {t : TGs} (hc : X.calm = true) (h : PGs X es t) (hK : X.K = K := by rfl)
    (hn : (assignEach es X.env).length = n := by rfl) (hst : (assignEach es X.env).findIdx? (·.1) = none := by rfl) : PG X (.Tuple es k pos) (gTup K n t) := by
  subst hK
  exact pg_tup hc h hn hst
/-! ### enumerate(tuple) -/
theorem meets_enumT {v : Value} {o : Obj} {H : Heap → Prop} (B : Begins v o H) :
    Meets (Builtin.«enumerate.__new__» ⟨[.type "enumerate", v], []⟩) (fun _ R s => H s.heap ∧
      R (.ok (.ret (.ref (s.heap.push o).objs.size))) { s with heap := (s.heap.push o).push { cls := .type "enumerate", data := .fields #[.none, .bool false, .ref s.heap.objs.size, rawInt 0, .none, .none] } }) :=
  .of_wp fun prog w A R s h => by
    obtain ⟨hp, g, d, tk, os⟩ := s; obtain ⟨h1, h⟩ := h
    have hsub := sub_enumerate
    have q1 : ∀ {A E Q}, Q (.ref (Shared.heap ⟨hp, g, d, tk, os⟩).objs.size) ⟨hp.push o, g, d, tk, os⟩ → wpAny (model prog w) A (pyIter v) Q E ⟨hp, g, d, tk, os⟩ := fun {A E Q} q => B.iter prog w A E _ Q h1 q
    wp_walk using q1
    refine wpAny_stack_any fun st => wpAny_pure ?_
    split
    · rename_i c _ _ _ _ _
      cases (c == Value.type "enumerate")
      · wp_walk using q1
        exact ⟨_, rfl, h⟩
      · wp_walk using q1
        exact ⟨_, rfl, h⟩
    · wp_walk using q1
      exact ⟨_, rfl, h⟩
section
variable {prog : Program} {w : World} {A : Around} {E : Value → Shared → Prop} {s : Shared}
theorem call_enumB {v : Value} {o : Obj} {H : Heap → Prop} {Q : Value → Shared → Prop} (B : Begins v o H) (h1 : H s.heap)
    (h : ∀ h', IsEnum h' (s.heap.objs.size + 1) s.heap.objs.size 0 .none → h'.get? s.heap.objs.size = some o → h'.objs.size = s.heap.objs.size + 2 →
      (∀ b o, s.heap.get? b = some o → h'.get? b = some o) → Q (.ref (s.heap.objs.size + 1)) { s with heap := h' }) :
    wpAny (model prog w) A (call (.type "enumerate") [v]) Q E s := by
  refine callType_new F.called_enumerate (by decide) (F.typeCall_enumerate_1 _) (F.newCall_enumerate_1 _) (fun obj => F.args_object_init_2 obj _) F.entry_enumerate_new
    (meets_enumT B) ⟨h1, ?_⟩
  have hz : (s.heap.push o).objs.size = s.heap.objs.size + 1 := Heap.size_push ..
  show _ ∧ _
  rw [hz]
  have he : IsEnum ((s.heap.push o).push { cls := .type "enumerate", data := .fields #[.none, .bool false, .ref s.heap.objs.size, rawInt 0, .none, .none] }) (s.heap.objs.size + 1) s.heap.objs.size 0 .none := by
    have := Heap.get?_push_size (s.heap.push o) (o := { cls := .type "enumerate", data := .fields #[.none, .bool false, .ref s.heap.objs.size, rawInt 0, .none, .none] }) rfl
    rw [hz] at this; exact this
  refine ⟨⟨_, he, rfl⟩, h _ he (Heap.get?_push_of_some _ (Heap.get?_push_size _ B.free)) (by rw [Heap.size_push, hz]) fun b o x => Heap.get?_push_of_some _ (Heap.get?_push_of_some _ x)⟩
end
def Ien (K : PySem.W.Frag) (a : Addr) : It :=
  ⟨fun i H => ∃ (xs : List V) (x : V), SqT K H a xs ∧ xs[i]? = some x, fun i H v H' => ∃ T x, v = .ref T ∧ H T = none ∧ H' = upd H T (.tup [.int (i : Nat), x]) ∧ ∀ xs, SqT K H a xs → xs[i]? = some x, fun i H => ∃ xs : List V, SqT K H a xs ∧ xs.length = i⟩
theorem turn_enumT {P : Program} {w : World} {K : PySem.W.Frag} {elts : List Expr} {kk : Nat} {tpos : Pos} (a e it : Addr) :
    Turn P w K (.Tuple elts kk tpos) (Ien K a) [e, it] e (fun i h => (∃ old, IsEnum h e it (0 + (i : Int)) old) ∧ h.IsTupleIter it a i ∧ e ≠ it ∧ a ≠ it) where
  mem := by simp
  obj := fun i h st b hb => by
    obtain ⟨⟨old, he⟩, ⟨o, ho, hc, hd⟩, _⟩ := st
    have e' : b = e ∨ b = it := by simpa using hb
    rcases e' with z | z
    · rw [z]; exact ⟨_, he, fun v q => nomatch q⟩
    · rw [z]; exact ⟨o, ho, fun v q => by rw [hd] at q; cases q⟩
  keep := fun i h h' st k => let ⟨⟨old, he⟩, hi, hne, ha⟩ := st; ⟨⟨old, k e (by simp) _ he⟩, hi.at fun o q => k it (by simp) o q, hne, ha⟩
  item := by
    intro X hP hw hK hc i pins s σ H E I hf st hg
    subst hP hw hK
    obtain ⟨⟨old, he⟩, hit, hne, hat⟩ := st
    obtain ⟨xs, x, hq, hx⟩ := hg
    obtain ⟨its, rv, p, hz⟩ := I.tuple hq
    obtain ⟨u, hu, ru⟩ := rv.get hx
    have hel : e < s.heap.objs.size := Heap.lt_size he
    have hil : it < s.heap.objs.size := by obtain ⟨_, q, _⟩ := hit; exact Heap.lt_size q
    have hae : e ≠ a := fun z => by
      obtain ⟨o, ho, hc, _⟩ := p
      rw [← z, show s.heap.get? e = some _ from he] at ho
      cases ho
      exact absurd (show Value.type "enumerate" = Value.type "tuple" from hc) (by simp)
    have hsz : i < its.toArray.size := by
      have := (List.getElem?_eq_some_iff.mp hu).1
      simpa using this
    refine thn ((GoesN.enumFrom (elts := elts) (x1 := kk) (pos := tpos) 0 (Draws.tuple (prog := X.prog) (w := X.w) (A := X.A.in1) (I.ok.hd hc) it a hat its.toArray) e hne (by simp; exact ⟨hne, hae⟩) (by simp)).goes i s
      (fun v s2 => ∃ x H', Inv X pins σ H' s2 ∧ RelV x v ∧ (Ien X.K a).yld i H x H' ∧ ((∃ old, IsEnum s2.heap e it (0 + ((i + 1 : Nat) : Int)) old) ∧ s2.heap.IsTupleIter it a ((i + 1 : Nat) : Nat) ∧ e ≠ it ∧ a ≠ it) ∧ ∀ b ∈ [e, it], H' b = none) E hsz ⟨⟨old, he⟩, hit, p⟩ fun v h' tk hY st' hk htk => ?_) fun r s1 h1 => h1
    obtain ⟨T, t, y, ev, hT, hy, hTt⟩ := hY
    obtain ⟨he', hit', p'⟩ := st'
    subst ev
    have ey : y = u := by
      have e1 : its.toArray[i]? = some u := by simpa using hu
      rw [e1] at hy; exact (Option.some.inj hy).symm
    subst ey
    obtain ⟨oT, hoT, hcT, hdT⟩ := hTt
    have new : ObjOk X.prog X.w (upd H T (.tup [.int (i : Nat), x])) h' T (.tup [.int (i : Nat), x]) :=
      ⟨by show 2 ≤ sizeLine; decide, [.int (0 + (i : Int)) t, y], .cons ⟨t, by rw [Int.zero_add]⟩ (.cons ru .nil), ⟨oT, hoT, hcT, hdT⟩⟩
    have I1 : Inv X pins σ (upd H T (.tup [.int (i : Nat), x])) { s with heap := h', toks := tk } :=
      I.turnedNew (ch := [e, it]) (fun b ob hb q => hk b ob hb q) hf hT new
    refine ⟨.ref T, _, I1, rfl, ⟨_, x, rfl, I.hok.fresh hT, rfl, fun ys hy => by rw [I.tuple_inj hy hq]; exact hx⟩, ⟨he', hit', hne, hat⟩, fun b hb => ?_⟩
    have hb' : b < s.heap.objs.size := by
      have e' : b = e ∨ b = it := by simpa using hb
      rcases e' with z | z
      · rw [z]; exact hel
      · rw [z]; exact hil
    rw [upd_ne (Nat.ne_of_lt (Nat.lt_of_lt_of_le hb' hT))]
    exact (hf b hb).1
  done := by
    intro X hP hw hK hc i pins s σ H E I hf st hg
    subst hP hw hK
    obtain ⟨⟨old, he⟩, hit, hne, hat⟩ := st
    obtain ⟨xs, hq, hx⟩ := hg
    obtain ⟨its, rv, p, hz⟩ := I.tuple hq
    have hl := rv.length
    have hae : e ≠ a := fun z => by
      obtain ⟨o, ho, hc, _⟩ := p
      rw [← z, show s.heap.get? e = some _ from he] at ho
      cases ho
      exact absurd (show Value.type "enumerate" = Value.type "tuple" from hc) (by simp)
    have hsz : i = its.toArray.size := by simp; omega
    refine (GoesN.enumFrom (elts := elts) (x1 := kk) (pos := tpos) 0 (Draws.tuple (prog := X.prog) (w := X.w) (A := X.A.in1) (I.ok.hd hc) it a hat its.toArray) e hne (by simp; exact ⟨hne, hae⟩) (by simp)).stops s
      (fun s2 => Inv X pins σ H s2) E (by rw [← hsz]; exact ⟨⟨old, he⟩, hit, p⟩) fun h' tk hk htk => ?_
    exact I.turnedL (ch := [e, it]) (fun b ob hb q => hk b ob hb q) hf
  self := fun A i s Q E st h => let ⟨⟨_, he⟩, _⟩ := st; wpAny_pyIter_enum he h
def iEnT (K : PySem.W.Frag) (ta : TA) : TI := fun σ H R => ta σ H fun vs H1 => ∃ a, vs = [.ref a] ∧ ((∃ xs, SqL K H1 a xs ∧ R (Ite K a) H1) ∨ ∃ xs, SqT K H1 a xs ∧ R (Ien K a) H1)
theorem pi_enumT {X : Cx} {e : Expr} {ta : TA} {p pos tpos : Pos} {elts : List Expr} {kk : Nat} (hg : Gl X "enumerate") (hm : X.mg "enumerate" = none) (ha : PA X [e] ta) (hs : starEach [e] X.env = [(false, eval e X.env)] := by rfl) :
    PI X (.Tuple elts kk tpos) (.Call (.Name "enumerate" p) [e] [] pos) (iEnT X.K ta) := by
  refine ⟨fun pins s σ H R I h => ?_⟩
  refine Call_ (ld_blt I hg hm boot_enumerate (PyProof.Rows.callWith_type1 (thn (ha.run pos pins s σ H _ I h) fun us s1 ⟨vs, H1, I1, r1, q1⟩ => ?_) hs rfl))
  obtain ⟨a, ex, q⟩ := q1
  subst ex
  cases r1 with
  | cons r rr =>
    cases rr
    cases r
    have fp : ∀ b ∈ [s1.heap.objs.size + 1, s1.heap.objs.size], FpOk X pins H1 b := fun b hb => by
      have e' : b = s1.heap.objs.size + 1 ∨ b = s1.heap.objs.size := by simpa using hb
      have hle : s1.heap.objs.size ≤ b := by
        rcases e' with z | z
        · rw [z]; exact Nat.le_add_right _ _
        · rw [z]; exact Nat.le_refl _
      exact I1.fpOk hle (I1.hok.fresh hle)
    rcases q with ⟨xs, hq, q⟩ | ⟨xs, hq, q⟩
    · obtain ⟨its, rv, p', hz⟩ := I1.list hq
      refine call_enumerate_list p'.isList fun h' he hit hsz hk => wpAny_pyIter_enum he ?_
      have I2 : Inv X pins σ H1 { s1 with heap := h' } := I1.kept (t' := s1.toks) hk
      exact ⟨s1.heap.objs.size + 1, [s1.heap.objs.size + 1, s1.heap.objs.size], _, _, H1, rfl, I2, turn_enum a (s1.heap.objs.size + 1) s1.heap.objs.size, ⟨⟨.none, he⟩, hit, Nat.succ_ne_self _⟩, fp, q⟩
    · obtain ⟨its, rv, p', hz⟩ := I1.tuple hq
      have la : a < s1.heap.objs.size := p'.lt
      refine call_enumB (begins_tuple a its.toArray) p' fun h' he hit hsz hk => wpAny_pyIter_enum he ?_
      have I2 : Inv X pins σ H1 { s1 with heap := h' } := I1.kept (t' := s1.toks) hk
      exact ⟨s1.heap.objs.size + 1, [s1.heap.objs.size + 1, s1.heap.objs.size], _, _, H1, rfl, I2, turn_enumT a (s1.heap.objs.size + 1) s1.heap.objs.size, ⟨⟨.none, he⟩, ⟨_, hit, rfl, rfl⟩, Nat.succ_ne_self _, Nat.ne_of_lt la⟩, fp, q⟩
/-- the loop over enumerate(tuple) -/
theorem walk_enumT {K : PySem.W.Frag} {a : Addr} {xs : List V} : Walk (Ien K a) xs.length (fun H => SqT K H a xs) (YPair (fun i => some (.int (i : Nat))) (fun i => xs[i]?)) := by
  refine ⟨fun i _ hi q => ⟨xs, xs[i], q, by simp [hi]⟩, fun _ q => ⟨xs, q, rfl⟩, fun i H v H' _ q y => ?_⟩
  obtain ⟨T, x, h1, h2, h3, h4⟩ := y
  exact ⟨T, .int (i : Nat), x, h1, h2, h3, rfl, h4 xs q⟩
/-! ### zip(list, tuple) -/
def Izm (K : PySem.W.Frag) (a b : Addr) : It :=
  ⟨fun i H => ∃ (xs ys : List V) (x y : V), SqL K H a xs ∧ SqT K H b ys ∧ xs[i]? = some x ∧ ys[i]? = some y,
    fun i H v H' => ∃ T x y, v = .ref T ∧ H T = none ∧ H' = upd H T (.tup [x, y]) ∧ (∀ xs, SqL K H a xs → xs[i]? = some x) ∧ ∀ ys, SqT K H b ys → ys[i]? = some y,
    fun i H => ∃ xs ys : List V, SqL K H a xs ∧ SqT K H b ys ∧ min xs.length ys.length = i⟩
theorem turn_zipM {P : Program} {w : World} {K : PySem.W.Frag} {elts : List Expr} {kk : Nat} {tpos : Pos} {a b z TI TO i1 i2 : Addr} (S : ZipSep2 z TI TO i1 i2 [i1, a] [i2, b]) (h1a : a ≠ i1) (h2b : b ≠ i2) :
    Turn P w K (.Tuple elts kk tpos) (Izm K a b) [z, TI, TO, i1, i2] z (fun i h => IsZip h z TI TO .none ∧ IsTupOf2 h TI (.ref i1) (.ref i2) ∧ (∃ x y, IsTupOf2 h TO x y) ∧ h.IsListIter i1 a i ∧ h.IsTupleIter i2 b i) where
  mem := by simp
  obj := fun i h st c hc => by
    obtain ⟨hz, hTI, ⟨x, y, hTO⟩, ⟨o1, e1, _, d1⟩, ⟨o2, e2, _, d2⟩⟩ := st
    have e' : c = z ∨ c = TI ∨ c = TO ∨ c = i1 ∨ c = i2 := by simpa using hc
    rcases e' with q | q | q | q | q
    · rw [q]; exact ⟨_, hz, fun v q => nomatch q⟩
    · rw [q]; exact ⟨_, hTI, fun v q => nomatch q⟩
    · rw [q]; exact ⟨_, hTO, fun v q => nomatch q⟩
    · rw [q]; exact ⟨o1, e1, fun v q => by rw [d1] at q; cases q⟩
    · rw [q]; exact ⟨o2, e2, fun v q => by rw [d2] at q; cases q⟩
  keep := fun i h h' st k => by
    obtain ⟨hz, hTI, ⟨x, y, hTO⟩, h1, h2⟩ := st
    exact ⟨k z (by simp) _ hz, k TI (by simp) _ hTI, ⟨x, y, k TO (by simp) _ hTO⟩, h1.at fun o q => k i1 (by simp) o q, h2.at fun o q => k i2 (by simp) o q⟩
  item := by
    intro X hP hw hK hc i pins s σ H E I hf st hg
    subst hP hw hK
    obtain ⟨hz, hTI, hTO, h1, h2⟩ := st
    obtain ⟨xs, ys, x, y, hqx, hqy, hx, hy⟩ := hg
    obtain ⟨its, rv, p, _⟩ := I.list hqx
    obtain ⟨its2, rv2, p2, _⟩ := I.tuple hqy
    obtain ⟨u, hu, ru⟩ := rv.get hx
    obtain ⟨u2, hu2, ru2⟩ := rv2.get hy
    have n1 : i < its.toArray.size := by have := (List.getElem?_eq_some_iff.mp hu).1; simpa using this
    have n2 : i < its2.toArray.size := by have := (List.getElem?_eq_some_iff.mp hu2).1; simpa using this
    refine thn ((GoesN.zip2 (elts := elts) (x1 := kk) (pos := tpos) S (Draws.list (prog := X.prog) (w := X.w) (A := X.A.in1) (I.ok.hd hc) i1 a h1a its.toArray) (Draws.tuple (prog := X.prog) (w := X.w) (A := X.A.in1) (I.ok.hd hc) i2 b h2b its2.toArray)).goes i s
      (fun v s2 => ∃ x H', Inv X pins σ H' s2 ∧ RelV x v ∧ (Izm X.K a b).yld i H x H' ∧ (IsZip s2.heap z TI TO .none ∧ IsTupOf2 s2.heap TI (.ref i1) (.ref i2) ∧ (∃ x y, IsTupOf2 s2.heap TO x y) ∧ s2.heap.IsListIter i1 a ((i + 1 : Nat) : Nat) ∧ s2.heap.IsTupleIter i2 b ((i + 1 : Nat) : Nat)) ∧ ∀ b ∈ [z, TI, TO, i1, i2], H' b = none) E (by rw [Nat.lt_min]; exact ⟨n1, n2⟩)
      ⟨hz, hTI, hTO, ⟨h1, p.isList⟩, ⟨h2, p2⟩⟩ fun v h' tk hY st' hk htk => ?_) fun r s1 h1 => h1
    obtain ⟨T, v1, v2, ev, hT, hv1, hv2, hTt⟩ := hY
    obtain ⟨hz', hTI', hTO', ⟨h1', _⟩, ⟨h2', _⟩⟩ := st'
    subst ev
    have e1 : v1 = u := by
      have e1 : its.toArray[i]? = some u := by simpa using hu
      rw [e1] at hv1; exact (Option.some.inj hv1).symm
    have e2 : v2 = u2 := by
      have e1 : its2.toArray[i]? = some u2 := by simpa using hu2
      rw [e1] at hv2; exact (Option.some.inj hv2).symm
    subst e1 e2
    obtain ⟨oT, hoT, hcT, hdT⟩ := hTt
    have new : ObjOk X.prog X.w (upd H T (.tup [x, y])) h' T (.tup [x, y]) :=
      ⟨by show 2 ≤ sizeLine; decide, [v1, v2], .cons ru (.cons ru2 .nil), ⟨oT, hoT, hcT, hdT⟩⟩
    have I1 : Inv X pins σ (upd H T (.tup [x, y])) { s with heap := h', toks := tk } :=
      I.turnedNew (ch := [z, TI, TO, i1, i2]) (fun c ob hb q => hk c ob (fun m => hb (by simp only [List.mem_cons, List.not_mem_nil, or_false] at m ⊢; rcases m with h | h | h | h <;> simp [h])) q) hf hT new
    refine ⟨.ref T, _, I1, rfl, ⟨_, x, y, rfl, I.hok.fresh hT, rfl, fun ys hy => by rw [I.list_inj hy hqx]; exact hx, fun ys hy' => by rw [I.tuple_inj hy' hqy]; exact hy⟩, ⟨hz', hTI', hTO', h1', h2'⟩, fun c hb => ?_⟩
    have hn := (hf c hb).1
    have hb' : c < s.heap.objs.size := by
      obtain ⟨x0, y0, hTO0⟩ := hTO
      obtain ⟨o1, e1, _⟩ := h1
      obtain ⟨o2, e2, _⟩ := h2
      have e' : c = z ∨ c = TI ∨ c = TO ∨ c = i1 ∨ c = i2 := by simpa using hb
      rcases e' with q | q | q | q | q
      · rw [q]; exact Heap.lt_size hz
      · rw [q]; exact Heap.lt_size hTI
      · rw [q]; exact Heap.lt_size hTO0
      · rw [q]; exact Heap.lt_size e1
      · rw [q]; exact Heap.lt_size e2
    rw [upd_ne (Nat.ne_of_lt (Nat.lt_of_lt_of_le hb' hT))]
    exact hn
  done := by
    intro X hP hw hK hc i pins s σ H E I hf st hg
    subst hP hw hK
    obtain ⟨hz, hTI, hTO, h1, h2⟩ := st
    obtain ⟨xs, ys, hqx, hqy, hi⟩ := hg
    obtain ⟨its, rv, p, _⟩ := I.list hqx
    obtain ⟨its2, rv2, p2, _⟩ := I.tuple hqy
    have l1 := rv.length
    have l2 := rv2.length
    have hsz : i = min its.toArray.size its2.toArray.size := by simp; omega
    refine (GoesN.zip2 (elts := elts) (x1 := kk) (pos := tpos) S (Draws.list (prog := X.prog) (w := X.w) (A := X.A.in1) (I.ok.hd hc) i1 a h1a its.toArray) (Draws.tuple (prog := X.prog) (w := X.w) (A := X.A.in1) (I.ok.hd hc) i2 b h2b its2.toArray)).stops s
      (fun s2 => Inv X pins σ H s2) E (by rw [← hsz]; exact ⟨hz, hTI, hTO, ⟨h1, p.isList⟩, ⟨h2, p2⟩⟩) fun h' tk hk htk => ?_
    exact I.turnedL (ch := [z, TI, TO, i1, i2]) (fun c ob hb q => hk c ob (fun m => hb (by simp only [List.mem_cons, List.not_mem_nil, or_false] at m ⊢; rcases m with h | h | h | h <;> simp [h])) q) hf
  self := fun A i s Q E st h => wpAny_pyIter_zip st.1 h
theorem walk_zipM {K : PySem.W.Frag} {a b : Addr} {xs ys : List V} {n : Nat} (hn : n = min xs.length ys.length) : Walk (Izm K a b) n (fun H => SqL K H a xs ∧ SqT K H b ys) (YPair (fun i => xs[i]?) (fun i => ys[i]?)) := by
  subst hn
  refine ⟨fun i _ hi q => ?_, fun _ q => ⟨xs, ys, q.1, q.2, rfl⟩, fun i H v H' _ q y => ?_⟩
  · have h1 : i < xs.length := by omega
    have h2 : i < ys.length := by omega
    exact ⟨xs, ys, xs[i], ys[i], q.1, q.2, by simp [h1], by simp [h2]⟩
  · obtain ⟨T, x, z, h1, h2, h3, h4, h5⟩ := y
    exact ⟨T, x, z, h1, h2, h3, h4 xs q.1, h5 ys q.2⟩
def iZipM (K : PySem.W.Frag) (ta : TA) : TI := fun σ H R => ta σ H fun vs H1 => ∃ a b xs ys, vs = [.ref a, .ref b] ∧ SqL K H1 a xs ∧ SqT K H1 b ys ∧ R (Izm K a b) H1
theorem pi_zipM {X : Cx} {e e2 : Expr} {ta : TA} {p pos tpos : Pos} {elts : List Expr} {kk : Nat} (hg : Gl X "zip") (hm : X.mg "zip" = none) (ha : PA X [e, e2] ta)
    (hs : starEach [e, e2] X.env = (false, eval e X.env) :: starEach [e2] X.env := by rfl) (hpl : (backTo pos (starEach [e2] X.env)).any (·.1) = false := by rfl) :
    PI X (.Tuple elts kk tpos) (.Call (.Name "zip" p) [e, e2] [] pos) (iZipM X.K ta) := by
  refine ⟨fun pins s σ H R I h => ?_⟩
  refine Call_ (ld_blt I hg hm PyProof.Rows.boot_zip (PyProof.Rows.callWith_type1 (thn (ha.run pos pins s σ H _ I h) fun us s1 ⟨vs, H1, I1, r1, q1⟩ => ?_) hs hpl))
  obtain ⟨a, b, xs, ys, ex, hqx, hqy, q⟩ := q1
  subst ex
  cases r1 with
  | cons r rr =>
    cases rr with
    | cons r' rr =>
      cases rr
      cases r
      cases r'
      obtain ⟨its, rv, p1, _⟩ := I1.list hqx
      obtain ⟨its2, rv2, p2, _⟩ := I1.tuple hqy
      have la : a < s1.heap.objs.size := p1.lt
      have lb : b < s1.heap.objs.size := p2.lt
      refine zip_begins2 (begins_list a its.toArray) (begins_tuple b its2.toArray) p1.isList p2 fun h' hz hTI hTO h1 h2 hsz hk => wpAny_pyIter_zip hz ?_
      have I2 : Inv X pins σ H1 { s1 with heap := h' } := I1.kept (t' := s1.toks) hk
      refine ⟨s1.heap.objs.size + 4, [s1.heap.objs.size + 4, s1.heap.objs.size + 2, s1.heap.objs.size + 3, s1.heap.objs.size, s1.heap.objs.size + 1], _, _, H1, rfl, I2, turn_zipM (zip_sep2 (fun c hc => by rw [List.mem_singleton.mp hc]; exact la) (fun c hc => by rw [List.mem_singleton.mp hc]; exact lb)) (Nat.ne_of_lt la) (Nat.ne_of_lt (Nat.lt_succ_of_lt lb)), ⟨hz, hTI, ⟨_, _, hTO⟩, ⟨_, h1, rfl, rfl⟩, ⟨_, h2, rfl, rfl⟩⟩, fun c hcm => ?_, q⟩
      have e' : c = s1.heap.objs.size + 4 ∨ c = s1.heap.objs.size + 2 ∨ c = s1.heap.objs.size + 3 ∨ c = s1.heap.objs.size ∨ c = s1.heap.objs.size + 1 := by simpa using hcm
      have hle : s1.heap.objs.size ≤ c := by
        rcases e' with z | z | z | z | z
        · rw [z]; exact Nat.le_add_right _ _
        · rw [z]; exact Nat.le_add_right _ _
        · rw [z]; exact Nat.le_add_right _ _
        · rw [z]; exact Nat.le_refl _
        · rw [z]; exact Nat.le_add_right _ _
      exact I1.fpOk hle (I1.hok.fresh hle)
end Vt
namespace Vt
open PySem PySem.Spec PyProof.Rows L2
/-! ### match over tuples that begin with a text -/
def capPats : List (Str × Pos) → List Pattern
  | [] => []
  | (x, p) :: r => .MatchAs none (some x) p :: capPats r
theorem capPats_length : ∀ cs : List (Str × Pos), (capPats cs).length = cs.length
  | [] => rfl
  | _ :: r => by rw [capPats, List.length_cons, List.length_cons, capPats_length r]
theorem capPats_star : ∀ cs : List (Str × Pos), (capPats cs).findIdx? (·.isStar) = none
  | [] => rfl
  | _ :: r => by rw [capPats, List.findIdx?_cons, capPats_star r]; rfl
theorem each_caps {M : Model} {A : Around} {E : Value → Shared → Prop} {env : Env} : ∀ (cs : List (Str × Pos)) (us : List Value) (s : Shared) (Q : Option (List (Str × Value)) → Shared → Prop), us.length = cs.length → Q (some ((cs.map (·.1)).zip us)) s →
    wpAny M A (matchEach (capPats cs) env us) Q E s
  | [], us, s, Q, hl, h => by
    cases us with
    | nil => exact wpAny_matchEach_nil h
    | cons u r => simp at hl
  | (x, p) :: r, us, s, Q, hl, h => by
    cases us with
    | nil => simp at hl
    | cons u us =>
      refine wpAny_matchEach_cons (p := .MatchAs none (some x) p) (wpAny_matchPattern_Capture ?_)
      refine each_caps r us s _ (by simpa using hl) ?_
      exact h
def bindAll : L2.St → List Nat → List V → L2.St
  | σ, i :: is, x :: xs => bindAll (σ.set i (some x)) is xs
  | σ, _, _ => σ
/-- how the caught names stand in their places -/
inductive Slots (X : Cx) : List (Str × Pos) → List Nat → Prop
  | nil : Slots X [] []
  | cons {x : Str} {p : Pos} {i : Nat} {cs : List (Str × Pos)} {is : List Nat} : X.N[i]? = some x → X.env.scope.names.lookup x = some .local → Slots X cs is → Slots X ((x, p) :: cs) (i :: is)
theorem store_caps {X : Cx} {pins : List (Addr × Obj)} {H : Hp} (hN : X.N.Nodup) : ∀ {cs : List (Str × Pos)} {is : List Nat} (_ : Slots X cs is) (xs : List V) (us : List Value) (σ : L2.St) (s : Shared) (Q : Unit → Shared → Prop), Inv X pins σ H s → Vals xs us → xs.length = cs.length →
    (∀ s', Inv X pins (bindAll σ is xs) H s' → Q () s') → wpAny (model X.prog X.w) X.A (assignInOrder ((((cs.map (·.1)).zip us).map fun (n, _) => bindName X.env n)) (((cs.map (·.1)).zip us).map (·.2))) Q X.xe s
  | _, _, .nil, xs, us, σ, s, Q, I, r, hl, h => by
    cases r with
    | nil => exact wpAny_assignInOrder_none (h s I)
    | cons r1 rr => simp at hl
  | _, _, .cons (x := x) hi hx sl, xs, us, σ, s, Q, I, r, hl, h => by
    cases r with
    | nil => simp at hl
    | cons r1 rr =>
      refine wpAny_assignInOrder_more (wpAny_bindName (store_ok I hN hi (.inl hx) r1 (fun s' I' => ?_) (.inr hx)))
      exact store_caps hN sl _ _ _ s' Q I' rr (by simpa using hl) h
structure PCases (X : Cx) (cs : List MatchCase) (t : V → TS) : Prop where
  run : ∀ (first : Bool) (pins : List (Addr × Obj)) (s : Shared) (σ : L2.St) (H : Hp) (D : Ends) (v : V) (u : Value), Inv X pins σ H s → RelV v u → t v D σ H → wpAny (model X.prog X.w) X.A (matchCases cs X.env u first) (SP X pins D) X.xe s
def tCaseNil : V → TS := fun _ D σ H => D.nx σ H
theorem pc_nil {X : Cx} : PCases X [] tCaseNil := ⟨fun _ _ s σ H D _ _ I _ h => wpAny_matchCases_nil ⟨σ, H, I, h⟩⟩
def tCase (K : PySem.W.Frag) (wd : Str) (is : List Nat) (tb : TS) (tr : V → TS) : V → TS := fun v D σ H => ∃ a z xs, v = .ref a ∧ SqT K H a (.str z :: xs) ∧
  ((z = wd ∧ xs.length = is.length ∧ tb D (bindAll σ is xs) H) ∨ (¬ (z = wd ∧ xs.length = is.length) ∧ tr v D σ H))
theorem str_eq_iff {a b : Str} : (a.cps.toList == b.cps.toList) = decide (a = b) := by
  by_cases e : a = b
  · subst e; simp
  · have h : ¬ a.cps.toList = b.cps.toList := fun q => e (by
      cases a; cases b
      simp only [Str.mk.injEq]
      exact Array.toList_inj.mp q)
    rw [decide_eq_false e]
    exact beq_eq_false_iff_ne.mpr h
theorem pc_case {X : Cx} {wd : Str} {j : Nat} {p1 p2 p3 : Pos} {cs : List (Str × Pos)} {is : List Nat} {body : List Stmt} {rest : List MatchCase} {tb : TS} {tr : V → TS} (hc : X.calm = true) (hN : X.N.Nodup) (sl : Slots X cs is) (hl : cs.length = is.length) (hb : PSs X body tb) (hr : PCases X rest tr) :
    PCases X (⟨.MatchSequence (.MatchValue (.Constant (.str wd) j p1) p2 :: capPats cs) p3, none, body⟩ :: rest) (tCase X.K wd is tb tr) := by
  refine ⟨fun first pins s σ H D v u I rv h => ?_⟩
  obtain ⟨a, z, xs, ev, hq, h⟩ := h
  subst ev
  cases rv
  obtain ⟨its, rvs, ht, hz⟩ := I.tuple hq
  have hlen : its.length = xs.length + 1 := by rw [← rvs.length]; rfl
  have hsz : its.toArray.size = xs.length + 1 := by simp [hlen]
  have hfit : (its.toArray.size : Int) < 2 ^ 63 := by
    have : (sizeLine : Int) < 2 ^ 63 := by decide
    have h2 : xs.length + 1 ≤ sizeLine := by simpa using hz
    rw [hsz]; omega
  have hpl : (Pattern.MatchValue (.Constant (.str wd) j p1) p2 :: capPats cs).length = is.length + 1 := by rw [List.length_cons, capPats_length, hl]
  have hstar : (Pattern.MatchValue (.Constant (.str wd) j p1) p2 :: capPats cs).findIdx? (·.isStar) = none := by
    rw [List.findIdx?_cons, capPats_star]; rfl
  have hwild : ((Pattern.MatchValue (.Constant (.str wd) j p1) p2 :: capPats cs).all fun p => p.isWildcard || (p.isStar && p.names.isEmpty)) = false := by
    rw [List.all_cons]; rfl
  have miss : ∀ tk, ¬ (z = wd ∧ xs.length = is.length) → wpAny (model X.prog X.w) X.A (matchCases rest X.env (.ref a) false) (SP X pins D) X.xe { s with toks := tk } := fun tk hn => by
    rcases h with ⟨e1, e2, _⟩ | ⟨_, q⟩
    · exact absurd ⟨e1, e2⟩ hn
    · exact hr.run false pins _ σ H D (.ref a) _ (I.tok tk) rfl q
  refine wpAny_matchCases_cons ?_
  by_cases hn : xs.length = is.length
  · refine matchSeq_tuple_hit ht hfit (by rw [hsz, hpl, hn]) ?_ hstar hwild
    have en : (Pattern.MatchValue (.Constant (.str wd) j p1) p2 :: capPats cs).length = its.toArray.size := by rw [hpl, hsz, hn]
    rw [en]
    refine unpackItems_tuple (s := { s with toks := s.toks + 1 + 1 }) (I.ok.hd hc) ht fun h' hx => ?_
    have hk : ∀ b o, s.heap.get? b = some o → h'.get? b = some o := fun b o e => hx b o (Nat.ne_of_lt (Heap.lt_size e)) e
    have I1 : Inv X pins σ H { s with heap := h', toks := s.toks + 1 + 1 } := I.kept hk
    cases rvs with
    | cons r0 rr =>
      rename_i u0 us
      obtain ⟨t0, rfl⟩ := r0
      refine wpAny_matchEach_cons (p := .MatchValue (.Constant (.str wd) j p1) p2) (wpAny_matchPattern_Value ?_)
      refine Calls.Constant_str ?_
      refine PyProof.Rows.eq_str ?_
      rw [show (z == wd) = decide (z = wd) from rfl]
      refine wpAny_truthy_bool ?_
      by_cases e : z = wd
      · rw [decide_eq_true e]
        have hul : us.length = cs.length := by
          have := rr.length
          omega
        refine each_caps cs us _ _ hul ?_
        simp only [List.nil_append]
        refine store_caps hN sl xs us σ _ _ (I1.tok _) rr (by omega) fun s' I' => ?_
        rcases h with ⟨_, _, q⟩ | ⟨q, _⟩
        · exact hb.run pins s' _ H D I' q
        · exact absurd ⟨e, hn⟩ q
      · rw [decide_eq_false e]
        have q := hr.run false pins
        rcases h with ⟨e1, _, _⟩ | ⟨_, q⟩
        · exact absurd e1 e
        · exact hr.run false pins _ σ H D (.ref a) _ (I1.tok _) rfl q
  · refine matchSeq_tuple_miss ht hfit (by rw [hsz, hpl]; omega) ?_ hstar hwild
    exact miss _ fun q => hn q.2
def tMatch (te : TE) (t : V → TS) : TS := fun D σ H => te σ H fun v H1 => t v D σ H1
theorem ps_match {X : Cx} {e : Expr} {cs : List MatchCase} {pos : Pos} {te : TE} {t : V → TS} (he : PE X e te) (hc : PCases X cs t) : PS X (.Match e cs pos) (tMatch te t) := by
  refine ⟨fun pins s σ H D I h => ?_⟩
  exact wpAny_Match (thn (he.run pins s σ H _ I h) fun u s1 ⟨v, H1, I1, r, q⟩ => hc.run true pins s1 σ H1 D v u I1 r q)
section
variable {X : Cx} {wd x0 x1 x2 : Str} {j : Nat} {p1 p2 p3 q0 q1 q2 : Pos} {body : List Stmt} {rest : List MatchCase} {tb : TS} {tr : V → TS}
theorem pc_seq0 (hN : X.N.Nodup) (hb : PSs X body tb) (hr : PCases X rest tr) (hc : X.calm = true := by rfl) :
    PCases X (⟨.MatchSequence [.MatchValue (.Constant (.str wd) j p1) p2] p3, none, body⟩ :: rest) (tCase X.K wd [] tb tr) := pc_case (cs := []) hc hN .nil rfl hb hr
theorem pc_seq1 {i0 : Nat} (hN : X.N.Nodup) (hb : PSs X body tb) (hr : PCases X rest tr) (hc : X.calm = true := by rfl) (h0 : X.N[i0]? = some x0 := by rfl) (l0 : X.env.scope.names.lookup x0 = some .local := by rfl) :
    PCases X (⟨.MatchSequence [.MatchValue (.Constant (.str wd) j p1) p2, .MatchAs none (some x0) q0] p3, none, body⟩ :: rest) (tCase X.K wd [i0] tb tr) :=
  pc_case (cs := [(x0, q0)]) hc hN (.cons h0 l0 .nil) rfl hb hr
theorem pc_seq2 {i0 i1 : Nat} (hN : X.N.Nodup) (hb : PSs X body tb) (hr : PCases X rest tr) (hc : X.calm = true := by rfl) (h0 : X.N[i0]? = some x0 := by rfl) (l0 : X.env.scope.names.lookup x0 = some .local := by rfl) (h1 : X.N[i1]? = some x1 := by rfl) (l1 : X.env.scope.names.lookup x1 = some .local := by rfl) :
    PCases X (⟨.MatchSequence [.MatchValue (.Constant (.str wd) j p1) p2, .MatchAs none (some x0) q0, .MatchAs none (some x1) q1] p3, none, body⟩ :: rest) (tCase X.K wd [i0, i1] tb tr) :=
  pc_case (cs := [(x0, q0), (x1, q1)]) hc hN (.cons h0 l0 (.cons h1 l1 .nil)) rfl hb hr
end
end Vt
namespace Vt
open PySem PySem.Spec PyProof.Rows L2
/-! ### word, *numbers = tuple -/
section
variable {prog : Program} {w : World} {A : Around} {E : Value → Shared → Prop} {s : Shared} {env : Env}
theorem star_tuple {l : Addr} {items : Array Value} {n i : Nat} {first mids lasts : List Value} {Q : List Value → Shared → Prop} (hl : IsTup s.heap l items) (hh : A.handled = none) (hi : i < n) (hn : n ≤ items.size + 1) (hz : items.size ≤ 16384)
    (h1 : items.toList.take i = first) (h2 : (items.toList.drop i).take (items.size + 1 - n) = mids) (h3 : (items.toList.drop i).drop (items.size + 1 - n) = lasts)
    (h : ∀ (h₂ : Heap) (tk : Nat), (∀ b o, s.heap.get? b = some o → h₂.get? b = some o) → Q (first ++ [.ref h₂.objs.size] ++ lasts) { s with heap := h₂.push { cls := .type "list", data := .seq mids.toArray }, toks := tk }) : wpAny (model prog w) A (unpackItems (.ref l) n (some i)) Q E s := by
  subst h1 h2 h3
  have hlt : l ≠ s.heap.objs.size := by obtain ⟨o, ho, _⟩ := hl; exact Nat.ne_of_lt (Heap.lt_size ho)
  have hll : l < s.heap.objs.size := by obtain ⟨o, ho, _⟩ := hl; exact Heap.lt_size ho
  unfold unpackItems
  refine wpAny_bind ?_
  unfold notIterableAtAll
  refine wpAny_bind (wpAny_specialOf hl.typeIs slot_tuple_iter.lookup ?_)
  refine wpAny_pure ?_
  simp only [Bool.false_eq_true, if_false]
  refine wpAny_bind (wpAny_holding (iter_tuple hl ?_))
  refine wpAny_bind (wpAny_holding (draw_tuple hlt i 0 _ _ ⟨_, Heap.get?_push_size _ rfl, rfl, rfl⟩ (hl.push _) (by omega) fun h₁ hit₁ hs₁ => ?_))
  have hl₁ : IsTup h₁ l items := (hl.push _).extBut hs₁.extBut hlt
  rw [Nat.zero_add] at hit₁
  have hit₁' := hit₁
  obtain ⟨oi, hoi, _⟩ := hit₁'
  have hl₁' := hl₁
  obtain ⟨ol, hol, _⟩ := hl₁'
  rw [List.drop_zero]
  have hfl : (items.toList.take i).length = i := by rw [List.length_take, Array.length_toList]; omega
  rw [if_neg (show ¬ ((items.toList.take i).length < i) by rw [hfl]; omega)]
  refine wpAny_bind (wpAny_holding (PySem.W.kun_collect (s := { s with heap := h₁ }) (T := "tuple_iterator") (.inr (.inr (.inr rfl))) (Walks.tuple (A := A.in1) hh s.heap.objs.size l hlt items) (fun j u st => st.1.typeIs) (k := i) (by omega) ⟨hit₁, hl₁⟩ (Heap.lt_size hoi) (Heap.lt_size hol) (fun h₂ tk hk => ?_) (by rw [sizeLine_eq]; omega)))
  have hrl : (items.toList.drop i).length = items.size - i := by rw [List.length_drop, Array.length_toList]
  have hmid : (items.toList.drop i).length - (n - 1 - i) = items.size + 1 - n := by rw [hrl]; omega
  show wpAny _ _ (if (items.toList.drop i).length < n - 1 - i then _ else _) _ _ _
  rw [if_neg (by rw [hrl]; omega)]
  show wpAny _ _ (newList ((items.toList.drop i).take ((items.toList.drop i).length - (n - 1 - i))) >>= fun d => pure (items.toList.take i ++ [d] ++ (items.toList.drop i).drop ((items.toList.drop i).length - (n - 1 - i)))) _ _ _
  rw [hmid]
  have he : Heap.ExtBut s.heap.objs.size s.heap h₂ := fun b o hb e => hk b o hb (hs₁.extBut b o hb (Heap.get?_push_of_some _ e))
  exact wpAny_bind (wpAny_newList (s := { s with heap := h₂, toks := tk }) (wpAny_pure (h h₂ tk fun b o e => he b o (Nat.ne_of_lt (Heap.lt_size e)) e)) (by rw [List.length_take, hrl, sizeLine_eq]; omega))
end
def gStar (K : PySem.W.Frag) (i j : Nat) : TG := fun v σ H Q => ∃ a x xs, v = .ref a ∧ SqT K H a (x :: xs) ∧ xs.length ≤ 1000 ∧ ∀ p, H p = none → Q ((σ.set i (some x)).set j (some (.ref p))) (upd H p (.lst xs))
theorem pg_star {X : Cx} {i j : Nat} {x y : Str} {px py ps pos : Pos} {k : Nat} (hc : X.calm = true) (hN : X.N.Nodup) (hi : X.N[i]? = some x) (hj : X.N[j]? = some y) (hx : X.env.scope.names.lookup x = some .local) (hy : X.env.scope.names.lookup y = some .local) :
    PG X (.Tuple [.Name x px, .Starred (.Name y py) ps] k pos) (gStar X.K i j) := by
  refine ⟨fun pins s σ H v u Q I r h => ?_⟩
  obtain ⟨a, z, xs, ev, hq, hl, h⟩ := h
  subst ev
  cases r
  obtain ⟨its, rvs, ht, hz⟩ := I.tuple hq
  have hlen : its.length = xs.length + 1 := by rw [← rvs.length]; rfl
  cases rvs with
  | cons r0 rr =>
    rename_i u0 us
    have hus : us.length = xs.length := rr.length.symm
    rw [assign_Tuple]
    refine wpAny_bind (wpAny_standAt ?_)
    unfold unpack
    have e1 : (assignEach [.Name x px, .Starred (.Name y py) ps] X.env).length = 2 := rfl
    have e2 : (assignEach [.Name x px, .Starred (.Name y py) ps] X.env).findIdx? (·.1) = some 1 := rfl
    rw [e1, e2]
    refine wpAny_bind (wpAny_holding (star_tuple (first := [u0]) (mids := us) (lasts := []) ht (I.ok.hd hc) (by decide) (by simp) (by simp; omega) rfl (by simp) (by simp) fun h₂ tk hk => ?_))
    have I2 : Inv X pins σ H { s with heap := h₂, toks := tk } := I.kept hk
    have hn : H h₂.objs.size = none := I2.hok.fresh (Nat.le_refl _)
    have hz2 : xs.length ≤ sizeLine := Nat.le_trans hl (by decide)
    have I1 : Inv X pins σ (upd H h₂.objs.size (.lst xs)) { s with heap := h₂.push { cls := .type "list", data := .seq us.toArray }, toks := tk } :=
      I2.laid (t' := tk) (fun b u e => Heap.get?_push_of_some _ e) (Nat.le_refl _) ⟨hz2, us, 0, rr, Heap.get?_push_size _ rfl⟩
    show wpAny _ _ (assignInOrder [assign (.Name x px) X.env, assign (.Name y py) X.env] [u0, .ref h₂.objs.size]) _ _ _
    refine assignInOrder_cons (thn ((pg_name (pos := px) hN hi (.inl hx) (.inr hx)).run pins _ σ _ z u0 (fun σ1 H1 => σ1 = σ.set i (some z) ∧ H1 = upd H h₂.objs.size (.lst xs)) I1 r0 ⟨rfl, rfl⟩) fun _ s1 ⟨σ1, H1, I3, e3, e4⟩ => ?_)
    subst e3 e4
    refine assignInOrder_cons (thn ((pg_name (pos := py) hN hj (.inl hy) (.inr hy)).run pins _ _ _ (.ref h₂.objs.size) _ Q I3 rfl (h _ hn)) fun _ s2 q => ?_)
    exact wpAny_assignInOrder_none q
end Vt
namespace Vt
open PySem PySem.Spec PyProof.Rows L2
/-! ### d.get(x), d a written dict of text keys -/
def tKGet (K : PySem.W.Frag) (w : World) (td ty : TE) : TE := fun σ H Q => td σ H fun x H1 => ∃ a, x = .ref a ∧ (a == sysModules) = false ∧ (∃ es n, K.lookup a = some ⟨.type "dict", none, .dict es n, #[]⟩ ∧ PySem.W.KeysLit w.params es.toList) ∧
  ty σ H1 fun y H2 => ∃ z, y = .str z ∧ ((∃ v, KDct K w a z v ∧ Q v H2) ∨ (KMiss K w a z ∧ Q .non H2))
section
variable {X : Cx} {o e : Expr} {apos cpos : Pos} {td ty : TE}
theorem pe_kget (ho : PE X o td) (he : PE X e ty) (m : M1 X o "get" apos e cpos) : PE X (.Call (.Attribute o "get" apos) [e] [] cpos) (tKGet X.K X.w td ty) := by
  refine ⟨fun pins s σ H Q I h => ?_⟩
  refine wpAny_Call_method m.base m.few m.line PySem.F.plainAttrs_dict PySem.F.slot_dict_get PySem.F.type_dict_get (thn (ho.run pins s σ H _ I h) fun u s1 ⟨x, H1, I1, rx, a, ex, hs, ⟨es, n, hl, hk⟩, q1⟩ => ?_)
  subst ex
  obtain rfl : u = Value.ref a := rx
  have hm := PySem.W.mapOf_K (prog := X.prog) (w := X.w) I1.kIn hl hk
  refine ⟨hm.typeIs, fun b q => ⟨_, I1.kIn _ _ (by cases q; exact hl), rfl⟩, ?_⟩
  rw [m.trees]
  refine Calls.callWith_builtin rfl (Calls.evalArgs_plain (Calls.spliced_cons (thn (he.run pins s1 σ H1 _ I1 q1) fun iv s2 ⟨y, H2, I2, ry, z, ey, q2⟩ => Calls.spliced_nil ?_)))
  subst ey
  obtain ⟨t, rfl⟩ := (show ∃ t, iv = Value.str z t from ry)
  have hm2 := PySem.W.mapOf_K (prog := X.prog) (w := X.w) I2.kIn hl hk
  refine call_meetsIn PySem.F.slot_dict_get hm2.typeIs PySem.F.entry_dict_get (PySem.F.args_dict_get_2 _ _) (meets_dict_get (strKind X.prog X.w) a (strKind_is X.prog X.w z t) hs) ⟨_, hm2, ?_⟩
  rcases q2 with ⟨v, ⟨es', n', u0, hl', hk', e', ru⟩, q2⟩ | ⟨⟨es', n', hl', hk', _, e'⟩, q2⟩
  · rw [hl] at hl'
    cases hl'
    exact ⟨v, H2, I2.tok _, by rw [PySem.W.find_K hl e']; exact ru, q2⟩
  · rw [hl] at hl'
    cases hl'
    exact ⟨.non, H2, I2.tok _, by rw [PySem.W.find_K hl e']; rfl, q2⟩
end
end Vt
namespace Vt
open PySem PySem.Spec PyProof.Rows L2
/-! ### the heap's small words -/
theorem sqA_l {K : PySem.W.Frag} {H : Hp} {a : Addr} {xs : List V} (h : H a = some (.lst xs)) : SqA K H a xs := .inl (.inl (.inl h))
theorem sqA_t {K : PySem.W.Frag} {H : Hp} {a : Addr} {xs : List V} (h : H a = some (.tup xs)) : SqA K H a xs := .inr (.inl (.inl h))
theorem sqL_l {K : PySem.W.Frag} {H : Hp} {a : Addr} {xs : List V} (h : H a = some (.lst xs)) : SqL K H a xs := .inl (.inl h)
theorem sqT_t {K : PySem.W.Frag} {H : Hp} {a : Addr} {xs : List V} (h : H a = some (.tup xs)) : SqT K H a xs := .inl (.inl h)
theorem same_new {H : Hp} {p : Addr} {o : HO} (h : H p = none) : Same H (upd H p o) := fun b x e => by
  rw [upd_ne (ne_of_none e h)]
  exact e
theorem Same.sqT {K : PySem.W.Frag} {H H' : Hp} {a : Addr} {xs : List V} (e : Same H H') (h : SqT K H a xs) : SqT K H' a xs := by
  rcases h with (h | ⟨o, h⟩) | h
  · exact .inl (.inl (e _ _ h))
  · exact .inl (.inr ⟨o, e _ _ h⟩)
  · exact .inr h
/-- all that was tracked stands but for these -/
def But (B : List Addr) (H H' : Hp) : Prop := ∀ c o, c ∉ B → H c = some o → H' c = some o
theorem But.refl {B : List Addr} {H : Hp} : But B H H := fun _ _ _ h => h
theorem But.trans {B : List Addr} {H H1 H2 : Hp} (a : But B H H1) (b : But B H1 H2) : But B H H2 := fun c o n h => b c o n (a c o n h)
theorem Same.but {B : List Addr} {H H' : Hp} (a : Same H H') : But B H H' := fun c o _ h => a c o h
theorem But.set {B : List Addr} {H : Hp} {p : Addr} {o : HO} (h : p ∈ B) : But B H (upd H p o) := fun c u n e => by
  rw [upd_ne (fun q => n (by rw [q]; exact h))]; exact e
theorem But.same {H H' : Hp} (a : But [] H H') : Same H H' := fun c o h => a c o (by simp) h
theorem But.mono {B B' : List Addr} {H H' : Hp} (a : But B H H') (h : ∀ b ∈ B, b ∈ B') : But B' H H' := fun c o n e => a c o (fun m => n (h c m)) e
/-- these stand for lists -/
def Lsts (H : Hp) (B : List Addr) : Prop := ∀ b ∈ B, ∃ xs, H b = some (.lst xs)
theorem But.sqT {K : PySem.W.Frag} {B : List Addr} {H H' : Hp} {a : Addr} {xs : List V} (e : But B H H') (l : Lsts H B) (h : SqT K H a xs) : SqT K H' a xs := by
  rcases h with (h | ⟨o, h⟩) | h
  · exact .inl (.inl (e _ _ (fun m => by obtain ⟨ys, q⟩ := l _ m; rw [q] at h; cases h) h))
  · exact .inl (.inr ⟨o, e _ _ (fun m => by obtain ⟨ys, q⟩ := l _ m; rw [q] at h; cases h) h⟩)
  · exact .inr h
theorem fits {n : Nat} (h : n ≤ 16000) : n < sizeLine := Nat.lt_of_le_of_lt h (by decide)
theorem fits' {n : Nat} (h : n ≤ 16000) : n ≤ sizeLine := Nat.le_of_lt (fits h)
theorem at0 {α : Type} {x : α} {r : List α} : atI (x :: r) 0 = some x := atI_nat (j := 0) rfl
theorem ixN_of {n : Nat} {i : Int} {j : Nat} (h : i = (j : Int)) (hj : j < n) : ixN n i = some j := by
  subst h
  unfold ixN
  rw [if_pos (by omega), if_pos (by omega)]
  rfl
theorem seqIx_of {n : Nat} {i : Int} {j : Nat} (h : i = (j : Int)) (hj : j < n) : seqIndex? i n = some j := (ixN_seq (ixN_of h hj)).1
/-! ### the asker's box of draws -/
def Box (H : Hp) (b l : Addr) : Prop := ∃ (ns : List Int) (s : Int), H b = some (.lst [.ref l, .int s]) ∧ H l = some (.lst (ns.map V.int)) ∧ 0 ≤ s ∧ s < 2147483647 ∧ ns.length ≤ 63
theorem Box.ne {H : Hp} {b l : Addr} (h : Box H b l) : b ≠ l := by
  obtain ⟨ns, s, h1, h2, _⟩ := h
  refine ne_of h1 h2 fun e => ?_
  cases ns with
  | nil => cases e
  | cons x r => cases e
theorem Box.lsts {H : Hp} {b l : Addr} (h : Box H b l) : Lsts H [b, l] := by
  obtain ⟨ns, s, h1, h2, _⟩ := h
  intro c hc
  rcases List.mem_cons.mp hc with rfl | hc
  · exact ⟨_, h1⟩
  · rw [List.mem_singleton.mp hc]; exact ⟨_, h2⟩
theorem Box.same {H H' : Hp} {b l : Addr} (e : Same H H') (h : Box H b l) : Box H' b l := by
  obtain ⟨ns, s, h1, h2, h3⟩ := h
  exact ⟨ns, s, e _ _ h1, e _ _ h2, h3⟩
theorem dpInts {K : PySem.W.Frag} {H : Hp} : ∀ ns : List Int, DpAll K H (ns.map V.int) (ns.map PyData.int)
  | [] => .nil
  | n :: r => .cons (.int n) (dpInts r)
theorem shapedInts (ns : List Int) : SeqAt.shaped (.list (ns.map PyData.int)) = true := by
  have h1 : ∀ ns : List Int, PyData.canLayAll0 (ns.map PyData.int) = true := by
    intro ns
    induction ns with
    | nil => simp [PyData.canLayAll0]
    | cons n r ih => simp [PyData.canLayAll0, PyData.canLay0, ih]
  have h2 : ∀ ns : List Int, PyData.depthAll (ns.map PyData.int) ≤ 1 := by
    intro ns
    induction ns with
    | nil => simp [PyData.depthAll]
    | cons n r ih => simp [PyData.depthAll, PyData.depth]; omega
  have a := h1 ns
  have b := h2 ns
  simp [SeqAt.shaped, PyData.canLay0, PyData.depth, a]
  omega
def nV (n : Nat) : V := .int (n : Int)
theorem chgN {i : Nat} {x y : V} {σ : L2.St} {H : Hp} {Q : L2.St → Hp → Prop} (e : x = y) (h : gName i y σ H Q) : gName i x σ H Q := by rw [e]; exact h
def spTake0 : Sp := fun vs H Q _ => ∃ (b l : Addr) (m : Int), vs = [.ref b, .int m] ∧ Box H b l ∧ 0 < m ∧ m < 1000000 ∧ ∀ H' r, Box H' b l → But [b, l] H H' → 0 ≤ r → r < m → Q (.int r) H'
section
variable {P : Program} {w : World} {K : PySem.W.Frag} {mg : Str → Option Value} {base : Heap}
abbrev st_law_take : Stmt := (topS 27)
abbrev nm_law_take : List Str := ["_law_box", "_law_many", "_law_number"]
theorem sc_law_take : FnScope ["_law_box", "_law_many", "_law_number"] ["_law_box", "_law_many"] (defScope st_law_take) := ⟨rfl, rfl, rfl, by decide +kernel, rfl, by decide +kernel, by decide +kernel⟩
theorem ok_take0 {f : Addr} {fd : FuncData} (F : Fun K "_law_take" "_law_take" st_law_take f fd) : FnOk P w K mg base CX0 1 f fd ["_law_box", "_law_many"] spTake0 := by
  refine F.ok sc_law_take (fun vs H Q E h => ?_) (fun cdv A outer s H vs Q E hr h => ?_)
  · obtain ⟨b, l, m, rfl, _⟩ := h
    rfl
  · obtain ⟨b, l, m, rfl, hB, m0, m1, q⟩ := h
    have hne := hB.ne
    obtain ⟨ns, sd, hb, hl, s0, s1, hlen⟩ := hB
    refine ⟨_, (pss_cons (ps_if (pt_cmpR (op_eqD hr.units) (pe_ix ix_lt (pv 0) pe_int (fun _ _ => rfl)) (pe_lst pa_nil) (nomark _)) (pss_cons (ps_asg (pe_op op_mod (pe_op op_mul (pe_ix ix_lt (pv 0) pe_int (fun _ _ => rfl)) pe_int) pe_int) (pg_sub (pv 0) pe_int set_list))
  (pss_one (ps_ret (pe_op op_mod (pe_op op_fdiv (pe_ix ix_lt (pv 0) pe_int (fun _ _ => rfl)) pe_int) (pv 1))))) pss_nil)
  (pss_cons (ps_set (i := 2) sc_law_take.nd rfl (Or.inl rfl) (pe_ix ix_lt (pe_ix ix_lt (pv 0) pe_int (fun _ _ => rfl)) pe_int (fun _ _ => rfl)))
  (pss_cons (ps_asg (pe_op op_fdiv (pv 2) (pv 1)) (pg_sub (pe_ix ix_lt (pv 0) pe_int (fun _ _ => rfl)) pe_int set_list))
  (pss_cut (ps_if (PW.pt (pw_or (pt_cmpR op_eq (pe_ix ix_lt (pe_ix ix_lt (pv 0) pe_int (fun _ _ => rfl)) pe_int (fun _ _ => rfl)) pe_int (nomark _)) (pw_or1 (pt_cmpR op_eq (pe_ix ix_lt (pe_ix ix_lt (pv 0) pe_int (fun _ _ => rfl)) pe_int (fun _ _ => rfl)) (pe_un un_neg pe_int) (nomark _))))) (pss_one (ps_expr (pe_bm PySem.F.plainAttrs_list PySem.F.slot_list_pop PySem.F.type_list_pop mt_popAt (pe_ix ix_lt (pv 0) pe_int (fun _ _ => rfl)) (pa_cons pe_int pa_nil)))) pss_nil)
  (pss_one (ps_ret (pe_op op_mod (pv 2) (pv 1)))))))), ?_⟩
    -- if box[0] == []
    refine ⟨_, rfl, b, _, 0, .ref l, rfl, rfl, sqA_l hb, rfl, ?_⟩
    refine ⟨Nat.zero_le _, fun p np => ?_⟩
    have sm : Same H (upd H p (.lst [])) := same_new np
    refine ⟨.list (ns.map PyData.int), .list [], .lst (sqL_l (sm _ _ hl)) (dpInts ns), .lst (sqL_l upd_same) .nil, shapedInts ns, rfl, _, rfl, ?_⟩
    have hb1 := sm _ _ hb
    have hl1 := sm _ _ hl
    have nbp : b ≠ p := ne_of_none hb np
    have nlp : l ≠ p := ne_of_none hl np
    cases ns with
    | nil =>
      refine iteT ?_
      -- box[1] = box[1] * 48271 % 2147483647
      refine ⟨_, rfl, b, _, 1, .int sd, rfl, rfl, sqA_l hb1, rfl, ?_⟩
      refine ⟨_, _, rfl, rfl, .inl ⟨by omega, by omega⟩, _, _, rfl, rfl, (by show (0 : Int) < 2147483647; decide), ?_⟩
      refine ⟨_, rfl, b, _, 1, 1, rfl, rfl, hb1, rfl, ?_⟩
      -- return box[1] // 7 % many
      refine ⟨_, rfl, b, _, 1, .int (sd * 48271 % 2147483647), rfl, rfl, sqA_l upd_same, rfl, ?_⟩
      refine ⟨_, _, rfl, rfl, ⟨by decide, by decide⟩, _, rfl, _, _, rfl, rfl, m0, ?_⟩
      have e0 : 0 ≤ sd * 48271 % 2147483647 := Int.emod_nonneg _ (by decide)
      have e1 : sd * 48271 % 2147483647 < 2147483647 := Int.emod_lt_of_pos _ (by decide)
      refine q _ _ ⟨[], _, upd_same, ?_, e0, e1, hlen⟩ ?_ ?_ ?_
      · rw [upd_ne hne.symm]; exact hl1
      · exact (Same.but sm).trans (But.set (by simp))
      · exact Int.emod_nonneg _ (by omega)
      · exact Int.emod_lt_of_pos _ m0
    | cons n r =>
      refine iteF ?_
      -- number = box[0][0]
      refine ⟨_, rfl, b, _, 0, .ref l, rfl, rfl, sqA_l hb1, rfl, l, _, 0, .int n, rfl, rfl, sqA_l hl1, at0, ?_⟩
      -- box[0][0] = number // many
      refine ⟨_, rfl, _, rfl, _, _, rfl, rfl, ⟨m0, by omega⟩, ?_⟩
      refine ⟨_, rfl, b, _, 0, .ref l, rfl, rfl, sqA_l hb1, rfl, l, _, 0, 0, rfl, rfl, hl1, ixN_of rfl (by simp), ?_⟩
      have nlb : l ≠ b := hne.symm
      have hb2 : (upd (upd H p (.lst [])) l (.lst ((V.int (n / m)) :: r.map V.int))) b = some (.lst [.ref l, .int sd]) := by
        rw [upd_ne hne]; exact hb1
      have bt : But [b, l] H (upd (upd H p (.lst [])) l (.lst ((V.int (n / m)) :: r.map V.int))) := (Same.but sm).trans (But.set (by simp))
      -- if box[0][0] == 0 or box[0][0] == -1
      have hr1 : r.length ≤ 63 := by simp at hlen; omega
      refine ⟨fun σ' H' => σ' = [some (.ref b), some (.int m), some (.int n)] ∧ Box H' b l ∧ But [b, l] H H', ?_, fun σ' H' hM => ?_⟩
      · have pop : ∀ D : Ends, D.nx = (fun σ' H' => σ' = [some (.ref b), some (.int m), some (.int n)] ∧ Box H' b l ∧ But [b, l] H H') →
            tDrop (tBM K "list" rPopAt (tOp (rIxLT K) (tVar 0) (tC (.int 0))) (tCons (tC (.int 0)) tNil)) D [some (.ref b), some (.int m), some (.int n)] (upd (upd H p (.lst [])) l (.lst ((V.int (n / m)) :: r.map V.int))) := fun D hD => by
          refine ⟨_, rfl, b, _, 0, .ref l, rfl, rfl, sqA_l hb2, rfl, .inl ⟨rfl, _, sqL_l upd_same⟩, ?_⟩
          refine ⟨l, _, 0, 0, .int (n / m), rfl, rfl, upd_same, by decide, by decide, seqIx_of rfl (by simp), rfl, ?_⟩
          rw [hD]
          refine ⟨rfl, ⟨r, sd, ?_, ?_, s0, s1, hr1⟩, bt.trans (But.set (by simp))⟩
          · rw [upd_ne hne]; exact hb2
          · rw [upd_same]; rfl
        refine ⟨_, rfl, b, _, 0, .ref l, rfl, rfl, sqA_l hb2, rfl, l, _, 0, .int (n / m), rfl, rfl, sqA_l upd_same, at0, rfl, _, rfl, ite2 (fun e => ?_) (fun e => ?_)⟩
        · exact iteT (pop _ rfl)
        · refine ⟨_, rfl, b, _, 0, .ref l, rfl, rfl, sqA_l hb2, rfl, l, _, 0, .int (n / m), rfl, rfl, sqA_l upd_same, at0, 1, rfl, rfl, _, rfl, ite2 (fun e => ?_) (fun e => ?_)⟩
          · exact pop _ rfl
          · exact ⟨rfl, ⟨n / m :: r, sd, hb2, upd_same, s0, s1, hlen⟩, bt⟩
      · obtain ⟨rfl, h1, h2⟩ := hM
        refine ⟨_, rfl, _, rfl, _, _, rfl, rfl, m0, ?_⟩
        exact q _ _ h1 h2 (Int.emod_nonneg _ (by omega)) (Int.emod_lt_of_pos _ m0)
/-- a draw below many -/
def spTake : Sp := fun vs H Q _ => ∃ (b l : Addr) (e : Int) (m : Nat), vs = [.ref b, .int e] ∧ e = (m : Int) ∧ Box H b l ∧ 0 < m ∧ m < 1000000 ∧ ∀ (H' : Hp) (r : Nat), Box H' b l → But [b, l] H H' → r < m → Q (nV r) H'
theorem ok_take {f : Addr} {fd : FuncData} (F : Fun K "_law_take" "_law_take" st_law_take f fd) : FnOk P w K mg base CX0 1 f fd ["_law_box", "_law_many"] spTake :=
  (ok_take0 F).imp fun vs H Q E h => by
    obtain ⟨b, l, e, m, rfl, rfl, hB, m0, m1, q⟩ := h
    refine ⟨b, l, m, rfl, hB, by omega, by omega, fun H' r hB' bt r0 r1 => ?_⟩
    obtain ⟨k, rfl⟩ := Int.eq_ofNat_of_zero_le r0
    exact q H' k hB' bt (by omega)
end
end Vt
namespace Vt
open PySem PySem.Spec PyProof.Rows L2
/-! ### data in the heap: ints, texts, None, bools, tuples and lists of them -/
inductive D where
  | non | bl (b : Bool) | int (i : Int) | str (x : Str) | tup (ds : List D) | lst (ds : List D)
mutual
inductive Pd (H : Hp) : V → D → Prop
  | non : Pd H .non .non
  | bl (b : Bool) : Pd H (.bl b) (.bl b)
  | int (i : Int) : Pd H (.int i) (.int i)
  | str (x : Str) : Pd H (.str x) (.str x)
  | tup {a : Addr} {xs : List V} {ds : List D} : H a = some (.tup xs) → Pds H xs ds → Pd H (.ref a) (.tup ds)
  | lst {a : Addr} {xs : List V} {ds : List D} : H a = some (.lst xs) → Pds H xs ds → Pd H (.ref a) (.lst ds)
inductive Pds (H : Hp) : List V → List D → Prop
  | nil : Pds H [] []
  | cons {v : V} {vs : List V} {d : D} {ds : List D} : Pd H v d → Pds H vs ds → Pds H (v :: vs) (d :: ds)
end
mutual
def D.noL : D → Bool
  | .lst _ => false
  | .tup ds => noLs ds
  | _ => true
def noLs : List D → Bool
  | [] => true
  | d :: ds => d.noL && noLs ds
end
mutual
def D.dep : D → Nat
  | .lst ds => deps ds + 1
  | .tup ds => deps ds + 1
  | _ => 0
def deps : List D → Nat
  | [] => 0
  | d :: ds => max d.dep (deps ds)
end
section
variable {H H' : Hp}
mutual
theorem Pd.same (s : Same H H') : ∀ {d : D} {v : V}, Pd H v d → Pd H' v d
  | .non, _, .non => .non
  | .bl _, _, .bl b => .bl b
  | .int _, _, .int b => .int b
  | .str _, _, .str b => .str b
  | .tup _, _, .tup h hs => .tup (s _ _ h) (Pds.same s hs)
  | .lst _, _, .lst h hs => .lst (s _ _ h) (Pds.same s hs)
theorem Pds.same (s : Same H H') : ∀ {ds : List D} {vs : List V}, Pds H vs ds → Pds H' vs ds
  | [], _, .nil => .nil
  | _ :: _, _, .cons h hs => .cons (Pd.same s h) (Pds.same s hs)
end
mutual
theorem Pd.but {B : List Addr} (s : But B H H') (l : Lsts H B) : ∀ {d : D} {v : V}, d.noL = true → Pd H v d → Pd H' v d
  | .non, _, _, .non => .non
  | .bl _, _, _, .bl b => .bl b
  | .int _, _, _, .int b => .int b
  | .str _, _, _, .str b => .str b
  | .tup ds, _, n, .tup h hs => .tup (s _ _ (fun m => by obtain ⟨ys, q⟩ := l _ m; rw [q] at h; cases h) h) (Pds.but s l (by rw [D.noL] at n; exact n) hs)
  | .lst ds, _, n, .lst h hs => by rw [D.noL] at n; cases n
theorem Pds.but {B : List Addr} (s : But B H H') (l : Lsts H B) : ∀ {ds : List D} {vs : List V}, noLs ds = true → Pds H vs ds → Pds H' vs ds
  | [], _, _, .nil => .nil
  | d :: ds, _, n, .cons h hs => by
    rw [noLs, Bool.and_eq_true] at n
    exact .cons (Pd.but s l n.1 h) (Pds.but s l n.2 hs)
end
theorem Pds.len : ∀ {ds : List D} {vs : List V}, Pds H vs ds → vs.length = ds.length
  | _, _, .nil => rfl
  | _, _, .cons _ hs => by rw [List.length_cons, List.length_cons, Pds.len hs]
theorem Pds.get : ∀ {ds : List D} {vs : List V} {i : Nat} {d : D}, Pds H vs ds → ds[i]? = some d → ∃ v, vs[i]? = some v ∧ Pd H v d
  | _, _, _, _, .nil, e => by simp at e
  | _, _, 0, _, .cons h _, e => by
    simp only [List.getElem?_cons_zero, Option.some.injEq] at e
    subst e; exact ⟨_, rfl, h⟩
  | _, _, i + 1, _, .cons _ hs, e => by
    obtain ⟨v, h1, h2⟩ := Pds.get (i := i) hs (by simpa using e)
    exact ⟨v, by simpa using h1, h2⟩
theorem Pds.get' : ∀ {ds : List D} {vs : List V} {i : Nat} {v : V}, Pds H vs ds → vs[i]? = some v → ∃ d, ds[i]? = some d ∧ Pd H v d
  | _, _, _, _, .nil, e => by simp at e
  | _, _, 0, _, .cons h _, e => by
    simp only [List.getElem?_cons_zero, Option.some.injEq] at e
    subst e; exact ⟨_, rfl, h⟩
  | _, _, i + 1, _, .cons _ hs, e => by
    obtain ⟨v, h1, h2⟩ := Pds.get' (i := i) hs (by simpa using e)
    exact ⟨v, by simpa using h1, h2⟩
theorem Pds.app : ∀ {ds es : List D} {vs us : List V}, Pds H vs ds → Pds H us es → Pds H (vs ++ us) (ds ++ es)
  | _, _, _, _, .nil, k => k
  | _, _, _, _, .cons h hs, k => .cons h (Pds.app hs k)
theorem Pds.ints : ∀ {ns : List Int} {vs : List V}, Pds H vs (ns.map D.int) → vs = ns.map V.int
  | [], _, .nil => rfl
  | n :: r, _, .cons (.int _) hs => by rw [List.map_cons, Pds.ints hs]
theorem Pds.ofInts : ∀ ns : List Int, Pds H (ns.map V.int) (ns.map D.int)
  | [] => .nil
  | n :: r => .cons (.int n) (Pds.ofInts r)
end
theorem deps_get : ∀ {ds : List D} {i : Nat} {d : D}, ds[i]? = some d → d.dep ≤ deps ds
  | [], _, _, e => by simp at e
  | x :: r, 0, d, e => by
    simp only [List.getElem?_cons_zero, Option.some.injEq] at e
    subst e; rw [deps]; omega
  | x :: r, i + 1, d, e => by
    have := deps_get (ds := r) (i := i) (d := d) (by simpa using e)
    rw [deps]; omega
/-! ### boards -/
structure Ord where
  src : Nat
  goal : Nat
  many : Nat
  later : Option Nat
inductive Deed where
  | set (c n : Nat) | add (c o : Nat) | say (c : Nat) | start (o : Nat) | wait | clean (l : Nat) | drop (l : Nat)
  deriving DecidableEq
structure Brd where
  mem : List Nat
  ords : List Ord
  prog : List Deed
def nD (n : Nat) : D := .int (n : Int)
def oV : Option Nat → V
  | none => .non
  | some k => nV k
def oD : Option Nat → D
  | none => .non
  | some k => nD k
def Ord.vs (o : Ord) : List V := [nV o.src, nV o.goal, nV o.many, oV o.later]
def Ord.d (o : Ord) : D := .tup [nD o.src, nD o.goal, nD o.many, oD o.later]
def Deed.word : Deed → Str
  | .set _ _ => "set" | .add _ _ => "add" | .say _ => "say" | .start _ => "start" | .wait => "wait" | .clean _ => "clean" | .drop _ => "drop"
def Deed.args : Deed → List Nat
  | .set c n => [c, n] | .add c o => [c, o] | .say c => [c] | .start o => [o] | .wait => [] | .clean l => [l] | .drop l => [l]
def Deed.vs (d : Deed) : List V := .str d.word :: d.args.map nV
def Deed.d (d : Deed) : D := .tup (.str d.word :: d.args.map nD)
def nsD (ns : List Nat) : D := .tup (ns.map nD)
def Brd.d (B : Brd) : D := .tup [nsD B.mem, .tup (B.ords.map Ord.d), .tup (B.prog.map Deed.d)]
theorem pd_o {H : Hp} : ∀ o : Option Nat, Pd H (oV o) (oD o)
  | none => .non
  | some k => .int k
theorem pds_ns {H : Hp} : ∀ ns : List Nat, Pds H (ns.map nV) (ns.map nD)
  | [] => .nil
  | n :: r => .cons (.int n) (pds_ns r)
theorem pds_ns' {H : Hp} : ∀ {ns : List Nat} {vs : List V}, Pds H vs (ns.map nD) → vs = ns.map nV
  | [], _, .nil => rfl
  | n :: r, _, .cons h hs => by
    cases h
    rw [List.map_cons, pds_ns' hs]; rfl
theorem Ord.pd {H : Hp} {o : Ord} {a : Addr} (h : H a = some (.tup o.vs)) : Pd H (.ref a) o.d := .tup h (.cons (.int _) (.cons (.int _) (.cons (.int _) (.cons (pd_o _) .nil))))
theorem Ord.of {H : Hp} {o : Ord} {v : V} (h : Pd H v o.d) : ∃ a, v = .ref a ∧ H a = some (.tup o.vs) := by
  obtain ⟨s, g, m, l⟩ := o
  cases h with
  | tup h hs =>
    cases hs with
    | cons h1 hs => cases h1; cases hs with
      | cons h2 hs => cases h2; cases hs with
        | cons h3 hs => cases h3; cases hs with
          | cons h4 hs =>
            cases hs
            refine ⟨_, rfl, ?_⟩
            cases l with
            | none => cases h4; exact h
            | some k => cases h4; exact h
theorem Deed.pd {H : Hp} {d : Deed} {a : Addr} (h : H a = some (.tup d.vs)) : Pd H (.ref a) d.d := .tup h (.cons (.str _) (pds_ns _))
theorem Deed.of {H : Hp} {d : Deed} {v : V} (h : Pd H v d.d) : ∃ a, v = .ref a ∧ H a = some (.tup d.vs) := by
  cases h with
  | tup h hs =>
    cases hs with
    | cons h1 hs =>
      cases h1
      rw [pds_ns' hs] at h
      exact ⟨_, rfl, h⟩
theorem Brd.of {H : Hp} {B : Brd} {v : V} (h : Pd H v B.d) : ∃ a m o p os ps, v = .ref a ∧ H a = some (.tup [.ref m, .ref o, .ref p]) ∧ H m = some (.tup (B.mem.map nV)) ∧ H o = some (.tup os) ∧ Pds H os (B.ords.map Ord.d) ∧ H p = some (.tup ps) ∧ Pds H ps (B.prog.map Deed.d) := by
  obtain ⟨mem, ords, prog⟩ := B
  cases h with
  | tup h hs =>
    cases hs with
    | cons h1 hs => cases h1 with
      | tup e1 k1 => cases hs with
        | cons h2 hs => cases h2 with
          | tup e2 k2 => cases hs with
            | cons h3 hs => cases h3 with
              | tup e3 k3 =>
                cases hs
                rw [pds_ns' k1] at e1
                exact ⟨_, _, _, _, _, _, rfl, h, e1, e2, k2, e3, k3⟩
theorem noL_ns : ∀ ns : List Nat, noLs (ns.map nD) = true
  | [] => by rw [List.map_nil, noLs]
  | n :: r => by rw [List.map_cons, noLs, noL_ns r]; rfl
theorem noL_ord (o : Ord) : o.d.noL = true := by
  obtain ⟨s, g, m, l⟩ := o
  cases l <;> simp [Ord.d, D.noL, noLs, nD, oD]
theorem noL_deed (d : Deed) : d.d.noL = true := by
  simp only [Deed.d, D.noL, noLs, Bool.true_and]
  exact noL_ns _
theorem noLs_map {α : Type} {f : α → D} (h : ∀ x, (f x).noL = true) : ∀ xs : List α, noLs (xs.map f) = true
  | [] => by rw [List.map_nil, noLs]
  | x :: r => by rw [List.map_cons, noLs, h x, noLs_map h r]; rfl
theorem noL_brd (B : Brd) : B.d.noL = true := by
  simp only [Brd.d, nsD, D.noL, noLs, Bool.and_true, Bool.and_eq_true]
  exact ⟨noL_ns _, noLs_map noL_ord _, noLs_map noL_deed _⟩
/-- what can be -/
structure OrdOk (o : Ord) (at_ count cells : Nat) : Prop where
  one : 1 ≤ o.many
  eight : o.many ≤ 8
  src : o.src + o.many ≤ cells
  goal : o.goal + o.many ≤ cells
  later : ∀ k, o.later = some k → at_ < k ∧ k < count
def DeedOk (d : Deed) (count cells : Nat) : Prop := match d with
  | .set c n => c < cells ∧ n < 10
  | .add c o => c < cells ∧ o < cells
  | .say c => c < cells
  | .start o => o < count
  | .wait => True
  | .clean l => l < cells / 4
  | .drop l => l < cells / 4
def isStart : Deed → Bool
  | .start _ => true
  | _ => false
structure BrdOk (B : Brd) : Prop where
  cells : B.mem.length = 4 ∨ B.mem.length = 8 ∨ B.mem.length = 12 ∨ B.mem.length = 16
  nums : ∀ n ∈ B.mem, n < 10
  four : B.ords.length ≤ 4
  ords : ∀ (i : Nat) (o : Ord), B.ords[i]? = some o → OrdOk o i B.ords.length B.mem.length
  sixty : B.prog.length ≤ 60
  prog : ∀ d ∈ B.prog, DeedOk d B.ords.length B.mem.length
  starts : (B.prog.filter isStart).length ≤ 3
end Vt
namespace Vt
open PySem PySem.Spec PyProof.Rows L2
/-- a list grows by a new tuple -/
theorem grow {H3 : Hp} {p T : Addr} {xs : List V} {ds : List D} {d : D} {vs : List V} (hx : H3 p = some (.lst xs)) (hp : Pds H3 xs ds) (n : noLs ds = true) (nT : H3 T = none) (hd : ∀ (H : Hp) (a : Addr), H a = some (.tup vs) → Pd H (.ref a) d) :
    (upd H3 T (.tup vs)) p = some (.lst xs) ∧ Pds (upd (upd H3 T (.tup vs)) p (.lst (xs ++ [.ref T]))) (xs ++ [.ref T]) (ds ++ [d]) ∧ But [p] H3 (upd (upd H3 T (.tup vs)) p (.lst (xs ++ [.ref T]))) := by
  have s3 : Same H3 (upd H3 T (.tup vs)) := same_new nT
  have hx4 := s3 _ _ hx
  have pT : T ≠ p := (ne_of_none hx nT).symm
  have ls : Lsts (upd H3 T (.tup vs)) [p] := fun c hc => ⟨xs, by rw [List.mem_singleton.mp hc]; exact hx4⟩
  have sB : But [p] (upd H3 T (.tup vs)) (upd (upd H3 T (.tup vs)) p (.lst (xs ++ [.ref T]))) := But.set (by simp)
  exact ⟨hx4, (Pds.but sB ls n (hp.same s3)).app (.cons (hd _ _ (by rw [upd_ne pT, upd_same])) .nil), (Same.but s3).trans sB⟩
theorem But.pds1 {H H' : Hp} {p : Addr} {xs ys : List V} {ds : List D} (b : But [p] H H') (hx : H p = some (.lst ys)) (n : noLs ds = true) (h : Pds H xs ds) : Pds H' xs ds :=
  Pds.but b (fun c hc => ⟨ys, by rw [List.mem_singleton.mp hc]; exact hx⟩) n h
theorem But.at1 {H H' : Hp} {p q : Addr} {o : HO} (b : But [p] H H') (h : H q = some o) (ne : q ≠ p) : H' q = some o := b q o (by simp [ne]) h
theorem But.new1 {H0 H H' : Hp} {p : Addr} (s : Same H0 H) (np : H0 p = none) (b : But [p] H H') : Same H0 H' := fun c o h => b c o (by simp [ne_of_none h np]) (s c o h)
theorem set_map {mem : List Nat} {c n : Nat} {v : V} (e : v = nV n) : (mem.map nV).set c v = (mem.set c n).map nV := by rw [e, List.map_set]
theorem nat_at {mem : List Nat} {c : Nat} (h : c < mem.length) : (mem.map nV)[c]? = some (nV (mem.getD c 0)) := by
  rw [List.getElem?_map, List.getElem?_eq_getElem h, List.getD_eq_getElem?_getD, List.getElem?_eq_getElem h]; rfl
end Vt
namespace Vt
open PySem PySem.Spec PyProof.Rows L2
/-! ### readings in short -/
section
variable {K : PySem.W.Frag} {σ : L2.St} {H : Hp} {a : Addr}
/-- t[0] == "x", t a deed -/
theorem rd_word {i : Nat} {d : Deed} {x : Str} {R : Bool → Hp → Prop} (hσ : σ[i]? = some (some (.ref a))) (h : H a = some (.tup d.vs)) (hr : R (decide (d.word = x)) H) : tTest (tOp rEq (tOp (rIxLT K) (tVar i) (tC (.int 0))) (tC (.str x))) σ H R := by
  refine ⟨_, hσ, a, _, 0, .str d.word, rfl, rfl, sqA_t h, at0, rfl, _, rfl, ?_⟩
  rw [show decide (V.str d.word = V.str x) = decide (d.word = x) by
    by_cases e : d.word = x
    · rw [e, decide_eq_true rfl, decide_eq_true rfl]
    · rw [decide_eq_false e, decide_eq_false (fun z => e (by injection z))]]
  exact hr
/-- t[0] in ("x", "y") -/
theorem rd_in {i : Nat} {d : Deed} {x y : Str} {R : Bool → Hp → Prop} (hσ : σ[i]? = some (some (.ref a))) (h : H a = some (.tup d.vs)) (hr : ∀ T, H T = none → R (decide (d.word = x) || decide (d.word = y)) (upd H T (.tup [.str x, .str y]))) :
    tTest (tOp (rIn K false) (tOp (rIxLT K) (tVar i) (tC (.int 0))) (tTup (tCons (tC (.str x)) (tCons (tC (.str y)) tNil)))) σ H R := by
  refine ⟨_, hσ, a, _, 0, .str d.word, rfl, rfl, sqA_t h, at0, by show 2 ≤ sizeLine; decide, fun T nT => ⟨T, _, rfl, .inr (sqT_t upd_same), rfl, rfl, _, rfl, ?_⟩⟩
  have e : (if false = true then !inV (.str d.word) [.str x, .str y] else inV (.str d.word) [.str x, .str y]) = (decide (d.word = x) || decide (d.word = y)) := by
    rw [if_neg (by decide)]
    show (eqV (.str x) (.str d.word) || (eqV (.str y) (.str d.word) || false)) = _
    rw [Bool.or_false, show ∀ z : Str, eqV (.str z) (.str d.word) = decide (d.word = z) from fun z => by
      show decide (z = d.word) = decide (d.word = z)
      exact decide_eq_decide.mpr eq_comm]
    rw [show eqV (.str y) (.str d.word) = decide (d.word = y) from by
      show decide (y = d.word) = decide (d.word = y)
      exact decide_eq_decide.mpr eq_comm]
  rw [e]
  exact hr T nT
end
theorem But.tup {B : List Addr} {H H' : Hp} {t : Addr} {xs : List V} (b : But B H H') (l : Lsts H B) (h : H t = some (.tup xs)) : H' t = some (.tup xs) :=
  b _ _ (fun m => by obtain ⟨ys, q⟩ := l _ m; rw [q] at h; cases h) h
end Vt
namespace Vt
open PySem PySem.Spec PyProof.Rows L2
section
variable {P : Program} {w : World} {K : PySem.W.Frag} {mg : Str → Option Value} {base : Heap}
/-! ### the box begun -/
abbrev st_law_begun : Stmt := (topS 26)
abbrev nm_law_begun : List Str := ["_law_script", "_law_stirred", "_law_cell"]
theorem sc_law_begun : FnScope ["_law_script", "_law_stirred", "_law_cell"] ["_law_script"] (defScope st_law_begun) := ⟨rfl, rfl, rfl, by decide +kernel, rfl, by decide +kernel, by decide +kernel⟩
def spBegun (K : PySem.W.Frag) : Sp := fun vs H Q _ => ∃ (a : Addr) (ns : List Int), vs = [.ref a] ∧ SqL K H a (ns.map V.int) ∧ ns.length ≤ 63 ∧ ∀ (H' : Hp) (b l : Addr), Box H' b l → Same H H' → Q (.ref b) H'
theorem ok_begun {f : Addr} {fd : FuncData} (F : Fun K "_law_begun" "_law_begun" st_law_begun f fd) (z_len : mg "len" = none) (z_int : mg "int" = none) (z_list : mg "list" = none) : FnOk P w K mg base CX0 1 f fd ["_law_script"] (spBegun K) := by
  refine F.ok sc_law_begun (fun vs H Q E h => ?_) (fun cdv A outer s H vs Q E hr h => ?_)
  · obtain ⟨a, ns, rfl, _⟩ := h
    rfl
  · obtain ⟨a, ns, rfl, hS, hlen, q⟩ := h
    refine ⟨_, (pss_cons (ps_set (i := 1) sc_law_begun.nd rfl (Or.inl rfl) pe_int)
  (pss_cons (ps_for PassesOwn.never rfl (pi_lt (pv 0)) (pg_name (i := 2) sc_law_begun.nd rfl (Or.inl rfl))
  (pss_one (ps_set (i := 1) sc_law_begun.nd rfl (Or.inl rfl) (pe_op op_mod (pe_op op_add (pe_op op_add (pe_op op_mul (pv 1) pe_int) (pe_op op_mul (pv 2) pe_int)) pe_int) pe_int))))
  (pss_one (ps_ret (pe_lst (pa_cons (pe_callTy call_list_of (by rfl) z_list (by decide +kernel) (pa_cons (pv 0) pa_nil)) (pa_cons (pe_op op_mul (pv 1) (pe_callTy call_int1 (by rfl) z_int (by decide +kernel) (pa_cons (pe_cmpR op_gt (pe_callB call_len_seq (by rfl) z_len (by decide +kernel) (pa_cons (pv 0) pa_nil)) pe_int (nomark _)) pa_nil))) pa_nil))))))), ?_⟩
    refine ⟨_, rfl, a, rfl, .inl ⟨_, hS, ?_⟩⟩
    refine for_it (walk_list (xs := ns.map V.int)) (fun i σ H' => ∃ (sd : Int) (x : Option V), σ = [some (.ref a), some (.int sd), x] ∧ H' = H ∧ 0 ≤ sd ∧ sd < 2147483647)
      ⟨0, none, rfl, rfl, by decide, by decide⟩ (fun i σ H' _ hp => by obtain ⟨_, _, _, rfl, _⟩ := hp; exact hS) (fun i x σ H1 H2 hi hp hy => ?_) (fun σ H1 hp => ?_)
    · obtain ⟨sd, x0, rfl, rfl, s0, s1⟩ := hp
      obtain ⟨rfl, hx⟩ := hy
      obtain ⟨n, hn, rfl⟩ : ∃ n, ns[i]? = some n ∧ V.int n = x := by rw [List.getElem?_map] at hx; simpa using hx
      refine ⟨_, rfl, _, _, rfl, rfl, .inl ⟨by omega, by omega⟩, _, rfl, _, _, rfl, rfl, .inr ⟨by decide, by decide⟩, _, _, rfl, rfl, _, _, rfl, rfl, _, _, rfl, rfl, (by show (0 : Int) < 2147483647; decide), ?_⟩
      exact ⟨_, _, rfl, rfl, Int.emod_nonneg _ (by decide), Int.emod_lt_of_pos _ (by decide)⟩
    · obtain ⟨sd, x0, rfl, rfl, s0, s1⟩ := hp
      refine ⟨.ref a, rfl, a, _, rfl, .inl hS, fun l nl => ?_⟩
      have sm : Same H1 (upd H1 l (.lst (ns.map V.int))) := same_new nl
      refine ⟨_, rfl, .ref a, rfl, a, _, rfl, .inl (sm.seq hS), _, _, rfl, rfl, .inr ⟨_, rfl, ?_⟩⟩
      refine ⟨_, _, rfl, rfl, .inl ⟨by omega, by omega⟩, by show 2 ≤ sizeLine; decide, fun b nb => ?_⟩
      refine q _ b l ⟨ns, _, upd_same, ?_, ?_, ?_, hlen⟩ (sm.trans (same_new nb))
      · rw [upd_ne (ne_of_none upd_same nb), upd_same]
      · split <;> omega
      · split <;> omega
/-! ### an order -/
abbrev st_law_order : Stmt := (topS 29)
abbrev nm_law_order : List Str := ["_law_box", "_law_cells", "_law_number", "_law_many", "_law_count", "_law_later"]
theorem sc_law_order : FnScope ["_law_box", "_law_cells", "_law_number", "_law_many", "_law_count", "_law_later"] ["_law_box", "_law_cells", "_law_number", "_law_many"] (defScope st_law_order) := ⟨rfl, rfl, rfl, by decide +kernel, rfl, by decide +kernel, by decide +kernel⟩
def spOrder : Sp := fun vs H Q _ => ∃ (b l : Addr) (cells at_ cnt : Nat), vs = [.ref b, nV cells, nV at_, nV cnt] ∧ Box H b l ∧ 1 ≤ cells ∧ cells ≤ 16 ∧ at_ < cnt ∧ cnt ≤ 4 ∧
  ∀ (H' : Hp) (a : Addr) (o : Ord), Box H' b l → But [b, l] H H' → H' a = some (.tup o.vs) → OrdOk o at_ cnt cells → Q (.ref a) H'
theorem ok_order {f : Addr} {fd : FuncData} (F : Fun K "_law_order" "_law_order" st_law_order f fd) (c_law_take : Callee P w K mg base "_law_take" 1 2 spTake) (z_min : mg "min" = none) :
    FnOk P w K mg base CX0 2 f fd ["_law_box", "_law_cells", "_law_number", "_law_many"] spOrder := by
  refine F.ok sc_law_order (fun vs H Q E h => ?_) (fun cdv A outer s H vs Q E hr h => ?_)
  · obtain ⟨b, l, cells, at_, cnt, rfl, _⟩ := h
    rfl
  · obtain ⟨b, l, cells, at_, cnt, rfl, hB, c1, c16, hat, h4, q⟩ := h
    refine ⟨_, (pss_cons (ps_set (i := 4) sc_law_order.nd rfl (Or.inl rfl) (pe_op op_add pe_int (pe_cal c_law_take hr (by first | decide | exact Nat.le_refl _) (pa_cons (pv 0) (pa_cons (pe_callB (call_min2 rfl) (by rfl) z_min (by decide +kernel) (pa_cons pe_int (pa_cons (pv 1) pa_nil))) pa_nil)))))
  (pss_cons (ps_set (i := 5) sc_law_order.nd rfl (Or.inl rfl) pe_non)
  (pss_cut (ps_if (PW.pt (pw_and (pt_cmpR op_lt (pe_op op_add (pv 2) pe_int) (pv 3) (nomark _)) (pw_and1 (pt_cmpR op_eq (pe_cal c_law_take hr (by first | decide | exact Nat.le_refl _) (pa_cons (pv 0) (pa_cons pe_int pa_nil))) pe_int (nomark _))))) (pss_one (ps_set (i := 5) sc_law_order.nd rfl (Or.inl rfl) (pe_op op_add (pe_op op_add (pv 2) pe_int) (pe_cal c_law_take hr (by first | decide | exact Nat.le_refl _) (pa_cons (pv 0) (pa_cons (pe_op op_sub (pe_op op_sub (pv 3) (pv 2)) pe_int) pa_nil)))))) pss_nil)
  (pss_one (ps_ret (pe_tup (pa_cons (pe_cal c_law_take hr (by first | decide | exact Nat.le_refl _) (pa_cons (pv 0) (pa_cons (pe_op op_add (pe_op op_sub (pv 1) (pv 4)) pe_int) pa_nil))) (pa_cons (pe_cal c_law_take hr (by first | decide | exact Nat.le_refl _) (pa_cons (pv 0) (pa_cons (pe_op op_add (pe_op op_sub (pv 1) (pv 4)) pe_int) pa_nil))) (pa_cons (pv 4) (pa_cons (pv 5) pa_nil)))))))))), ?_⟩
    -- count = 1 + take(box, min(8, cells))
    refine ⟨_, rfl, _, rfl, 8, cells, rfl, b, l, _, min 8 cells, rfl, (by split <;> omega), hB, by omega, by omega, fun H1 r hB1 bt1 hr1 => ?_⟩
    refine ⟨_, _, rfl, rfl, ?_⟩
    -- later
    refine ⟨fun σ' H' => ∃ lt : Option Nat, σ' = [some (.ref b), some (nV cells), some (nV at_), some (nV cnt), some (.int (1 + (r : Int))), some (oV lt)] ∧ Box H' b l ∧ But [b, l] H H' ∧ ∀ k, lt = some k → at_ < k ∧ k < cnt, ?_, fun σ' H' hM => ?_⟩
    · refine ⟨_, rfl, _, _, rfl, rfl, _, rfl, _, _, rfl, rfl, _, rfl, ite2 (fun e => ?_) (fun e => iteF ⟨none, rfl, hB1, bt1, fun k z => nomatch z⟩)⟩
      have e' : at_ + 1 < cnt := by have := of_decide_eq_true e; omega
      refine ⟨_, rfl, b, l, _, 2, rfl, rfl, hB1, by decide, by decide, fun H2 r2 hB2 bt2 hr2 => ?_⟩
      refine ⟨rfl, _, rfl, ite2 (fun e2 => ?_) (fun e2 => ⟨none, rfl, hB2, bt1.trans bt2, fun k z => nomatch z⟩)⟩
      refine ⟨_, rfl, _, _, rfl, rfl, _, rfl, _, rfl, _, rfl, _, _, rfl, rfl, _, _, rfl, rfl, b, l, _, cnt - at_ - 1, rfl, by omega, hB2, by omega, by omega, fun H3 r3 hB3 bt3 hr3 => ?_⟩
      refine ⟨_, _, rfl, rfl, some (at_ + 1 + r3), ?_, hB3, (bt1.trans bt2).trans bt3, fun k z => by cases z; omega⟩
      show _ = [some (.ref b), some (nV cells), some (nV at_), some (nV cnt), some (.int (1 + (r : Int))), some (nV (at_ + 1 + r3))]
      rw [show nV (at_ + 1 + r3) = .int ((at_ : Int) + 1 + (r3 : Int)) by simp [nV]]
      rfl
    · obtain ⟨lt, rfl, hB2, bt2, hlt⟩ := hM
      -- return (take(..), take(..), count, later)
      refine ⟨_, rfl, _, rfl, _, rfl, _, _, rfl, rfl, _, _, rfl, rfl, b, l, _, cells - (1 + r) + 1, rfl, by omega, hB2, by omega, by omega, fun H3 r3 hB3 bt3 hr3 => ?_⟩
      refine ⟨_, rfl, _, rfl, _, rfl, _, _, rfl, rfl, _, _, rfl, rfl, b, l, _, cells - (1 + r) + 1, rfl, by omega, hB3, by omega, by omega, fun H4 r4 hB4 bt4 hr4 => ?_⟩
      refine ⟨_, rfl, _, rfl, by show 4 ≤ sizeLine; decide, fun p np => ?_⟩
      have sm := same_new (o := .tup [nV r3, nV r4, .int (1 + (r : Int)), oV lt]) np
      refine q _ p ⟨r3, r4, 1 + r, lt⟩ (hB4.same sm) (((bt2.trans bt3).trans bt4).trans (Same.but sm)) ?_ ⟨?_, ?_, ?_, ?_, hlt⟩
      · rw [upd_same]
        show _ = some (HO.tup [nV r3, nV r4, nV (1 + r), oV lt])
        rw [show nV (1 + r) = .int (1 + (r : Int)) by simp [nV]]
      all_goals (dsimp only; omega)
end
end Vt
namespace Vt
open PySem PySem.Spec PyProof.Rows L2
theorem But.newset {B : List Addr} {H H' : Hp} {p : Addr} {o : HO} (n : H p = none) (h : But B H H') : But B H (upd H' p o) := fun c u m e => by
  rw [upd_ne (ne_of_none e n)]; exact h c u m e
theorem But.box {H : Hp} {b l p : Addr} {o : HO} (h : Box H b l) (n1 : p ≠ b) (n2 : p ≠ l) : Box (upd H p o) b l := by
  obtain ⟨ns, s, h1, h2, h3⟩ := h
  exact ⟨ns, s, by rw [upd_ne n1.symm]; exact h1, by rw [upd_ne n2.symm]; exact h2, h3⟩
def allWords : List Str := ["set", "add", "say", "start", "wait", "clean", "drop"]
section
variable {P : Program} {w : World} {K : PySem.W.Frag} {mg : Str → Option Value} {base : Heap}
abbrev st_law_deed : Stmt := (topS 30)
abbrev nm_law_deed : List Str := ["_law_box", "_law_cells", "_law_orders", "_law_kinds_here", "_law_word", "_law_cell"]
theorem sc_law_deed : FnScope ["_law_box", "_law_cells", "_law_orders", "_law_kinds_here", "_law_word", "_law_cell"] ["_law_box", "_law_cells", "_law_orders", "_law_kinds_here"] (defScope st_law_deed) := ⟨rfl, rfl, rfl, by decide +kernel, rfl, by decide +kernel, by decide +kernel⟩
def spDeed : Sp := fun vs H Q _ => ∃ (b l kl : Addr) (cells cnt : Nat) (ws : List Str), vs = [.ref b, nV cells, nV cnt, .ref kl] ∧ Box H b l ∧ 4 ≤ cells ∧ cells ≤ 16 ∧ 1 ≤ cnt ∧ cnt ≤ 4 ∧
  H kl = some (.lst (ws.map V.str)) ∧ ws ≠ [] ∧ ws.length ≤ 100 ∧ (∀ x ∈ ws, x ∈ allWords) ∧
  ∀ (H' : Hp) (a : Addr) (d : Deed), Box H' b l → But [b, l] H H' → H' a = some (.tup d.vs) → DeedOk d cnt cells → d.word ∈ ws → Q (.ref a) H'
theorem ok_deed {f : Addr} {fd : FuncData} (F : Fun K "_law_deed" "_law_deed" st_law_deed f fd) (c_law_take : Callee P w K mg base "_law_take" 1 2 spTake) (z_len : mg "len" = none) (z_int : mg "int" = none) :
    FnOk P w K mg base CX0 2 f fd ["_law_box", "_law_cells", "_law_orders", "_law_kinds_here"] spDeed := by
  refine F.ok sc_law_deed (fun vs H Q E h => ?_) (fun cdv A outer s H vs Q E hr h => ?_)
  · obtain ⟨b, l, kl, cells, cnt, ws, rfl, _⟩ := h
    rfl
  · obtain ⟨b, l, kl, cells, cnt, ws, rfl, hB, c4, c16, n1, n4, hk, hne, hlen, hws, q⟩ := h
    have hpos : 0 < ws.length := List.length_pos_iff.mpr hne
    have kb : kl ≠ b := by
      obtain ⟨ns, sd, e1, _⟩ := hB
      refine ne_of hk e1 fun z => ?_
      cases ws with
      | nil => exact hne rfl
      | cons x r => cases z
    have kl' : kl ≠ l := by
      obtain ⟨ns, sd, _, e2, _⟩ := hB
      refine ne_of hk e2 fun z => ?_
      cases ws with
      | nil => exact hne rfl
      | cons x r => cases ns with
        | nil => cases z
        | cons y t => cases z
    refine ⟨_, (pss_cons (ps_set (i := 4) sc_law_deed.nd rfl (Or.inl rfl) (pe_ix ix_lt (pv 3) (pe_cal c_law_take hr (by first | decide | exact Nat.le_refl _) (pa_cons (pv 0) (pa_cons (pe_callB call_len_seq (by rfl) z_len (by decide +kernel) (pa_cons (pv 3) pa_nil)) pa_nil))) (fun _ _ => rfl)))
  (pss_cons (ps_if (pt_cmpR op_eq (pv 4) pe_str (nomark _)) (pss_one (ps_ret (pe_tup (pa_cons (pv 4) pa_nil)))) pss_nil)
  (pss_cons (ps_if (pt_cmpR op_in_seq (pv 4) (pe_tup (pa_cons pe_str (pa_cons pe_str pa_nil))) (by rfl)) (pss_one (ps_ret (pe_tup (pa_cons (pv 4) (pa_cons (pe_cal c_law_take hr (by first | decide | exact Nat.le_refl _) (pa_cons (pv 0) (pa_cons (pe_op op_fdiv (pv 1) pe_int) pa_nil))) pa_nil))))) pss_nil)
  (pss_cons (ps_if (pt_cmpR op_eq (pv 4) pe_str (nomark _)) (pss_one (ps_ret (pe_tup (pa_cons (pv 4) (pa_cons (pe_cal c_law_take hr (by first | decide | exact Nat.le_refl _) (pa_cons (pv 0) (pa_cons (pv 2) pa_nil))) pa_nil))))) pss_nil)
  (pss_cons (ps_set (i := 5) sc_law_deed.nd rfl (Or.inl rfl) (pe_cal c_law_take hr (by first | decide | exact Nat.le_refl _) (pa_cons (pv 0) (pa_cons (pv 1) pa_nil))))
  (pss_cons (ps_if (pt_cmpR op_eq (pv 4) pe_str (nomark _)) (pss_one (ps_ret (pe_tup (pa_cons (pv 4) (pa_cons (pv 5) pa_nil))))) pss_nil)
  (pss_one (ps_ret (pe_tup (pa_cons (pv 4) (pa_cons (pv 5) (pa_cons (pe_cal c_law_take hr (by first | decide | exact Nat.le_refl _) (pa_cons (pv 0) (pa_cons (pe_ix ix_lt (pe_lst (pa_cons pe_int (pa_cons (pv 1) pa_nil))) (pe_callTy call_int1 (by rfl) z_int (by decide +kernel) (pa_cons (pe_cmpR op_eq (pv 4) pe_str (nomark _)) pa_nil)) (fun _ _ => rfl)) pa_nil))) pa_nil)))))))))))), ?_⟩
    refine ⟨_, rfl, _, rfl, _, rfl, _, _, rfl, .inl (sqL_l hk), b, l, _, ws.length, rfl, by simp, hB, hpos, by omega, fun H1 r hB1 bt1 hr1 => ?_⟩
    have hk1 : H1 kl = some (.lst (ws.map V.str)) := bt1 _ _ (by simp [kb, kl']) hk
    have hx : (ws.map V.str)[r]? = some (.str ws[r]) := by rw [List.getElem?_map, List.getElem?_eq_getElem hr1]; rfl
    have hmem : ws[r] ∈ ws := List.getElem_mem hr1
    have hall := hws _ hmem
    generalize ws[r] = wd at hx hmem hall
    refine ⟨kl, _, (r : Int), .str wd, rfl, rfl, sqA_l hk1, atI_nat hx, ?_⟩
    -- if word == "wait"
    refine ⟨_, rfl, rfl, _, rfl, ite2 (fun e => ?_) (fun e1 => ?_)⟩
    · cases of_decide_eq_true e
      refine ⟨_, rfl, by show 1 ≤ sizeLine; decide, fun p np => ?_⟩
      exact q _ p .wait (hB1.same (same_new np)) (bt1.trans (Same.but (same_new np))) upd_same trivial hmem
    -- if word in ("clean", "drop")
    refine ⟨_, rfl, by show 2 ≤ sizeLine; decide, fun p np => ?_⟩
    have hB2 := hB1.same (same_new (o := .tup [.str "clean", .str "drop"]) np)
    have bt2 := bt1.trans (Same.but (same_new (o := .tup [.str "clean", .str "drop"]) np))
    refine ⟨p, _, rfl, .inr (sqT_t upd_same), rfl, rfl, _, rfl, ite2 (fun e => ?_) (fun e2 => ?_)⟩
    · refine ⟨_, rfl, _, rfl, _, rfl, _, _, rfl, rfl, ⟨by decide, by decide⟩, b, l, _, cells / 4, rfl, by simp, hB2, by omega, by omega, fun H3 r3 hB3 bt3 hr3 => ?_⟩
      refine ⟨by show 2 ≤ sizeLine; decide, fun p2 np2 => ?_⟩
      have e' : (Str.ofString "clean") = wd ∨ (Str.ofString "drop") = wd := by
        simp only [inV, eqV, List.any_cons, List.any_nil, Bool.or_false, Bool.or_eq_true] at e
        simpa using e
      rcases e' with rfl | rfl
      · exact q _ p2 (.clean r3) (hB3.same (same_new np2)) ((bt2.trans bt3).trans (Same.but (same_new np2))) upd_same hr3 hmem
      · exact q _ p2 (.drop r3) (hB3.same (same_new np2)) ((bt2.trans bt3).trans (Same.but (same_new np2))) upd_same hr3 hmem
    -- if word == "start"
    refine ⟨_, rfl, rfl, _, rfl, ite2 (fun e => ?_) (fun e3 => ?_)⟩
    · cases of_decide_eq_true e
      refine ⟨_, rfl, _, rfl, _, rfl, b, l, _, cnt, rfl, rfl, hB2, by omega, by omega, fun H3 r3 hB3 bt3 hr3 => ?_⟩
      refine ⟨by show 2 ≤ sizeLine; decide, fun p2 np2 => ?_⟩
      exact q _ p2 (.start r3) (hB3.same (same_new np2)) ((bt2.trans bt3).trans (Same.but (same_new np2))) upd_same hr3 hmem
    refine ⟨_, rfl, _, rfl, b, l, _, cells, rfl, rfl, hB2, by omega, by omega, fun H3 r3 hB3 bt3 hr3 => ?_⟩
    -- if word == "say"
    refine ⟨_, rfl, rfl, _, rfl, ite2 (fun e => ?_) (fun e4 => ?_)⟩
    · cases of_decide_eq_true e
      refine ⟨_, rfl, _, rfl, by show 2 ≤ sizeLine; decide, fun p2 np2 => ?_⟩
      exact q _ p2 (.say r3) (hB3.same (same_new np2)) ((bt2.trans bt3).trans (Same.but (same_new np2))) upd_same hr3 hmem
    have hsa : wd = "set" ∨ wd = "add" := by
      have f1 : ¬ wd = "wait" := fun z => e1 (by rw [z]; exact decide_eq_true rfl)
      have f3 : ¬ wd = "start" := fun z => e3 (by rw [z]; exact decide_eq_true rfl)
      have f4 : ¬ wd = "say" := fun z => e4 (by rw [z]; exact decide_eq_true rfl)
      have f2 : ¬ (wd = "clean" ∨ wd = "drop") := fun z => e2 (by rcases z with rfl | rfl <;> decide)
      simp only [allWords, List.mem_cons, List.not_mem_nil, or_false] at hall
      rcases hall with h | h | h | h | h | h | h
      · exact .inl h
      · exact .inr h
      · exact absurd h f4
      · exact absurd h f3
      · exact absurd h f1
      · exact absurd (.inl h) f2
      · exact absurd (.inr h) f2
    refine ⟨_, rfl, _, rfl, _, rfl, _, rfl, by show 2 ≤ sizeLine; decide, fun p2 np2 => ?_⟩
    have hB4 := hB3.same (same_new (o := .lst [.int 10, nV cells]) np2)
    have bt4 := (bt2.trans bt3).trans (Same.but (same_new (o := .lst [.int 10, nV cells]) np2))
    refine ⟨_, rfl, rfl, .inr ⟨_, rfl, ?_⟩⟩
    rcases hsa with rfl | rfl
    · refine ⟨p2, [.int 10, nV cells], 0, .int 10, rfl, (by decide), sqA_l upd_same, rfl, b, l, _, 10, rfl, rfl, hB4, by decide, by decide, fun H5 r5 hB5 bt5 hr5 => ?_⟩
      refine ⟨by show 3 ≤ sizeLine; decide, fun p3 np3 => ?_⟩
      exact q _ p3 (.set r3 r5) (hB5.same (same_new np3)) ((bt4.trans bt5).trans (Same.but (same_new np3))) upd_same ⟨hr3, hr5⟩ hmem
    · refine ⟨p2, [.int 10, nV cells], 1, nV cells, rfl, (by decide), sqA_l upd_same, rfl, b, l, _, cells, rfl, rfl, hB4, by omega, by omega, fun H5 r5 hB5 bt5 hr5 => ?_⟩
      refine ⟨by show 3 ≤ sizeLine; decide, fun p3 np3 => ?_⟩
      exact q _ p3 (.add r3 r5) (hB5.same (same_new np3)) ((bt4.trans bt5).trans (Same.but (same_new np3))) upd_same ⟨hr3, hr5⟩ hmem
end
end Vt
namespace Vt
open PySem PySem.Spec PyProof.Rows L2
theorem nV_add (a b : Nat) : (V.int ((a : Int) + (b : Int))) = nV (a + b) := by simp [nV]
theorem filter_app {α : Type} (p : α → Bool) (xs : List α) (x : α) : ((xs ++ [x]).filter p).length = (xs.filter p).length + (if p x then 1 else 0) := by
  rw [List.filter_append, List.length_append]
  congr 1
  cases h : p x <;> simp [h]
theorem word_start (d : Deed) : (d.word = "start") ↔ isStart d = true := by
  cases d <;> simp [Deed.word, isStart] <;> decide
section
variable {P : Program} {w : World} {K : PySem.W.Frag} {mg : Str → Option Value} {base : Heap}
abbrev st_law_board : Stmt := (topS 31)
abbrev nm_law_board : List Str := ["_law_box", "_law_lines", "_law_deeds", "_law_kinds_here", "_law_cells", "_law_memory", "_law_cell", "_law_many", "_law_orders", "_law_number", "_law_program", "_law_turn", "_law_deed_here", "_law_one"]
theorem sc_law_board : FnScope ["_law_box", "_law_lines", "_law_deeds", "_law_kinds_here", "_law_cells", "_law_memory", "_law_cell", "_law_many", "_law_orders", "_law_number", "_law_program", "_law_turn", "_law_deed_here", "_law_one"] ["_law_box", "_law_lines", "_law_deeds", "_law_kinds_here"] (defScope st_law_board) := ⟨rfl, rfl, rfl, by decide +kernel, rfl, by decide +kernel, by decide +kernel⟩
def spBoard : Sp := fun vs H Q _ => ∃ (b l kl : Addr) (lines deeds : Nat) (ws : List Str), vs = [.ref b, nV lines, nV deeds, .ref kl] ∧ Box H b l ∧ 1 ≤ lines ∧ lines ≤ 4 ∧ deeds ≤ 60 ∧
  H kl = some (.lst (ws.map V.str)) ∧ ws ≠ [] ∧ ws.length ≤ 100 ∧ (∀ x ∈ ws, x ∈ allWords) ∧
  ∀ (H' : Hp) (v : V) (B : Brd), Box H' b l → But [b, l] H H' → Pd H' v B.d → BrdOk B → B.mem.length ≤ 4 * lines → B.prog.length ≤ deeds → 1 ≤ B.ords.length → (∀ d ∈ B.prog, d.word ∈ ws ∨ d.word = "say") → Q v H'
theorem ok_board {f : Addr} {fd : FuncData} (F : Fun K "_law_board" "_law_board" st_law_board f fd) (c_law_take : Callee P w K mg base "_law_take" 1 2 spTake) (c_law_order : Callee P w K mg base "_law_order" 2 4 spOrder) (c_law_deed : Callee P w K mg base "_law_deed" 2 4 spDeed)
    (z_len : mg "len" = none) (z_tuple : mg "tuple" = none) (z_range : mg "range" = none) : FnOk P w K mg base CX0 3 f fd ["_law_box", "_law_lines", "_law_deeds", "_law_kinds_here"] spBoard := by
  refine F.ok sc_law_board (fun vs H Q E h => ?_) (fun cdv A outer s H vs Q E hr h => ?_)
  · obtain ⟨b, l, kl, lines, deeds, ws, rfl, _⟩ := h
    rfl
  · obtain ⟨b, l, kl, lines, deeds, ws, rfl, hB, l1, l4, d60, hk, hne, hlen, hws, q⟩ := h
    have kb : kl ≠ b := by
      obtain ⟨ns, sd, e1, _⟩ := hB
      refine ne_of hk e1 fun z => ?_
      cases ws with
      | nil => exact hne rfl
      | cons x r => cases z
    have kl' : kl ≠ l := by
      obtain ⟨ns, sd, _, e2, _⟩ := hB
      refine ne_of hk e2 fun z => ?_
      cases ws with
      | nil => exact hne rfl
      | cons x r => cases ns with
        | nil => cases z
        | cons y t => cases z
    have hknot : kl ∉ [b, l] := by simp [kb, kl']
    have nonb : ∀ p, H p = none → p ≠ b ∧ p ≠ l := fun p np => by
      obtain ⟨ns, sd, e1, e2, _⟩ := hB
      exact ⟨(ne_of_none e1 np).symm, (ne_of_none e2 np).symm⟩
    refine ⟨_, (pss_cons (ps_set (i := 4) sc_law_board.nd rfl (Or.inr rfl) (pe_op op_mul pe_int (pe_op op_add pe_int (pe_cal c_law_take hr (by first | decide | exact Nat.le_refl _) (pa_cons (pv 0) (pa_cons (pv 1) pa_nil))))))
  (pss_cons (ps_set (i := 5) sc_law_board.nd rfl (Or.inl rfl) (pe_callTy call_tuple_of (by rfl) z_tuple (by decide +kernel) (pa_cons (pe_lc (own := [("_law_cell", 6)]) rfl sc_law_board.nd (pi_range1 (by rfl) z_range (pa_cons (pv 4) pa_nil)) (blkOk_by (own := [("_law_cell", 6)]) (N := nm_law_board) (sc := defScope (topS 31)) (by decide +kernel)) (fun _ _ _ _ _ => (pg_name (i := 6) sc_law_board.nd rfl (Or.inl rfl))) (fun _ _ _ _ _ => pts_nil) (fun _ _ _ _ _ => (pe_cal c_law_take hr (by first | decide | exact Nat.le_refl _) (pa_cons (pv 0) (pa_cons pe_int pa_nil))))) pa_nil)))
  (pss_cons (ps_set (i := 7) sc_law_board.nd rfl (Or.inr rfl) (pe_op op_add pe_int (pe_cal c_law_take hr (by first | decide | exact Nat.le_refl _) (pa_cons (pv 0) (pa_cons pe_int pa_nil)))))
  (pss_cons (ps_set (i := 8) sc_law_board.nd rfl (Or.inl rfl) (pe_callTy call_tuple_of (by rfl) z_tuple (by decide +kernel) (pa_cons (pe_lc (own := [("_law_number", 9)]) rfl sc_law_board.nd (pi_range1 (by rfl) z_range (pa_cons (pv 7) pa_nil)) (blkOk_by (own := [("_law_number", 9)]) (N := nm_law_board) (sc := defScope (topS 31)) (by decide +kernel)) (fun _ _ _ _ _ => (pg_name (i := 9) sc_law_board.nd rfl (Or.inl rfl))) (fun _ _ _ _ _ => pts_nil) (fun _ _ _ _ _ => (pe_cal c_law_order hr (by first | decide | exact Nat.le_refl _) (pa_cons (pv 0) (pa_cons (pv 4) (pa_cons (pv 9) (pa_cons (pv 7) pa_nil))))))) pa_nil)))
  (pss_cons (ps_set (i := 10) sc_law_board.nd rfl (Or.inl rfl) (pe_lst pa_nil))
  (pss_cons (ps_for PassesOwn.never rfl (pi_range1 (by rfl) z_range (pa_cons (pe_cal c_law_take hr (by first | decide | exact Nat.le_refl _) (pa_cons (pv 0) (pa_cons (pe_op op_add (pv 2) pe_int) pa_nil))) pa_nil)) (pg_name (i := 11) sc_law_board.nd rfl (Or.inl rfl))
  (pss_cons (ps_set (i := 12) sc_law_board.nd rfl (Or.inl rfl) (pe_cal c_law_deed hr (by first | decide | exact Nat.le_refl _) (pa_cons (pv 0) (pa_cons (pv 4) (pa_cons (pv 7) (pa_cons (pv 3) pa_nil))))))
  (pss_cut (ps_if (PW.pt (pw_and (pt_cmpR op_eq (pe_ix ix_lt (pv 12) pe_int (fun _ _ => rfl)) pe_str (nomark _)) (pw_and1 (pt_cmpR op_eq (pe_callB call_len_seq (by rfl) z_len (by decide +kernel) (pa_cons (pe_lc (own := [("_law_one", 13)]) rfl sc_law_board.nd (pi_lt (pv 10)) (blkOk_by (own := [("_law_one", 13)]) (N := nm_law_board) (sc := defScope (topS 31)) (by decide +kernel)) (fun _ _ _ _ _ => (pg_name (i := 13) sc_law_board.nd rfl (Or.inl rfl))) (fun _ _ _ _ _ => (pts_one (pt_cmpR op_eq (pe_ix (ix_ltk K) (pv 13) pe_int (fun _ _ => rfl)) pe_str (nomark _)))) (fun _ _ _ _ _ => (pv 13))) pa_nil)) pe_int (nomark _))))) (pss_one (ps_set (i := 12) sc_law_board.nd rfl (Or.inl rfl) (pe_tup (pa_cons pe_str (pa_cons (pe_cal c_law_take hr (by first | decide | exact Nat.le_refl _) (pa_cons (pv 0) (pa_cons (pv 4) pa_nil))) pa_nil))))) pss_nil)
  (pss_one (ps_expr (pe_bm PySem.F.plainAttrs_list PySem.F.slot_list_append PySem.F.type_list_append mt_append (pv 10) (pa_cons (pv 12) pa_nil)))))))
  (pss_one (ps_ret (pe_tup (pa_cons (pv 5) (pa_cons (pv 8) (pa_cons (pe_callTy call_tuple_of (by rfl) z_tuple (by decide +kernel) (pa_cons (pv 10) pa_nil)) pa_nil)))))))))))), ?_⟩
    -- cells = 4 * (1 + take(box, lines))
    refine ⟨_, rfl, _, rfl, b, l, _, lines, rfl, rfl, hB, by omega, by omega, fun H1 r1 hB1 bt1 hr1 => ?_⟩
    refine ⟨_, _, rfl, rfl, _, _, rfl, rfl, .inl ⟨by decide, by decide⟩, ?_⟩
    have ec : (4 : Int) * (1 + (r1 : Int)) = ((4 * (1 + r1) : Nat) : Int) := by omega
    refine chgN (y := nV (4 * (1 + r1))) (congrArg V.int ec) ?_
    generalize hc : 4 * (1 + r1) = cells
    have c16 : cells ≤ 16 := by omega
    have cN : cells = 4 ∨ cells = 8 ∨ cells = 12 ∨ cells = 16 := by omega
    -- memory
    refine ⟨_, rfl, _, rfl, by omega, by omega, fun D1 nD1 => ?_⟩
    refine lc_it (walk_range (lo := 0) (n := (cells : Int).toNat)) (fun i H' => ∃ ns : List Nat, ns.length = i ∧ (∀ n ∈ ns, n < 10) ∧ H' D1 = some (.lst (ns.map nV)) ∧ Box H' b l ∧ But [b, l] H1 H')
      ⟨[], rfl, by simp, upd_same, hB1.same (same_new nD1), Same.but (same_new nD1)⟩ (fun _ _ _ _ => trivial) (fun i x H2 H3 hi hp hy => ?_) (fun H2 hp => ?_)
    · obtain ⟨ns, e1, e2, e3, hB2, bt2⟩ := hp
      obtain ⟨rfl, rfl⟩ := hy
      refine ⟨rfl, ?_⟩
      refine ⟨_, rfl, b, l, _, 10, rfl, rfl, hB2, by decide, by decide, fun H4 r hB4 bt4 hr => ?_⟩
      have nD : D1 ≠ b ∧ D1 ≠ l := by
        obtain ⟨ns', sd, f1, f2, _⟩ := hB1
        exact ⟨(ne_of_none f1 nD1).symm, (ne_of_none f2 nD1).symm⟩
      have e3' := bt4 _ _ (by simp [nD.1, nD.2]) e3
      refine ⟨_, e3', by rw [List.length_map]; exact fits (by omega), ns ++ [r], by simp [e1], fun n hn => ?_, by rw [upd_same, List.map_append]; rfl, But.box hB4 nD.1 nD.2, But.newset nD1 (bt2.trans bt4)⟩
      rcases List.mem_append.mp hn with h | h
      · exact e2 n h
      · rw [List.mem_singleton.mp h]; exact hr
    obtain ⟨mem, m1, m2, m3, hB2, bt2⟩ := hp
    refine ⟨D1, _, rfl, .inl ⟨sqL_l m3, fun M nM => ?_⟩⟩
    have hM : (upd H2 M (.tup (mem.map nV))) M = some (.tup (mem.map nV)) := upd_same
    have hB3 := hB2.same (same_new (o := .tup (mem.map nV)) nM)
    have bt3 := (bt1.trans bt2).trans (Same.but (same_new (o := .tup (mem.map nV)) nM))
    have mlen : mem.length = cells := by omega
    generalize upd H2 M (.tup (mem.map nV)) = H3 at hM hB3 bt3
    -- many = 1 + take(box, 4)
    refine ⟨_, rfl, b, l, _, 4, rfl, rfl, hB3, by decide, by decide, fun H4 r4 hB4 bt4 hr4 => ?_⟩
    refine ⟨_, _, rfl, rfl, ?_⟩
    refine chgN (y := nV (1 + r4)) (congrArg V.int (by omega)) ?_
    generalize hcnt : 1 + r4 = cnt
    have nMb : M ∉ [b, l] := fun m => by
      obtain ⟨ys, e⟩ := hB3.lsts _ m
      rw [hM] at e; cases e
    have hM4 := bt4 _ _ nMb hM
    -- orders
    refine ⟨_, rfl, _, rfl, by omega, by omega, fun D2 nD2 => ?_⟩
    have nD2' : D2 ≠ b ∧ D2 ≠ l := by
      obtain ⟨ns', sd, f1, f2, _⟩ := hB4
      exact ⟨(ne_of_none f1 nD2).symm, (ne_of_none f2 nD2).symm⟩
    refine lc_it (walk_range (lo := 0) (n := (cnt : Int).toNat)) (fun i H' => ∃ (os : List Ord) (vs : List V), os.length = i ∧ (∀ (j : Nat) (o : Ord), os[j]? = some o → OrdOk o j cnt cells) ∧ Pds H' vs (os.map Ord.d) ∧ H' D2 = some (.lst vs) ∧ Box H' b l ∧ But [b, l] H4 H')
      ⟨[], [], rfl, by simp, .nil, upd_same, hB4.same (same_new nD2), Same.but (same_new nD2)⟩ (fun _ _ _ _ => trivial) (fun i x H5 H6 hi hp hy => ?_) (fun H5 hp => ?_)
    · obtain ⟨os, vs, e1, e2, e3, e4, hB5, bt5⟩ := hp
      obtain ⟨rfl, rfl⟩ := hy
      refine ⟨rfl, ?_⟩
      refine ⟨_, rfl, _, rfl, _, rfl, _, rfl, b, l, cells, i, cnt, by simp [nV], hB5, by omega, c16, by omega, by omega, fun H7 a o hB7 bt7 ha ho => ?_⟩
      have e4' := bt7 _ _ (by simp [nD2'.1, nD2'.2]) e4
      have hs5 : Pds H7 vs (os.map Ord.d) := Pds.but bt7 hB5.lsts (noLs_map noL_ord _) e3
      have aD : a ≠ D2 := fun z => by rw [z, e4'] at ha; cases ha
      have lsD : Lsts H7 [D2] := fun c hc => ⟨vs, by rw [List.mem_singleton.mp hc]; exact e4'⟩
      have stepB : But [D2] H7 (upd H7 D2 (.lst (vs ++ [.ref a]))) := But.set (by simp)
      have vlen := e3.len
      refine ⟨_, e4', by rw [vlen, List.length_map]; exact fits (by omega), os ++ [o], vs ++ [.ref a], by simp [e1], fun j o' hj => ?_, ?_, upd_same, But.box hB7 nD2'.1 nD2'.2, But.newset nD2 (bt5.trans bt7)⟩
      · rcases Nat.lt_or_ge j os.length with h | h
        · rw [List.getElem?_append_left h] at hj
          exact e2 j o' hj
        · rw [List.getElem?_append_right h] at hj
          have : j - os.length = 0 := by
            have := (List.getElem?_eq_some_iff.mp hj).1
            simp at this; omega
          rw [this] at hj
          cases hj
          have ej : j = i := by omega
          rw [ej]; exact ho
      · rw [List.map_append]
        exact (Pds.but stepB lsD (noLs_map noL_ord _) hs5).app (.cons (Ord.pd (by rw [upd_ne aD]; exact ha)) .nil)
    obtain ⟨os, ovs, o1, o2, o3, o4, hB5, bt5⟩ := hp
    refine ⟨D2, _, rfl, .inl ⟨sqL_l o4, fun O nO => ?_⟩⟩
    have hM5 := bt5 _ _ nMb hM4
    have sO : Same H5 (upd H5 O (.tup ovs)) := same_new nO
    have hO : (upd H5 O (.tup ovs)) O = some (.tup ovs) := upd_same
    have hOs := Pds.same sO o3
    have hM6 := sO _ _ hM5
    have hB6 := hB5.same sO
    have bt6 := ((bt3.trans bt4).trans bt5).trans (Same.but sO)
    have olen : os.length = cnt := by omega
    generalize upd H5 O (.tup ovs) = H6 at hO hOs hM6 hB6 bt6 sO
    have nOb : O ∉ [b, l] := fun m => by
      obtain ⟨ys, e⟩ := hB6.lsts _ m
      rw [hO] at e; cases e
    -- program = []
    refine ⟨Nat.zero_le _, fun pl npl => ?_⟩
    have hB7 := hB6.same (same_new (o := .lst []) npl)
    have npl' : pl ≠ b ∧ pl ≠ l := by
      obtain ⟨ns', sd, f1, f2, _⟩ := hB6
      exact ⟨(ne_of_none f1 npl).symm, (ne_of_none f2 npl).symm⟩
    -- for turn in range(take(box, deeds + 1))
    refine ⟨_, rfl, _, rfl, _, _, rfl, rfl, b, l, _, deeds + 1, rfl, by omega, hB7, by omega, by omega, fun H8 r8 hB8 bt8 hr8 => ?_⟩
    refine ⟨_, rfl, by omega, by omega, ?_⟩
    have hpl8 : H8 pl = some (.lst []) := bt8 _ _ (by simp [npl'.1, npl'.2]) upd_same
    have btx : But [b, l] H6 H8 := (Same.but (same_new npl)).trans bt8
    refine for_it (walk_range (lo := 0) (n := (r8 : Int).toNat)) (fun i σ H' => ∃ (ds : List Deed) (vs : List V) (y1 y2 : Option V), σ = [some (.ref b), some (nV lines), some (nV deeds), some (.ref kl), some (nV cells), some (.ref M), none, some (nV cnt), some (.ref O), none, some (.ref pl), y1, y2, none] ∧
        ds.length = i ∧ (∀ d ∈ ds, DeedOk d cnt cells ∧ (d.word ∈ ws ∨ d.word = "say")) ∧ (ds.filter isStart).length ≤ 3 ∧ Pds H' vs (ds.map Deed.d) ∧ H' pl = some (.lst vs) ∧ Box H' b l ∧ But [b, l] H6 H')
      ⟨[], [], _, _, rfl, rfl, by simp, by simp, .nil, hpl8, hB8, btx⟩ (fun _ _ _ _ _ => trivial) (fun i x σ H9 H10 hi hp hy => ?_) (fun σ H9 hp => ?_)
    · obtain ⟨ds, vs, y1, y2, rfl, e1, e2, e3, e4, e5, hB9, bt9⟩ := hp
      obtain ⟨rfl, rfl⟩ := hy
      have hk9 := (bt6.trans bt9) _ _ hknot hk
      refine ⟨_, rfl, _, rfl, _, rfl, _, rfl, b, l, kl, cells, cnt, ws, rfl, hB9, by omega, c16, by omega, by omega, hk9, hne, hlen, hws, fun H11 a d hB11 bt11 ha hd hw => ?_⟩
      have e5' := bt11 _ _ (by simp [npl'.1, npl'.2]) e5
      have e4' : Pds H11 vs (ds.map Deed.d) := Pds.but bt11 hB9.lsts (noLs_map noL_deed _) e4
      -- if deed[0] == "start" and len([..]) == 3
      refine ⟨fun σ' H' => ∃ (a' : Addr) (d' : Deed), σ' = [some (.ref b), some (nV lines), some (nV deeds), some (.ref kl), some (nV cells), some (.ref M), none, some (nV cnt), some (.ref O), none, some (.ref pl), some (.int (0 + (i : Int))), some (.ref a'), none] ∧
          H' a' = some (.tup d'.vs) ∧ DeedOk d' cnt cells ∧ (d'.word ∈ ws ∨ d'.word = "say") ∧ ((ds ++ [d']).filter isStart).length ≤ 3 ∧ Pds H' vs (ds.map Deed.d) ∧ H' pl = some (.lst vs) ∧ Box H' b l ∧ But [b, l] H6 H', ?_, fun σ' H' hM => ?_⟩
      · refine ⟨_, rfl, a, _, 0, .str d.word, rfl, rfl, sqA_t ha, at0, rfl, _, rfl, ite2 (fun e => ?_) (fun e => iteF ?_)⟩
        · have ew : d.word = "start" := by injection of_decide_eq_true e
          have es : isStart d = true := (word_start d).mp ew
          -- the comprehension
          refine ⟨_, rfl, pl, rfl, .inl ⟨_, sqL_l e5', fun D3 nD3 => ?_⟩⟩
          have plD : pl ≠ D3 := ne_of_none e5' nD3
          refine lc_it (walk_list (xs := vs)) (fun j H' => ∃ acc : List V, acc.length = ((ds.take j).filter isStart).length ∧ H' D3 = some (.lst acc) ∧ Same H11 H')
            ⟨[], rfl, upd_same, same_new nD3⟩ (fun j H' _ hp => by obtain ⟨_, _, _, sm⟩ := hp; exact sqL_l (sm _ _ e5')) (fun j x H12 H13 hj hp hy => ?_) (fun H12 hp => ?_)
          · obtain ⟨acc, a1, a2, sm⟩ := hp
            obtain ⟨rfl, hx⟩ := hy
            obtain ⟨dd, hdd, hpd⟩ := e4'.get' hx
            rw [List.getElem?_map] at hdd
            obtain ⟨d0, hd0, rfl⟩ : ∃ d0, ds[j]? = some d0 ∧ d0.d = dd := by simpa using hdd
            obtain ⟨a0, rfl, ha0⟩ := Deed.of hpd
            have tk : ((ds.take (j + 1)).filter isStart).length = ((ds.take j).filter isStart).length + (if isStart d0 then 1 else 0) := by
              rw [List.take_add_one, hd0]
              exact filter_app _ _ _
            refine ⟨rfl, _, rfl, a0, _, 0, .str d0.word, rfl, rfl, sqA_t (sm _ _ ha0), at0, rfl, _, rfl, ite2 (fun e => ?_) (fun e => ?_)⟩
            · have ew : d0.word = "start" := by injection of_decide_eq_true e
              have alen : acc.length ≤ 60 := by
                have := List.length_filter_le isStart (ds.take j)
                have := List.length_take_le' j ds
                omega
              refine ⟨_, rfl, acc, a2, fits (by omega), acc ++ [.ref a0], ?_, upd_same, fun c u hc => ?_⟩
              · rw [tk, (word_start d0).mp ew, List.length_append, a1]; rfl
              · rw [upd_ne (ne_of_none hc nD3)]; exact sm _ _ hc
            · have ew : ¬ isStart d0 = true := fun z => e (by rw [(word_start d0).mpr z]; exact decide_eq_true rfl)
              exact ⟨acc, by rw [tk, if_neg ew]; exact a1, a2, sm⟩
          · obtain ⟨acc, a1, a2, sm⟩ := hp
            have vlen : vs.length = ds.length := by rw [e4'.len, List.length_map]
            rw [vlen, List.take_length] at a1
            refine ⟨D3, _, rfl, .inl (sqL_l a2), rfl, _, rfl, ite2 (fun e7 => ?_) (fun e7 => ?_)⟩
            · refine ⟨_, rfl, _, rfl, b, l, _, cells, rfl, rfl, hB11.same sm, by omega, by omega, fun H14 r14 hB14 bt14 hr14 => ?_⟩
              refine ⟨by show 2 ≤ sizeLine; decide, fun a' na' => ?_⟩
              have s4 : Pds H14 vs (ds.map Deed.d) := Pds.but bt14 (hB11.same sm).lsts (noLs_map noL_deed _) (Pds.same sm e4')
              have s5 := bt14 _ _ (by simp [npl'.1, npl'.2]) (sm _ _ e5')
              refine ⟨a', .say r14, rfl, upd_same, hr14, .inr rfl, ?_, Pds.same (same_new na') s4, same_new na' _ _ s5, hB14.same (same_new na'), (((bt9.trans bt11).trans (Same.but sm)).trans bt14).trans (Same.but (same_new na'))⟩
              rw [filter_app]; exact e3
            · refine ⟨a, d, rfl, sm _ _ ha, hd, .inl hw, ?_, Pds.same sm e4', sm _ _ e5', hB11.same sm, (bt9.trans bt11).trans (Same.but sm)⟩
              rw [filter_app, if_pos es]
              have : ¬ acc.length = 3 := fun z => e7 (by rw [z]; rfl)
              omega
        · refine ⟨a, d, rfl, ha, hd, .inl hw, ?_, e4', e5', hB11, bt9.trans bt11⟩
          have ew : ¬ isStart d = true := fun z => e (by rw [(word_start d).mpr z]; exact decide_eq_true rfl)
          rw [filter_app, if_neg ew]; exact e3
      · obtain ⟨a', d', rfl, f1, f2, f3, f4, f5, f6, hB14, bt14⟩ := hM
        have vlen : vs.length = ds.length := by rw [f5.len, List.length_map]
        refine ⟨_, rfl, .inl ⟨rfl, _, sqL_l f6⟩, _, rfl, pl, _, _, rfl, rfl, f6, fits (by omega), ?_⟩
        have ap : a' ≠ pl := fun z => by rw [z, f6] at f1; cases f1
        have lsD : Lsts H' [pl] := fun c hc => ⟨vs, by rw [List.mem_singleton.mp hc]; exact f6⟩
        have stepB : But [pl] H' (upd H' pl (.lst (vs ++ [.ref a']))) := But.set (by simp)
        refine ⟨ds ++ [d'], vs ++ [.ref a'], _, _, rfl, by simp [e1], fun d hd => ?_, f4, ?_, upd_same, But.box hB14 npl'.1 npl'.2, But.newset npl bt14⟩
        · rcases List.mem_append.mp hd with h | h
          · exact e2 d h
          · rw [List.mem_singleton.mp h]; exact ⟨f2, f3⟩
        · rw [List.map_append]
          exact (Pds.but stepB lsD (noLs_map noL_deed _) f5).app (.cons (Deed.pd (by rw [upd_ne ap]; exact f1)) .nil)
    · obtain ⟨ds, vs, y1, y2, rfl, e1, e2, e3, e4, e5, hB9, bt9⟩ := hp
      refine ⟨_, rfl, _, rfl, _, rfl, pl, _, rfl, .inl ⟨sqL_l e5, fun Pt nPt => ?_⟩⟩
      refine ⟨by show 3 ≤ sizeLine; decide, fun v nv => ?_⟩
      have s1 : Same H9 (upd H9 Pt (.tup vs)) := same_new nPt
      have s2 := same_new (o := .tup [.ref M, .ref O, .ref Pt]) nv
      have s12 := s1.trans s2
      have gM := s12 _ _ (bt9 _ _ nMb hM6)
      have gO := s12 _ _ (bt9 _ _ nOb hO)
      have gP := s2 _ _ (show (upd H9 Pt (.tup vs)) Pt = some (.tup vs) from upd_same)
      refine q _ (.ref v) ⟨mem, os, ds⟩ (hB9.same s12) ((bt6.trans bt9).trans (Same.but s12)) ?_ ⟨?_, m2, ?_, fun j o hj => ?_, ?_, ?_, e3⟩ ?_ ?_ ?_ ?_
      · exact .tup upd_same (.cons (.tup gM (pds_ns _)) (.cons (.tup gO (Pds.same s12 (Pds.but bt9 hB6.lsts (noLs_map noL_ord _) hOs))) (.cons (.tup gP (Pds.same s12 e4)) .nil)))
      · dsimp only; rw [mlen]; exact cN
      · dsimp only; omega
      · dsimp only at hj ⊢; rw [olen, mlen]; exact o2 j o hj
      · dsimp only; omega
      · intro d hd; dsimp only at hd ⊢; rw [olen, mlen]; exact (e2 d hd).1
      · dsimp only; omega
      · dsimp only; omega
      · dsimp only; omega
      · intro d hd; exact (e2 d hd).2
end
end Vt
namespace Vt
open PySem PySem.Spec PyProof.Rows L2
/-! ### boards as they are handed in, and what is first wrong in them -/
structure ROrd where
  src : Int
  goal : Int
  many : Int
  later : Option Int
structure RDeed where
  word : Str
  nums : List Int
structure RBrd where
  mem : List Int
  ords : List ROrd
  prog : List RDeed
def iV : Option Int → V
  | none => .non
  | some k => .int k
def iD : Option Int → D
  | none => .non
  | some k => .int k
def ROrd.vs (o : ROrd) : List V := [.int o.src, .int o.goal, .int o.many, iV o.later]
def ROrd.d (o : ROrd) : D := .tup [.int o.src, .int o.goal, .int o.many, iD o.later]
def RDeed.vs (d : RDeed) : List V := .str d.word :: d.nums.map V.int
def RDeed.d (d : RDeed) : D := .tup (.str d.word :: d.nums.map D.int)
def RBrd.d (B : RBrd) : D := .tup [.tup (B.mem.map D.int), .tup (B.ords.map ROrd.d), .tup (B.prog.map RDeed.d)]
def Ord.raw (o : Ord) : ROrd := ⟨o.src, o.goal, o.many, o.later.map fun k => (k : Int)⟩
def Deed.raw (d : Deed) : RDeed := ⟨d.word, d.args.map fun (k : Nat) => (k : Int)⟩
def Brd.raw (B : Brd) : RBrd := ⟨B.mem.map (fun (k : Nat) => (k : Int)), B.ords.map Ord.raw, B.prog.map Deed.raw⟩
theorem raw_ord (o : Ord) : o.raw.d = o.d := by
  obtain ⟨s, g, m, l⟩ := o
  cases l <;> rfl
theorem raw_deed (d : Deed) : d.raw.d = d.d := by
  simp only [Deed.raw, RDeed.d, Deed.d, List.map_map]; rfl
theorem raw_brd (B : Brd) : B.raw.d = B.d := by
  simp only [Brd.raw, RBrd.d, Brd.d, nsD, List.map_map]
  have h1 : (ROrd.d ∘ Ord.raw) = Ord.d := funext raw_ord
  have h2 : (RDeed.d ∘ Deed.raw) = Deed.d := funext raw_deed
  rw [h1, h2]; rfl
section
variable {H : Hp}
theorem ROrd.of {o : ROrd} {v : V} (h : Pd H v o.d) : ∃ a, v = .ref a ∧ H a = some (.tup o.vs) := by
  obtain ⟨s, g, m, l⟩ := o
  cases h with
  | tup h hs =>
    cases hs with
    | cons h1 hs => cases h1; cases hs with
      | cons h2 hs => cases h2; cases hs with
        | cons h3 hs => cases h3; cases hs with
          | cons h4 hs =>
            cases hs
            refine ⟨_, rfl, ?_⟩
            cases l with
            | none => cases h4; exact h
            | some k => cases h4; exact h
theorem RDeed.of {d : RDeed} {v : V} (h : Pd H v d.d) : ∃ a, v = .ref a ∧ H a = some (.tup d.vs) := by
  cases h with
  | tup h hs =>
    cases hs with
    | cons h1 hs =>
      cases h1
      rw [hs.ints] at h
      exact ⟨_, rfl, h⟩
theorem RBrd.of {B : RBrd} {v : V} (h : Pd H v B.d) : ∃ a m o p os ps, v = .ref a ∧ H a = some (.tup [.ref m, .ref o, .ref p]) ∧ H m = some (.tup (B.mem.map V.int)) ∧ H o = some (.tup os) ∧ Pds H os (B.ords.map ROrd.d) ∧ H p = some (.tup ps) ∧ Pds H ps (B.prog.map RDeed.d) := by
  obtain ⟨mem, ords, prog⟩ := B
  cases h with
  | tup h hs =>
    cases hs with
    | cons h1 hs => cases h1 with
      | tup e1 k1 => cases hs with
        | cons h2 hs => cases h2 with
          | tup e2 k2 => cases hs with
            | cons h3 hs => cases h3 with
              | tup e3 k3 =>
                cases hs
                rw [k1.ints] at e1
                exact ⟨_, _, _, _, _, _, rfl, h, e1, e2, k2, e3, k3⟩
end
/-- the first place at which p stands -/
def fst {α : Type} (p : Nat → α → Bool) : Nat → List α → Option Nat
  | _, [] => none
  | i, x :: r => if p i x = true then some i else fst p (i + 1) r
theorem fst_none {α : Type} {p : Nat → α → Bool} : ∀ {xs : List α} {k : Nat}, (∀ i x, xs[i]? = some x → p (k + i) x = false) → fst p k xs = none
  | [], _, _ => rfl
  | x :: r, k, h => by
    rw [fst, if_neg (by rw [show p k x = false from h 0 x rfl]; simp)]
    exact fst_none fun i y e => by
      have := h (i + 1) y (by simpa using e)
      rw [show k + 1 + i = k + (i + 1) by omega]; exact this
theorem fst_some {α : Type} {p : Nat → α → Bool} : ∀ {xs : List α} {k i : Nat} {x : α}, xs[i]? = some x → p (k + i) x = true → (∀ j y, j < i → xs[j]? = some y → p (k + j) y = false) → fst p k xs = some (k + i)
  | [], _, _, _, e, _, _ => by simp at e
  | y :: r, k, 0, x, e, h, _ => by
    simp only [List.getElem?_cons_zero, Option.some.injEq] at e
    subst e
    rw [fst, if_pos (by simpa using h)]; rfl
  | y :: r, k, i + 1, x, e, h, hj => by
    rw [fst, if_neg (by rw [show p k y = false from hj 0 y (by omega) rfl]; simp)]
    rw [fst_some (k := k + 1) (i := i) (x := x) (by simpa using e) (by rw [show k + 1 + i = k + (i + 1) by omega]; exact h) fun j z hji ez => by
      rw [show k + 1 + j = k + (j + 1) by omega]
      exact hj (j + 1) z (by omega) (by simpa using ez)]
    congr 1; omega
theorem of_fst_none {α : Type} {p : Nat → α → Bool} : ∀ {xs : List α} {k : Nat}, fst p k xs = none → ∀ i x, xs[i]? = some x → p (k + i) x = false
  | [], _, _, i, x, e => by simp at e
  | y :: r, k, h, 0, x, e => by
    simp only [List.getElem?_cons_zero, Option.some.injEq] at e
    subst e
    rw [fst] at h
    split at h
    · cases h
    · rename_i hn; simpa using hn
  | y :: r, k, h, i + 1, x, e => by
    rw [fst] at h
    split at h
    · cases h
    · have := of_fst_none (k := k + 1) h i x (by simpa using e)
      rw [show k + (i + 1) = k + 1 + i by omega]; exact this
def badNum (_ : Nat) (n : Int) : Bool := !(decide (0 ≤ n) && decide (n < 10))
def fwCell (mem : List Int) : Option Nat :=
  if mem.length = 4 ∨ mem.length = 8 ∨ mem.length = 12 ∨ mem.length = 16 then fst badNum 0 mem else some 0
def laterCan (cnt : Int) (at_ : Nat) : Option Int → Bool
  | none => true
  | some k => decide ((at_ : Int) < k) && decide (k < cnt)
def ordCan (cnt cells : Int) (at_ : Nat) (o : ROrd) : Bool :=
  decide (1 ≤ o.many) && decide (o.many ≤ 8) && laterCan cnt at_ o.later &&
  decide (0 ≤ o.src) && decide (o.src ≤ cells - o.many) && decide (0 ≤ o.goal) && decide (o.goal ≤ cells - o.many)
def badOrd (cnt cells : Int) (at_ : Nat) (o : ROrd) : Bool := decide (at_ = 4) || !ordCan cnt cells at_ o
def fwOrd (ords : List ROrd) (cells : Int) : Option Nat := fst (badOrd ords.length cells) 0 ords
def kindsOf (z : Str) : Option (List Str) :=
  if z = "set" then some ["cell", "number"] else if z = "add" then some ["cell", "cell"] else if z = "say" then some ["cell"] else if z = "start" then some ["order"] else
  if z = "wait" then some [] else if z = "clean" then some ["line"] else if z = "drop" then some ["line"] else none
def cap (cnt cells : Int) (k : Str) : Int := if k = "cell" then cells else if k = "number" then 10 else if k = "order" then cnt else cells / 4
def numsCan (cnt cells : Int) : List Int → List Str → Bool
  | [], [] => true
  | n :: ns, k :: ks => (decide (0 ≤ n) && decide (n < cap cnt cells k)) && numsCan cnt cells ns ks
  | _, _ => false
def deedCan (cnt cells : Int) (d : RDeed) : Bool := match kindsOf d.word with
  | none => false
  | some ks => numsCan cnt cells d.nums ks
def rStart (d : RDeed) : Bool := decide (d.word = "start")
def badDeed (prog : List RDeed) (cnt cells : Int) (at_ : Nat) (d : RDeed) : Bool := decide (at_ = 60) || !deedCan cnt cells d || decide (3 < ((prog.take (at_ + 1)).filter rStart).length)
def fwDeed (prog : List RDeed) (cnt cells : Int) : Option Nat := fst (badDeed prog cnt cells) 0 prog
/-- a tuple of the written part -/
def KTup (K : PySem.W.Frag) (a : Addr) (xs : List V) : Prop := ∃ (o : Obj) (its : Array Value) (n : Nat), K.lookup a = some o ∧ o.cls = .type "tuple" ∧ o.data = .seq its n ∧ its.size ≤ sizeLine ∧ Vals xs its.toList
theorem KTup.sq {K : PySem.W.Frag} {a : Addr} {xs : List V} (h : KTup K a xs) (H : Hp) : SqT K H a xs := .inr h
/-- an enumerate's pair -/
theorem pair_at {H H' : Hp} {v : V} {x y : Nat → Option V} {i : Nat} (h : YPair x y i H v H') : ∃ T a b, v = .ref T ∧ H T = none ∧ H' = upd H T (.tup [a, b]) ∧ x i = some a ∧ y i = some b ∧ Same H H' ∧ H' T = some (.tup [a, b]) := by
  obtain ⟨T, a, b, h1, h2, h3, h4, h5⟩ := h
  subst h3
  exact ⟨T, a, b, h1, h2, rfl, h4, h5, same_new h2, upd_same⟩
section
variable {P : Program} {w : World} {K : PySem.W.Frag} {mg : Str → Option Value} {base : Heap}
/-- the module's numbers -/
structure Consts (K : PySem.W.Frag) (mg : Str → Option Value) : Prop where
  line : ∃ t, mg "LINE" = some (.int 4 t)
  numbers : ∃ t, mg "NUMBERS" = some (.int 10 t)
  orders : ∃ t, mg "MOST_ORDERS" = some (.int 4 t)
  moved : ∃ t, mg "MOST_MOVED" = some (.int 8 t)
  deeds : ∃ t, mg "MOST_DEEDS" = some (.int 60 t)
  starts : ∃ t, mg "MOST_STARTS" = some (.int 3 t)
  sizes : ∃ a, mg "MEMORY_SIZES" = some (.ref a) ∧ KTup K a [.int 4, .int 8, .int 12, .int 16]
abbrev st_first_wrong_cell : Stmt := (topS 13)
abbrev nm_first_wrong_cell : List Str := ["memory", "cell", "number"]
theorem sc_first_wrong_cell : FnScope ["memory", "cell", "number"] ["memory"] (defScope st_first_wrong_cell) := ⟨rfl, rfl, rfl, by decide +kernel, rfl, by decide +kernel, by decide +kernel⟩
def spFwCell : Sp := fun vs H Q _ => ∃ (m : Addr) (mem : List Int), vs = [.ref m] ∧ H m = some (.tup (mem.map V.int)) ∧ ∀ H', Same H H' → Q (oV (fwCell mem)) H'
theorem ok_fwcell {f : Addr} {fd : FuncData} (F : Fun K "first_wrong_cell" "first_wrong_cell" st_first_wrong_cell f fd) (C : Consts K mg) (z_len : mg "len" = none) (z_enumerate : mg "enumerate" = none) :
    FnOk P w K mg base CX0 1 f fd ["memory"] spFwCell := by
  obtain ⟨tN, mc_NUMBERS⟩ := C.numbers
  obtain ⟨ms, mc_MEMORY_SIZES, hms⟩ := C.sizes
  refine F.ok sc_first_wrong_cell (fun vs H Q E h => ?_) (fun cdv A outer s H vs Q E hr h => ?_)
  · obtain ⟨m, mem, rfl, _⟩ := h
    rfl
  · obtain ⟨m, mem, rfl, hm, q⟩ := h
    refine ⟨_, (pss_cons (ps_if (pt_cmpR op_notIn_seq (pe_callB call_len_seq (by rfl) z_len (by decide +kernel) (pa_cons (pv 0) pa_nil)) (pe_glob (v := .ref _) rfl mc_MEMORY_SIZES rfl) (by rfl)) (pss_one (ps_ret pe_int)) pss_nil)
  (pss_cons (ps_for PassesOwn.never rfl (pi_enumT (by rfl) z_enumerate (pa_cons (pv 0) pa_nil)) (pg_tup rfl (pgs_cons (pg_name (i := 1) sc_first_wrong_cell.nd rfl (Or.inl rfl)) (pgs_cons (pg_name (i := 2) sc_first_wrong_cell.nd rfl (Or.inl rfl)) pgs_nil)))
  (pss_one (ps_if (pt_not (pt_chain op_le op_lt pe_int (pv 2) (pe_glob (v := .int 10) rfl mc_NUMBERS ⟨_, rfl⟩))) (pss_one (ps_ret (pv 1))) pss_nil)))
  (pss_one (ps_ret pe_non)))), ?_⟩
    refine ⟨_, rfl, m, _, rfl, .inr (sqT_t hm), ms, _, rfl, .inr (hms.sq _), rfl, rfl, _, rfl, ite2 (fun e => ?_) (fun e => ?_)⟩
    · have hn : ¬ (mem.length = 4 ∨ mem.length = 8 ∨ mem.length = 12 ∨ mem.length = 16) := by
        simp only [inV, eqV, List.any_cons, List.any_nil, List.length_map] at e
        simp at e
        omega
      have := q H (Same.refl H)
      rw [fwCell, if_neg hn] at this
      exact this
    · have hn : mem.length = 4 ∨ mem.length = 8 ∨ mem.length = 12 ∨ mem.length = 16 := by
        simp only [inV, eqV, List.any_cons, List.any_nil, List.length_map] at e
        simp at e
        omega
      refine ⟨_, rfl, m, rfl, .inr ⟨_, sqT_t hm, ?_⟩⟩
      refine for_it (walk_enumT (xs := mem.map V.int)) (fun i σ H' => ∃ y1 y2, σ = [some (.ref m), y1, y2] ∧ Same H H' ∧ ∀ (j : Nat) (n : Int), j < i → mem[j]? = some n → badNum j n = false)
        ⟨_, _, rfl, Same.refl H, fun j n hj => absurd hj (by omega)⟩ (fun i σ H' _ hp => by obtain ⟨_, _, _, sm, _⟩ := hp; exact sqT_t (sm _ _ hm)) (fun i x σ H1 H2 hi hp hy => ?_) (fun σ H1 hp => ?_)
      · obtain ⟨y1, y2, rfl, sm, hall⟩ := hp
        obtain ⟨T, a, b, rfl, nT, _, ha, hb, s2, hT⟩ := pair_at hy
        cases ha
        obtain ⟨n, hn2, rfl⟩ : ∃ n, mem[i]? = some n ∧ V.int n = b := by rw [List.getElem?_map] at hb; simpa using hb
        refine ⟨T, _, rfl, sqT_t hT, rfl, _, _, rfl, _, _, rfl, rfl, ?_⟩
        have ret : badNum i n = true → Q (nV i) H2 := fun hb => by
          have := q H2 (sm.trans s2)
          rw [fwCell, if_pos hn, fst_some (i := i) hn2 (by rw [Nat.zero_add]; exact hb) fun j y hj ej => by rw [Nat.zero_add]; exact hall j y hj ej, Nat.zero_add] at this
          exact this
        have nxt : badNum i n = false → ∃ y1 y2, [some (V.ref m), some (V.int (i : Nat)), some (V.int n)] = [some (.ref m), y1, y2] ∧ Same H H2 ∧ ∀ (j : Nat) (n : Int), j < i + 1 → mem[j]? = some n → badNum j n = false := fun hb => by
          refine ⟨_, _, rfl, sm.trans s2, fun j y hj ej => ?_⟩
          by_cases hji : j < i
          · exact hall j y hji ej
          · have : j = i := by omega
            subst this
            rw [hn2] at ej; cases ej
            exact hb
        refine ⟨_, rfl, _, _, rfl, rfl, _, rfl, ?_⟩
        by_cases h0 : (0 : Int) ≤ n
        · rw [decide_eq_true h0]
          refine iteT ⟨_, _, rfl, rfl, _, rfl, ite2 (fun e => ⟨_, rfl, ret ?_⟩) (fun e => nxt ?_)⟩
          · simp [badNum, h0] at e ⊢; omega
          · simp [badNum, h0] at e ⊢; omega
        · rw [decide_eq_false h0]
          exact iteF ⟨_, rfl, ⟨_, rfl, ret (by simp [badNum, h0])⟩⟩
      · obtain ⟨y1, y2, rfl, sm, hall⟩ := hp
        have := q H1 sm
        rw [fwCell, if_pos hn, fst_none fun i x e => by
          rw [Nat.zero_add]
          exact hall i x (by have := (List.getElem?_eq_some_iff.mp e).1; simpa using this) e] at this
        exact this
end
end Vt
namespace Vt
open PySem PySem.Spec PyProof.Rows L2
/-! ### an order, a deed, the board -/
theorem valV_hit {k : Key} {v : V} {r : List (Key × V)} : valV ((k, v) :: r) k = some v := valV_pos rfl
/-- what a dict of four says -/
theorem counts_at {H : Hp} {a : Addr} {cnt cells : Int} {ks : List Str} {k : Str} (h : H a = some (.dK [(.inr "cell", .int cells), (.inr "number", .int 10), (.inr "order", .int cnt), (.inr "line", .int (cells / 4))]))
    (hk : k = "cell" ∨ k = "number" ∨ k = "order" ∨ k = "line") : DGet H a (.str k) (some (.int (cap cnt cells k))) := by
  have g := DGet.k (k := .inr k) h
  rcases hk with rfl | rfl | rfl | rfl
  · exact g
  · exact g
  · exact g
  · exact g
theorem kinds_known {z : Str} {ks : List Str} (h : kindsOf z = some ks) : ∀ k ∈ ks, k = "cell" ∨ k = "number" ∨ k = "order" ∨ k = "line" := by
  intro k hk
  unfold kindsOf at h
  repeat' split at h
  all_goals first
    | cases h
    | skip
  all_goals simp at hk
  all_goals first
    | (rcases hk with rfl | rfl <;> simp)
    | (subst hk; simp)
theorem kinds_len {z : Str} {ks : List Str} (h : kindsOf z = some ks) : ks.length ≤ 2 := by
  unfold kindsOf at h
  repeat' split at h
  all_goals first
    | (cases h; simp)
    | cases h
theorem numsCan_len {cnt cells : Int} : ∀ {ns : List Int} {ks : List Str}, ns.length ≠ ks.length → numsCan cnt cells ns ks = false
  | [], [], h => absurd rfl h
  | [], _ :: _, _ => by rw [numsCan]; all_goals simp
  | _ :: _, [], _ => by rw [numsCan]; all_goals simp
  | n :: ns, k :: ks, h => by
    rw [numsCan, numsCan_len (ns := ns) (ks := ks) (by simpa using h), Bool.and_false]
theorem numsCan_all {cnt cells : Int} : ∀ {ns : List Int} {ks : List Str}, ns.length = ks.length → ∀ (bs : List Bool), bs.length = ns.length → (∀ (i : Nat) (n : Int) (k : Str), ns[i]? = some n → ks[i]? = some k → bs[i]? = some (decide (0 ≤ n) && decide (n < cap cnt cells k))) → bs.all id = numsCan cnt cells ns ks
  | [], [], _, bs, hb, _ => by
    have : bs = [] := List.length_eq_zero_iff.mp hb
    subst this; rfl
  | [], _ :: _, h, _, _, _ => by simp at h
  | _ :: _, [], h, _, _, _ => by simp at h
  | n :: ns, k :: ks, h, bs, hb, hi => by
    cases bs with
    | nil => simp at hb
    | cons b bs =>
      have e0 := hi 0 n k rfl rfl
      simp only [List.getElem?_cons_zero, Option.some.injEq] at e0
      rw [numsCan, List.all_cons, numsCan_all (ns := ns) (ks := ks) (by simpa using h) bs (by simpa using hb) fun i n' k' e1 e2 => by
        have := hi (i + 1) n' k' (by simpa using e1) (by simpa using e2)
        simpa using this]
      rw [e0]; rfl
/-- the table of deeds -/
structure Kinds (K : PySem.W.Frag) (w : World) (mg : Str → Option Value) (dd : Addr) : Prop where
  at_ : mg "DEEDS" = some (.ref dd)
  low : (dd == sysModules) = false
  obj : ∃ es n, K.lookup dd = some ⟨.type "dict", none, .dict es n, #[]⟩ ∧ PySem.W.KeysLit w.params es.toList
  hit : ∀ z ks, kindsOf z = some ks → ∃ kt, KDct K w dd z (.ref kt) ∧ KTup K kt (ks.map V.str)
section
variable {P : Program} {w : World} {K : PySem.W.Frag} {mg : Str → Option Value} {base : Heap}
abbrev st_order_can_be : Stmt := (topS 15)
abbrev nm_order_can_be : List Str := ["order", "at", "order_count", "cell_count", "source", "goal", "many", "later"]
theorem sc_order_can_be : FnScope ["order", "at", "order_count", "cell_count", "source", "goal", "many", "later"] ["order", "at", "order_count", "cell_count"] (defScope st_order_can_be) := ⟨rfl, rfl, rfl, by decide +kernel, rfl, by decide +kernel, by decide +kernel⟩
def spOrdCan : Sp := fun vs H Q _ => ∃ (a : Addr) (o : ROrd) (at_ : Nat) (cnt cells : Int), vs = [.ref a, nV at_, .int cnt, .int cells] ∧ H a = some (.tup o.vs) ∧ Q (.bl (ordCan cnt cells at_ o)) H
theorem ok_ordcan {f : Addr} {fd : FuncData} (F : Fun K "order_can_be" "order_can_be" st_order_can_be f fd) (C : Consts K mg) : FnOk P w K mg base CX0 1 f fd ["order", "at", "order_count", "cell_count"] spOrdCan := by
  obtain ⟨tM, mc_MOST_MOVED⟩ := C.moved
  refine F.ok sc_order_can_be (fun vs H Q E h => ?_) (fun cdv A outer s H vs Q E hr h => ?_)
  · obtain ⟨a, o, at_, cnt, cells, rfl, _⟩ := h
    rfl
  · obtain ⟨a, ⟨src, goal, many, later⟩, at_, cnt, cells, rfl, ha, q⟩ := h
    refine ⟨_, (pss_cons (ps_asg (pv 0) (pg_tup rfl (pgs_cons (pg_name (i := 4) sc_order_can_be.nd rfl (Or.inl rfl)) (pgs_cons (pg_name (i := 5) sc_order_can_be.nd rfl (Or.inl rfl)) (pgs_cons (pg_name (i := 6) sc_order_can_be.nd rfl (Or.inl rfl)) (pgs_cons (pg_name (i := 7) sc_order_can_be.nd rfl (Or.inl rfl)) pgs_nil))))))
  (pss_cons (ps_if (pt_not (pt_chain op_le op_le pe_int (pv 6) (pe_glob (v := .int 8) rfl mc_MOST_MOVED ⟨_, rfl⟩))) (pss_one (ps_ret pe_bl)) pss_nil)
  (pss_cons (ps_if (PW.pt (pw_and (pt_cmpR op_notN (pv 7) pe_non (nomark _)) (pw_and1 (pt_not (pt_chain op_lt op_lt (pv 1) (pv 7) (pv 2)))))) (pss_one (ps_ret pe_bl)) pss_nil)
  (pss_one (ps_ret (pe_and (pe_chain op_le op_le pe_int (pv 4) (pe_op op_sub (pv 3) (pv 6))) (pe_one (pe_chain op_le op_le pe_int (pv 5) (pe_op op_sub (pv 3) (pv 6)))))))))), ?_⟩
    refine ⟨_, rfl, a, _, rfl, sqT_t ha, rfl, _, _, rfl, _, _, rfl, _, _, rfl, _, _, rfl, rfl, ?_⟩
    -- not 1 <= many <= MOST_MOVED
    refine ⟨_, rfl, _, _, rfl, rfl, _, rfl, ?_⟩
    by_cases h1 : (1 : Int) ≤ many
    · rw [decide_eq_true h1]
      refine iteT ⟨_, _, rfl, rfl, _, rfl, ite2 (fun e => ?_) (fun e => ?_)⟩
      · rw [show ordCan cnt cells at_ ⟨src, goal, many, later⟩ = false by simp [ordCan, laterCan] at e ⊢; omega] at q
        exact q
      · have h8 : many ≤ 8 := by simpa using e
        have rest : ∀ σ, σ = [some (.ref a), some (nV at_), some (.int cnt), some (.int cells), some (.int src), some (.int goal), some (.int many), some (iV later)] → laterCan cnt at_ later = true →
            tRet (tAndV (tChain (rI0 fun i j => V.bl (decide (i ≤ j))) (rI0 fun i j => V.bl (decide (i ≤ j))) (tC (.int 0)) (tVar 4) (tOp (rI0 fun i j => V.int (i - j)) (tVar 3) (tVar 6)))
              (tChain (rI0 fun i j => V.bl (decide (i ≤ j))) (rI0 fun i j => V.bl (decide (i ≤ j))) (tC (.int 0)) (tVar 5) (tOp (rI0 fun i j => V.int (i - j)) (tVar 3) (tVar 6)))) { nx := fun _ H' => Q .non H', rt := Q } σ H := fun σ hσ hl => by
          subst hσ
          have ev : ordCan cnt cells at_ ⟨src, goal, many, later⟩ = ((decide (0 ≤ src) && decide (src ≤ cells - many)) && (decide (0 ≤ goal) && decide (goal ≤ cells - many))) := by
            simp only [ordCan, decide_eq_true h1, decide_eq_true h8, hl, Bool.true_and, Bool.and_assoc]
          rw [ev] at q
          refine ⟨_, rfl, _, _, rfl, rfl, _, rfl, ?_⟩
          by_cases g1 : (0 : Int) ≤ src
          · rw [decide_eq_true g1] at q ⊢
            refine iteT ⟨_, rfl, _, rfl, _, _, rfl, rfl, _, _, rfl, rfl, _, rfl, ?_⟩
            by_cases g2 : src ≤ cells - many
            · rw [decide_eq_true g2] at q ⊢
              refine iteT ⟨_, rfl, _, _, rfl, rfl, _, rfl, ?_⟩
              by_cases g3 : (0 : Int) ≤ goal
              · rw [decide_eq_true g3] at q ⊢
                refine iteT ⟨_, rfl, _, rfl, _, _, rfl, rfl, _, _, rfl, rfl, ?_⟩
                exact q
              · rw [decide_eq_false g3] at q ⊢
                exact iteF q
            · rw [decide_eq_false g2] at q ⊢
              exact iteF q
          · rw [decide_eq_false g1] at q ⊢
            exact iteF ⟨_, rfl, iteF q⟩
        cases later with
        | none => exact ⟨_, rfl, rfl, _, rfl, iteF (rest _ rfl rfl)⟩
        | some k =>
          refine ⟨_, rfl, rfl, _, rfl, iteT ⟨_, rfl, _, rfl, _, _, rfl, rfl, _, rfl, ?_⟩⟩
          by_cases g1 : (at_ : Int) < k
          · rw [decide_eq_true g1]
            refine iteT ⟨_, rfl, _, _, rfl, rfl, _, rfl, ite2 (fun e => ?_) (fun e => rest _ rfl ?_)⟩
            · rw [show ordCan cnt cells at_ ⟨src, goal, many, some k⟩ = false by simp [ordCan, laterCan] at e ⊢; omega] at q
              exact q
            · simp [laterCan] at e ⊢; exact ⟨g1, e⟩
          · rw [decide_eq_false g1]
            refine iteF ⟨_, rfl, iteT ?_⟩
            rw [show ordCan cnt cells at_ ⟨src, goal, many, some k⟩ = false by simp [ordCan, laterCan, g1]] at q
            exact q
    · rw [decide_eq_false h1]
      refine iteF ⟨_, rfl, iteT ?_⟩
      rw [show ordCan cnt cells at_ ⟨src, goal, many, later⟩ = false by simp [ordCan, h1]] at q
      exact q
abbrev st_first_wrong_order : Stmt := (topS 14)
abbrev nm_first_wrong_order : List Str := ["orders", "cell_count", "at", "order"]
theorem sc_first_wrong_order : FnScope ["orders", "cell_count", "at", "order"] ["orders", "cell_count"] (defScope st_first_wrong_order) := ⟨rfl, rfl, rfl, by decide +kernel, rfl, by decide +kernel, by decide +kernel⟩
def spFwOrd : Sp := fun vs H Q _ => ∃ (a : Addr) (os : List V) (ords : List ROrd) (cells : Int), vs = [.ref a, .int cells] ∧ H a = some (.tup os) ∧ Pds H os (ords.map ROrd.d) ∧ ∀ H', Same H H' → Q (oV (fwOrd ords cells)) H'
theorem ok_fword {f : Addr} {fd : FuncData} (F : Fun K "first_wrong_order" "first_wrong_order" st_first_wrong_order f fd) (C : Consts K mg) (c_order_can_be : Callee P w K mg base "order_can_be" 1 4 spOrdCan) (z_len : mg "len" = none) (z_enumerate : mg "enumerate" = none) :
    FnOk P w K mg base CX0 2 f fd ["orders", "cell_count"] spFwOrd := by
  obtain ⟨tM, mc_MOST_ORDERS⟩ := C.orders
  refine F.ok sc_first_wrong_order (fun vs H Q E h => ?_) (fun cdv A outer s H vs Q E hr h => ?_)
  · obtain ⟨a, os, ords, cells, rfl, _⟩ := h
    rfl
  · obtain ⟨a, os, ords, cells, rfl, ha, hs, q⟩ := h
    have olen : os.length = ords.length := by rw [hs.len, List.length_map]
    refine ⟨_, (pss_cons (ps_for PassesOwn.never rfl (pi_enumT (by rfl) z_enumerate (pa_cons (pv 0) pa_nil)) (pg_tup rfl (pgs_cons (pg_name (i := 2) sc_first_wrong_order.nd rfl (Or.inl rfl)) (pgs_cons (pg_name (i := 3) sc_first_wrong_order.nd rfl (Or.inl rfl)) pgs_nil)))
  (pss_one (ps_if (PW.pt (pw_or (pt_cmpR op_eq (pv 2) (pe_glob (v := .int 4) rfl mc_MOST_ORDERS ⟨_, rfl⟩) (nomark _)) (pw_or1 (pt_not (pt_val (pe_cal c_order_can_be hr (by first | decide | exact Nat.le_refl _) (pa_cons (pv 3) (pa_cons (pv 2) (pa_cons (pe_callB call_len_seq (by rfl) z_len (by decide +kernel) (pa_cons (pv 0) pa_nil)) (pa_cons (pv 1) pa_nil)))))))))) (pss_one (ps_ret (pv 2))) pss_nil)))
  (pss_one (ps_ret pe_non))), ?_⟩
    refine ⟨_, rfl, a, rfl, .inr ⟨_, sqT_t ha, ?_⟩⟩
    refine for_it (walk_enumT (xs := os)) (fun i σ H' => ∃ y1 y2, σ = [some (.ref a), some (.int cells), y1, y2] ∧ Same H H' ∧ ∀ (j : Nat) (o : ROrd), j < i → ords[j]? = some o → badOrd ords.length cells j o = false)
      ⟨_, _, rfl, Same.refl H, fun j n hj => absurd hj (by omega)⟩ (fun i σ H' _ hp => by obtain ⟨_, _, _, sm, _⟩ := hp; exact sqT_t (sm _ _ ha)) (fun i x σ H1 H2 hi hp hy => ?_) (fun σ H1 hp => ?_)
    · obtain ⟨y1, y2, rfl, sm, hall⟩ := hp
      obtain ⟨T, a1, b, rfl, nT, _, h1, hb, s2, hT⟩ := pair_at hy
      cases h1
      obtain ⟨dd, hd, hpd⟩ := hs.get' hb
      rw [List.getElem?_map] at hd
      obtain ⟨o, ho, rfl⟩ : ∃ o, ords[i]? = some o ∧ o.d = dd := by simpa using hd
      obtain ⟨oa, rfl, hoa⟩ := ROrd.of ((hpd.same sm).same s2)
      have ret : badOrd ords.length cells i o = true → Q (nV i) H2 := fun hb => by
        have := q H2 (sm.trans s2)
        rw [fwOrd, fst_some (i := i) ho (by rw [Nat.zero_add]; exact hb) fun j y hj ej => by rw [Nat.zero_add]; exact hall j y hj ej, Nat.zero_add] at this
        exact this
      have nxt : badOrd ords.length cells i o = false → ∃ y1 y2, [some (V.ref a), some (.int cells), some (V.int (i : Nat)), some (V.ref oa)] = [some (.ref a), some (.int cells), y1, y2] ∧ Same H H2 ∧ ∀ (j : Nat) (o : ROrd), j < i + 1 → ords[j]? = some o → badOrd ords.length cells j o = false := fun hb => by
        refine ⟨_, _, rfl, sm.trans s2, fun j y hj ej => ?_⟩
        by_cases hji : j < i
        · exact hall j y hji ej
        · have : j = i := by omega
          subst this
          rw [ho] at ej; cases ej
          exact hb
      refine ⟨T, _, rfl, sqT_t hT, rfl, _, _, rfl, _, _, rfl, rfl, ?_⟩
      refine ⟨_, rfl, rfl, _, rfl, ite2 (fun e => iteT ?_) (fun e => ?_)⟩
      · have e4 : (i : Int) = 4 := by injection of_decide_eq_true e
        have e4' : i = 4 := by omega
        exact ⟨_, rfl, ret (by simp [badOrd, e4'])⟩
      · have n4 : ¬ i = 4 := fun z => e (by rw [z]; rfl)
        refine ⟨_, rfl, _, rfl, _, rfl, a, _, rfl, .inr (sqT_t ((sm.trans s2) _ _ ha)), _, rfl, oa, o, i, _, _, rfl, hoa, _, rfl, ite2 (fun e => ⟨_, rfl, ret ?_⟩) (fun e => nxt ?_)⟩
        · rw [olen] at e; simp only [badOrd, e, Bool.or_true]
        · rw [olen] at e
          have e' : (!ordCan ords.length cells i o) = false := by simpa using e
          simp only [badOrd, e', decide_eq_false n4, Bool.or_false]
    · obtain ⟨y1, y2, rfl, sm, hall⟩ := hp
      have := q H1 sm
      rw [fwOrd, fst_none fun i x e => by
        rw [Nat.zero_add]
        exact hall i x (by have := (List.getElem?_eq_some_iff.mp e).1; omega) e] at this
      exact this
end
end Vt
namespace Vt
open PySem PySem.Spec PyProof.Rows L2
section
variable {P : Program} {w : World} {K : PySem.W.Frag} {mg : Str → Option Value} {base : Heap}
def countsK (cnt cells : Int) : List (Key × V) := [(.inr "cell", .int cells), (.inr "number", .int 10), (.inr "order", .int cnt), (.inr "line", .int (cells / 4))]
abbrev st_deed_can_be : Stmt := (topS 18)
abbrev nm_deed_can_be : List Str := ["deed", "counts", "word", "numbers", "kinds", "number", "kind"]
theorem sc_deed_can_be : FnScope ["deed", "counts", "word", "numbers", "kinds", "number", "kind"] ["deed", "counts"] (defScope st_deed_can_be) := ⟨rfl, rfl, rfl, by decide +kernel, rfl, by decide +kernel, by decide +kernel⟩
def spDeedCan (K : PySem.W.Frag) (w : World) (dd : Addr) : Sp := fun vs H Q _ => ∃ (a c : Addr) (d : RDeed) (cnt cells : Int), vs = [.ref a, .ref c] ∧ H a = some (.tup d.vs) ∧ d.nums.length ≤ 1000 ∧ H c = some (.dK (countsK cnt cells)) ∧
  (kindsOf d.word = none → KMiss K w dd d.word) ∧ ∀ H', Same H H' → Q (.bl (deedCan cnt cells d)) H'
theorem ok_deedcan {f dd : Addr} {fd : FuncData} (F : Fun K "deed_can_be" "deed_can_be" st_deed_can_be f fd) (Kd : Kinds K w mg dd) (z_len : mg "len" = none) (z_all : mg "all" = none) (z_zip : mg "zip" = none) :
    FnOk P w K mg base CX0 1 f fd ["deed", "counts"] (spDeedCan K w dd) := by
  have mc_DEEDS := Kd.at_
  refine F.ok sc_deed_can_be (fun vs H Q E h => ?_) (fun cdv A outer s H vs Q E hr h => ?_)
  · obtain ⟨a, c, d, cnt, cells, rfl, _⟩ := h
    rfl
  · obtain ⟨a, c, ⟨wd, nums⟩, cnt, cells, rfl, ha, hl, hc, hmiss, q⟩ := h
    dsimp only at hl hmiss
    refine ⟨_, (pss_cons (ps_asg (pv 0) (pg_star (i := 2) (j := 3) rfl sc_deed_can_be.nd rfl rfl rfl rfl))
  (pss_cons (ps_set (i := 4) sc_deed_can_be.nd rfl (Or.inl rfl) (pe_kget (pe_glob (v := .ref _) rfl mc_DEEDS rfl) (pv 2) ⟨rfl, rfl, rfl, rfl⟩))
  (pss_cons (ps_if (PW.pt (pw_or (pt_cmpR op_isN (pv 4) pe_non (nomark _)) (pw_or1 (pt_cmpR op_ne (pe_callB call_len_seq (by rfl) z_len (by decide +kernel) (pa_cons (pv 3) pa_nil)) (pe_callB call_len_seq (by rfl) z_len (by decide +kernel) (pa_cons (pv 4) pa_nil)) (nomark _))))) (pss_one (ps_ret pe_bl)) pss_nil)
  (pss_one (ps_ret (pe_callB (cr_all rfl) (by rfl) z_all (by decide +kernel) (pa_cons (pe_lc (own := [("number", 5), ("kind", 6)]) rfl sc_deed_can_be.nd (pi_zipM (by rfl) z_zip (pa_cons (pv 3) (pa_cons (pv 4) pa_nil))) (blkOk_by (own := [("number", 5), ("kind", 6)]) (N := nm_deed_can_be) (sc := defScope (topS 18)) (by decide +kernel)) (fun _ _ _ _ _ => (pg_tupk K (n := 2) rfl (pgs_cons (pg_name (i := 5) sc_deed_can_be.nd rfl (Or.inl rfl)) (pgs_cons (pg_name (i := 6) sc_deed_can_be.nd rfl (Or.inl rfl)) pgs_nil)))) (fun _ _ _ _ _ => pts_nil) (fun _ _ _ _ _ => (pe_chain op_le op_lt pe_int (pv 5) (pe_dget (hu_of hr) (pv 1) (pv 6) (fun _ _ => rfl))))) pa_nil))))))), ?_⟩
    refine ⟨_, rfl, a, .str wd, nums.map V.int, rfl, sqT_t ha, by rw [List.length_map]; exact hl, fun p np => ?_⟩
    have s1 : Same H (upd H p (.lst (nums.map V.int))) := same_new np
    have hp1 : (upd H p (.lst (nums.map V.int))) p = some (.lst (nums.map V.int)) := upd_same
    generalize upd H p (.lst (nums.map V.int)) = H1 at s1 hp1
    obtain ⟨es, n, hobj, hlit⟩ := Kd.obj
    refine ⟨dd, rfl, Kd.low, ⟨es, n, hobj, hlit⟩, _, rfl, wd, rfl, ?_⟩
    cases hk : kindsOf wd with
    | none =>
      refine .inr ⟨hmiss hk, ?_⟩
      refine ⟨_, rfl, rfl, _, rfl, iteT (iteT ?_)⟩
      have := q H1 s1
      rw [show deedCan cnt cells ⟨wd, nums⟩ = false by simp [deedCan, hk]] at this
      exact this
    | some ks =>
      obtain ⟨kt, hkd, hkt⟩ := Kd.hit wd ks hk
      have k2 := kinds_len hk
      refine .inl ⟨.ref kt, hkd, ?_⟩
      refine ⟨_, rfl, rfl, _, rfl, iteF ⟨_, rfl, p, _, rfl, .inl (sqL_l hp1), _, rfl, kt, _, rfl, .inr (hkt.sq _), rfl, _, rfl, ite2 (fun e => ?_) (fun e => ?_)⟩⟩
      · have hne : nums.length ≠ ks.length := fun z => by
          simp only [List.length_map, z] at e
          simp at e
        have := q H1 s1
        rw [show deedCan cnt cells ⟨wd, nums⟩ = false by simp only [deedCan, hk]; exact numsCan_len hne] at this
        exact this
      · have heq : nums.length = ks.length := by
          simp only [List.length_map] at e
          simp at e
          omega
        have hc1 := s1 _ _ hc
        refine ⟨_, rfl, _, rfl, p, kt, nums.map V.int, ks.map V.str, rfl, sqL_l hp1, hkt.sq _, fun D nD => ?_⟩
        have pD : p ≠ D := ne_of_none hp1 nD
        refine lc_it (walk_zipM (xs := nums.map V.int) (ys := ks.map V.str) (n := nums.length) (by simp [heq])) (fun i H' => ∃ bs : List Bool, bs.length = i ∧ H' D = some (.lst (bs.map V.bl)) ∧ Same H1 H' ∧
            ∀ (j : Nat) (n : Int) (k : Str), j < i → nums[j]? = some n → ks[j]? = some k → bs[j]? = some (decide (0 ≤ n) && decide (n < cap cnt cells k)))
          ⟨[], rfl, upd_same, same_new nD, fun j _ _ hj => absurd hj (by omega)⟩ (fun i H' _ hp => by obtain ⟨_, _, _, sm, _⟩ := hp; exact ⟨sqL_l (sm _ _ hp1), hkt.sq _⟩) (fun i x H2 H3 hi hp hy => ?_) (fun H2 hp => ?_)
        · obtain ⟨bs, b1, b2, sm, ball⟩ := hp
          obtain ⟨T, v1, v2, rfl, nT, _, e1, e2, s3, hT⟩ := pair_at hy
          obtain ⟨n, hn, rfl⟩ : ∃ n, nums[i]? = some n ∧ V.int n = v1 := by rw [List.getElem?_map] at e1; simpa using e1
          obtain ⟨k, hk2, rfl⟩ : ∃ k, ks[i]? = some k ∧ V.str k = v2 := by rw [List.getElem?_map] at e2; simpa using e2
          have TD : D ≠ T := ne_of_none b2 nT
          have hb3 : H3 D = some (.lst (bs.map V.bl)) := s3 _ _ b2
          have hget : DGet H3 c (.str k) (some (.int (cap cnt cells k))) := counts_at (ks := ks) (s3 _ _ (sm _ _ hc1)) (kinds_known hk k (List.mem_of_getElem? hk2))
          have fin : ∀ r : Bool, r = (decide (0 ≤ n) && decide (n < cap cnt cells k)) → ∃ acc, H3 D = some (.lst acc) ∧ acc.length < sizeLine ∧ ∃ bs : List Bool, bs.length = i + 1 ∧ (upd H3 D (.lst (acc ++ [.bl r]))) D = some (.lst (bs.map V.bl)) ∧ Same H1 (upd H3 D (.lst (acc ++ [.bl r]))) ∧
              ∀ (j : Nat) (n : Int) (k : Str), j < i + 1 → nums[j]? = some n → ks[j]? = some k → bs[j]? = some (decide (0 ≤ n) && decide (n < cap cnt cells k)) := fun r hr => by
            refine ⟨_, hb3, by rw [List.length_map]; exact fits (by omega), bs ++ [r], by simp [b1], by rw [upd_same, List.map_append]; rfl, fun u o hu => ?_, fun j n' k' hj f1 f2 => ?_⟩
            · rw [upd_ne (ne_of_none hu nD)]; exact s3 _ _ (sm _ _ hu)
            · by_cases hji : j < i
              · rw [List.getElem?_append_left (by omega)]
                exact ball j n' k' hji f1 f2
              · have : j = i := by omega
                subst this
                rw [hn] at f1; cases f1
                rw [hk2] at f2; cases f2
                rw [List.getElem?_append_right (by omega), b1, Nat.sub_self, hr]; rfl
          refine ⟨T, _, rfl, sqT_t hT, rfl, _, _, rfl, _, _, rfl, rfl, rfl, ?_⟩
          refine ⟨_, rfl, _, _, rfl, rfl, _, rfl, ?_⟩
          by_cases h0 : (0 : Int) ≤ n
          · rw [decide_eq_true h0]
            refine iteT ⟨_, rfl, _, rfl, c, _, rfl, hget, _, _, rfl, rfl, ?_⟩
            exact fin _ (by rw [decide_eq_true h0]; rfl)
          · rw [decide_eq_false h0]
            exact iteF (fin _ (by rw [decide_eq_false h0]; rfl))
        · obtain ⟨bs, b1, b2, sm, ball⟩ := hp
          refine ⟨D, bs, rfl, sqL_l b2, ?_⟩
          have := q H2 (s1.trans sm)
          rw [show deedCan cnt cells ⟨wd, nums⟩ = bs.all id by
            simp only [deedCan, hk]
            exact (numsCan_all heq bs b1 fun j n k e1 e2 => ball j n k (by have := (List.getElem?_eq_some_iff.mp e1).1; omega) e1 e2).symm] at this
          exact this
theorem starts_take {prog : List RDeed} {i : Nat} {d : RDeed} (h : prog[i]? = some d) : ((prog.take (i + 1)).filter rStart).length = ((prog.take i).filter rStart).length + (if rStart d then 1 else 0) := by
  rw [List.take_add_one, h]
  exact filter_app _ _ _
abbrev st_counts_of_things : Stmt := (topS 17)
abbrev nm_counts_of_things : List Str := ["order_count", "cell_count"]
theorem sc_counts_of_things : FnScope ["order_count", "cell_count"] ["order_count", "cell_count"] (defScope st_counts_of_things) := ⟨rfl, rfl, rfl, by decide +kernel, rfl, by decide +kernel, by decide +kernel⟩
def spCounts : Sp := fun vs H Q _ => ∃ (cnt cells : Int), vs = [.int cnt, .int cells] ∧ ∀ (c : Addr) H', H c = none → H' c = some (.dK (countsK cnt cells)) → Same H H' → Q (.ref c) H'
theorem ok_counts {f : Addr} {fd : FuncData} (F : Fun K "counts_of_things" "counts_of_things" st_counts_of_things f fd) (C : Consts K mg) : FnOk P w K mg base CX0 1 f fd ["order_count", "cell_count"] spCounts := by
  obtain ⟨tN, mc_NUMBERS⟩ := C.numbers
  obtain ⟨tL, mc_LINE⟩ := C.line
  refine F.ok sc_counts_of_things (fun vs H Q E h => ?_) (fun cdv A outer s H vs Q E hr h => ?_)
  · obtain ⟨cnt, cells, rfl, _⟩ := h
    rfl
  · obtain ⟨cnt, cells, rfl, q⟩ := h
    refine ⟨_, (pss_one (ps_ret (pe_disp (pps_cons pe_str (pv 1) (pps_cons pe_str (pe_glob (v := .int 10) rfl mc_NUMBERS ⟨_, rfl⟩) (pps_cons pe_str (pv 0) (pps_cons pe_str (pe_op op_fdiv (pv 1) (pe_glob (v := .int 4) rfl mc_LINE ⟨_, rfl⟩)) pps_nil)))) (by rfl) (by rfl) (fun z => by cases z) (by decide)))), ?_⟩
    refine fun c nc => ?_
    refine ⟨_, rfl, _, rfl, _, rfl, _, _, rfl, rfl, ⟨by decide, by decide⟩, upd_same, countsK cnt cells, rfl, (by show 4 ≤ 15; decide), ?_⟩
    refine q c _ nc ?_ ?_
    · rw [upd_same]; rfl
    · rw [upd_upd]; exact same_new nc
abbrev st_first_wrong_deed : Stmt := (topS 16)
abbrev nm_first_wrong_deed : List Str := ["program", "order_count", "cell_count", "counts", "starts", "at", "deed"]
theorem sc_first_wrong_deed : FnScope ["program", "order_count", "cell_count", "counts", "starts", "at", "deed"] ["program", "order_count", "cell_count"] (defScope st_first_wrong_deed) := ⟨rfl, rfl, rfl, by decide +kernel, rfl, by decide +kernel, by decide +kernel⟩
def spFwDeed (K : PySem.W.Frag) (w : World) (dd : Addr) : Sp := fun vs H Q _ => ∃ (a : Addr) (ps : List V) (prog : List RDeed) (cnt cells : Int), vs = [.ref a, .int cnt, .int cells] ∧ H a = some (.tup ps) ∧ Pds H ps (prog.map RDeed.d) ∧ (∀ d ∈ prog, d.nums.length ≤ 1000) ∧
  (∀ d ∈ prog, kindsOf d.word = none → KMiss K w dd d.word) ∧ ∀ H', Same H H' → Q (oV (fwDeed prog cnt cells)) H'
theorem ok_fwdeed {f dd : Addr} {fd : FuncData} (F : Fun K "first_wrong_deed" "first_wrong_deed" st_first_wrong_deed f fd) (C : Consts K mg) (c_deed_can_be : Callee P w K mg base "deed_can_be" 1 2 (spDeedCan K w dd)) (c_counts_of_things : Callee P w K mg base "counts_of_things" 1 2 spCounts) (z_enumerate : mg "enumerate" = none) :
    FnOk P w K mg base CX0 2 f fd ["program", "order_count", "cell_count"] (spFwDeed K w dd) := by
  obtain ⟨tN, mc_NUMBERS⟩ := C.numbers
  obtain ⟨tL, mc_LINE⟩ := C.line
  obtain ⟨tD, mc_MOST_DEEDS⟩ := C.deeds
  obtain ⟨tS, mc_MOST_STARTS⟩ := C.starts
  refine F.ok sc_first_wrong_deed (fun vs H Q E h => ?_) (fun cdv A outer s H vs Q E hr h => ?_)
  · obtain ⟨a, ps, prog, cnt, cells, rfl, _⟩ := h
    rfl
  · obtain ⟨a, ps, prog, cnt, cells, rfl, ha, hs, hnum, hmiss, q⟩ := h
    have plen : ps.length = prog.length := by rw [hs.len, List.length_map]
    refine ⟨_, (pss_cons (ps_set (i := 3) sc_first_wrong_deed.nd rfl (Or.inl rfl) (pe_cal c_counts_of_things hr (by first | decide | exact Nat.le_refl _) (pa_cons (pv 1) (pa_cons (pv 2) pa_nil))))
  (pss_cons (ps_set (i := 4) sc_first_wrong_deed.nd rfl (Or.inl rfl) pe_int)
  (pss_cons (ps_for PassesOwn.never rfl (pi_enumT (by rfl) z_enumerate (pa_cons (pv 0) pa_nil)) (pg_tup rfl (pgs_cons (pg_name (i := 5) sc_first_wrong_deed.nd rfl (Or.inl rfl)) (pgs_cons (pg_name (i := 6) sc_first_wrong_deed.nd rfl (Or.inl rfl)) pgs_nil)))
  (pss_cons (ps_if (PW.pt (pw_or (pt_cmpR op_eq (pv 5) (pe_glob (v := .int 60) rfl mc_MOST_DEEDS ⟨_, rfl⟩) (nomark _)) (pw_or1 (pt_not (pt_val (pe_cal c_deed_can_be hr (by first | decide | exact Nat.le_refl _) (pa_cons (pv 6) (pa_cons (pv 3) pa_nil)))))))) (pss_one (ps_ret (pv 5))) pss_nil)
  (pss_cut (ps_if (pt_cmpR op_eq (pe_ix ix_lt (pv 6) pe_int (fun _ _ => rfl)) pe_str (nomark _)) (pss_one (ps_aug (i := 4) sc_first_wrong_deed.nd rfl (Or.inl rfl) pe_int ip_add)) pss_nil)
  (pss_one (ps_if (pt_cmpR op_gt (pv 4) (pe_glob (v := .int 3) rfl mc_MOST_STARTS ⟨_, rfl⟩) (nomark _)) (pss_one (ps_ret (pv 5))) pss_nil)))))
  (pss_one (ps_ret pe_non))))), ?_⟩
    -- counts
    refine ⟨_, rfl, _, rfl, cnt, cells, rfl, fun c H1 nc hc1 s1 => ?_⟩
    refine ⟨_, rfl, a, rfl, .inr ⟨_, sqT_t (s1 _ _ ha), ?_⟩⟩
    refine for_it (walk_enumT (xs := ps)) (fun i σ H' => ∃ y1 y2, σ = [some (.ref a), some (.int cnt), some (.int cells), some (.ref c), some (.int (((prog.take i).filter rStart).length : Nat)), y1, y2] ∧ Same H1 H' ∧
        ∀ (j : Nat) (d : RDeed), j < i → prog[j]? = some d → badDeed prog cnt cells j d = false)
      ⟨_, _, rfl, Same.refl _, fun j n hj => absurd hj (by omega)⟩ (fun i σ H' _ hp => by obtain ⟨_, _, _, sm, _⟩ := hp; exact sqT_t ((s1.trans sm) _ _ ha)) (fun i x σ H2 H3 hi hp hy => ?_) (fun σ H2 hp => ?_)
    · obtain ⟨y1, y2, rfl, sm, hall⟩ := hp
      obtain ⟨T, a1, b, rfl, nT, _, h1, hb, s2, hT⟩ := pair_at hy
      cases h1
      obtain ⟨dx, hd, hpd⟩ := hs.get' hb
      rw [List.getElem?_map] at hd
      obtain ⟨d, ho, rfl⟩ : ∃ d, prog[i]? = some d ∧ d.d = dx := by simpa using hd
      have hmem : d ∈ prog := List.mem_of_getElem? ho
      have s13 : Same H H3 := (s1.trans sm).trans s2
      obtain ⟨oa, rfl, hoa⟩ := RDeed.of (hpd.same s13)
      have ret : ∀ H', Same H3 H' → badDeed prog cnt cells i d = true → Q (nV i) H' := fun H' s4 hb => by
        have := q H' (s13.trans s4)
        rw [fwDeed, fst_some (i := i) ho (by rw [Nat.zero_add]; exact hb) fun j y hj ej => by rw [Nat.zero_add]; exact hall j y hj ej, Nat.zero_add] at this
        exact this
      refine ⟨T, _, rfl, sqT_t hT, rfl, _, _, rfl, _, _, rfl, rfl, ?_⟩
      refine ⟨_, rfl, rfl, _, rfl, ite2 (fun e => iteT ?_) (fun e => ?_)⟩
      · have e4 : (i : Int) = 60 := by injection of_decide_eq_true e
        have e4' : i = 60 := by omega
        exact ⟨_, rfl, ret H3 (Same.refl _) (by simp [badDeed, e4'])⟩
      · have n4 : ¬ i = 60 := fun z => e (by rw [z]; rfl)
        refine ⟨_, rfl, _, rfl, oa, c, d, cnt, cells, rfl, hoa, hnum d hmem, (sm.trans s2) _ _ hc1, hmiss d hmem, fun H4 s4 => ⟨_, rfl, ite2 (fun e => ⟨_, rfl, ret H4 s4 ?_⟩) (fun e => ?_)⟩⟩
        · simp only [badDeed, e, Bool.or_true, Bool.true_or]
        have can : deedCan cnt cells d = true := by simpa using e
        -- if deed[0] == "start": starts += 1
        refine ⟨fun σ' H' => σ' = [some (.ref a), some (.int cnt), some (.int cells), some (.ref c), some (.int (((prog.take (i + 1)).filter rStart).length : Nat)), some (.int (i : Nat)), some (.ref oa)] ∧ H' = H4, ?_, fun σ' H' hM => ?_⟩
        · refine ⟨_, rfl, oa, _, 0, .str d.word, rfl, rfl, sqA_t (s4 _ _ hoa), at0, rfl, _, rfl, ite2 (fun e => ?_) (fun e => ?_)⟩
          · have ew : d.word = "start" := by injection of_decide_eq_true e
            refine ⟨_, rfl, _, _, rfl, rfl, ?_, rfl⟩
            rw [starts_take ho, if_pos (by simp [rStart, ew])]
            rfl
          · have ew : ¬ d.word = "start" := fun z => e (by rw [z]; exact decide_eq_true rfl)
            refine ⟨?_, rfl⟩
            rw [starts_take ho, if_neg (by simp [rStart, ew])]
            rfl
        · obtain ⟨rfl, rfl⟩ := hM
          refine ⟨_, rfl, _, _, rfl, rfl, _, rfl, ite2 (fun e => ⟨_, rfl, ret _ s4 ?_⟩) (fun e => ?_)⟩
          · have h3 : 3 < ((prog.take (i + 1)).filter rStart).length := by have := of_decide_eq_true e; omega
            simp only [badDeed, decide_eq_true h3, Bool.or_true]
          · have h3 : ¬ 3 < ((prog.take (i + 1)).filter rStart).length := fun z => e (decide_eq_true (by omega))
            refine ⟨_, _, rfl, (sm.trans s2).trans s4, fun j y hj ej => ?_⟩
            by_cases hji : j < i
            · exact hall j y hji ej
            · have : j = i := by omega
              subst this
              rw [ho] at ej; cases ej
              simp only [badDeed, can, decide_eq_false n4, decide_eq_false h3]; rfl
    · obtain ⟨y1, y2, rfl, sm, hall⟩ := hp
      have := q H2 (s1.trans sm)
      rw [fwDeed, fst_none fun i x e => by
        rw [Nat.zero_add]
        exact hall i x (by have := (List.getElem?_eq_some_iff.mp e).1; omega) e] at this
      exact this
end
end Vt
namespace Vt
open PySem PySem.Spec PyProof.Rows L2
/-! ### boards that can be -/
theorem kinds_deed (d : Deed) : ∃ ks, kindsOf d.word = some ks ∧ ks.length = d.args.length := by
  cases d
  · exact ⟨["cell", "number"], rfl, rfl⟩
  · exact ⟨["cell", "cell"], rfl, rfl⟩
  · exact ⟨["cell"], rfl, rfl⟩
  · exact ⟨["order"], rfl, rfl⟩
  · exact ⟨[], rfl, rfl⟩
  · exact ⟨["line"], rfl, rfl⟩
  · exact ⟨["line"], rfl, rfl⟩
theorem can_deed {d : Deed} {cnt cells : Nat} (h : DeedOk d cnt cells) : deedCan cnt cells d.raw = true := by
  have c1 : ∀ a b : Int, cap a b "cell" = b := fun _ _ => rfl
  have c2 : ∀ a b : Int, cap a b "number" = 10 := fun _ _ => rfl
  have c3 : ∀ a b : Int, cap a b "order" = a := fun _ _ => rfl
  have c4 : ∀ a b : Int, cap a b "line" = b / 4 := fun _ _ => rfl
  cases d with
  | set c n =>
    obtain ⟨h1, h2⟩ := h
    have e : kindsOf "set" = (some ["cell", "number"] : Option (List Str)) := by decide
    simp only [deedCan, Deed.raw, Deed.word, Deed.args, e, List.map_cons, List.map_nil, numsCan, c1, c2, Bool.and_true, Bool.and_eq_true, decide_eq_true_eq]
    omega
  | add c n =>
    obtain ⟨h1, h2⟩ := h
    have e : kindsOf "add" = (some ["cell", "cell"] : Option (List Str)) := by decide
    simp only [deedCan, Deed.raw, Deed.word, Deed.args, e, List.map_cons, List.map_nil, numsCan, c1, c2, Bool.and_true, Bool.and_eq_true, decide_eq_true_eq]
    omega
  | say c =>
    have h1 : c < cells := h
    have e : kindsOf "say" = (some ["cell"] : Option (List Str)) := by decide
    simp only [deedCan, Deed.raw, Deed.word, Deed.args, e, List.map_cons, List.map_nil, numsCan, c1, c2, Bool.and_true, Bool.and_eq_true, decide_eq_true_eq]
    omega
  | start c =>
    have h1 : c < cnt := h
    have e : kindsOf "start" = (some ["order"] : Option (List Str)) := by decide
    simp only [deedCan, Deed.raw, Deed.word, Deed.args, e, List.map_cons, List.map_nil, numsCan, c3, Bool.and_true, Bool.and_eq_true, decide_eq_true_eq]
    omega
  | wait =>
    have e : kindsOf "wait" = (some [] : Option (List Str)) := by decide
    simp only [deedCan, Deed.raw, Deed.word, Deed.args, e, List.map_nil, numsCan]
  | clean c =>
    have h1 : c < cells / 4 := h
    have e : kindsOf "clean" = (some ["line"] : Option (List Str)) := by decide
    simp only [deedCan, Deed.raw, Deed.word, Deed.args, e, List.map_cons, List.map_nil, numsCan, c4, Bool.and_true, Bool.and_eq_true, decide_eq_true_eq]
    omega
  | drop c =>
    have h1 : c < cells / 4 := h
    have e : kindsOf "drop" = (some ["line"] : Option (List Str)) := by decide
    simp only [deedCan, Deed.raw, Deed.word, Deed.args, e, List.map_cons, List.map_nil, numsCan, c4, Bool.and_true, Bool.and_eq_true, decide_eq_true_eq]
    omega
theorem can_ord {o : Ord} {at_ cnt cells : Nat} (h : OrdOk o at_ cnt cells) : ordCan cnt cells at_ o.raw = true := by
  obtain ⟨h1, h2, h3, h4, h5⟩ := h
  have hl : laterCan cnt at_ o.raw.later = true := by
    obtain ⟨s, g, m, l⟩ := o
    cases l with
    | none => rfl
    | some k =>
      have := h5 k rfl
      show (decide ((at_ : Int) < (k : Int)) && decide ((k : Int) < (cnt : Int))) = true
      rw [Bool.and_eq_true, decide_eq_true_eq, decide_eq_true_eq]
      omega
  simp only [ordCan, hl, Bool.and_true, Bool.and_eq_true, decide_eq_true_eq]
  simp only [Ord.raw]
  refine ⟨⟨⟨⟨⟨?_, ?_⟩, ?_⟩, ?_⟩, ?_⟩, ?_⟩ <;> omega
theorem ok_mem {B : Brd} (h : BrdOk B) : fwCell B.raw.mem = none := by
  have hl : B.raw.mem.length = B.mem.length := by simp [Brd.raw]
  rw [fwCell, if_pos (by rw [hl]; exact h.cells)]
  refine fst_none fun i x e => ?_
  obtain ⟨n, hn, rfl⟩ : ∃ n, B.mem[i]? = some n ∧ (n : Int) = x := by
    simp only [Brd.raw, List.getElem?_map] at e
    simpa using e
  have := h.nums n (List.mem_of_getElem? hn)
  simp [badNum]; omega
theorem ok_ords {B : Brd} (h : BrdOk B) : fwOrd B.raw.ords B.mem.length = none := by
  refine fst_none fun i x e => ?_
  obtain ⟨o, ho, rfl⟩ : ∃ o, B.ords[i]? = some o ∧ o.raw = x := by
    simp only [Brd.raw, List.getElem?_map] at e
    simpa using e
  have hl : B.raw.ords.length = B.ords.length := by simp [Brd.raw]
  have hi : i < B.ords.length := (List.getElem?_eq_some_iff.mp ho).1
  have := h.four
  rw [Nat.zero_add, badOrd, hl, can_ord (h.ords i o ho)]
  simp; omega
theorem rstart_raw (d : Deed) : rStart d.raw = isStart d := by
  have := word_start d
  simp only [rStart, Deed.raw]
  cases h : isStart d with
  | true => exact decide_eq_true (this.mpr h)
  | false => exact decide_eq_false fun z => by rw [this.mp z] at h; cases h
theorem ok_prog {B : Brd} (h : BrdOk B) : fwDeed B.raw.prog B.ords.length B.mem.length = none := by
  refine fst_none fun i x e => ?_
  obtain ⟨d, hd, rfl⟩ : ∃ d, B.prog[i]? = some d ∧ d.raw = x := by
    simp only [Brd.raw, List.getElem?_map] at e
    simpa using e
  have hi : i < B.prog.length := (List.getElem?_eq_some_iff.mp hd).1
  have h60 := h.sixty
  have hs : ((B.raw.prog.take (i + 1)).filter rStart).length ≤ 3 := by
    have e1 : (B.raw.prog.take (i + 1)).filter rStart = ((B.prog.take (i + 1)).filter isStart).map Deed.raw := by
      simp only [Brd.raw, ← List.map_take, List.filter_map]
      congr 1
      exact List.filter_congr fun d _ => rstart_raw d
    rw [e1, List.length_map]
    exact Nat.le_trans (List.Sublist.length_le ((List.take_sublist _ _).filter _)) h.starts
  rw [Nat.zero_add, badDeed, can_deed (h.prog d (List.mem_of_getElem? hd)), decide_eq_false (show ¬ i = 60 by omega), decide_eq_false (show ¬ 3 < _ by omega)]
  rfl
section
variable {P : Program} {w : World} {K : PySem.W.Frag} {mg : Str → Option Value} {base : Heap}
abbrev st_require_board : Stmt := (topS 12)
abbrev nm_require_board : List Str := ["board", "memory", "orders", "program", "wrong"]
theorem sc_require_board : FnScope ["board", "memory", "orders", "program", "wrong"] ["board"] (defScope st_require_board) := ⟨rfl, rfl, rfl, by decide +kernel, rfl, by decide +kernel, by decide +kernel⟩
/-- a board that can be is let through -/
def spReq : Sp := fun vs H Q _ => ∃ (v : V) (B : Brd), vs = [v] ∧ Pd H v B.d ∧ BrdOk B ∧ ∀ H', Same H H' → Q .non H'
theorem ok_req {f dd : Addr} {fd : FuncData} (F : Fun K "require_board" "require_board" st_require_board f fd) (c_first_wrong_cell : Callee P w K mg base "first_wrong_cell" 1 1 spFwCell) (c_first_wrong_order : Callee P w K mg base "first_wrong_order" 2 2 spFwOrd)
    (c_first_wrong_deed : Callee P w K mg base "first_wrong_deed" 2 3 (spFwDeed K w dd)) (z_len : mg "len" = none) : FnOk P w K mg base CX0 3 f fd ["board"] spReq := by
  refine F.ok sc_require_board (fun vs H Q E h => ?_) (fun cdv A outer s H vs Q E hr h => ?_)
  · obtain ⟨v, B, rfl, _⟩ := h
    rfl
  · obtain ⟨v, B, rfl, hB, ok, q⟩ := h
    rw [← raw_brd] at hB
    obtain ⟨a, m, o, p, os, ps, rfl, ha, hm, ho, hos, hp, hps⟩ := RBrd.of hB
    refine ⟨_, (pss_cons (ps_asg (pv 0) (pg_tup rfl (pgs_cons (pg_name (i := 1) sc_require_board.nd rfl (Or.inl rfl)) (pgs_cons (pg_name (i := 2) sc_require_board.nd rfl (Or.inl rfl)) (pgs_cons (pg_name (i := 3) sc_require_board.nd rfl (Or.inl rfl)) pgs_nil)))))
  (pss_cons (ps_set (i := 4) sc_require_board.nd rfl (Or.inl rfl) (pe_cal c_first_wrong_cell hr (by first | decide | exact Nat.le_refl _) (pa_cons (pv 1) pa_nil)))
  (pss_cons (ps_if (pt_cmpR op_notN (pv 4) pe_non (nomark _)) (pss_one ps_never) pss_nil)
  (pss_cons (ps_set (i := 4) sc_require_board.nd rfl (Or.inl rfl) (pe_cal c_first_wrong_order hr (by first | decide | exact Nat.le_refl _) (pa_cons (pv 2) (pa_cons (pe_callB call_len_seq (by rfl) z_len (by decide +kernel) (pa_cons (pv 1) pa_nil)) pa_nil))))
  (pss_cons (ps_if (pt_cmpR op_notN (pv 4) pe_non (nomark _)) (pss_one ps_never) pss_nil)
  (pss_cons (ps_set (i := 4) sc_require_board.nd rfl (Or.inl rfl) (pe_cal c_first_wrong_deed hr (by first | decide | exact Nat.le_refl _) (pa_cons (pv 3) (pa_cons (pe_callB call_len_seq (by rfl) z_len (by decide +kernel) (pa_cons (pv 2) pa_nil)) (pa_cons (pe_callB call_len_seq (by rfl) z_len (by decide +kernel) (pa_cons (pv 1) pa_nil)) pa_nil)))))
  (pss_one (ps_if (pt_cmpR op_notN (pv 4) pe_non (nomark _)) (pss_one ps_never) pss_nil)))))))), ?_⟩
    refine ⟨_, rfl, a, _, rfl, sqT_t ha, rfl, _, _, rfl, _, _, rfl, _, _, rfl, rfl, ?_⟩
    have ml : (B.raw.mem.map V.int).length = B.mem.length := by simp [Brd.raw]
    have ol : os.length = B.ords.length := by rw [hos.len]; simp [Brd.raw]
    refine ⟨_, rfl, m, _, rfl, hm, fun H1 s1 => ?_⟩
    rw [ok_mem ok]
    refine ⟨_, rfl, rfl, _, rfl, iteF ?_⟩
    refine ⟨_, rfl, _, rfl, m, _, rfl, .inr (sqT_t (s1 _ _ hm)), o, os, B.raw.ords, _, rfl, s1 _ _ ho, hos.same s1, fun H2 s2 => ?_⟩
    rw [show fwOrd B.raw.ords ((B.raw.mem.map V.int).length : Nat) = none by rw [ml]; exact ok_ords ok]
    refine ⟨_, rfl, rfl, _, rfl, iteF ?_⟩
    have s12 := s1.trans s2
    refine ⟨_, rfl, _, rfl, o, _, rfl, .inr (sqT_t (s12 _ _ ho)), _, rfl, m, _, rfl, .inr (sqT_t (s12 _ _ hm)), p, ps, B.raw.prog, _, _, rfl, s12 _ _ hp, hps.same s12, fun d hd => ?_, fun d hd hk => ?_, fun H3 s3 => ?_⟩
    · obtain ⟨d0, _, rfl⟩ := List.mem_map.mp hd
      have : d0.raw.nums.length = d0.args.length := by simp [Deed.raw]
      rw [this]
      cases d0 <;> simp [Deed.args]
    · obtain ⟨d0, _, rfl⟩ := List.mem_map.mp hd
      obtain ⟨ks, e, _⟩ := kinds_deed d0
      rw [show d0.raw.word = d0.word from rfl, e] at hk; cases hk
    rw [show fwDeed B.raw.prog (os.length : Nat) ((B.raw.mem.map V.int).length : Nat) = none by rw [ml, ol]; exact ok_prog ok]
    exact ⟨_, rfl, rfl, _, rfl, iteF (q H3 (s12.trans s3))⟩
end
end Vt
namespace Vt
open PySem PySem.Spec PyProof.Rows L2
/-! ### what a chain of orders tells to move -/
structure Mv where
  src : Nat
  goal : Nat
  bell : Option Nat
def Mv.d (m : Mv) : D := .tup [nD m.src, nD m.goal, oD m.bell]
def Mv.vs (m : Mv) : List V := [nV m.src, nV m.goal, oV m.bell]
theorem Mv.pd {H : Hp} {m : Mv} {a : Addr} (h : H a = some (.tup m.vs)) : Pd H (.ref a) m.d := .tup h (.cons (.int _) (.cons (.int _) (.cons (pd_o _) .nil)))
theorem Mv.of {H : Hp} {m : Mv} {v : V} (h : Pd H v m.d) : ∃ a, v = .ref a ∧ H a = some (.tup m.vs) := by
  obtain ⟨s, g, l⟩ := m
  cases h with
  | tup h hs =>
    cases hs with
    | cons h1 hs => cases h1; cases hs with
      | cons h2 hs => cases h2; cases hs with
        | cons h4 hs =>
          cases hs
          refine ⟨_, rfl, ?_⟩
          cases l with
          | none => cases h4; exact h
          | some k => cases h4; exact h
theorem noL_mv (m : Mv) : m.d.noL = true := by
  obtain ⟨s, g, l⟩ := m
  cases l <;> simp [Mv.d, D.noL, noLs, nD, oD]
def mvAt (o : Ord) (at_ s : Nat) : Mv := ⟨o.src + s, o.goal + s, if s + 1 = o.many then some at_ else none⟩
def movesOf (o : Ord) (at_ : Nat) : List Mv := (List.range o.many).map (mvAt o at_)
def chain (ords : List Ord) : Nat → Option Nat → List Mv
  | _, none => []
  | 0, some _ => []
  | f + 1, some k => match ords[k]? with
    | none => []
    | some o => movesOf o k ++ chain ords f o.later
def told (ords : List Ord) (k : Nat) : List Mv := chain ords 4 (some k)
theorem movesOf_take {o : Ord} {at_ i : Nat} (h : i < o.many) : (movesOf o at_).take (i + 1) = (movesOf o at_).take i ++ [mvAt o at_ i] := by
  rw [List.take_add_one]
  congr 1
  rw [movesOf, List.getElem?_map, List.getElem?_range h]; rfl
theorem movesOf_len {o : Ord} {at_ : Nat} : (movesOf o at_).length = o.many := by simp [movesOf]
theorem chain_len (ords : List Ord) (hm : ∀ o ∈ ords, o.many ≤ 8) : ∀ f k, (chain ords f k).length ≤ 8 * f
  | 0, none => by simp [chain]
  | 0, some _ => by simp [chain]
  | f + 1, none => by simp [chain]
  | f + 1, some k => by
    rw [chain]
    split
    · simp
    · rename_i o e
      have := chain_len ords hm f o.later
      have := hm o (List.mem_of_getElem? e)
      rw [List.length_append, movesOf_len]; omega
theorem told_len {ords : List Ord} (hm : ∀ o ∈ ords, o.many ≤ 8) (k : Nat) : (told ords k).length ≤ 32 := chain_len ords hm 4 _
/-- a measure of what is left of a chain -/
def leftAt (i n : Nat) (σ : L2.St) : Nat := match σ[i]? with
  | some (some (.int k)) => n - k.toNat
  | _ => 0
def spMoves : Sp := fun vs H Q _ => ∃ (a : Addr) (os : List V) (ords : List Ord) (cells k : Nat), vs = [.ref a, nV k] ∧ H a = some (.tup os) ∧ Pds H os (ords.map Ord.d) ∧ ords.length ≤ 4 ∧ (∀ (i : Nat) (o : Ord), ords[i]? = some o → OrdOk o i ords.length cells) ∧ k < ords.length ∧
  ∀ (H' : Hp) (p : Addr) (xs : List V), Same H H' → H p = none → H' p = some (.lst xs) → Pds H' xs ((told ords k).map Mv.d) → Q (.ref p) H'
end Vt
namespace Vt
open PySem PySem.Spec PyProof.Rows L2
section
variable {P : Program} {w : World} {K : PySem.W.Frag} {mg : Str → Option Value} {base : Heap}
abbrev st_moves_told : Stmt := (topS 19)
abbrev nm_moves_told : List Str := ["orders", "first", "moves", "at", "source", "goal", "many", "later", "step", "bell"]
theorem sc_moves_told : FnScope ["orders", "first", "moves", "at", "source", "goal", "many", "later", "step", "bell"] ["orders", "first"] (defScope st_moves_told) := ⟨rfl, rfl, rfl, by decide +kernel, rfl, by decide +kernel, by decide +kernel⟩
theorem ok_moves {f : Addr} {fd : FuncData} (F : Fun K "moves_told" "moves_told" st_moves_told f fd) (z_range : mg "range" = none) : FnOk P w K mg base CX0 1 f fd ["orders", "first"] spMoves := by
  refine F.ok sc_moves_told (fun vs H Q E h => ?_) (fun cdv A outer s H vs Q E hr h => ?_)
  · obtain ⟨a, os, ords, cells, k, rfl, _⟩ := h
    rfl
  · obtain ⟨a, os, ords, cells, k0, rfl, ha, hos, h4, hok, hk0, q⟩ := h
    refine ⟨_, (pss_cons (ps_set (i := 2) sc_moves_told.nd rfl (Or.inl rfl) (pe_lst pa_nil))
  (pss_cons (ps_set (i := 3) sc_moves_told.nd rfl (Or.inl rfl) (pv 1))
  (pss_cons (ps_while PassesOwn.never (pt_cmpR op_notN (pv 3) pe_non (nomark _))
  (pss_cons (ps_asg (pe_ix ix_lt (pv 0) (pv 3) (fun _ _ => rfl)) (pg_tup rfl (pgs_cons (pg_name (i := 4) sc_moves_told.nd rfl (Or.inl rfl)) (pgs_cons (pg_name (i := 5) sc_moves_told.nd rfl (Or.inl rfl)) (pgs_cons (pg_name (i := 6) sc_moves_told.nd rfl (Or.inl rfl)) (pgs_cons (pg_name (i := 7) sc_moves_told.nd rfl (Or.inl rfl)) pgs_nil))))))
  (pss_cons (ps_for PassesOwn.never rfl (pi_range1 (by rfl) z_range (pa_cons (pv 6) pa_nil)) (pg_name (i := 8) sc_moves_told.nd rfl (Or.inl rfl))
  (pss_cons (ps_set (i := 9) sc_moves_told.nd rfl (Or.inl rfl) (pe_ifExp (pt_cmpR op_eq (pv 8) (pe_op op_sub (pv 6) pe_int) (nomark _)) (pv 3) pe_non))
  (pss_one (ps_expr (pe_bm PySem.F.plainAttrs_list PySem.F.slot_list_append PySem.F.type_list_append mt_append (pv 2) (pa_cons (pe_tup (pa_cons (pe_op op_add (pv 4) (pv 8)) (pa_cons (pe_op op_add (pv 5) (pv 8)) (pa_cons (pv 9) pa_nil)))) pa_nil))))))
  (pss_one (ps_set (i := 3) sc_moves_told.nd rfl (Or.inl rfl) (pv 7))))))
  (pss_one (ps_ret (pv 2)))))), ?_⟩
    refine ⟨Nat.zero_le _, fun p np => ?_⟩
    refine ⟨_, rfl, ?_⟩
    have olen : os.length = ords.length := by rw [hos.len, List.length_map]
    refine while_by (fun σ H' => ∃ (y4 y5 y6 y7 y8 y9 : Option V) (at_ : Option Nat) (f : Nat) (done : List Mv) (xs : List V), σ = [some (.ref a), some (nV k0), some (.ref p), some (oV at_), y4, y5, y6, y7, y8, y9] ∧ H' p = some (.lst xs) ∧ Pds H' xs (done.map Mv.d) ∧
        done ++ chain ords f at_ = told ords k0 ∧ (∀ k, at_ = some k → k < ords.length ∧ ords.length ≤ k + f) ∧ Same H H') (fun σ _ => leftAt 3 ords.length σ)
      ⟨_, _, _, _, _, _, some k0, 4, [], [], rfl, upd_same, .nil, rfl, fun k e => by cases e; omega, same_new np⟩ (fun σ H1 hp => ?_) (fun σ H1 Q1 Q2 hq h => by obtain ⟨v, e, e2, k, e3, h⟩ := h; exact ⟨v, e, e2, k, e3, hq _ _ h⟩)
    obtain ⟨y4, y5, y6, y7, y8, y9, at_, f, done, xs, rfl, hx, hpx, hd, hat, sm⟩ := hp
    refine ⟨_, rfl, rfl, _, rfl, ?_⟩
    cases at_ with
    | none =>
      refine iteF ⟨_, rfl, ?_⟩
      have : done = told ords k0 := by rw [← hd]; cases f <;> simp [chain]
      subst this
      exact q _ p xs sm np hx hpx
    | some k =>
      refine iteT ?_
      obtain ⟨hk, hf⟩ := hat k rfl
      obtain ⟨o, ho⟩ : ∃ o, ords[k]? = some o := ⟨ords[k], List.getElem?_eq_getElem hk⟩
      have oo := hok k o ho
      obtain ⟨v, hv, hpd⟩ := (hos.same sm).get (show (ords.map Ord.d)[k]? = some o.d by rw [List.getElem?_map, ho]; rfl)
      obtain ⟨oa, rfl, hoa⟩ := Ord.of hpd
      obtain ⟨f, rfl⟩ : ∃ f', f = f' + 1 := ⟨f - 1, by omega⟩
      have hch : chain ords (f + 1) (some k) = movesOf o k ++ chain ords f o.later := by rw [chain, ho]
      rw [hch] at hd
      have dlen : done.length + o.many ≤ 32 := by
        have h1 := told_len (ords := ords) (fun o ho => by
          obtain ⟨i, hi, rfl⟩ := List.mem_iff_getElem.mp ho
          exact (hok i _ (List.getElem?_eq_getElem hi)).eight) k0
        rw [← hd, List.length_append, List.length_append, movesOf_len] at h1
        omega
      refine ⟨_, rfl, _, rfl, a, os, (k : Int), .ref oa, rfl, rfl, sqA_t (sm _ _ ha), atI_nat hv, oa, _, rfl, sqT_t hoa, rfl, _, _, rfl, _, _, rfl, _, _, rfl, _, _, rfl, rfl, ?_⟩
      -- for step in range(many)
      refine ⟨_, rfl, _, rfl, by have := oo.eight; omega, by have := oo.eight; omega, ?_⟩
      refine for_it (walk_range (lo := 0) (n := (o.many : Int).toNat)) (fun i σ H' => ∃ (y8 y9 : Option V) (xs : List V), σ = [some (.ref a), some (nV k0), some (.ref p), some (nV k), some (nV o.src), some (nV o.goal), some (nV o.many), some (oV o.later), y8, y9] ∧ H' p = some (.lst xs) ∧
          Pds H' xs ((done ++ (movesOf o k).take i).map Mv.d) ∧ Same H H')
        ⟨_, _, xs, rfl, hx, by simpa using hpx, sm⟩ (fun _ _ _ _ _ => trivial) (fun i x σ H2 H3 hi hp hy => ?_) (fun σ H2 hp => ?_)
      · obtain ⟨z8, z9, xs, rfl, hx, hpx, sm2⟩ := hp
        obtain ⟨rfl, rfl⟩ := hy
        have hi' : i < o.many := by simpa using hi
        have step : ∀ (H4 : Hp) (T : Addr), H4 = upd H3 T (.tup [.int ((o.src : Int) + (0 + (i : Int))), .int ((o.goal : Int) + (0 + (i : Int))), oV (if i + 1 = o.many then some k else none)]) → H3 T = none →
            H4 p = some (.lst xs) ∧ xs.length < sizeLine ∧ (upd H4 p (.lst (xs ++ [.ref T]))) p = some (.lst (xs ++ [.ref T])) ∧ Pds (upd H4 p (.lst (xs ++ [.ref T]))) (xs ++ [.ref T]) ((done ++ (movesOf o k).take (i + 1)).map Mv.d) ∧ Same H (upd H4 p (.lst (xs ++ [.ref T]))) := fun H4 T e nT => by
          have s3 : Same H3 H4 := by rw [e]; exact same_new nT
          have hT : H4 T = some (.tup (mvAt o k i).vs) := by
            rw [e, upd_same]
            simp [Mv.vs, mvAt, nV]
          have hx4 := s3 _ _ hx
          have pT : T ≠ p := fun z => by rw [z, hx4] at hT; cases hT
          have ls : Lsts H4 [p] := fun c hc => ⟨xs, by rw [List.mem_singleton.mp hc]; exact hx4⟩
          have sB : But [p] H4 (upd H4 p (.lst (xs ++ [.ref T]))) := But.set (by simp)
          have xlen : xs.length ≤ 100 := by
            rw [hpx.len, List.length_map, List.length_append, List.length_take]
            omega
          refine ⟨hx4, fits (by omega), upd_same, ?_, fun c u hc => ?_⟩
          · rw [movesOf_take hi', ← List.append_assoc, List.map_append]
            exact (Pds.but sB ls (noLs_map noL_mv _) (hpx.same s3)).app (.cons (Mv.pd (by rw [upd_ne pT]; exact hT)) .nil)
          · rw [upd_ne (ne_of_none hc np)]; exact s3 _ _ (sm2 _ _ hc)
        refine ⟨_, rfl, _, rfl, _, _, rfl, rfl, rfl, _, rfl, ite2 (fun e => ⟨_, rfl, ?_⟩) (fun e => ?_)⟩
        · have e1 : i + 1 = o.many := by
            have : (0 : Int) + (i : Int) = (o.many : Int) - 1 := by injection of_decide_eq_true e
            omega
          rw [if_pos e1] at step
          refine ⟨_, rfl, .inl ⟨rfl, _, sqL_l hx⟩, _, rfl, _, rfl, _, _, rfl, rfl, _, rfl, _, rfl, _, _, rfl, rfl, _, rfl, by show 3 ≤ sizeLine; decide, fun T nT => ?_⟩
          obtain ⟨g1, g2, g3, g4, g5⟩ := step _ T rfl nT
          exact ⟨p, _, _, rfl, rfl, g1, g2, _, _, _, rfl, g3, g4, g5⟩
        · have e1 : ¬ i + 1 = o.many := fun z => e (by
            have : (0 : Int) + (i : Int) = (o.many : Int) - 1 := by omega
            exact decide_eq_true (congrArg V.int this))
          rw [if_neg e1] at step
          refine ⟨_, rfl, .inl ⟨rfl, _, sqL_l hx⟩, _, rfl, _, rfl, _, _, rfl, rfl, _, rfl, _, rfl, _, _, rfl, rfl, _, rfl, by show 3 ≤ sizeLine; decide, fun T nT => ?_⟩
          obtain ⟨g1, g2, g3, g4, g5⟩ := step _ T rfl nT
          exact ⟨p, _, _, rfl, rfl, g1, g2, _, _, _, rfl, g3, g4, g5⟩
      · obtain ⟨z8, z9, xs, rfl, hx, hpx, sm2⟩ := hp
        have et : (movesOf o k).take (o.many : Int).toNat = movesOf o k := List.take_of_length_le (by rw [movesOf_len]; simp)
        rw [et] at hpx
        refine ⟨_, rfl, ⟨_, _, _, _, _, _, o.later, f, done ++ movesOf o k, xs, rfl, hx, hpx, by rw [List.append_assoc]; exact hd, fun k' e => ?_, sm2⟩, ?_⟩
        · have := oo.later k' e
          omega
        · show leftAt 3 ords.length [some (.ref a), some (nV k0), some (.ref p), some (oV o.later), _, _, _, _, _, _] < leftAt 3 ords.length [some (.ref a), some (nV k0), some (.ref p), some (oV (some k)), _, _, _, _, _, _]
          cases hl : o.later with
          | none => simp [leftAt, oV, nV]; omega
          | some k' =>
            have := oo.later k' hl
            simp [leftAt, oV, nV]; omega
end
end Vt
namespace Vt
open PySem PySem.Spec PyProof.Rows L2
/-! ### plainly -/
def rdD (p : Nat × Nat) : D := .tup [nD p.1, nD p.2]
theorem noL_rd (p : Nat × Nat) : (rdD p).noL = true := by simp [rdD, D.noL, noLs, nD]
theorem rd_pd {c n : Nat} (H : Hp) (a : Addr) (h : H a = some (.tup [nV c, nV n])) : Pd H (.ref a) (rdD (c, n)) := .tup h (.cons (.int _) (.cons (.int _) .nil))
def mvStep (p : List Nat × List (Nat × Nat)) (m : Mv) : List Nat × List (Nat × Nat) := (p.1.set m.goal (p.1.getD m.src 0), p.2 ++ [(m.src, p.1.getD m.src 0)])
structure Pst where
  mem : List Nat
  said : List Nat
  reads : List (Nat × Nat)
  fet : List (Nat × Nat)
def pstep (ords : List Ord) (s : Pst) : Deed → Pst
  | .set c n => { s with mem := s.mem.set c n }
  | .add c o => { s with reads := (s.reads ++ [(c, s.mem.getD c 0)]) ++ [(o, s.mem.getD o 0)], mem := s.mem.set c ((s.mem.getD c 0 + s.mem.getD o 0) % 10) }
  | .say c => { s with reads := s.reads ++ [(c, s.mem.getD c 0)], said := s.said ++ [s.mem.getD c 0] }
  | .start o => { s with mem := ((told ords o).foldl mvStep (s.mem, [])).1, fet := s.fet ++ ((told ords o).foldl mvStep (s.mem, [])).2 }
  | _ => s
def plain (B : Brd) : Pst := B.prog.foldl (pstep B.ords) ⟨B.mem, [], [], []⟩
theorem chain_bd {ords : List Ord} {cells : Nat} (hok : ∀ (i : Nat) (o : Ord), ords[i]? = some o → OrdOk o i ords.length cells) : ∀ f k, ∀ m ∈ chain ords f k, m.src < cells ∧ m.goal < cells
  | 0, none => by simp [chain]
  | 0, some _ => by simp [chain]
  | f + 1, none => by simp [chain]
  | f + 1, some k => by
    intro m hm
    rw [chain] at hm
    split at hm
    · simp at hm
    · rename_i o e
      rcases List.mem_append.mp hm with h | h
      · obtain ⟨s, hs, rfl⟩ := List.mem_map.mp h
        have := List.mem_range.mp hs
        have := (hok k o e).src
        have := (hok k o e).goal
        simp only [mvAt]; omega
      · exact chain_bd hok f o.later m h
theorem mv_len : ∀ (ms : List Mv) (p : List Nat × List (Nat × Nat)), (ms.foldl mvStep p).1.length = p.1.length ∧ (ms.foldl mvStep p).2.length = p.2.length + ms.length
  | [], p => ⟨rfl, rfl⟩
  | m :: r, p => by
    obtain ⟨h1, h2⟩ := mv_len r (mvStep p m)
    rw [List.foldl_cons, h1, h2]
    simp [mvStep]; omega
theorem mv_ten : ∀ (ms : List Mv) (p : List Nat × List (Nat × Nat)), (∀ n ∈ p.1, n < 10) → ∀ n ∈ (ms.foldl mvStep p).1, n < 10
  | [], p, h => h
  | m :: r, p, h => by
    rw [List.foldl_cons]
    refine mv_ten r (mvStep p m) fun n hn => ?_
    simp only [mvStep] at hn
    rcases List.mem_or_eq_of_mem_set hn with h' | h'
    · exact h n h'
    · rw [h', List.getD_eq_getElem?_getD]
      cases e : p.1[m.src]? with
      | none => simp
      | some x => simpa using h x (List.mem_of_getElem? e)
structure PInv (s : Pst) (n cells : Nat) : Prop where
  len : s.mem.length = cells
  ten : ∀ x ∈ s.mem, x < 10
  said : s.said.length ≤ n
  reads : s.reads.length ≤ 2 * n
  fet : s.fet.length ≤ 32 * n
theorem PInv.step {s : Pst} {n cells : Nat} {ords : List Ord} {d : Deed} (h : PInv s n cells) (hm : ∀ o ∈ ords, o.many ≤ 8) (hd : DeedOk d ords.length cells) : PInv (pstep ords s d) (n + 1) cells := by
  obtain ⟨h1, h2, h3, h4, h5⟩ := h
  have mset : ∀ c v, v < 10 → ∀ x ∈ s.mem.set c v, x < 10 := fun c v hv x hx => by
    rcases List.mem_or_eq_of_mem_set hx with h' | h'
    · exact h2 x h'
    · rw [h']; exact hv
  cases d with
  | set c v => exact ⟨by simpa [pstep] using h1, mset c v hd.2, by simp only [pstep]; omega, by simp only [pstep]; omega, by simp only [pstep]; omega⟩
  | add c v => exact ⟨by simpa [pstep] using h1, mset c _ (Nat.mod_lt _ (by decide)), by simp only [pstep]; omega, by simp [pstep]; omega, by simp only [pstep]; omega⟩
  | say c => exact ⟨by simpa [pstep] using h1, h2, by simp [pstep]; omega, by simp [pstep]; omega, by simp only [pstep]; omega⟩
  | start o =>
    obtain ⟨e1, e2⟩ := mv_len (told ords o) (s.mem, [])
    have e3 := told_len hm o
    refine ⟨?_, mv_ten _ _ h2, ?_, ?_, ?_⟩
    · simp only [pstep]; rw [e1]; exact h1
    · simp only [pstep]; omega
    · simp only [pstep]; omega
    · simp only [pstep, List.length_append]; rw [e2]; simp; omega
  | wait => exact ⟨h1, h2, by simp only [pstep]; omega, by simp only [pstep]; omega, by simp only [pstep]; omega⟩
  | clean l => exact ⟨h1, h2, by simp only [pstep]; omega, by simp only [pstep]; omega, by simp only [pstep]; omega⟩
  | drop l => exact ⟨h1, h2, by simp only [pstep]; omega, by simp only [pstep]; omega, by simp only [pstep]; omega⟩
section
variable {P : Program} {w : World} {K : PySem.W.Frag} {mg : Str → Option Value} {base : Heap}
abbrev st_moved_at_once : Stmt := (topS 24)
abbrev nm_moved_at_once : List Str := ["memory", "orders", "first", "fetches", "source", "goal", "bell"]
theorem sc_moved_at_once : FnScope ["memory", "orders", "first", "fetches", "source", "goal", "bell"] ["memory", "orders", "first"] (defScope st_moved_at_once) := ⟨rfl, rfl, rfl, by decide +kernel, rfl, by decide +kernel, by decide +kernel⟩
def spOnce : Sp := fun vs H Q _ => ∃ (m a : Addr) (mem : List Nat) (os : List V) (ords : List Ord) (k : Nat), vs = [.ref m, .ref a, nV k] ∧ H m = some (.lst (mem.map nV)) ∧ H a = some (.tup os) ∧ Pds H os (ords.map Ord.d) ∧ ords.length ≤ 4 ∧ (∀ (i : Nat) (o : Ord), ords[i]? = some o → OrdOk o i ords.length mem.length) ∧ k < ords.length ∧
  ∀ (H' : Hp) (p : Addr) (xs : List V), But [m] H H' → H p = none → H' m = some (.lst (((told ords k).foldl mvStep (mem, [])).1.map nV)) → H' p = some (.lst xs) → Pds H' xs (((told ords k).foldl mvStep (mem, [])).2.map rdD) → Q (.ref p) H'
theorem ok_once {f : Addr} {fd : FuncData} (F : Fun K "moved_at_once" "moved_at_once" st_moved_at_once f fd) (c_moves_told : Callee P w K mg base "moves_told" 1 2 spMoves) : FnOk P w K mg base CX0 2 f fd ["memory", "orders", "first"] spOnce := by
  refine F.ok sc_moved_at_once (fun vs H Q E h => ?_) (fun cdv A outer s H vs Q E hr h => ?_)
  · obtain ⟨m, a, mem, os, ords, k, rfl, _⟩ := h
    rfl
  · obtain ⟨m, a, mem, os, ords, k, rfl, hm, ha, hos, h4, hok, hk, q⟩ := h
    refine ⟨_, (pss_cons (ps_set (i := 3) sc_moved_at_once.nd rfl (Or.inl rfl) (pe_lst pa_nil))
  (pss_cons (ps_for PassesOwn.never rfl (pi_lt (pe_cal c_moves_told hr (by first | decide | exact Nat.le_refl _) (pa_cons (pv 1) (pa_cons (pv 2) pa_nil)))) (pg_tup rfl (pgs_cons (pg_name (i := 4) sc_moved_at_once.nd rfl (Or.inl rfl)) (pgs_cons (pg_name (i := 5) sc_moved_at_once.nd rfl (Or.inl rfl)) (pgs_cons (pg_name (i := 6) sc_moved_at_once.nd rfl (Or.inl rfl)) pgs_nil))))
  (pss_cons (ps_expr (pe_bm PySem.F.plainAttrs_list PySem.F.slot_list_append PySem.F.type_list_append mt_append (pv 3) (pa_cons (pe_tup (pa_cons (pv 4) (pa_cons (pe_ix ix_lt (pv 0) (pv 4) (fun _ _ => rfl)) pa_nil))) pa_nil)))
  (pss_one (ps_asg (pe_ix ix_lt (pv 0) (pv 4) (fun _ _ => rfl)) (pg_sub (pv 0) (pv 5) set_list)))))
  (pss_one (ps_ret (pv 3))))), ?_⟩
    refine ⟨Nat.zero_le _, fun p np => ?_⟩
    have s1 : Same H (upd H p (.lst [])) := same_new np
    have hp1 : (upd H p (.lst [])) p = some (.lst []) := upd_same
    generalize upd H p (.lst []) = H1 at s1 hp1
    have mp : m ≠ p := ne_of_none hm np
    refine ⟨_, rfl, _, rfl, a, os, ords, mem.length, k, rfl, s1 _ _ ha, hos.same s1, h4, hok, hk, fun H2 l ms s2 nl hl hms => ?_⟩
    have hp2 := s2 _ _ hp1
    have lp : l ≠ p := (ne_of_none hp1 nl).symm
    have lm : l ≠ m := (ne_of_none (s1 _ _ hm) nl).symm
    have ml : ms.length = (told ords k).length := by rw [hms.len, List.length_map]
    have t32 := told_len (ords := ords) (fun o ho => by
      obtain ⟨i, hi, rfl⟩ := List.mem_iff_getElem.mp ho
      exact (hok i _ (List.getElem?_eq_getElem hi)).eight) k
    refine ⟨l, rfl, .inl ⟨_, sqL_l hl, ?_⟩⟩
    refine for_it (walk_list (xs := ms)) (fun i σ H' => ∃ (y4 y5 y6 : Option V) (xs : List V), σ = [some (.ref m), some (.ref a), some (nV k), some (.ref p), y4, y5, y6] ∧ H' m = some (.lst ((((told ords k).take i).foldl mvStep (mem, [])).1.map nV)) ∧
        H' p = some (.lst xs) ∧ Pds H' xs ((((told ords k).take i).foldl mvStep (mem, [])).2.map rdD) ∧ H' l = some (.lst ms) ∧ Pds H' ms ((told ords k).map Mv.d) ∧ But [m] H H')
      ⟨_, _, _, [], rfl, s2 _ _ (s1 _ _ hm), hp2, .nil, hl, hms, Same.but (s1.trans s2)⟩ (fun i σ H' _ hp => by obtain ⟨_, _, _, _, _, _, _, _, e, _⟩ := hp; exact sqL_l e) (fun i x σ H3 H4 hi hp hy => ?_) (fun σ H3 hp => ?_)
    · obtain ⟨y4, y5, y6, xs, rfl, g1, g2, g3, g4, g5, g6⟩ := hp
      obtain ⟨rfl, hx⟩ := hy
      obtain ⟨dd, hdd, hpd⟩ := g5.get' hx
      rw [List.getElem?_map] at hdd
      obtain ⟨mv, hmv, rfl⟩ : ∃ mv, (told ords k)[i]? = some mv ∧ mv.d = dd := by simpa using hdd
      obtain ⟨ma, rfl, hma⟩ := Mv.of hpd
      have bd := chain_bd hok 4 (some k) mv (List.mem_of_getElem? hmv)
      have stp : ((told ords k).take (i + 1)).foldl mvStep (mem, []) = mvStep (((told ords k).take i).foldl mvStep (mem, [])) mv := by
        rw [List.take_add_one, hmv, List.foldl_append]; rfl
      obtain ⟨L1, L2'⟩ := mv_len ((told ords k).take i) (mem, [])
      generalize hrr : ((told ords k).take i).foldl mvStep (mem, []) = rr at *
      have b1 : mv.src < rr.1.length := by rw [L1]; exact bd.1
      have b2 : mv.goal < rr.1.length := by rw [L1]; exact bd.2
      refine ⟨ma, _, rfl, sqT_t hma, rfl, _, _, rfl, _, _, rfl, _, _, rfl, rfl, ?_⟩
      -- fetches.append((source, memory[source]))
      refine ⟨_, rfl, .inl ⟨rfl, _, sqL_l g2⟩, _, rfl, _, rfl, _, rfl, m, _, (mv.src : Int), nV (rr.1.getD mv.src 0), rfl, rfl, sqA_l g1, atI_nat (nat_at b1), by show 2 ≤ sizeLine; decide, fun T nT => ?_⟩
      obtain ⟨k1, k2, k3⟩ := grow g2 g3 (noLs_map noL_rd _) nT (fun H a h => rd_pd (c := mv.src) (n := rr.1.getD mv.src 0) H a h)
      have xlen : xs.length ≤ 32 := by
        rw [g3.len, List.length_map, L2']; simp; omega
      refine ⟨p, _, _, rfl, rfl, k1, fits (by omega), ?_⟩
      have g1' := But.at1 k3 g1 mp
      have g2' : (upd (upd H4 T (.tup [nV mv.src, nV (rr.1.getD mv.src 0)])) p (.lst (xs ++ [.ref T]))) p = some (.lst (xs ++ [.ref T])) := upd_same
      have g4' := But.at1 k3 g4 lp
      have g5' := But.pds1 k3 g2 (noLs_map noL_mv _) g5
      have g6' : But [m] H (upd (upd H4 T (.tup [nV mv.src, nV (rr.1.getD mv.src 0)])) p (.lst (xs ++ [.ref T]))) := fun c o hc h => k3 c o (by simp [ne_of_none h np]) (g6 c o hc h)
      generalize upd (upd H4 T (.tup [nV mv.src, nV (rr.1.getD mv.src 0)])) p (.lst (xs ++ [.ref T])) = H5 at g1' g2' g4' g5' g6' k2
      -- memory[goal] = memory[source]
      refine ⟨_, rfl, _, rfl, m, _, (mv.src : Int), nV (rr.1.getD mv.src 0), rfl, rfl, sqA_l g1', atI_nat (nat_at b1), ?_⟩
      refine ⟨_, rfl, _, rfl, m, _, _, mv.goal, rfl, rfl, g1', ixN_of rfl (by rw [List.length_map]; exact b2), ?_⟩
      have sB : But [m] H5 (upd H5 m (.lst ((rr.1.map nV).set mv.goal (nV (rr.1.getD mv.src 0))))) := But.set (by simp)
      refine ⟨_, _, _, xs ++ [.ref T], rfl, ?_, ?_, ?_, ?_, But.pds1 sB g1' (noLs_map noL_mv _) g5', g6'.trans sB⟩
      · rw [stp, upd_same, set_map rfl]; rfl
      · exact But.at1 sB g2' mp.symm
      · rw [stp]
        simp only [mvStep, List.map_append, List.map_cons, List.map_nil]
        refine But.pds1 sB g1' ?_ k2
        rw [show rr.2.map rdD ++ [rdD (mv.src, rr.1.getD mv.src 0)] = (rr.2 ++ [(mv.src, rr.1.getD mv.src 0)]).map rdD by simp]
        exact noLs_map noL_rd _
      · exact But.at1 sB g4' lm
    · obtain ⟨y4, y5, y6, xs, rfl, g1, g2, g3, g4, g5, g6⟩ := hp
      rw [ml, List.take_length] at g1 g3
      exact ⟨_, rfl, q _ p xs g6 np g1 g2 g3⟩
end
end Vt
namespace Vt
open PySem PySem.Spec PyProof.Rows L2
/-- the lists of a plain run so far -/
structure Held (H : Hp) (m s r f : Addr) (st : Pst) : Prop where
  mem : H m = some (.lst (st.mem.map nV))
  said : H s = some (.lst (st.said.map nV))
  reads : ∃ xs, H r = some (.lst xs) ∧ Pds H xs (st.reads.map rdD)
  fet : ∃ xs, H f = some (.lst xs) ∧ Pds H xs (st.fet.map rdD)
structure Apart (m s r f : Addr) : Prop where
  ms : m ≠ s
  mr : m ≠ r
  mf : m ≠ f
  sr : s ≠ r
  sf : s ≠ f
  rf : r ≠ f
section
variable {H H' : Hp} {m s r f : Addr} {st : Pst}
theorem Held.same (h : Held H m s r f st) (e : Same H H') : Held H' m s r f st := by
  obtain ⟨h1, h2, ⟨x3, h3, k3⟩, ⟨x4, h4, k4⟩⟩ := h
  exact ⟨e _ _ h1, e _ _ h2, ⟨x3, e _ _ h3, k3.same e⟩, ⟨x4, e _ _ h4, k4.same e⟩⟩
/-- the memory is written -/
theorem Held.setMem (h : Held H m s r f st) (a : Apart m s r f) {mem : List Nat} (b : But [m] H H') (e : H' m = some (.lst (mem.map nV))) : Held H' m s r f { st with mem := mem } := by
  obtain ⟨h1, h2, ⟨x3, h3, k3⟩, ⟨x4, h4, k4⟩⟩ := h
  exact ⟨e, b.at1 h2 a.ms.symm, ⟨x3, b.at1 h3 a.mr.symm, b.pds1 h1 (noLs_map noL_rd _) k3⟩, ⟨x4, b.at1 h4 a.mf.symm, b.pds1 h1 (noLs_map noL_rd _) k4⟩⟩
theorem Held.setSaid (h : Held H m s r f st) (a : Apart m s r f) {said : List Nat} (b : But [s] H H') (e : H' s = some (.lst (said.map nV))) : Held H' m s r f { st with said := said } := by
  obtain ⟨h1, h2, ⟨x3, h3, k3⟩, ⟨x4, h4, k4⟩⟩ := h
  exact ⟨b.at1 h1 a.ms, e, ⟨x3, b.at1 h3 a.sr.symm, b.pds1 h2 (noLs_map noL_rd _) k3⟩, ⟨x4, b.at1 h4 a.sf.symm, b.pds1 h2 (noLs_map noL_rd _) k4⟩⟩
theorem Held.setReads (h : Held H m s r f st) (a : Apart m s r f) {reads : List (Nat × Nat)} {ys : List V} (b : But [r] H H') (e : H' r = some (.lst ys)) (k : Pds H' ys (reads.map rdD)) : Held H' m s r f { st with reads := reads } := by
  obtain ⟨h1, h2, ⟨x3, h3, k3⟩, ⟨x4, h4, k4⟩⟩ := h
  exact ⟨b.at1 h1 a.mr, b.at1 h2 a.sr, ⟨ys, e, k⟩, ⟨x4, b.at1 h4 a.rf.symm, b.pds1 h3 (noLs_map noL_rd _) k4⟩⟩
theorem Held.setFet (h : Held H m s r f st) (a : Apart m s r f) {fet : List (Nat × Nat)} {ys : List V} (b : But [f] H H') (e : H' f = some (.lst ys)) (k : Pds H' ys (fet.map rdD)) : Held H' m s r f { st with fet := fet } := by
  obtain ⟨h1, h2, ⟨x3, h3, k3⟩, ⟨x4, h4, k4⟩⟩ := h
  exact ⟨b.at1 h1 a.mf, b.at1 h2 a.sf, ⟨x3, b.at1 h3 a.rf, b.pds1 h4 (noLs_map noL_rd _) k3⟩, ⟨ys, e, k⟩⟩
/-- a reading noted -/
theorem Held.noteRead (h : Held H m s r f st) (a : Apart m s r f) {T : Addr} {c n : Nat} (nT : H T = none) : ∃ xs, (upd H T (.tup [nV c, nV n])) r = some (.lst xs) ∧ xs.length = st.reads.length ∧
    Held (upd (upd H T (.tup [nV c, nV n])) r (.lst (xs ++ [.ref T]))) m s r f { st with reads := st.reads ++ [(c, n)] } ∧ But [r] H (upd (upd H T (.tup [nV c, nV n])) r (.lst (xs ++ [.ref T]))) := by
  have ⟨h1, h2, ⟨x3, h3, k3⟩, ⟨x4, h4, k4⟩⟩ := h
  obtain ⟨g1, g2, g3⟩ := grow h3 k3 (noLs_map noL_rd _) nT (fun H a h => rd_pd (c := c) (n := n) H a h)
  exact ⟨x3, g1, by rw [k3.len, List.length_map], h.setReads a g3 upd_same (by rw [List.map_append]; exact g2), g3⟩
end
section
variable {P : Program} {w : World} {K : PySem.W.Frag} {mg : Str → Option Value} {base : Heap}
theorem nw {a b : Str} {p : Prop} (h : decide (a = b) = false) : ¬ (a = b ∧ p) := fun q => of_decide_eq_false h q.1
theorem hd_word {H : Hp} {a : Addr} {d : Deed} (h : H a = some (.tup d.vs)) : SqT K H a (.str d.word :: d.args.map nV) := sqT_t h
abbrev st_plain_run : Stmt := (topS 23)
abbrev nm_plain_run : List Str := ["board", "cells", "orders", "program", "memory", "said", "reads", "fetches", "deed", "cell", "number", "other", "order"]
theorem sc_plain_run : FnScope ["board", "cells", "orders", "program", "memory", "said", "reads", "fetches", "deed", "cell", "number", "other", "order"] ["board"] (defScope st_plain_run) := ⟨rfl, rfl, rfl, by decide +kernel, rfl, by decide +kernel, by decide +kernel⟩
def spRun : Sp := fun vs H Q _ => ∃ (v : V) (B : Brd), vs = [v] ∧ Pd H v B.d ∧ BrdOk B ∧ ∀ (H' : Hp) (t m s r f : Addr), Same H H' → H m = none → H s = none → H r = none → H f = none → Apart m s r f → H' t = some (.tup [.ref m, .ref s, .ref r, .ref f]) → Held H' m s r f (plain B) → Q (.ref t) H'
theorem ok_run {f : Addr} {fd : FuncData} (F : Fun K "plain_run" "plain_run" st_plain_run f fd) (C : Consts K mg) (c_require_board : Callee P w K mg base "require_board" 3 1 spReq) (c_moved_at_once : Callee P w K mg base "moved_at_once" 2 3 spOnce) (z_list : mg "list" = none) :
    FnOk P w K mg base CX0 4 f fd ["board"] spRun := by
  obtain ⟨tN, mc_NUMBERS⟩ := C.numbers
  refine F.ok sc_plain_run (fun vs H Q E h => ?_) (fun cdv A outer s H vs Q E hr h => ?_)
  · obtain ⟨v, B, rfl, _⟩ := h
    rfl
  · obtain ⟨v, B, rfl, hB, ok, q⟩ := h
    refine ⟨_, (pss_cons (ps_expr (pe_cal c_require_board hr (by first | decide | exact Nat.le_refl _) (pa_cons (pv 0) pa_nil)))
  (pss_cons (ps_asg (pv 0) (pg_tup rfl (pgs_cons (pg_name (i := 1) sc_plain_run.nd rfl (Or.inl rfl)) (pgs_cons (pg_name (i := 2) sc_plain_run.nd rfl (Or.inl rfl)) (pgs_cons (pg_name (i := 3) sc_plain_run.nd rfl (Or.inl rfl)) pgs_nil)))))
  (pss_cons (ps_set (i := 4) sc_plain_run.nd rfl (Or.inl rfl) (pe_callTy call_list_of (by rfl) z_list (by decide +kernel) (pa_cons (pv 1) pa_nil)))
  (pss_cons (ps_set (i := 5) sc_plain_run.nd rfl (Or.inl rfl) (pe_lst pa_nil))
  (pss_cons (ps_set (i := 6) sc_plain_run.nd rfl (Or.inl rfl) (pe_lst pa_nil))
  (pss_cons (ps_set (i := 7) sc_plain_run.nd rfl (Or.inl rfl) (pe_lst pa_nil))
  (pss_cons (ps_for PassesOwn.never rfl (pi_lt (pv 3)) (pg_name (i := 8) sc_plain_run.nd rfl (Or.inl rfl))
  (pss_one (ps_match (pv 8)
  (pc_seq2 (i0 := 9) (i1 := 10) sc_plain_run.nd (pss_one (ps_asg (pv 10) (pg_sub (pv 4) (pv 9) set_list)))
  (pc_seq2 (i0 := 9) (i1 := 11) sc_plain_run.nd (pss_cons (ps_expr (pe_bm PySem.F.plainAttrs_list PySem.F.slot_list_append PySem.F.type_list_append mt_append (pv 6) (pa_cons (pe_tup (pa_cons (pv 9) (pa_cons (pe_ix ix_lt (pv 4) (pv 9) (fun _ _ => rfl)) pa_nil))) pa_nil)))
  (pss_cons (ps_expr (pe_bm PySem.F.plainAttrs_list PySem.F.slot_list_append PySem.F.type_list_append mt_append (pv 6) (pa_cons (pe_tup (pa_cons (pv 11) (pa_cons (pe_ix ix_lt (pv 4) (pv 11) (fun _ _ => rfl)) pa_nil))) pa_nil)))
  (pss_one (ps_asg (pe_op op_mod (pe_op op_add (pe_ix ix_lt (pv 4) (pv 9) (fun _ _ => rfl)) (pe_ix ix_lt (pv 4) (pv 11) (fun _ _ => rfl))) (pe_glob (v := .int 10) rfl mc_NUMBERS ⟨_, rfl⟩)) (pg_sub (pv 4) (pv 9) set_list)))))
  (pc_seq1 (i0 := 9) sc_plain_run.nd (pss_cons (ps_expr (pe_bm PySem.F.plainAttrs_list PySem.F.slot_list_append PySem.F.type_list_append mt_append (pv 6) (pa_cons (pe_tup (pa_cons (pv 9) (pa_cons (pe_ix ix_lt (pv 4) (pv 9) (fun _ _ => rfl)) pa_nil))) pa_nil)))
  (pss_one (ps_expr (pe_bm PySem.F.plainAttrs_list PySem.F.slot_list_append PySem.F.type_list_append mt_append (pv 5) (pa_cons (pe_ix ix_lt (pv 4) (pv 9) (fun _ _ => rfl)) pa_nil)))))
  (pc_seq1 (i0 := 12) sc_plain_run.nd (pss_one (ps_expr (pe_bm PySem.F.plainAttrs_list PySem.F.slot_list_extend PySem.F.type_list_extend mt_extend (pv 7) (pa_cons (pe_cal c_moved_at_once hr (by first | decide | exact Nat.le_refl _) (pa_cons (pv 4) (pa_cons (pv 2) (pa_cons (pv 12) pa_nil)))) pa_nil))))
  pc_nil)))))))
  (pss_one (ps_ret (pe_tup (pa_cons (pv 4) (pa_cons (pv 5) (pa_cons (pv 6) (pa_cons (pv 7) pa_nil)))))))))))))), ?_⟩
    refine ⟨_, rfl, v, B, rfl, hB, ok, fun H1 s1 => ?_⟩
    obtain ⟨a, mm, o, p, os, ps, rfl, ha, hm, ho, hos, hp, hps⟩ := Brd.of (hB.same s1)
    refine ⟨_, rfl, a, _, rfl, sqT_t ha, rfl, _, _, rfl, _, _, rfl, _, _, rfl, rfl, ?_⟩
    refine ⟨_, rfl, mm, _, rfl, .inr (sqT_t hm), fun m nm => ⟨Nat.zero_le _, fun s ns => ⟨Nat.zero_le _, fun r nr => ⟨Nat.zero_le _, fun f nf => ?_⟩⟩⟩⟩
    have e1 := same_new (o := .lst (B.mem.map nV)) nm
    have e2 := same_new (o := .lst []) ns
    have e3 := same_new (o := .lst []) nr
    have e4 := same_new (o := .lst []) nf
    have nm0 : H m = none := s1.free nm
    have ns0 : H s = none := (s1.trans e1).free ns
    have nr0 : H r = none := ((s1.trans e1).trans e2).free nr
    have nf0 : H f = none := (((s1.trans e1).trans e2).trans e3).free nf
    have am : (upd H1 m (.lst (B.mem.map nV))) m = some (.lst (B.mem.map nV)) := upd_same
    have as : (upd (upd H1 m (.lst (B.mem.map nV))) s (.lst [])) s = some (.lst []) := upd_same
    have ar : (upd (upd (upd H1 m (.lst (B.mem.map nV))) s (.lst [])) r (.lst [])) r = some (.lst []) := upd_same
    have ap : Apart m s r f := ⟨ne_of_none am ns, ne_of_none (e2 _ _ am) nr, ne_of_none (e3 _ _ (e2 _ _ am)) nf, ne_of_none as nr, ne_of_none (e3 _ _ as) nf, ne_of_none ar nf⟩
    have hd0 : Held (upd (upd (upd (upd H1 m (.lst (B.mem.map nV))) s (.lst [])) r (.lst [])) f (.lst [])) m s r f ⟨B.mem, [], [], []⟩ :=
      ⟨e4 _ _ (e3 _ _ (e2 _ _ am)), e4 _ _ (e3 _ _ as), ⟨[], e4 _ _ ar, .nil⟩, ⟨[], upd_same, .nil⟩⟩
    have sm0 : Same H1 (upd (upd (upd (upd H1 m (.lst (B.mem.map nV))) s (.lst [])) r (.lst [])) f (.lst [])) := ((e1.trans e2).trans e3).trans e4
    generalize upd (upd (upd (upd H1 m (.lst (B.mem.map nV))) s (.lst [])) r (.lst [])) f (.lst []) = H2 at hd0 sm0
    have many8 : ∀ o ∈ B.ords, o.many ≤ 8 := fun o ho => by
      obtain ⟨i, hi, rfl⟩ := List.mem_iff_getElem.mp ho
      exact (ok.ords i _ (List.getElem?_eq_getElem hi)).eight
    -- for deed in program
    refine ⟨_, rfl, p, rfl, .inr ⟨_, sqT_t (sm0 _ _ hp), ?_⟩⟩
    refine for_it (walk_tup (xs := ps)) (fun i σ H' => ∃ (y8 y9 y10 y11 y12 : Option V), σ = [some (.ref a), some (.ref mm), some (.ref o), some (.ref p), some (.ref m), some (.ref s), some (.ref r), some (.ref f), y8, y9, y10, y11, y12] ∧
        Held H' m s r f ((B.prog.take i).foldl (pstep B.ords) ⟨B.mem, [], [], []⟩) ∧ PInv ((B.prog.take i).foldl (pstep B.ords) ⟨B.mem, [], [], []⟩) i B.mem.length ∧ Same H1 H')
      ⟨_, _, _, _, _, rfl, hd0, ⟨rfl, ok.nums, Nat.zero_le _, Nat.zero_le _, Nat.zero_le _⟩, sm0⟩ (fun i σ H' _ hp' => by obtain ⟨_, _, _, _, _, _, _, _, sm⟩ := hp'; exact sqT_t (sm _ _ hp)) (fun i x σ H3 H4 hi hp' hy => ?_) (fun σ H3 hp' => ?_)
    · obtain ⟨y8, y9, y10, y11, y12, rfl, hh, pin, sm⟩ := hp'
      obtain ⟨rfl, hx⟩ := hy
      obtain ⟨dd, hdd, hpd⟩ := (hps.same sm).get' hx
      rw [List.getElem?_map] at hdd
      obtain ⟨d, hd, rfl⟩ : ∃ d, B.prog[i]? = some d ∧ d.d = dd := by simpa using hdd
      obtain ⟨da, rfl, hda⟩ := Deed.of hpd
      have dok := ok.prog d (List.mem_of_getElem? hd)
      have stp : (B.prog.take (i + 1)).foldl (pstep B.ords) ⟨B.mem, [], [], []⟩ = pstep B.ords ((B.prog.take i).foldl (pstep B.ords) ⟨B.mem, [], [], []⟩) d := by
        rw [List.take_add_one, hd, List.foldl_append]; rfl
      have pin' := pin.step many8 dok
      have hi60 : i < 60 := by have := (List.getElem?_eq_some_iff.mp hd).1; have := ok.sixty; omega
      have hfin : ∀ (H' : Hp) (y9 y10 y11 y12 : Option V), Held H' m s r f (pstep B.ords ((B.prog.take i).foldl (pstep B.ords) ⟨B.mem, [], [], []⟩) d) → Same H1 H' → ∃ (y8 z9 z10 z11 z12 : Option V), [some (.ref a), some (.ref mm), some (.ref o), some (.ref p), some (.ref m), some (.ref s), some (.ref r), some (.ref f), some (.ref da), y9, y10, y11, y12] =
          [some (.ref a), some (.ref mm), some (.ref o), some (.ref p), some (.ref m), some (.ref s), some (.ref r), some (.ref f), y8, z9, z10, z11, z12] ∧ Held H' m s r f ((B.prog.take (i + 1)).foldl (pstep B.ords) ⟨B.mem, [], [], []⟩) ∧ PInv ((B.prog.take (i + 1)).foldl (pstep B.ords) ⟨B.mem, [], [], []⟩) (i + 1) B.mem.length ∧ Same H1 H' := fun H' y9 y10 y11 y12 g e => by
        rw [stp]
        exact ⟨_, _, _, _, _, rfl, g, pin', e⟩
      clear stp pin'
      generalize (B.prog.take i).foldl (pstep B.ords) ⟨B.mem, [], [], []⟩ = st at *
      have hsq := hd_word (K := K) hda
      have nb : ∀ {c : Addr}, c = m ∨ c = s ∨ c = r ∨ c = f → H1 c = none := fun hc => by
        rcases hc with rfl | rfl | rfl | rfl
        · exact nm
        · exact e1.free ns
        · exact (e1.trans e2).free nr
        · exact ((e1.trans e2).trans e3).free nf
      obtain ⟨xr, hxr, hkr⟩ := hh.reads
      obtain ⟨xf, hxf, hkf⟩ := hh.fet
      have mlen := pin.len
      cases d with
      | set c n =>
        have hc : c < st.mem.length := by rw [mlen]; exact dok.1
        refine ⟨_, rfl, da, "set", [nV c, nV n], rfl, hsq, .inl ⟨rfl, rfl, ?_⟩⟩
        refine ⟨_, rfl, _, rfl, _, rfl, m, _, _, c, rfl, rfl, hh.mem, ixN_of rfl (by rw [List.length_map]; exact hc), ?_⟩
        have b : But [m] H4 (upd H4 m (.lst ((st.mem.map nV).set c (nV n)))) := But.set (by simp)
        exact hfin _ _ _ _ _ (hh.setMem ap b (by rw [upd_same, set_map rfl])) (But.new1 sm (nb (.inl rfl)) b)
      | add c o2 =>
        have hc : c < st.mem.length := by rw [mlen]; exact dok.1
        have ho2 : o2 < st.mem.length := by rw [mlen]; exact dok.2
        refine ⟨_, rfl, da, "add", [nV c, nV o2], rfl, hsq, .inr ⟨nw rfl, da, "add", [nV c, nV o2], rfl, hsq, .inl ⟨rfl, rfl, ?_⟩⟩⟩
        -- reads.append((cell, memory[cell]))
        refine ⟨_, rfl, .inl ⟨rfl, _, sqL_l hxr⟩, _, rfl, _, rfl, _, rfl, m, _, (c : Int), nV (st.mem.getD c 0), rfl, rfl, sqA_l hh.mem, atI_nat (nat_at hc), by show 2 ≤ sizeLine; decide, fun T nT => ?_⟩
        obtain ⟨xs1, g1, l1, hh1, b1⟩ := hh.noteRead ap (c := c) (n := st.mem.getD c 0) nT
        refine ⟨r, _, _, rfl, rfl, g1, fits (by have := pin.reads; omega), ?_⟩
        have sm1 := But.new1 sm (nb (.inr (.inr (.inl rfl)))) b1
        generalize upd (upd H4 T (.tup [nV c, nV (st.mem.getD c 0)])) r (.lst (xs1 ++ [.ref T])) = H5 at hh1 sm1
        obtain ⟨xr1, hxr1, _⟩ := hh1.reads
        -- reads.append((other, memory[other]))
        refine ⟨_, rfl, .inl ⟨rfl, _, sqL_l hxr1⟩, _, rfl, _, rfl, _, rfl, m, _, (o2 : Int), nV (st.mem.getD o2 0), rfl, rfl, sqA_l hh1.mem, atI_nat (nat_at ho2), by show 2 ≤ sizeLine; decide, fun T2 nT2 => ?_⟩
        obtain ⟨xs2, g2, l2, hh2, b2⟩ := hh1.noteRead ap (c := o2) (n := st.mem.getD o2 0) nT2
        refine ⟨r, _, _, rfl, rfl, g2, fits (by have := pin.reads; simp at l2; omega), ?_⟩
        have sm2 := But.new1 sm1 (nb (.inr (.inr (.inl rfl)))) b2
        generalize upd (upd H5 T2 (.tup [nV o2, nV (st.mem.getD o2 0)])) r (.lst (xs2 ++ [.ref T2])) = H6 at hh2 sm2
        -- memory[cell] = (memory[cell] + memory[other]) % NUMBERS
        refine ⟨_, rfl, _, rfl, m, _, (c : Int), nV (st.mem.getD c 0), rfl, rfl, sqA_l hh2.mem, atI_nat (nat_at hc), _, rfl, _, rfl, m, _, (o2 : Int), nV (st.mem.getD o2 0), rfl, rfl, sqA_l hh2.mem, atI_nat (nat_at ho2), _, _, rfl, rfl, _, _, rfl, rfl, (by show (0 : Int) < 10; decide), ?_⟩
        refine ⟨_, rfl, _, rfl, m, _, _, c, rfl, rfl, hh2.mem, ixN_of rfl (by rw [List.length_map]; exact hc), ?_⟩
        have b3 : But [m] H6 (upd H6 m (.lst ((st.mem.map nV).set c (.int (((st.mem.getD c 0 : Nat) + (st.mem.getD o2 0 : Nat) : Int) % 10))))) := But.set (by simp)
        exact hfin _ _ _ _ _ (hh2.setMem ap b3 (by rw [upd_same, set_map (n := (st.mem.getD c 0 + st.mem.getD o2 0) % 10) (congrArg V.int (by omega))])) (But.new1 sm2 (nb (.inl rfl)) b3)
      | say c =>
        have hc : c < st.mem.length := by rw [mlen]; exact dok
        refine ⟨_, rfl, da, "say", [nV c], rfl, hsq, .inr ⟨nw rfl, da, "say", [nV c], rfl, hsq, .inr ⟨nw rfl, da, "say", [nV c], rfl, hsq, .inl ⟨rfl, rfl, ?_⟩⟩⟩⟩
        refine ⟨_, rfl, .inl ⟨rfl, _, sqL_l hxr⟩, _, rfl, _, rfl, _, rfl, m, _, (c : Int), nV (st.mem.getD c 0), rfl, rfl, sqA_l hh.mem, atI_nat (nat_at hc), by show 2 ≤ sizeLine; decide, fun T nT => ?_⟩
        obtain ⟨xs1, g1, l1, hh1, b1⟩ := hh.noteRead ap (c := c) (n := st.mem.getD c 0) nT
        refine ⟨r, _, _, rfl, rfl, g1, fits (by have := pin.reads; omega), ?_⟩
        have sm1 := But.new1 sm (nb (.inr (.inr (.inl rfl)))) b1
        generalize upd (upd H4 T (.tup [nV c, nV (st.mem.getD c 0)])) r (.lst (xs1 ++ [.ref T])) = H5 at hh1 sm1
        refine ⟨_, rfl, .inl ⟨rfl, _, sqL_l hh1.said⟩, _, rfl, _, rfl, m, _, (c : Int), nV (st.mem.getD c 0), rfl, rfl, sqA_l hh1.mem, atI_nat (nat_at hc), ?_⟩
        refine ⟨s, _, _, rfl, rfl, hh1.said, by rw [List.length_map]; exact fits (show st.said.length ≤ 16000 by have := pin.said; omega), ?_⟩
        have b2 : But [s] H5 (upd H5 s (.lst (st.said.map nV ++ [nV (st.mem.getD c 0)]))) := But.set (by simp)
        exact hfin _ _ _ _ _ (hh1.setSaid ap (said := st.said ++ [st.mem.getD c 0]) b2 (by rw [upd_same, List.map_append]; rfl)) (But.new1 sm1 (nb (.inr (.inl rfl))) b2)
      | start k =>
        refine ⟨_, rfl, da, "start", [nV k], rfl, hsq, .inr ⟨nw rfl, da, "start", [nV k], rfl, hsq, .inr ⟨nw rfl, da, "start", [nV k], rfl, hsq, .inr ⟨nw rfl, da, "start", [nV k], rfl, hsq, .inl ⟨rfl, rfl, ?_⟩⟩⟩⟩⟩
        refine ⟨_, rfl, .inl ⟨rfl, _, sqL_l hxf⟩, _, rfl, _, rfl, _, rfl, m, o, st.mem, os, B.ords, k, rfl, hh.mem, sm _ _ ho, hos.same sm, ok.four, by rw [mlen]; exact ok.ords, dok, fun H5 p5 x5 b5 n5 e5 g5 k5 => ?_⟩
        have hh1 := hh.setMem ap b5 e5
        have sm1 := But.new1 sm (nb (.inl rfl)) b5
        obtain ⟨xf1, hxf1, hkf1⟩ := hh1.fet
        have hlen : xf1.length + x5.length ≤ 16000 := by
          obtain ⟨_, q2⟩ := mv_len (told B.ords k) (st.mem, [])
          have q3 := told_len many8 k
          rw [hkf1.len, k5.len, List.length_map, List.length_map, q2]
          have := pin.fet
          simp only [List.length_nil]; omega
        refine ⟨f, p5, _, _, rfl, rfl, hxf1, g5, fits' hlen, ?_⟩
        have b6 : But [f] H5 (upd H5 f (.lst (xf1 ++ x5))) := But.set (by simp)
        refine hfin _ _ _ _ _ (hh1.setFet ap (fet := st.fet ++ ((told B.ords k).foldl mvStep (st.mem, [])).2) b6 upd_same ?_) (But.new1 sm1 (nb (.inr (.inr (.inr rfl)))) b6)
        rw [List.map_append]
        exact (b6.pds1 hxf1 (noLs_map noL_rd _) hkf1).app (b6.pds1 hxf1 (noLs_map noL_rd _) k5)
      | wait =>
        refine ⟨_, rfl, da, "wait", [], rfl, hsq, .inr ⟨nw rfl, da, "wait", [], rfl, hsq, .inr ⟨nw rfl, da, "wait", [], rfl, hsq, .inr ⟨nw rfl, da, "wait", [], rfl, hsq, .inr ⟨nw rfl, ?_⟩⟩⟩⟩⟩
        exact hfin _ _ _ _ _ hh sm
      | clean l =>
        refine ⟨_, rfl, da, "clean", [nV l], rfl, hsq, .inr ⟨nw rfl, da, "clean", [nV l], rfl, hsq, .inr ⟨nw rfl, da, "clean", [nV l], rfl, hsq, .inr ⟨nw rfl, da, "clean", [nV l], rfl, hsq, .inr ⟨nw rfl, ?_⟩⟩⟩⟩⟩
        exact hfin _ _ _ _ _ hh sm
      | drop l =>
        refine ⟨_, rfl, da, "drop", [nV l], rfl, hsq, .inr ⟨nw rfl, da, "drop", [nV l], rfl, hsq, .inr ⟨nw rfl, da, "drop", [nV l], rfl, hsq, .inr ⟨nw rfl, da, "drop", [nV l], rfl, hsq, .inr ⟨nw rfl, ?_⟩⟩⟩⟩⟩
        exact hfin _ _ _ _ _ hh sm
    · obtain ⟨y8, y9, y10, y11, y12, rfl, hh, pin, sm⟩ := hp'
      have pl : ps.length = B.prog.length := by rw [hps.len, List.length_map]
      rw [pl, List.take_length] at hh
      refine ⟨_, rfl, _, rfl, _, rfl, _, rfl, by show 4 ≤ sizeLine; decide, fun t nt => ?_⟩
      exact q _ t m s r f (s1.trans (sm.trans (same_new nt))) nm0 ns0 nr0 nf0 ap upd_same (hh.same (same_new nt))
abbrev st_plain_end : Stmt := (topS 21)
abbrev nm_plain_end : List Str := ["board", "memory", "said", "reads", "fetches"]
theorem sc_plain_end : FnScope ["board", "memory", "said", "reads", "fetches"] ["board"] (defScope st_plain_end) := ⟨rfl, rfl, rfl, by decide +kernel, rfl, by decide +kernel, by decide +kernel⟩
def rdsD (xs : List (Nat × Nat)) : D := .lst (xs.map rdD)
def endD (st : Pst) : D := .tup [nsD st.said, nsD st.mem]
def sightsD (st : Pst) : D := .tup [rdsD st.reads, rdsD st.fet]
def spPlainEnd : Sp := fun vs H Q _ => ∃ (v : V) (B : Brd), vs = [v] ∧ Pd H v B.d ∧ BrdOk B ∧ ∀ (H' : Hp) (u : V), Same H H' → Pd H' u (endD (plain B)) → Q u H'
theorem ok_plain_end {f : Addr} {fd : FuncData} (F : Fun K "plain_end" "plain_end" st_plain_end f fd) (c_plain_run : Callee P w K mg base "plain_run" 4 1 spRun) (z_tuple : mg "tuple" = none) : FnOk P w K mg base CX0 5 f fd ["board"] spPlainEnd := by
  refine F.ok sc_plain_end (fun vs H Q E h => ?_) (fun cdv A outer s H vs Q E hr h => ?_)
  · obtain ⟨v, B, rfl, _⟩ := h
    rfl
  · obtain ⟨v, B, rfl, hB, ok, q⟩ := h
    refine ⟨_, (pss_cons (ps_asg (pe_cal c_plain_run hr (by first | decide | exact Nat.le_refl _) (pa_cons (pv 0) pa_nil)) (pg_tup rfl (pgs_cons (pg_name (i := 1) sc_plain_end.nd rfl (Or.inl rfl)) (pgs_cons (pg_name (i := 2) sc_plain_end.nd rfl (Or.inl rfl)) (pgs_cons (pg_name (i := 3) sc_plain_end.nd rfl (Or.inl rfl)) (pgs_cons (pg_name (i := 4) sc_plain_end.nd rfl (Or.inl rfl)) pgs_nil))))))
  (pss_one (ps_ret (pe_tup (pa_cons (pe_callTy call_tuple_of (by rfl) z_tuple (by decide +kernel) (pa_cons (pv 2) pa_nil)) (pa_cons (pe_callTy call_tuple_of (by rfl) z_tuple (by decide +kernel) (pa_cons (pv 1) pa_nil)) pa_nil)))))), ?_⟩
    refine ⟨_, rfl, v, B, rfl, hB, ok, fun H1 t m s r f s1 _ _ _ _ ap ht hh => ?_⟩
    refine ⟨t, _, rfl, sqT_t ht, rfl, _, _, rfl, _, _, rfl, _, _, rfl, _, _, rfl, rfl, ?_⟩
    refine ⟨_, rfl, s, _, rfl, .inl ⟨sqL_l hh.said, fun a na => ?_⟩⟩
    have e1 := same_new (o := .tup ((plain B).said.map nV)) na
    refine ⟨_, rfl, m, _, rfl, .inl ⟨sqL_l (e1 _ _ hh.mem), fun b nb => ?_⟩⟩
    have e2 := same_new (o := .tup ((plain B).mem.map nV)) nb
    refine ⟨by show 2 ≤ sizeLine; decide, fun c nc => ?_⟩
    have e3 := same_new (o := .tup [.ref a, .ref b]) nc
    refine q _ (.ref c) (((s1.trans e1).trans e2).trans e3) (.tup upd_same (.cons (.tup (e3 _ _ (e2 _ _ upd_same)) (pds_ns _)) (.cons (.tup (e3 _ _ upd_same) (pds_ns _)) .nil)))
abbrev st_sights : Stmt := (topS 22)
abbrev nm_sights : List Str := ["board", "memory", "said", "reads", "fetches"]
theorem sc_sights : FnScope ["board", "memory", "said", "reads", "fetches"] ["board"] (defScope st_sights) := ⟨rfl, rfl, rfl, by decide +kernel, rfl, by decide +kernel, by decide +kernel⟩
def spSights : Sp := fun vs H Q _ => ∃ (v : V) (B : Brd), vs = [v] ∧ Pd H v B.d ∧ BrdOk B ∧ ∀ (H' : Hp) (t r f : Addr) (xr xf : List V), Same H H' → H r = none → H f = none → r ≠ f → H' t = some (.tup [.ref r, .ref f]) → H' r = some (.lst xr) → H' f = some (.lst xf) → Pds H' xr ((plain B).reads.map rdD) → Pds H' xf ((plain B).fet.map rdD) → Q (.ref t) H'
theorem ok_sights {f : Addr} {fd : FuncData} (F : Fun K "sights" "sights" st_sights f fd) (c_plain_run : Callee P w K mg base "plain_run" 4 1 spRun) : FnOk P w K mg base CX0 5 f fd ["board"] spSights := by
  refine F.ok sc_sights (fun vs H Q E h => ?_) (fun cdv A outer s H vs Q E hr h => ?_)
  · obtain ⟨v, B, rfl, _⟩ := h
    rfl
  · obtain ⟨v, B, rfl, hB, ok, q⟩ := h
    refine ⟨_, (pss_cons (ps_asg (pe_cal c_plain_run hr (by first | decide | exact Nat.le_refl _) (pa_cons (pv 0) pa_nil)) (pg_tup rfl (pgs_cons (pg_name (i := 1) sc_sights.nd rfl (Or.inl rfl)) (pgs_cons (pg_name (i := 2) sc_sights.nd rfl (Or.inl rfl)) (pgs_cons (pg_name (i := 3) sc_sights.nd rfl (Or.inl rfl)) (pgs_cons (pg_name (i := 4) sc_sights.nd rfl (Or.inl rfl)) pgs_nil))))))
  (pss_one (ps_ret (pe_tup (pa_cons (pv 3) (pa_cons (pv 4) pa_nil)))))), ?_⟩
    refine ⟨_, rfl, v, B, rfl, hB, ok, fun H1 t m s r f s1 _ _ nr nf ap ht hh => ?_⟩
    obtain ⟨xr, hxr, hkr⟩ := hh.reads
    obtain ⟨xf, hxf, hkf⟩ := hh.fet
    refine ⟨t, _, rfl, sqT_t ht, rfl, _, _, rfl, _, _, rfl, _, _, rfl, _, _, rfl, rfl, ?_⟩
    refine ⟨_, rfl, _, rfl, by show 2 ≤ sizeLine; decide, fun c nc => ?_⟩
    have e1 := same_new (o := .tup [.ref r, .ref f]) nc
    exact q _ c r f xr xf (s1.trans e1) nr nf ap.rf upd_same (e1 _ _ hxr) (e1 _ _ hxf) (hkr.same e1) (hkf.same e1)
end
end Vt
namespace Vt
open PySem PySem.Spec PyProof.Rows L2
section
variable {P : Program} {w : World} {K : PySem.W.Frag} {mg : Str → Option Value} {base : Heap}
/-! ### the asker's moves -/
abbrev st_law_moves : Stmt := (topS 32)
abbrev nm_law_moves : List Str := ["_law_orders", "_law_number", "_law_found", "_law_source", "_law_goal", "_law_many", "_law_later", "_law_step"]
theorem sc_law_moves : FnScope ["_law_orders", "_law_number", "_law_found", "_law_source", "_law_goal", "_law_many", "_law_later", "_law_step"] ["_law_orders", "_law_number"] (defScope st_law_moves) := ⟨rfl, rfl, rfl, by decide +kernel, rfl, by decide +kernel, by decide +kernel⟩
theorem ok_lmoves {f : Addr} {fd : FuncData} (F : Fun K "_law_moves" "_law_moves" st_law_moves f fd) (z_range : mg "range" = none) (z_int : mg "int" = none) : FnOk P w K mg base CX0 1 f fd ["_law_orders", "_law_number"] spMoves := by
  refine F.ok sc_law_moves (fun vs H Q E h => ?_) (fun cdv A outer s H vs Q E hr h => ?_)
  · obtain ⟨a, os, ords, cells, k, rfl, _⟩ := h
    rfl
  · obtain ⟨a, os, ords, cells, k0, rfl, ha, hos, h4, hok, hk0, q⟩ := h
    refine ⟨_, (pss_cons (ps_set (i := 2) sc_law_moves.nd rfl (Or.inl rfl) (pe_lst pa_nil))
  (pss_cons (ps_while PassesOwn.never (pt_cmpR op_notN (pv 1) pe_non (nomark _))
  (pss_cons (ps_asg (pe_ix ix_lt (pv 0) (pv 1) (fun _ _ => rfl)) (pg_tup rfl (pgs_cons (pg_name (i := 3) sc_law_moves.nd rfl (Or.inl rfl)) (pgs_cons (pg_name (i := 4) sc_law_moves.nd rfl (Or.inl rfl)) (pgs_cons (pg_name (i := 5) sc_law_moves.nd rfl (Or.inl rfl)) (pgs_cons (pg_name (i := 6) sc_law_moves.nd rfl (Or.inl rfl)) pgs_nil))))))
  (pss_cons (ps_for PassesOwn.never rfl (pi_range1 (by rfl) z_range (pa_cons (pv 5) pa_nil)) (pg_name (i := 7) sc_law_moves.nd rfl (Or.inl rfl))
  (pss_one (ps_expr (pe_bm PySem.F.plainAttrs_list PySem.F.slot_list_append PySem.F.type_list_append mt_append (pv 2) (pa_cons (pe_tup (pa_cons (pe_op op_add (pv 3) (pv 7)) (pa_cons (pe_op op_add (pv 4) (pv 7)) (pa_cons (pe_ix ix_lt (pe_lst (pa_cons pe_non (pa_cons (pv 1) pa_nil))) (pe_callTy call_int1 (by rfl) z_int (by decide +kernel) (pa_cons (pe_cmpR op_eq (pe_op op_add (pv 7) pe_int) (pv 5) (nomark _)) pa_nil)) (fun _ _ => rfl)) pa_nil)))) pa_nil)))))
  (pss_one (ps_set (i := 1) sc_law_moves.nd rfl (Or.inl rfl) (pv 6))))))
  (pss_one (ps_ret (pv 2))))), ?_⟩
    refine ⟨Nat.zero_le _, fun p np => ?_⟩
    have olen : os.length = ords.length := by rw [hos.len, List.length_map]
    refine while_by (fun σ H' => ∃ (y4 y5 y6 y7 y8 : Option V) (at_ : Option Nat) (f : Nat) (done : List Mv) (xs : List V), σ = [some (.ref a), some (oV at_), some (.ref p), y4, y5, y6, y7, y8] ∧ H' p = some (.lst xs) ∧ Pds H' xs (done.map Mv.d) ∧
        done ++ chain ords f at_ = told ords k0 ∧ (∀ k, at_ = some k → k < ords.length ∧ ords.length ≤ k + f) ∧ Same H H') (fun σ _ => leftAt 1 ords.length σ)
      ⟨_, _, _, _, _, some k0, 4, [], [], rfl, upd_same, .nil, rfl, fun k e => by cases e; omega, same_new np⟩ (fun σ H1 hp => ?_) (fun σ H1 Q1 Q2 hq h => by obtain ⟨v, e, e2, k, e3, h⟩ := h; exact ⟨v, e, e2, k, e3, hq _ _ h⟩)
    obtain ⟨y4, y5, y6, y7, y8, at_, f, done, xs, rfl, hx, hpx, hd, hat, sm⟩ := hp
    refine ⟨_, rfl, rfl, _, rfl, ?_⟩
    cases at_ with
    | none =>
      refine iteF ⟨_, rfl, ?_⟩
      have : done = told ords k0 := by rw [← hd]; cases f <;> simp [chain]
      subst this
      exact q _ p xs sm np hx hpx
    | some k =>
      refine iteT ?_
      obtain ⟨hk, hf⟩ := hat k rfl
      obtain ⟨o, ho⟩ : ∃ o, ords[k]? = some o := ⟨ords[k], List.getElem?_eq_getElem hk⟩
      have oo := hok k o ho
      obtain ⟨v, hv, hpd⟩ := (hos.same sm).get (show (ords.map Ord.d)[k]? = some o.d by rw [List.getElem?_map, ho]; rfl)
      obtain ⟨oa, rfl, hoa⟩ := Ord.of hpd
      obtain ⟨f, rfl⟩ : ∃ f', f = f' + 1 := ⟨f - 1, by omega⟩
      have hch : chain ords (f + 1) (some k) = movesOf o k ++ chain ords f o.later := by rw [chain, ho]
      rw [hch] at hd
      have dlen : done.length + o.many ≤ 32 := by
        have h1 := told_len (ords := ords) (fun o ho => by
          obtain ⟨i, hi, rfl⟩ := List.mem_iff_getElem.mp ho
          exact (hok i _ (List.getElem?_eq_getElem hi)).eight) k0
        rw [← hd, List.length_append, List.length_append, movesOf_len] at h1
        omega
      refine ⟨_, rfl, _, rfl, a, os, (k : Int), .ref oa, rfl, rfl, sqA_t (sm _ _ ha), atI_nat hv, oa, _, rfl, sqT_t hoa, rfl, _, _, rfl, _, _, rfl, _, _, rfl, _, _, rfl, rfl, ?_⟩
      refine ⟨_, rfl, _, rfl, by have := oo.eight; omega, by have := oo.eight; omega, ?_⟩
      refine for_it (walk_range (lo := 0) (n := (o.many : Int).toNat)) (fun i σ H' => ∃ (y8 : Option V) (xs : List V), σ = [some (.ref a), some (nV k), some (.ref p), some (nV o.src), some (nV o.goal), some (nV o.many), some (oV o.later), y8] ∧ H' p = some (.lst xs) ∧
          Pds H' xs ((done ++ (movesOf o k).take i).map Mv.d) ∧ Same H H')
        ⟨_, xs, rfl, hx, by simpa using hpx, sm⟩ (fun _ _ _ _ _ => trivial) (fun i x σ H2 H3 hi hp hy => ?_) (fun σ H2 hp => ?_)
      · obtain ⟨z8, xs, rfl, hx, hpx, sm2⟩ := hp
        obtain ⟨rfl, rfl⟩ := hy
        have hi' : i < o.many := by simpa using hi
        refine ⟨_, rfl, .inl ⟨rfl, _, sqL_l hx⟩, _, rfl, _, rfl, _, _, rfl, rfl, _, rfl, _, rfl, _, _, rfl, rfl, _, rfl, by show 2 ≤ sizeLine; decide, fun L nL => ?_⟩
        have sL := same_new (o := .lst [.non, nV k]) nL
        have hL : (upd H3 L (.lst [.non, nV k])) L = some (.lst [.non, nV k]) := upd_same
        have hx1 := sL _ _ hx
        have hpx1 := hpx.same sL
        have sm3 := sm2.trans sL
        refine ⟨_, rfl, _, _, rfl, rfl, _, rfl, rfl, .inr ⟨_, rfl, ?_⟩⟩
        generalize upd H3 L (.lst [.non, nV k]) = H5 at hL hx1 hpx1 sm3
        have hv : ∃ (ix : Int), (if decide (V.int ((0 : Int) + (i : Int) + 1) = nV o.many) = true then (1 : Int) else 0) = ix ∧ atI [V.non, nV k] ix = some (oV (if i + 1 = o.many then some k else none)) := by
          refine ⟨_, rfl, ?_⟩
          by_cases e1 : i + 1 = o.many
          · have e2 : decide (V.int ((0 : Int) + (i : Int) + 1) = nV o.many) = true := decide_eq_true (congrArg V.int (by omega))
            rw [if_pos e1, if_pos e2]; rfl
          · rw [if_neg e1, if_neg (fun z => e1 (by
              have : (0 : Int) + (i : Int) + 1 = (o.many : Int) := by injection of_decide_eq_true z
              omega))]; rfl
        obtain ⟨ix, hix, hat'⟩ := hv
        refine ⟨L, _, ix, _, rfl, congrArg V.int hix, sqA_l hL, hat', by show 3 ≤ sizeLine; decide, fun T nT => ?_⟩
        have hmv : ∀ (H : Hp) (b : Addr), H b = some (.tup [.int ((o.src : Int) + (0 + (i : Int))), .int ((o.goal : Int) + (0 + (i : Int))), oV (if i + 1 = o.many then some k else none)]) → Pd H (.ref b) (mvAt o k i).d := fun H b h => by
          refine Mv.pd ?_
          rw [h]
          simp [Mv.vs, mvAt, nV]
        obtain ⟨g1, g2, g3⟩ := grow hx1 hpx1 (noLs_map noL_mv _) nT hmv
        have xlen : xs.length ≤ 100 := by
          rw [hpx.len, List.length_map, List.length_append, List.length_take]
          omega
        refine ⟨p, _, _, rfl, rfl, g1, fits (by omega), ?_⟩
        refine ⟨_, _, rfl, upd_same, ?_, But.new1 sm3 np g3⟩
        rw [movesOf_take hi', ← List.append_assoc, List.map_append]
        exact g2
      · obtain ⟨z8, xs, rfl, hx, hpx, sm2⟩ := hp
        have et : (movesOf o k).take (o.many : Int).toNat = movesOf o k := List.take_of_length_le (by rw [movesOf_len]; simp)
        rw [et] at hpx
        refine ⟨_, rfl, ⟨_, _, _, _, _, o.later, f, done ++ movesOf o k, xs, rfl, hx, hpx, by rw [List.append_assoc]; exact hd, fun k' e => ?_, sm2⟩, ?_⟩
        · have := oo.later k' e
          omega
        · show leftAt 1 ords.length [some (.ref a), some (oV o.later), some (.ref p), _, _, _, _, _] < leftAt 1 ords.length [some (.ref a), some (oV (some k)), some (.ref p), _, _, _, _, _]
          cases hl : o.later with
          | none => simp [leftAt, oV, nV]; omega
          | some k' =>
            have := oo.later k' hl
            simp [leftAt, oV, nV]; omega
end
end Vt
namespace Vt
open PySem PySem.Spec PyProof.Rows L2
/-! ### data that is alike -/
mutual
def D.sm : D → Bool
  | .lst ds => decide (ds.length ≤ 100000) && smAll ds
  | .tup ds => decide (ds.length ≤ 100000) && smAll ds
  | _ => true
def smAll : List D → Bool
  | [] => true
  | d :: ds => d.sm && smAll ds
end
theorem sm_get : ∀ {ds : List D} {i : Nat} {d : D}, smAll ds = true → ds[i]? = some d → d.sm = true
  | [], _, _, _, e => by simp at e
  | x :: r, 0, d, h, e => by
    simp only [List.getElem?_cons_zero, Option.some.injEq] at e
    rw [smAll, Bool.and_eq_true] at h
    subst e; exact h.1
  | x :: r, i + 1, d, h, e => by
    rw [smAll, Bool.and_eq_true] at h
    exact sm_get (ds := r) (i := i) h.2 (by simpa using e)
theorem sm_map {α : Type} {f : α → D} (h : ∀ x, (f x).sm = true) : ∀ xs : List α, smAll (xs.map f) = true
  | [] => by rw [List.map_nil, smAll]
  | x :: r => by rw [List.map_cons, smAll, h x, sm_map h r]; rfl
theorem sm_nD (n : Nat) : (nD n).sm = true := by simp [nD, D.sm]
section
variable {P : Program} {w : World} {K : PySem.W.Frag} {mg : Str → Option Value} {base : Heap}
abbrev st_law_alike : Stmt := (topS 28)
abbrev nm_law_alike : List Str := ["_law_found", "_law_due", "_law_k"]
theorem sc_law_alike : FnScope ["_law_found", "_law_due", "_law_k"] ["_law_found", "_law_due"] (defScope st_law_alike) := ⟨rfl, rfl, rfl, by decide +kernel, rfl, by decide +kernel, by decide +kernel⟩
def spAlike (n : Nat) : Sp := fun vs H Q _ => ∃ (u v : V) (d : D), vs = [u, v] ∧ Pd H u d ∧ Pd H v d ∧ d.dep < n ∧ d.sm = true ∧ Q (.bl true) H
/-- the alike of tuples or lists, from their lengths on -/
theorem alike_go {f : Addr} {fd : FuncData} (F : Fun K "_law_alike" "_law_alike" st_law_alike f fd) (n : Nat) (c_law_alike : Callee P w K mg base "_law_alike" n 2 (spAlike n)) (z_len : mg "len" = none) (z_range : mg "range" = none) (z_isinstance : mg "isinstance" = none)
    (z_bool : mg "bool" = none) (z_int : mg "int" = none) (z_str : mg "str" = none) (z_tuple : mg "tuple" = none) (z_list : mg "list" = none) : FnOk P w K mg base CX0 (n + 1) f fd ["_law_found", "_law_due"] (spAlike (n + 1)) := by
  refine F.ok sc_law_alike (fun vs H Q E h => ?_) (fun cdv A outer s H vs Q E hr h => ?_)
  · obtain ⟨u, v, d, rfl, _⟩ := h
    rfl
  · obtain ⟨u, v, d, rfl, hu, hv, hd, hs, q⟩ := h
    refine ⟨_, (pss_cons (ps_if (pt_cmpR op_isN (pv 1) pe_non (nomark _)) (pss_one (ps_ret (pe_cmpR op_isN (pv 0) pe_non (nomark _)))) pss_nil)
  (pss_cons (ps_if (pt_val (pe_callB call_isi (by rfl) z_isinstance (by decide +kernel) (pa_cons (pv 1) (pa_cons (pe_bltn (v := .ty "bool") rfl z_bool (by decide +kernel) rfl) pa_nil)))) (pss_one (ps_ret (pe_and (pe_callB call_isi (by rfl) z_isinstance (by decide +kernel) (pa_cons (pv 0) (pa_cons (pe_bltn (v := .ty "bool") rfl z_bool (by decide +kernel) rfl) pa_nil))) (pe_one (pe_cmpR op_eq (pv 0) (pv 1) (nomark _)))))) pss_nil)
  (pss_cons (ps_if (pt_val (pe_callB call_isi (by rfl) z_isinstance (by decide +kernel) (pa_cons (pv 1) (pa_cons (pe_bltn (v := .ty "int") rfl z_int (by decide +kernel) rfl) pa_nil)))) (pss_one (ps_ret (pe_and (pe_callB call_isi (by rfl) z_isinstance (by decide +kernel) (pa_cons (pv 0) (pa_cons (pe_bltn (v := .ty "int") rfl z_int (by decide +kernel) rfl) pa_nil))) (pe_and (pe_not (pe_callB call_isi (by rfl) z_isinstance (by decide +kernel) (pa_cons (pv 0) (pa_cons (pe_bltn (v := .ty "bool") rfl z_bool (by decide +kernel) rfl) pa_nil)))) (pe_one (pe_cmpR op_eq (pv 0) (pv 1) (nomark _))))))) pss_nil)
  (pss_cons (ps_if (pt_val (pe_callB call_isi (by rfl) z_isinstance (by decide +kernel) (pa_cons (pv 1) (pa_cons (pe_bltn (v := .ty "str") rfl z_str (by decide +kernel) rfl) pa_nil)))) (pss_one (ps_ret (pe_and (pe_callB call_isi (by rfl) z_isinstance (by decide +kernel) (pa_cons (pv 0) (pa_cons (pe_bltn (v := .ty "str") rfl z_str (by decide +kernel) rfl) pa_nil))) (pe_one (pe_cmpR op_eq (pv 0) (pv 1) (nomark _)))))) pss_nil)
  (pss_cons (ps_if (PW.pt (pw_or (pt_cmpR op_ne (pe_callB call_isi (by rfl) z_isinstance (by decide +kernel) (pa_cons (pv 1) (pa_cons (pe_bltn (v := .ty "tuple") rfl z_tuple (by decide +kernel) rfl) pa_nil))) (pe_callB call_isi (by rfl) z_isinstance (by decide +kernel) (pa_cons (pv 0) (pa_cons (pe_bltn (v := .ty "tuple") rfl z_tuple (by decide +kernel) rfl) pa_nil))) (nomark _)) (pw_or1 (pt_cmpR op_ne (pe_callB call_isi (by rfl) z_isinstance (by decide +kernel) (pa_cons (pv 1) (pa_cons (pe_bltn (v := .ty "list") rfl z_list (by decide +kernel) rfl) pa_nil))) (pe_callB call_isi (by rfl) z_isinstance (by decide +kernel) (pa_cons (pv 0) (pa_cons (pe_bltn (v := .ty "list") rfl z_list (by decide +kernel) rfl) pa_nil))) (nomark _))))) (pss_one (ps_ret pe_bl)) pss_nil)
  (pss_cons (ps_if (pt_cmpR op_ne (pe_callB call_len_seq (by rfl) z_len (by decide +kernel) (pa_cons (pv 0) pa_nil)) (pe_callB call_len_seq (by rfl) z_len (by decide +kernel) (pa_cons (pv 1) pa_nil)) (nomark _)) (pss_one (ps_ret pe_bl)) pss_nil)
  (pss_cons (ps_for PassesOwn.never rfl (pi_range1 (by rfl) z_range (pa_cons (pe_callB call_len_seq (by rfl) z_len (by decide +kernel) (pa_cons (pv 1) pa_nil)) pa_nil)) (pg_name (i := 2) sc_law_alike.nd rfl (Or.inl rfl))
  (pss_one (ps_if (pt_not (pt_val (pe_cal c_law_alike hr (by first | decide | exact Nat.le_refl _) (pa_cons (pe_ix ix_lt (pv 0) (pv 2) (fun _ _ => rfl)) (pa_cons (pe_ix ix_lt (pv 1) (pv 2) (fun _ _ => rfl)) pa_nil))))) (pss_one (ps_ret pe_bl)) pss_nil)))
  (pss_one (ps_ret pe_bl))))))))), ?_⟩
    cases d with
    | non =>
      cases hu; cases hv
      exact ⟨_, rfl, rfl, _, rfl, iteT ⟨_, rfl, rfl, q⟩⟩
    | bl b =>
      cases hu; cases hv
      refine ⟨_, rfl, rfl, _, rfl, iteF ?_⟩
      refine ⟨_, rfl, _, _, .type "bool", _, true, rfl, .ty _, .base (.bl b), kit_ty (by decide +kernel), _, rfl, iteT ?_⟩
      refine ⟨_, rfl, _, _, .type "bool", _, true, rfl, .ty _, .base (.bl b), kit_ty (by decide +kernel), _, rfl, iteT ?_⟩
      refine ⟨_, rfl, _, rfl, rfl, ?_⟩
      rw [decide_eq_true rfl]; exact q
    | int i =>
      cases hu; cases hv
      refine ⟨_, rfl, rfl, _, rfl, iteF ?_⟩
      refine ⟨_, rfl, _, _, .type "int", _, false, rfl, .ty _, .base (.int i), kit_ty (by decide +kernel), _, rfl, iteF ?_⟩
      refine ⟨_, rfl, _, _, .type "int", _, true, rfl, .ty _, .base (.int i), kit_ty (by decide +kernel), _, rfl, iteT ?_⟩
      refine ⟨_, rfl, _, _, .type "int", _, true, rfl, .ty _, .base (.int i), kit_ty (by decide +kernel), _, rfl, iteT ?_⟩
      refine ⟨_, rfl, _, _, .type "int", _, false, rfl, .ty _, .base (.int i), kit_ty (by decide +kernel), _, rfl, _, rfl, iteT ?_⟩
      refine ⟨_, rfl, _, rfl, rfl, ?_⟩
      rw [decide_eq_true rfl]; exact q
    | str x =>
      cases hu; cases hv
      refine ⟨_, rfl, rfl, _, rfl, iteF ?_⟩
      refine ⟨_, rfl, _, _, .type "str", _, false, rfl, .ty _, .base (.str x), kit_ty (by decide +kernel), _, rfl, iteF ?_⟩
      refine ⟨_, rfl, _, _, .type "str", _, false, rfl, .ty _, .base (.str x), kit_ty (by decide +kernel), _, rfl, iteF ?_⟩
      refine ⟨_, rfl, _, _, .type "str", _, true, rfl, .ty _, .base (.str x), kit_ty (by decide +kernel), _, rfl, iteT ?_⟩
      refine ⟨_, rfl, _, _, .type "str", _, true, rfl, .ty _, .base (.str x), kit_ty (by decide +kernel), _, rfl, iteT ?_⟩
      refine ⟨_, rfl, _, rfl, rfl, ?_⟩
      rw [decide_eq_true rfl]; exact q
    | tup ds =>
      simp only [D.sm, Bool.and_eq_true, decide_eq_true_eq] at hs
      rw [D.dep] at hd
      cases hu with
      | tup ha hxs =>
        cases hv with
        | tup hb hys =>
          rename_i a xs b ys
          refine ⟨_, rfl, rfl, _, rfl, iteF ?_⟩
          refine ⟨_, rfl, _, _, .type "tuple", _, false, rfl, .ty _, .base (.tup hb), kit_ty (by decide +kernel), _, rfl, iteF ?_⟩
          refine ⟨_, rfl, _, _, .type "tuple", _, false, rfl, .ty _, .base (.tup hb), kit_ty (by decide +kernel), _, rfl, iteF ?_⟩
          refine ⟨_, rfl, _, _, .type "tuple", _, false, rfl, .ty _, .base (.tup hb), kit_ty (by decide +kernel), _, rfl, iteF ?_⟩
          refine ⟨_, rfl, _, _, .type "tuple", _, true, rfl, .ty _, .base (.tup hb), kit_ty (by decide +kernel), _, rfl, _, _, .type "tuple", _, true, rfl, .ty _, .base (.tup ha), kit_ty (by decide +kernel), rfl, _, rfl, iteF ?_⟩
          refine ⟨_, rfl, _, _, .type "tuple", _, false, rfl, .ty _, .base (.tup hb), kit_ty (by decide +kernel), _, rfl, _, _, .type "tuple", _, false, rfl, .ty _, .base (.tup ha), kit_ty (by decide +kernel), rfl, _, rfl, iteF ?_⟩
          refine ⟨_, rfl, a, _, rfl, .inr (sqT_t ha), _, rfl, b, _, rfl, .inr (sqT_t hb), rfl, _, rfl, ite2 (fun e => ?_) (fun _ => ?_)⟩
          · rw [hxs.len, hys.len] at e
            simp at e
          · refine ⟨_, rfl, b, _, rfl, .inr (sqT_t hb), _, rfl, by omega, by have := hys.len; omega, ?_⟩
            refine for_it (walk_range (lo := 0) (n := (ys.length : Int).toNat)) (fun i σ H' => ∃ y, σ = [some (.ref a), some (.ref b), y] ∧ H' = H) ⟨_, rfl, rfl⟩ (fun _ _ _ _ _ => trivial) (fun i x σ H1 H2 hi hp hy => ?_) (fun σ H1 hp => ?_)
            · obtain ⟨y, rfl, rfl⟩ := hp
              obtain ⟨rfl, rfl⟩ := hy
              have hi' : i < ys.length := by simpa using hi
              obtain ⟨d, hd1, py⟩ := hys.get' (List.getElem?_eq_getElem hi')
              obtain ⟨x, hx, px⟩ := hxs.get hd1
              have e0 : ((0 : Int) + (i : Int)) = (i : Nat) := by omega
              refine ⟨_, rfl, _, rfl, a, xs, (0 + (i : Int)), x, rfl, rfl, sqA_t ha, by rw [e0]; exact atI_nat hx, _, rfl, _, rfl, b, ys, (0 + (i : Int)), _, rfl, rfl, sqA_t hb, by rw [e0]; exact atI_nat (List.getElem?_eq_getElem hi'), ?_⟩
              refine ⟨_, _, d, rfl, px, py, by have := deps_get hd1; omega, sm_get hs.2 hd1, _, rfl, iteF ?_⟩
              exact ⟨_, rfl, rfl⟩
            · obtain ⟨y, rfl, rfl⟩ := hp
              exact q
    | lst ds =>
      simp only [D.sm, Bool.and_eq_true, decide_eq_true_eq] at hs
      rw [D.dep] at hd
      cases hu with
      | lst ha hxs =>
        cases hv with
        | lst hb hys =>
          rename_i a xs b ys
          refine ⟨_, rfl, rfl, _, rfl, iteF ?_⟩
          refine ⟨_, rfl, _, _, .type "list", _, false, rfl, .ty _, .base (.lst hb), kit_ty (by decide +kernel), _, rfl, iteF ?_⟩
          refine ⟨_, rfl, _, _, .type "list", _, false, rfl, .ty _, .base (.lst hb), kit_ty (by decide +kernel), _, rfl, iteF ?_⟩
          refine ⟨_, rfl, _, _, .type "list", _, false, rfl, .ty _, .base (.lst hb), kit_ty (by decide +kernel), _, rfl, iteF ?_⟩
          refine ⟨_, rfl, _, _, .type "list", _, false, rfl, .ty _, .base (.lst hb), kit_ty (by decide +kernel), _, rfl, _, _, .type "list", _, false, rfl, .ty _, .base (.lst ha), kit_ty (by decide +kernel), rfl, _, rfl, iteF ?_⟩
          refine ⟨_, rfl, _, _, .type "list", _, true, rfl, .ty _, .base (.lst hb), kit_ty (by decide +kernel), _, rfl, _, _, .type "list", _, true, rfl, .ty _, .base (.lst ha), kit_ty (by decide +kernel), rfl, _, rfl, iteF ?_⟩
          refine ⟨_, rfl, a, _, rfl, .inl (sqL_l ha), _, rfl, b, _, rfl, .inl (sqL_l hb), rfl, _, rfl, ite2 (fun e => ?_) (fun _ => ?_)⟩
          · rw [hxs.len, hys.len] at e
            simp at e
          · refine ⟨_, rfl, b, _, rfl, .inl (sqL_l hb), _, rfl, by omega, by have := hys.len; omega, ?_⟩
            refine for_it (walk_range (lo := 0) (n := (ys.length : Int).toNat)) (fun i σ H' => ∃ y, σ = [some (.ref a), some (.ref b), y] ∧ H' = H) ⟨_, rfl, rfl⟩ (fun _ _ _ _ _ => trivial) (fun i x σ H1 H2 hi hp hy => ?_) (fun σ H1 hp => ?_)
            · obtain ⟨y, rfl, rfl⟩ := hp
              obtain ⟨rfl, rfl⟩ := hy
              have hi' : i < ys.length := by simpa using hi
              obtain ⟨d, hd1, py⟩ := hys.get' (List.getElem?_eq_getElem hi')
              obtain ⟨x, hx, px⟩ := hxs.get hd1
              have e0 : ((0 : Int) + (i : Int)) = (i : Nat) := by omega
              refine ⟨_, rfl, _, rfl, a, xs, (0 + (i : Int)), x, rfl, rfl, sqA_l ha, by rw [e0]; exact atI_nat hx, _, rfl, _, rfl, b, ys, (0 + (i : Int)), _, rfl, rfl, sqA_l hb, by rw [e0]; exact atI_nat (List.getElem?_eq_getElem hi'), ?_⟩
              refine ⟨_, _, d, rfl, px, py, by have := deps_get hd1; omega, sm_get hs.2 hd1, _, rfl, iteF ?_⟩
              exact ⟨_, rfl, rfl⟩
            · obtain ⟨y, rfl, rfl⟩ := hp
              exact q
end
end Vt
namespace Vt
open PySem PySem.Spec PyProof.Rows L2
def kindWords : List Str := ["set", "set", "add", "say", "say", "start", "start", "wait", "clean", "drop"]
section
variable {P : Program} {w : World} {K : PySem.W.Frag} {mg : Str → Option Value} {base : Heap}
abbrev st_law_kinds : Stmt := (topS 34)
abbrev nm_law_kinds : List Str := []
theorem sc_law_kinds : FnScope [] [] (defScope st_law_kinds) := ⟨rfl, rfl, rfl, by decide +kernel, rfl, by decide +kernel, by decide +kernel⟩
def spKinds (ws : List Str) : Sp := fun vs H Q _ => vs = [] ∧ ∀ (H' : Hp) (p : Addr), Same H H' → H p = none → H' p = some (.lst (ws.map V.str)) → Q (.ref p) H'
theorem ok_kinds {f : Addr} {fd : FuncData} (F : Fun K "_law_kinds" "_law_kinds" st_law_kinds f fd) : FnOk P w K mg base CX0 1 f fd [] (spKinds kindWords) := by
  refine F.ok sc_law_kinds (fun vs H Q E h => ?_) (fun cdv A outer s H vs Q E hr h => ?_)
  · obtain ⟨rfl, _⟩ := h
    rfl
  · obtain ⟨rfl, q⟩ := h
    refine ⟨_, (pss_one (ps_ret (pe_lst (pa_cons pe_str (pa_cons pe_str (pa_cons pe_str (pa_cons pe_str (pa_cons pe_str (pa_cons pe_str (pa_cons pe_str (pa_cons pe_str (pa_cons pe_str (pa_cons pe_str pa_nil))))))))))))), ?_⟩
    exact ⟨by show 10 ≤ sizeLine; decide, fun p np => q _ p (same_new np) np upd_same⟩
end
end Vt
namespace Vt
open PySem PySem.Spec PyProof.Rows L2
theorem mv_pre : ∀ (ms : List Mv) (mem : List Nat) (fet : List (Nat × Nat)), ms.foldl mvStep (mem, fet) = ((ms.foldl mvStep (mem, [])).1, fet ++ (ms.foldl mvStep (mem, [])).2)
  | [], mem, fet => by simp
  | m :: r, mem, fet => by
    rw [List.foldl_cons, List.foldl_cons]
    simp only [mvStep, List.nil_append]
    rw [mv_pre r _ (fet ++ [(m.src, mem.getD m.src 0)]), mv_pre r _ [(m.src, mem.getD m.src 0)]]
    simp
section
variable {P : Program} {w : World} {K : PySem.W.Frag} {mg : Str → Option Value} {base : Heap}
abbrev st_law_plain : Stmt := (topS 33)
abbrev nm_law_plain : List Str := ["_law_board_here", "_law_memory", "_law_told", "_law_deed_here", "_law_source", "_law_goal", "_law_bell"]
theorem sc_law_plain : FnScope ["_law_board_here", "_law_memory", "_law_told", "_law_deed_here", "_law_source", "_law_goal", "_law_bell"] ["_law_board_here"] (defScope st_law_plain) := ⟨rfl, rfl, rfl, by decide +kernel, rfl, by decide +kernel, by decide +kernel⟩
def spLPlain : Sp := fun vs H Q _ => ∃ (v : V) (B : Brd), vs = [v] ∧ Pd H v B.d ∧ BrdOk B ∧ ∀ (H' : Hp) (t m s r f : Addr), Same H H' → Apart m s r f → H m = none → H s = none → H r = none → H f = none → H' t = some (.tup [.ref s, .ref m, .ref r, .ref f]) → Held H' m s r f (plain B) → Q (.ref t) H'
theorem ok_lplain {f : Addr} {fd : FuncData} (F : Fun K "_law_plain" "_law_plain" st_law_plain f fd) (c_law_moves : Callee P w K mg base "_law_moves" 1 2 spMoves) (z_list : mg "list" = none) : FnOk P w K mg base CX0 2 f fd ["_law_board_here"] spLPlain := by
  refine F.ok sc_law_plain (fun vs H Q E h => ?_) (fun cdv A outer s H vs Q E hr h => ?_)
  · obtain ⟨v, B, rfl, _⟩ := h
    rfl
  · obtain ⟨v, B, rfl, hB, ok, q⟩ := h
    obtain ⟨a, mm, o, p, os, ps, rfl, ha, hm, ho, hos, hp, hps⟩ := Brd.of hB
    refine ⟨_, (pss_cons (ps_set (i := 1) sc_law_plain.nd rfl (Or.inl rfl) (pe_callTy call_list_of (by rfl) z_list (by decide +kernel) (pa_cons (pe_ix ix_lt (pv 0) pe_int (fun _ _ => rfl)) pa_nil)))
  (pss_cons (ps_set (i := 2) sc_law_plain.nd rfl (Or.inl rfl) (pe_tup (pa_cons (pe_lst pa_nil) (pa_cons (pv 1) (pa_cons (pe_lst pa_nil) (pa_cons (pe_lst pa_nil) pa_nil))))))
  (pss_cons (ps_for PassesOwn.never rfl (pi_lt (pe_ix ix_lt (pv 0) pe_int (fun _ _ => rfl))) (pg_name (i := 3) sc_law_plain.nd rfl (Or.inl rfl))
  (pss_cons (ps_if (pt_cmpR op_eq (pe_ix ix_lt (pv 3) pe_int (fun _ _ => rfl)) pe_str (nomark _)) (pss_one (ps_asg (pe_ix ix_lt (pv 3) pe_int (fun _ _ => rfl)) (pg_sub (pv 1) (pe_ix ix_lt (pv 3) pe_int (fun _ _ => rfl)) set_list))) pss_nil)
  (pss_cons (ps_if (pt_cmpR op_in_seq (pe_ix ix_lt (pv 3) pe_int (fun _ _ => rfl)) (pe_tup (pa_cons pe_str (pa_cons pe_str pa_nil))) (by rfl)) (pss_one (ps_expr (pe_bm PySem.F.plainAttrs_list PySem.F.slot_list_append PySem.F.type_list_append mt_append (pe_ix ix_lt (pv 2) pe_int (fun _ _ => rfl)) (pa_cons (pe_tup (pa_cons (pe_ix ix_lt (pv 3) pe_int (fun _ _ => rfl)) (pa_cons (pe_ix ix_lt (pv 1) (pe_ix ix_lt (pv 3) pe_int (fun _ _ => rfl)) (fun _ _ => rfl)) pa_nil))) pa_nil)))) pss_nil)
  (pss_cons (ps_if (pt_cmpR op_eq (pe_ix ix_lt (pv 3) pe_int (fun _ _ => rfl)) pe_str (nomark _)) (pss_one (ps_expr (pe_bm PySem.F.plainAttrs_list PySem.F.slot_list_append PySem.F.type_list_append mt_append (pe_ix ix_lt (pv 2) pe_int (fun _ _ => rfl)) (pa_cons (pe_ix ix_lt (pv 1) (pe_ix ix_lt (pv 3) pe_int (fun _ _ => rfl)) (fun _ _ => rfl)) pa_nil)))) pss_nil)
  (pss_cons (ps_if (pt_cmpR op_eq (pe_ix ix_lt (pv 3) pe_int (fun _ _ => rfl)) pe_str (nomark _)) (pss_cons (ps_expr (pe_bm PySem.F.plainAttrs_list PySem.F.slot_list_append PySem.F.type_list_append mt_append (pe_ix ix_lt (pv 2) pe_int (fun _ _ => rfl)) (pa_cons (pe_tup (pa_cons (pe_ix ix_lt (pv 3) pe_int (fun _ _ => rfl)) (pa_cons (pe_ix ix_lt (pv 1) (pe_ix ix_lt (pv 3) pe_int (fun _ _ => rfl)) (fun _ _ => rfl)) pa_nil))) pa_nil)))
  (pss_one (ps_asg (pe_op op_mod (pe_op op_add (pe_ix ix_lt (pv 1) (pe_ix ix_lt (pv 3) pe_int (fun _ _ => rfl)) (fun _ _ => rfl)) (pe_ix ix_lt (pv 1) (pe_ix ix_lt (pv 3) pe_int (fun _ _ => rfl)) (fun _ _ => rfl))) pe_int) (pg_sub (pv 1) (pe_ix ix_lt (pv 3) pe_int (fun _ _ => rfl)) set_list)))) pss_nil)
  (pss_one (ps_if (pt_cmpR op_eq (pe_ix ix_lt (pv 3) pe_int (fun _ _ => rfl)) pe_str (nomark _)) (pss_one (ps_for PassesOwn.never rfl (pi_lt (pe_cal c_law_moves hr (by first | decide | exact Nat.le_refl _) (pa_cons (pe_ix ix_lt (pv 0) pe_int (fun _ _ => rfl)) (pa_cons (pe_ix ix_lt (pv 3) pe_int (fun _ _ => rfl)) pa_nil)))) (pg_tup rfl (pgs_cons (pg_name (i := 4) sc_law_plain.nd rfl (Or.inl rfl)) (pgs_cons (pg_name (i := 5) sc_law_plain.nd rfl (Or.inl rfl)) (pgs_cons (pg_name (i := 6) sc_law_plain.nd rfl (Or.inl rfl)) pgs_nil))))
  (pss_cons (ps_expr (pe_bm PySem.F.plainAttrs_list PySem.F.slot_list_append PySem.F.type_list_append mt_append (pe_ix ix_lt (pv 2) pe_int (fun _ _ => rfl)) (pa_cons (pe_tup (pa_cons (pv 4) (pa_cons (pe_ix ix_lt (pv 1) (pv 4) (fun _ _ => rfl)) pa_nil))) pa_nil)))
  (pss_one (ps_asg (pe_ix ix_lt (pv 1) (pv 4) (fun _ _ => rfl)) (pg_sub (pv 1) (pv 5) set_list)))))) pss_nil)))))))
  (pss_one (ps_ret (pv 2)))))), ?_⟩
    refine ⟨_, rfl, a, _, 0, .ref mm, rfl, rfl, sqA_t ha, rfl, mm, _, rfl, .inr (sqT_t hm), fun m nm => ?_⟩
    refine ⟨Nat.zero_le _, fun s ns => ⟨_, rfl, Nat.zero_le _, fun r nr => ⟨Nat.zero_le _, fun f nf => ⟨by show 4 ≤ sizeLine; decide, fun t nt => ?_⟩⟩⟩⟩
    have e1 := same_new (o := .lst (B.mem.map nV)) nm
    have e2 := same_new (o := .lst []) ns
    have e3 := same_new (o := .lst []) nr
    have e4 := same_new (o := .lst []) nf
    have e5 := same_new (o := .tup [.ref s, .ref m, .ref r, .ref f]) nt
    have ns0 : H s = none := e1.free ns
    have nr0 : H r = none := (e1.trans e2).free nr
    have nf0 : H f = none := ((e1.trans e2).trans e3).free nf
    have am : (upd H m (.lst (B.mem.map nV))) m = some (.lst (B.mem.map nV)) := upd_same
    have as : (upd (upd H m (.lst (B.mem.map nV))) s (.lst [])) s = some (.lst []) := upd_same
    have ar : (upd (upd (upd H m (.lst (B.mem.map nV))) s (.lst [])) r (.lst [])) r = some (.lst []) := upd_same
    have ap : Apart m s r f := ⟨ne_of_none am ns, ne_of_none (e2 _ _ am) nr, ne_of_none (e3 _ _ (e2 _ _ am)) nf, ne_of_none as nr, ne_of_none (e3 _ _ as) nf, ne_of_none ar nf⟩
    have hd0 : Held (upd (upd (upd (upd H m (.lst (B.mem.map nV))) s (.lst [])) r (.lst [])) f (.lst [])) m s r f ⟨B.mem, [], [], []⟩ :=
      ⟨e4 _ _ (e3 _ _ (e2 _ _ am)), e4 _ _ (e3 _ _ as), ⟨[], e4 _ _ ar, .nil⟩, ⟨[], upd_same, .nil⟩⟩
    have sm0 : Same H (upd (upd (upd (upd H m (.lst (B.mem.map nV))) s (.lst [])) r (.lst [])) f (.lst [])) := ((e1.trans e2).trans e3).trans e4
    have hd1 := hd0.same e5
    have sm1 := sm0.trans e5
    have ht1 : (upd (upd (upd (upd (upd H m (.lst (B.mem.map nV))) s (.lst [])) r (.lst [])) f (.lst [])) t (.tup [.ref s, .ref m, .ref r, .ref f])) t = some (.tup [.ref s, .ref m, .ref r, .ref f]) := upd_same
    generalize upd (upd (upd (upd (upd H m (.lst (B.mem.map nV))) s (.lst [])) r (.lst [])) f (.lst [])) t (.tup [.ref s, .ref m, .ref r, .ref f]) = H2 at hd1 sm1 ht1
    have many8 : ∀ o ∈ B.ords, o.many ≤ 8 := fun o ho => by
      obtain ⟨i, hi, rfl⟩ := List.mem_iff_getElem.mp ho
      exact (ok.ords i _ (List.getElem?_eq_getElem hi)).eight
    refine ⟨_, rfl, a, _, 2, .ref p, rfl, rfl, sqA_t (sm1 _ _ ha), rfl, p, rfl, .inr ⟨_, sqT_t (sm1 _ _ hp), ?_⟩⟩
    refine for_it (walk_tup (xs := ps)) (fun i σ H' => ∃ (y3 y4 y5 y6 : Option V), σ = [some (.ref a), some (.ref m), some (.ref t), y3, y4, y5, y6] ∧
        Held H' m s r f ((B.prog.take i).foldl (pstep B.ords) ⟨B.mem, [], [], []⟩) ∧ PInv ((B.prog.take i).foldl (pstep B.ords) ⟨B.mem, [], [], []⟩) i B.mem.length ∧ H' t = some (.tup [.ref s, .ref m, .ref r, .ref f]) ∧ Same H H')
      ⟨_, _, _, _, rfl, hd1, ⟨rfl, ok.nums, Nat.zero_le _, Nat.zero_le _, Nat.zero_le _⟩, ht1, sm1⟩ (fun i σ H' _ hp' => by obtain ⟨_, _, _, _, _, _, _, _, sm⟩ := hp'; exact sqT_t (sm _ _ hp)) (fun i x σ H3 H4 hi hp' hy => ?_) (fun σ H3 hp' => ?_)
    · obtain ⟨y3, y4, y5, y6, rfl, hh, pin, ht, sm⟩ := hp'
      obtain ⟨rfl, hx⟩ := hy
      obtain ⟨dd, hdd, hpd⟩ := (hps.same sm).get' hx
      rw [List.getElem?_map] at hdd
      obtain ⟨d, hd, rfl⟩ : ∃ d, B.prog[i]? = some d ∧ d.d = dd := by simpa using hdd
      obtain ⟨da, rfl, hda⟩ := Deed.of hpd
      have dok := ok.prog d (List.mem_of_getElem? hd)
      have stp : (B.prog.take (i + 1)).foldl (pstep B.ords) ⟨B.mem, [], [], []⟩ = pstep B.ords ((B.prog.take i).foldl (pstep B.ords) ⟨B.mem, [], [], []⟩) d := by
        rw [List.take_add_one, hd, List.foldl_append]; rfl
      have pin' := pin.step many8 dok
      have hi60 : i < 60 := by have := (List.getElem?_eq_some_iff.mp hd).1; have := ok.sixty; omega
      have hfin : ∀ (H' : Hp) (y4 y5 y6 : Option V), Held H' m s r f (pstep B.ords ((B.prog.take i).foldl (pstep B.ords) ⟨B.mem, [], [], []⟩) d) → H' t = some (.tup [.ref s, .ref m, .ref r, .ref f]) → Same H H' → ∃ (y3 z4 z5 z6 : Option V), [some (.ref a), some (.ref m), some (.ref t), some (.ref da), y4, y5, y6] =
          [some (.ref a), some (.ref m), some (.ref t), y3, z4, z5, z6] ∧ Held H' m s r f ((B.prog.take (i + 1)).foldl (pstep B.ords) ⟨B.mem, [], [], []⟩) ∧ PInv ((B.prog.take (i + 1)).foldl (pstep B.ords) ⟨B.mem, [], [], []⟩) (i + 1) B.mem.length ∧ H' t = some (.tup [.ref s, .ref m, .ref r, .ref f]) ∧ Same H H' := fun H' y4 y5 y6 g g2 e => by
        rw [stp]
        exact ⟨_, _, _, _, rfl, g, pin', g2, e⟩
      clear stp pin'
      generalize (B.prog.take i).foldl (pstep B.ords) ⟨B.mem, [], [], []⟩ = st at *
      have mlen := pin.len
      -- the heap goes on: what stood of tuples stands
      have nb : ∀ {c : Addr}, c = m ∨ c = s ∨ c = r ∨ c = f → H c = none := fun hc => by
        rcases hc with rfl | rfl | rfl | rfl
        · exact nm
        · exact ns0
        · exact nr0
        · exact nf0
      have lsts : ∀ {H' : Hp} {st' : Pst} {c : Addr}, Held H' m s r f st' → (c = m ∨ c = s ∨ c = r ∨ c = f) → Lsts H' [c] := fun hh hc b hb => by
        rw [List.mem_singleton.mp hb]
        rcases hc with rfl | rfl | rfl | rfl
        · exact ⟨_, hh.mem⟩
        · exact ⟨_, hh.said⟩
        · obtain ⟨xs, e, _⟩ := hh.reads; exact ⟨_, e⟩
        · obtain ⟨xs, e, _⟩ := hh.fet; exact ⟨_, e⟩
      cases d with
      | set c n =>
        have hc : c < st.mem.length := by rw [mlen]; exact dok.1
        refine rd_word rfl hda (iteT ?_)
        refine ⟨_, rfl, da, _, 2, nV n, rfl, rfl, sqA_t hda, rfl, _, rfl, _, rfl, da, _, 1, nV c, rfl, rfl, sqA_t hda, rfl, m, _, _, c, rfl, rfl, hh.mem, ixN_of rfl (by rw [List.length_map]; exact hc), ?_⟩
        have b : But [m] H4 (upd H4 m (.lst ((st.mem.map nV).set c (nV n)))) := But.set (by simp)
        have hh1 := hh.setMem ap (mem := st.mem.set c n) b (by rw [upd_same, set_map rfl])
        have ht1 := b.tup (lsts hh (.inl rfl)) ht
        have hda1 := b.tup (lsts hh (.inl rfl)) hda
        have sm1 := But.new1 sm (nb (.inl rfl)) b
        generalize upd H4 m (.lst ((st.mem.map nV).set c (nV n))) = H5 at hh1 ht1 hda1 sm1
        refine rd_in rfl hda1 fun T nT => iteF ?_
        have e := same_new (o := .tup [.str "add", .str "say"]) nT
        have hda2 := e _ _ hda1
        refine rd_word rfl hda2 (iteF (rd_word rfl hda2 (iteF (rd_word rfl hda2 (iteF ?_)))))
        exact hfin _ _ _ _ (hh1.same e) (e _ _ ht1) (sm1.trans e)
      | add c o2 =>
        have hc : c < st.mem.length := by rw [mlen]; exact dok.1
        have ho2 : o2 < st.mem.length := by rw [mlen]; exact dok.2
        refine rd_word rfl hda (iteF ?_)
        refine rd_in rfl hda fun T0 nT0 => iteT ?_
        have e := same_new (o := .tup [.str "add", .str "say"]) nT0
        have hda := e _ _ hda
        have ht := e _ _ ht
        have hh := hh.same e
        have sm := sm.trans e
        generalize upd H4 T0 (.tup [.str "add", .str "say"]) = H4 at hda ht hh sm
        obtain ⟨xr, hxr, hkr⟩ := hh.reads
        refine ⟨_, rfl, t, _, 2, .ref r, rfl, rfl, sqA_t ht, rfl, .inl ⟨rfl, _, sqL_l hxr⟩, _, rfl, da, _, 1, nV c, rfl, rfl, sqA_t hda, rfl, _, rfl, _, rfl, da, _, 1, nV c, rfl, rfl, sqA_t hda, rfl, m, _, (c : Int), nV (st.mem.getD c 0), rfl, rfl, sqA_l hh.mem, atI_nat (nat_at hc), by show 2 ≤ sizeLine; decide, fun T nT => ?_⟩
        obtain ⟨xs1, g1, l1, hh1, b1⟩ := hh.noteRead ap (c := c) (n := st.mem.getD c 0) nT
        refine ⟨r, _, _, rfl, rfl, g1, fits (by have := pin.reads; omega), ?_⟩
        have hda1 := b1.tup (lsts hh (.inr (.inr (.inl rfl)))) hda
        have ht1 := b1.tup (lsts hh (.inr (.inr (.inl rfl)))) ht
        have sm1 := But.new1 sm (nb (.inr (.inr (.inl rfl)))) b1
        generalize upd (upd H4 T (.tup [nV c, nV (st.mem.getD c 0)])) r (.lst (xs1 ++ [.ref T])) = H5 at hh1 sm1 hda1 ht1
        refine rd_word rfl hda1 (iteF (rd_word rfl hda1 (iteT ?_)))
        obtain ⟨xr1, hxr1, _⟩ := hh1.reads
        refine ⟨_, rfl, t, _, 2, .ref r, rfl, rfl, sqA_t ht1, rfl, .inl ⟨rfl, _, sqL_l hxr1⟩, _, rfl, da, _, 2, nV o2, rfl, rfl, sqA_t hda1, rfl, _, rfl, _, rfl, da, _, 2, nV o2, rfl, rfl, sqA_t hda1, rfl, m, _, (o2 : Int), nV (st.mem.getD o2 0), rfl, rfl, sqA_l hh1.mem, atI_nat (nat_at ho2), by show 2 ≤ sizeLine; decide, fun T2 nT2 => ?_⟩
        obtain ⟨xs2, g2, l2, hh2, b2⟩ := hh1.noteRead ap (c := o2) (n := st.mem.getD o2 0) nT2
        refine ⟨r, _, _, rfl, rfl, g2, fits (by have := pin.reads; simp at l2; omega), ?_⟩
        have hda2 := b2.tup (lsts hh1 (.inr (.inr (.inl rfl)))) hda1
        have ht2 := b2.tup (lsts hh1 (.inr (.inr (.inl rfl)))) ht1
        have sm2 := But.new1 sm1 (nb (.inr (.inr (.inl rfl)))) b2
        generalize upd (upd H5 T2 (.tup [nV o2, nV (st.mem.getD o2 0)])) r (.lst (xs2 ++ [.ref T2])) = H6 at hh2 sm2 hda2 ht2
        refine ⟨_, rfl, _, rfl, da, _, 1, nV c, rfl, rfl, sqA_t hda2, rfl, m, _, (c : Int), nV (st.mem.getD c 0), rfl, rfl, sqA_l hh2.mem, atI_nat (nat_at hc), _, rfl, _, rfl, da, _, 2, nV o2, rfl, rfl, sqA_t hda2, rfl, m, _, (o2 : Int), nV (st.mem.getD o2 0), rfl, rfl, sqA_l hh2.mem, atI_nat (nat_at ho2), _, _, rfl, rfl, _, _, rfl, rfl, (by show (0 : Int) < 10; decide), ?_⟩
        refine ⟨_, rfl, _, rfl, da, _, 1, nV c, rfl, rfl, sqA_t hda2, rfl, m, _, _, c, rfl, rfl, hh2.mem, ixN_of rfl (by rw [List.length_map]; exact hc), ?_⟩
        have b3 : But [m] H6 (upd H6 m (.lst ((st.mem.map nV).set c (.int (((st.mem.getD c 0 : Nat) + (st.mem.getD o2 0 : Nat) : Int) % 10))))) := But.set (by simp)
        have hda3 := b3.tup (lsts hh2 (.inl rfl)) hda2
        refine rd_word rfl hda3 (iteF ?_)
        exact hfin _ _ _ _ (hh2.setMem ap b3 (by rw [upd_same, set_map (n := (st.mem.getD c 0 + st.mem.getD o2 0) % 10) (congrArg V.int (by omega))])) (b3.tup (lsts hh2 (.inl rfl)) ht2) (But.new1 sm2 (nb (.inl rfl)) b3)
      | say c =>
        have hc : c < st.mem.length := by rw [mlen]; exact dok
        refine rd_word rfl hda (iteF ?_)
        refine rd_in rfl hda fun T0 nT0 => iteT ?_
        have e := same_new (o := .tup [.str "add", .str "say"]) nT0
        have hda := e _ _ hda
        have ht := e _ _ ht
        have hh := hh.same e
        have sm := sm.trans e
        generalize upd H4 T0 (.tup [.str "add", .str "say"]) = H4 at hda ht hh sm
        obtain ⟨xr, hxr, hkr⟩ := hh.reads
        refine ⟨_, rfl, t, _, 2, .ref r, rfl, rfl, sqA_t ht, rfl, .inl ⟨rfl, _, sqL_l hxr⟩, _, rfl, da, _, 1, nV c, rfl, rfl, sqA_t hda, rfl, _, rfl, _, rfl, da, _, 1, nV c, rfl, rfl, sqA_t hda, rfl, m, _, (c : Int), nV (st.mem.getD c 0), rfl, rfl, sqA_l hh.mem, atI_nat (nat_at hc), by show 2 ≤ sizeLine; decide, fun T nT => ?_⟩
        obtain ⟨xs1, g1, l1, hh1, b1⟩ := hh.noteRead ap (c := c) (n := st.mem.getD c 0) nT
        refine ⟨r, _, _, rfl, rfl, g1, fits (by have := pin.reads; omega), ?_⟩
        have hda1 := b1.tup (lsts hh (.inr (.inr (.inl rfl)))) hda
        have ht1 := b1.tup (lsts hh (.inr (.inr (.inl rfl)))) ht
        have sm1 := But.new1 sm (nb (.inr (.inr (.inl rfl)))) b1
        generalize upd (upd H4 T (.tup [nV c, nV (st.mem.getD c 0)])) r (.lst (xs1 ++ [.ref T])) = H5 at hh1 sm1 hda1 ht1
        refine rd_word rfl hda1 (iteT ?_)
        refine ⟨_, rfl, t, _, 0, .ref s, rfl, rfl, sqA_t ht1, rfl, .inl ⟨rfl, _, sqL_l hh1.said⟩, _, rfl, _, rfl, da, _, 1, nV c, rfl, rfl, sqA_t hda1, rfl, m, _, (c : Int), nV (st.mem.getD c 0), rfl, rfl, sqA_l hh1.mem, atI_nat (nat_at hc), ?_⟩
        refine ⟨s, _, _, rfl, rfl, hh1.said, by rw [List.length_map]; exact fits (show st.said.length ≤ 16000 by have := pin.said; omega), ?_⟩
        have b2 : But [s] H5 (upd H5 s (.lst (st.said.map nV ++ [nV (st.mem.getD c 0)]))) := But.set (by simp)
        have hda2 := b2.tup (lsts hh1 (.inr (.inl rfl))) hda1
        refine rd_word rfl hda2 (iteF (rd_word rfl hda2 (iteF ?_)))
        exact hfin _ _ _ _ (hh1.setSaid ap (said := st.said ++ [st.mem.getD c 0]) b2 (by rw [upd_same, List.map_append]; rfl)) (b2.tup (lsts hh1 (.inr (.inl rfl))) ht1) (But.new1 sm1 (nb (.inr (.inl rfl))) b2)
      | start k =>
        refine rd_word rfl hda (iteF ?_)
        refine rd_in rfl hda fun T0 nT0 => iteF ?_
        have e := same_new (o := .tup [.str "add", .str "say"]) nT0
        have hda := e _ _ hda
        have ht := e _ _ ht
        have hh := hh.same e
        have sm := sm.trans e
        generalize upd H4 T0 (.tup [.str "add", .str "say"]) = H4 at hda ht hh sm
        refine rd_word rfl hda (iteF (rd_word rfl hda (iteF (rd_word rfl hda (iteT ?_)))))
        refine ⟨_, rfl, a, _, 1, .ref o, rfl, rfl, sqA_t (sm _ _ ha), rfl, _, rfl, da, _, 1, nV k, rfl, rfl, sqA_t hda, rfl, o, os, B.ords, B.mem.length, k, rfl, sm _ _ ho, hos.same sm, ok.four, ok.ords, dok, fun H5 l ms s5 nl hl hms => ?_⟩
        have ml : ms.length = (told B.ords k).length := by rw [hms.len, List.length_map]
        have t32 := told_len (ords := B.ords) many8 k
        have hnl : ∀ {c : Addr}, c = m ∨ c = s ∨ c = r ∨ c = f → l ≠ c := fun hc z => by
          obtain ⟨xs, e⟩ := lsts hh hc _ (List.mem_singleton.mpr rfl)
          rw [← z, nl] at e; cases e
        refine ⟨l, rfl, .inl ⟨_, sqL_l hl, ?_⟩⟩
        refine for_it (walk_list (xs := ms)) (fun j σ H' => ∃ (y4 y5 y6 : Option V), σ = [some (.ref a), some (.ref m), some (.ref t), some (.ref da), y4, y5, y6] ∧
            Held H' m s r f { st with mem := (((told B.ords k).take j).foldl mvStep (st.mem, st.fet)).1, fet := (((told B.ords k).take j).foldl mvStep (st.mem, st.fet)).2 } ∧ H' t = some (.tup [.ref s, .ref m, .ref r, .ref f]) ∧ H' l = some (.lst ms) ∧ Pds H' ms ((told B.ords k).map Mv.d) ∧ Same H H')
          ⟨_, _, _, rfl, hh.same s5, s5 _ _ ht, hl, hms, sm.trans s5⟩ (fun j σ H' _ hp => by obtain ⟨_, _, _, _, _, _, e, _⟩ := hp; exact sqL_l e) (fun j x σ H6 H7 hj hp hy => ?_) (fun σ H6 hp => ?_)
        · obtain ⟨y4, y5, y6, rfl, hh6, ht6, hl6, hms6, sm6⟩ := hp
          obtain ⟨rfl, hx⟩ := hy
          obtain ⟨dd, hdd, hpd⟩ := hms6.get' hx
          rw [List.getElem?_map] at hdd
          obtain ⟨mv, hmv, rfl⟩ : ∃ mv, (told B.ords k)[j]? = some mv ∧ mv.d = dd := by simpa using hdd
          obtain ⟨ma, rfl, hma⟩ := Mv.of hpd
          have bd := chain_bd ok.ords 4 (some k) mv (List.mem_of_getElem? hmv)
          have stp : ((told B.ords k).take (j + 1)).foldl mvStep (st.mem, st.fet) = mvStep (((told B.ords k).take j).foldl mvStep (st.mem, st.fet)) mv := by
            rw [List.take_add_one, hmv, List.foldl_append]; rfl
          rw [stp]
          obtain ⟨L1, L2'⟩ := mv_len ((told B.ords k).take j) (st.mem, st.fet)
          generalize ((told B.ords k).take j).foldl mvStep (st.mem, st.fet) = rr at *
          have b1 : mv.src < rr.1.length := by rw [L1, mlen]; exact bd.1
          have b2 : mv.goal < rr.1.length := by rw [L1, mlen]; exact bd.2
          obtain ⟨xf, hxf, hkf⟩ := hh6.fet
          refine ⟨ma, _, rfl, sqT_t hma, rfl, _, _, rfl, _, _, rfl, _, _, rfl, rfl, ?_⟩
          refine ⟨_, rfl, t, _, 3, .ref f, rfl, rfl, sqA_t ht6, rfl, .inl ⟨rfl, _, sqL_l hxf⟩, _, rfl, _, rfl, _, rfl, m, _, (mv.src : Int), nV (rr.1.getD mv.src 0), rfl, rfl, sqA_l hh6.mem, atI_nat (nat_at b1), by show 2 ≤ sizeLine; decide, fun T nT => ?_⟩
          obtain ⟨k1, k2, k3⟩ := grow hxf hkf (noLs_map noL_rd _) nT (fun H a h => rd_pd (c := mv.src) (n := rr.1.getD mv.src 0) H a h)
          have xlen : xf.length ≤ 2000 := by
            have := pin.fet
            rw [hkf.len, List.length_map]
            show rr.2.length ≤ 2000
            rw [L2', List.length_take]; simp only; omega
          refine ⟨f, _, _, rfl, rfl, k1, fits (by omega), ?_⟩
          have hh7 := hh6.setFet ap (fet := rr.2 ++ [(mv.src, rr.1.getD mv.src 0)]) k3 upd_same (by rw [List.map_append]; exact k2)
          have ht7 := k3.tup (lsts hh6 (.inr (.inr (.inr rfl)))) ht6
          have hl7 := k3.at1 hl6 (hnl (.inr (.inr (.inr rfl))))
          have hms7 := k3.pds1 hxf (noLs_map noL_mv _) hms6
          have sm7 := But.new1 sm6 (nb (.inr (.inr (.inr rfl)))) k3
          generalize upd (upd H7 T (.tup [nV mv.src, nV (rr.1.getD mv.src 0)])) f (.lst (xf ++ [.ref T])) = H8 at hh7 ht7 hl7 hms7 sm7
          refine ⟨_, rfl, _, rfl, m, _, (mv.src : Int), nV (rr.1.getD mv.src 0), rfl, rfl, sqA_l hh7.mem, atI_nat (nat_at b1), ?_⟩
          refine ⟨_, rfl, _, rfl, m, _, _, mv.goal, rfl, rfl, hh7.mem, ixN_of rfl (by rw [List.length_map]; exact b2), ?_⟩
          have b4 : But [m] H8 (upd H8 m (.lst ((rr.1.map nV).set mv.goal (nV (rr.1.getD mv.src 0))))) := But.set (by simp)
          exact ⟨_, _, _, rfl, hh7.setMem ap (mem := rr.1.set mv.goal (rr.1.getD mv.src 0)) b4 (by rw [upd_same, set_map rfl]), b4.tup (lsts hh7 (.inl rfl)) ht7, b4.at1 hl7 (hnl (.inl rfl)), b4.pds1 hh7.mem (noLs_map noL_mv _) hms7, But.new1 sm7 (nb (.inl rfl)) b4⟩
        · obtain ⟨y4, y5, y6, rfl, hh6, ht6, hl6, hms6, sm6⟩ := hp
          rw [ml, List.take_length, mv_pre] at hh6
          exact hfin _ _ _ _ hh6 ht6 sm6
      | wait =>
        refine rd_word rfl hda (iteF (rd_in rfl hda fun T0 nT0 => iteF ?_))
        have e := same_new (o := .tup [.str "add", .str "say"]) nT0
        have hda := e _ _ hda
        refine rd_word rfl hda (iteF (rd_word rfl hda (iteF (rd_word rfl hda (iteF ?_)))))
        exact hfin _ _ _ _ (hh.same e) (e _ _ ht) (sm.trans e)
      | clean l =>
        refine rd_word rfl hda (iteF (rd_in rfl hda fun T0 nT0 => iteF ?_))
        have e := same_new (o := .tup [.str "add", .str "say"]) nT0
        have hda := e _ _ hda
        refine rd_word rfl hda (iteF (rd_word rfl hda (iteF (rd_word rfl hda (iteF ?_)))))
        exact hfin _ _ _ _ (hh.same e) (e _ _ ht) (sm.trans e)
      | drop l =>
        refine rd_word rfl hda (iteF (rd_in rfl hda fun T0 nT0 => iteF ?_))
        have e := same_new (o := .tup [.str "add", .str "say"]) nT0
        have hda := e _ _ hda
        refine rd_word rfl hda (iteF (rd_word rfl hda (iteF (rd_word rfl hda (iteF ?_)))))
        exact hfin _ _ _ _ (hh.same e) (e _ _ ht) (sm.trans e)
    · obtain ⟨y3, y4, y5, y6, rfl, hh, pin, ht, sm⟩ := hp'
      have pl : ps.length = B.prog.length := by rw [hps.len, List.length_map]
      rw [pl, List.take_length] at hh
      exact ⟨_, rfl, q _ t m s r f sm ap nm ns0 nr0 nf0 ht hh⟩
end
end Vt
namespace Vt
open PySem PySem.Spec PyProof.Rows L2
/-! ### the defs as they stand behind the top -/
def Found (K : PySem.W.Frag) (x : Str) (st : Stmt) (f : Addr) : Prop := ∃ (oc : Value) (od : Option Addr) (kV doc pm : Value) (an : Option Addr) (cdv ct : Value) (osl : Array (Option Value)),
  PySem.W.nsIn K mainGlobals x = some (some (.ref f)) ∧ K.lookup f = some ⟨oc, od, .func (PySem.W.fnOf x x (defArgs st) (defBody st) (defScope st) .none kV doc pm an cdv ct), osl⟩ ∧ PySem.W.codeIn K cdv x = true ∧ PySem.W.keepIn K (.ref f) = true
theorem found_mk {K : PySem.W.Frag} {x : Str} {st : Stmt} {f : Addr} {oc : Value} {od an : Option Addr} {kV doc pm cdv ct : Value} {osl : Array (Option Value)} (a : PySem.W.nsIn K mainGlobals x = some (some (.ref f)))
    (l : K.lookup f = some ⟨oc, od, .func (PySem.W.fnOf x x (defArgs st) (defBody st) (defScope st) .none kV doc pm an cdv ct), osl⟩) (c : PySem.W.codeIn K cdv x = true) (k : PySem.W.keepIn K (.ref f) = true) : ∃ f, Found K x st f :=
  ⟨f, oc, od, kV, doc, pm, an, cdv, ct, osl, a, l, c, k⟩
theorem callee_mk {P : Program} {w : World} {K : PySem.W.Frag} {mg : Str → Option Value} {base h : Heap} {x : Str} {st : Stmt} {k n : Nat} {sp : Sp} {ps : List Str} (X : K.In h) (G : h.Ns mainGlobals mg) (hf : ∃ f, Found K x st f)
    (ok : ∀ (f : Addr) (fd : FuncData), Fun K x x st f fd → FnOk P w K mg base CX0 k f fd ps sp)
    (hb : ∀ (kV doc pm : Value) (an : Option Addr) (cdv ct : Value) (us : List Value), us.length = ps.length → bindArgs (PySem.W.fnOf x x (defArgs st) (defBody st) (defScope st) .none kV doc pm an cdv ct) ⟨us, []⟩ = pure (ps.zip us)) : Callee P w K mg base x k n sp := by
  obtain ⟨f, oc, od, kV, doc, pm, an, cdv, ct, osl, a, l, c, kp⟩ := hf
  have F := fun_mk (st := st) l c kp
  exact ⟨f, _, ps, ok f _ F, PySem.W.mg_of X G a, kp, F.binds hb⟩
/-- a tuple of the written part, as it stands -/
theorem ktup_mk {K : PySem.W.Frag} {a : Addr} {xs : List V} {od : Option Addr} {its : Array Value} {n : Nat} {sl : Array (Option Value)} (l : K.lookup a = some ⟨.type "tuple", od, .seq its n, sl⟩) (hz : its.size ≤ sizeLine) (hv : Vals xs its.toList) : KTup K a xs :=
  ⟨_, its, n, l, rfl, rfl, hz, hv⟩
theorem kinds_mk {K : PySem.W.Frag} {w : World} {mg : Str → Option Value} {dd k1 k2 k3 k4 k5 k6 k7 : Addr} {es : Array DictEntry} {n : Nat} (m : mg "DEEDS" = some (.ref dd)) (low : (dd == sysModules) = false) (l : K.lookup dd = some ⟨.type "dict", none, .dict es n, #[]⟩) (kl : PySem.W.KeysLit w.params es.toList)
    (a1 : PySem.W.nsIn K dd "set" = some (some (.ref k1))) (a2 : PySem.W.nsIn K dd "add" = some (some (.ref k2))) (a3 : PySem.W.nsIn K dd "say" = some (some (.ref k3))) (a4 : PySem.W.nsIn K dd "start" = some (some (.ref k4)))
    (a5 : PySem.W.nsIn K dd "wait" = some (some (.ref k5))) (a6 : PySem.W.nsIn K dd "clean" = some (some (.ref k6))) (a7 : PySem.W.nsIn K dd "drop" = some (some (.ref k7)))
    (t1 : KTup K k1 [.str "cell", .str "number"]) (t2 : KTup K k2 [.str "cell", .str "cell"]) (t3 : KTup K k3 [.str "cell"]) (t4 : KTup K k4 [.str "order"]) (t5 : KTup K k5 []) (t6 : KTup K k6 [.str "line"]) (t7 : KTup K k7 [.str "line"]) : Kinds K w mg dd := by
  refine ⟨m, low, ⟨es, n, l, kl⟩, fun z ks h => ?_⟩
  have kd : ∀ (x : Str) (k : Addr), PySem.W.nsIn K dd x = some (some (.ref k)) → KDct K w dd x (.ref k) := fun x k e => ⟨es, n, _, l, kl, e, rfl⟩
  unfold kindsOf at h
  split at h
  · rename_i e; subst e; cases h; exact ⟨k1, kd _ _ a1, t1⟩
  split at h
  · rename_i e; subst e; cases h; exact ⟨k2, kd _ _ a2, t2⟩
  split at h
  · rename_i e; subst e; cases h; exact ⟨k3, kd _ _ a3, t3⟩
  split at h
  · rename_i e; subst e; cases h; exact ⟨k4, kd _ _ a4, t4⟩
  split at h
  · rename_i e; subst e; cases h; exact ⟨k5, kd _ _ a5, t5⟩
  split at h
  · rename_i e; subst e; cases h; exact ⟨k6, kd _ _ a6, t6⟩
  split at h
  · rename_i e; subst e; cases h; exact ⟨k7, kd _ _ a7, t7⟩
  cases h
end Vt
namespace Vt
open PySem PySem.Spec PyProof.Rows L2
theorem sm_ns {xs : List Nat} (h : xs.length ≤ 100000) : (nsD xs).sm = true := by
  simp only [nsD, D.sm, List.length_map, Bool.and_eq_true, decide_eq_true_eq]
  exact ⟨h, sm_map sm_nD _⟩
theorem sm_rd (p : Nat × Nat) : (rdD p).sm = true := by simp [rdD, D.sm, smAll, nD]
theorem sm_rds {xs : List (Nat × Nat)} (h : xs.length ≤ 100000) : (rdsD xs).sm = true := by
  simp only [rdsD, D.sm, List.length_map, Bool.and_eq_true, decide_eq_true_eq]
  exact ⟨h, sm_map sm_rd _⟩
theorem dep_nd : ∀ xs : List Nat, deps (xs.map nD) = 0
  | [] => rfl
  | x :: r => by simp [deps, D.dep, nD, dep_nd r]
theorem dep_rds : ∀ xs : List (Nat × Nat), deps (xs.map rdD) ≤ 1
  | [] => by simp [deps]
  | x :: r => by
    have := dep_rds r
    simp only [List.map_cons, deps, rdD, D.dep, nD]
    omega
theorem plain_inv {B : Brd} (ok : BrdOk B) : PInv (plain B) 60 B.mem.length := by
  have many8 : ∀ o ∈ B.ords, o.many ≤ 8 := fun o ho => by
    obtain ⟨i, hi, rfl⟩ := List.mem_iff_getElem.mp ho
    exact (ok.ords i _ (List.getElem?_eq_getElem hi)).eight
  have key : ∀ n, n ≤ B.prog.length → PInv ((B.prog.take n).foldl (pstep B.ords) ⟨B.mem, [], [], []⟩) n B.mem.length := by
    intro n
    induction n with
    | zero => exact fun _ => ⟨rfl, ok.nums, Nat.zero_le _, Nat.zero_le _, Nat.zero_le _⟩
    | succ n ih =>
      intro h
      have hn : B.prog[n]? = some B.prog[n] := List.getElem?_eq_getElem (by omega)
      rw [List.take_add_one, hn, List.foldl_append]
      exact (ih (by omega)).step many8 (ok.prog _ (List.getElem_mem _))
  have := key B.prog.length (Nat.le_refl _)
  rw [List.take_length] at this
  have h60 := ok.sixty
  obtain ⟨h1, h2, h3, h4, h5⟩ := this
  exact ⟨h1, h2, by show (plain B).said.length ≤ 60; unfold plain; omega, by show (plain B).reads.length ≤ 2 * 60; unfold plain; omega, by show (plain B).fet.length ≤ 32 * 60; unfold plain; omega⟩
section
variable {P : Program} {w : World} {K : PySem.W.Frag} {mg : Str → Option Value} {base : Heap}
abbrev st_law : Stmt := (topS 35)
abbrev nm_law : List Str := ["_law_script", "_law_box", "_law_turn", "_law_board_here", "_law_said", "_law_memory", "_law_reads", "_law_fetches", "_law_again", "_law_found"]
theorem sc_law : FnScope ["_law_script", "_law_box", "_law_turn", "_law_board_here", "_law_said", "_law_memory", "_law_reads", "_law_fetches", "_law_again", "_law_found"] ["_law_script"] (defScope st_law) := ⟨rfl, rfl, rfl, by decide +kernel, rfl, by decide +kernel, by decide +kernel⟩
def spLaw (K : PySem.W.Frag) : Sp := fun vs H Q _ => ∃ (a : Addr) (ns : List Int), vs = [.ref a] ∧ SqL K H a (ns.map V.int) ∧ ns.length ≤ 63 ∧ ∀ H', Q (.bl true) H'
theorem ok_law {f : Addr} {fd : FuncData} (F : Fun K "law" "law" st_law f fd) (c_law_begun : Callee P w K mg base "_law_begun" 1 1 (spBegun K)) (c_law_take : Callee P w K mg base "_law_take" 1 2 spTake) (c_law_board : Callee P w K mg base "_law_board" 3 4 spBoard)
    (c_law_kinds : Callee P w K mg base "_law_kinds" 1 0 (spKinds kindWords)) (c_law_plain : Callee P w K mg base "_law_plain" 2 1 spLPlain) (c_law_alike : Callee P w K mg base "_law_alike" 4 2 (spAlike 4))
    (c_plain_end : Callee P w K mg base "plain_end" 5 1 spPlainEnd) (c_sights : Callee P w K mg base "sights" 5 1 spSights) (z_range : mg "range" = none) (z_int : mg "int" = none) (z_tuple : mg "tuple" = none) : FnOk P w K mg base CX0 6 f fd ["_law_script"] (spLaw K) := by
  refine F.ok sc_law (fun vs H Q E h => ?_) (fun cdv A outer s H vs Q E hr h => ?_)
  · obtain ⟨a, ns, rfl, _⟩ := h
    rfl
  · obtain ⟨a, ns, rfl, hS, hlen, q⟩ := h
    refine ⟨_, (pss_cons (ps_set (i := 1) sc_law.nd rfl (Or.inl rfl) (pe_cal c_law_begun hr (by first | decide | exact Nat.le_refl _) (pa_cons (pv 0) pa_nil)))
  (pss_cons (ps_for PassesOwn.never rfl (pi_range1 (by rfl) z_range (pa_cons pe_int pa_nil)) (pg_name (i := 2) sc_law.nd rfl (Or.inl rfl))
  (pss_cons (ps_set (i := 3) sc_law.nd rfl (Or.inl rfl) (pe_cal c_law_board hr (by first | decide | exact Nat.le_refl _) (pa_cons (pv 1) (pa_cons pe_int (pa_cons (pe_ix ix_lt (pe_lst (pa_cons pe_int (pa_cons pe_int pa_nil))) (pe_callTy call_int1 (by rfl) z_int (by decide +kernel) (pa_cons (pe_cmpR op_eq (pe_cal c_law_take hr (by first | decide | exact Nat.le_refl _) (pa_cons (pv 1) (pa_cons pe_int pa_nil))) pe_int (nomark _)) pa_nil)) (fun _ _ => rfl)) (pa_cons (pe_cal0 c_law_kinds hr (by first | decide | exact Nat.le_refl _)) pa_nil))))))
  (pss_cons (ps_asg (pe_cal c_law_plain hr (by first | decide | exact Nat.le_refl _) (pa_cons (pv 3) pa_nil)) (pg_tup rfl (pgs_cons (pg_name (i := 4) sc_law.nd rfl (Or.inl rfl)) (pgs_cons (pg_name (i := 5) sc_law.nd rfl (Or.inl rfl)) (pgs_cons (pg_name (i := 6) sc_law.nd rfl (Or.inl rfl)) (pgs_cons (pg_name (i := 7) sc_law.nd rfl (Or.inl rfl)) pgs_nil))))))
  (pss_one (ps_for PassesOwn.never rfl (pi_range1 (by rfl) z_range (pa_cons pe_int pa_nil)) (pg_name (i := 8) sc_law.nd rfl (Or.inl rfl))
  (pss_cons (ps_if (pt_not (pt_val (pe_cal c_law_alike hr (by first | decide | exact Nat.le_refl _) (pa_cons (pe_cal c_plain_end hr (by first | decide | exact Nat.le_refl _) (pa_cons (pv 3) pa_nil)) (pa_cons (pe_tup (pa_cons (pe_callTy call_tuple_of (by rfl) z_tuple (by decide +kernel) (pa_cons (pv 4) pa_nil)) (pa_cons (pe_callTy call_tuple_of (by rfl) z_tuple (by decide +kernel) (pa_cons (pv 5) pa_nil)) pa_nil))) pa_nil))))) (pss_one (ps_ret pe_bl)) pss_nil)
  (pss_cons (ps_set (i := 9) sc_law.nd rfl (Or.inl rfl) (pe_cal c_sights hr (by first | decide | exact Nat.le_refl _) (pa_cons (pv 3) pa_nil)))
  (pss_cons (ps_if (pt_not (pt_val (pe_cal c_law_alike hr (by first | decide | exact Nat.le_refl _) (pa_cons (pv 9) (pa_cons (pe_tup (pa_cons (pv 6) (pa_cons (pv 7) pa_nil))) pa_nil))))) (pss_one (ps_ret pe_bl)) pss_nil)
  (pss_cons (ps_expr (pe_bm PySem.F.plainAttrs_list PySem.F.slot_list_append PySem.F.type_list_append mt_append (pe_ix ix_lt (pv 9) pe_int (fun _ _ => rfl)) (pa_cons (pe_tup (pa_cons pe_int (pa_cons pe_int pa_nil))) pa_nil)))
  (pss_one (ps_expr (pe_bm0 PySem.F.plainAttrs_list PySem.F.slot_list_clear PySem.F.type_list_clear mt_clear (pe_ix ix_lt (pv 9) pe_int (fun _ _ => rfl))))))))))))))
  (pss_one (ps_ret pe_bl)))), ?_⟩
    refine ⟨_, rfl, a, ns, rfl, hS, hlen, fun H1 b l hB sm1 => ?_⟩
    refine ⟨2, rfl, by decide, by decide, ?_⟩
    refine for_it (walk_range (lo := 0) (n := (2 : Int).toNat)) (fun i σ H' => ∃ (y2 y3 y4 y5 y6 y7 y8 y9 : Option V), σ = [some (.ref a), some (.ref b), y2, y3, y4, y5, y6, y7, y8, y9] ∧ Box H' b l)
      ⟨_, _, _, _, _, _, _, _, rfl, hB⟩ (fun _ _ _ _ _ => trivial) (fun i x σ H2 H3 hi hp hy => ?_) (fun σ H2 hp => q H2)
    obtain ⟨y2, y3, y4, y5, y6, y7, y8, y9, rfl, hB2⟩ := hp
    obtain ⟨rfl, rfl⟩ := hy
    -- the board
    refine ⟨_, rfl, by show 2 ≤ sizeLine; decide, fun L nL => ?_⟩
    have hB3 := hB2.same (same_new (o := .lst [.int 16, .int 60]) nL)
    have hL : (upd H3 L (.lst [.int 16, .int 60])) L = some (.lst [.int 16, .int 60]) := upd_same
    have Lb : L ∉ [b, l] := fun m => by
      obtain ⟨ys, e⟩ := hB2.lsts _ m
      rw [nL] at e; cases e
    generalize upd H3 L (.lst [.int 16, .int 60]) = H4 at hB3 hL
    refine ⟨_, rfl, b, l, _, 8, rfl, rfl, hB3, by decide, by decide, fun H5 r hB5 bt5 hr5 => ?_⟩
    have hL5 := bt5 _ _ Lb hL
    refine ⟨rfl, .inr ⟨_, rfl, ?_⟩⟩
    obtain ⟨deeds, hdd, ix, hix, hat⟩ : ∃ deeds : Nat, deeds ≤ 60 ∧ ∃ ix : Int, (if decide (nV r = V.int 7) = true then (1 : Int) else 0) = ix ∧ atI [V.int 16, V.int 60] ix = some (nV deeds) := by
      by_cases e : decide (nV r = V.int 7) = true
      · exact ⟨60, by decide, 1, if_pos e, rfl⟩
      · exact ⟨16, by decide, 0, if_neg e, rfl⟩
    refine ⟨L, _, ix, _, rfl, congrArg V.int hix, sqA_l hL5, hat, rfl, fun H6 kl sm6 nk hk => ?_⟩
    refine ⟨b, l, kl, 4, deeds, kindWords, rfl, hB5.same sm6, by decide, by decide, hdd, hk, by decide, by decide, by decide, fun H7 v B hB7 bt7 hv ok _ _ _ _ => ?_⟩
    -- plainly
    refine ⟨_, rfl, v, B, rfl, hv, ok, fun H8 t m s r f sm8 ap _ _ _ _ ht hh => ?_⟩
    refine ⟨t, _, rfl, sqT_t ht, rfl, _, _, rfl, _, _, rfl, _, _, rfl, _, _, rfl, rfl, ?_⟩
    refine ⟨2, rfl, by decide, by decide, ?_⟩
    refine for_it (walk_range (lo := 0) (n := (2 : Int).toNat)) (fun _ σ H' => ∃ (y8 y9 : Option V), σ = [some (.ref a), some (.ref b), some (.int (0 + (i : Int))), some v, some (.ref s), some (.ref m), some (.ref r), some (.ref f), y8, y9] ∧ Box H' b l ∧ Pd H' v B.d ∧ Held H' m s r f (plain B))
      ⟨_, _, rfl, hB7.same sm8, hv.same sm8, hh⟩ (fun _ _ _ _ _ => trivial) (fun j x σ H9 H10 hj hp hy => ?_) (fun σ H9 hp => ?_)
    · obtain ⟨y8, y9, rfl, hB9, hv9, hh9⟩ := hp
      obtain ⟨rfl, rfl⟩ := hy
      have pin := plain_inv ok
      have h16 : B.mem.length ≤ 16 := by have := ok.cells; omega
      -- plain_end
      refine ⟨_, rfl, v, B, rfl, hv9, ok, fun H11 u sm11 hu => ?_⟩
      have hh11 := hh9.same sm11
      refine ⟨_, rfl, s, _, rfl, .inl ⟨sqL_l hh11.said, fun ta nta => ?_⟩⟩
      have e1 := same_new (o := .tup ((plain B).said.map nV)) nta
      refine ⟨_, rfl, m, _, rfl, .inl ⟨sqL_l (e1 _ _ hh11.mem), fun tb ntb => ?_⟩⟩
      have e2 := same_new (o := .tup ((plain B).mem.map nV)) ntb
      refine ⟨by show 2 ≤ sizeLine; decide, fun tc ntc => ?_⟩
      have e3 := same_new (o := .tup [.ref ta, .ref tb]) ntc
      have sm12 := (e1.trans e2).trans e3
      have hdue : Pd (upd (upd (upd H11 ta (.tup ((plain B).said.map nV))) tb (.tup ((plain B).mem.map nV))) tc (.tup [.ref ta, .ref tb])) (.ref tc) (endD (plain B)) :=
        .tup upd_same (.cons (.tup (e3 _ _ (e2 _ _ upd_same)) (pds_ns _)) (.cons (.tup (e3 _ _ upd_same) (pds_ns _)) .nil))
      have hu12 := hu.same sm12
      have hh12 := hh11.same sm12
      have hB12 := (hB9.same sm11).same sm12
      have hv12 := (hv9.same sm11).same sm12
      generalize upd (upd (upd H11 ta (.tup ((plain B).said.map nV))) tb (.tup ((plain B).mem.map nV))) tc (.tup [.ref ta, .ref tb]) = H12 at hdue hu12 hh12 hB12 hv12
      refine ⟨u, .ref tc, endD (plain B), rfl, hu12, hdue, ?_, ?_, _, rfl, iteF ?_⟩
      · simp only [endD, nsD, D.dep, deps, dep_nd]; decide
      · have h1 := sm_ns (xs := (plain B).said) (by have := pin.said; omega)
        have h2 := sm_ns (xs := (plain B).mem) (by have := pin.len; omega)
        simp [endD, D.sm, smAll, h1, h2]
      -- sights
      refine ⟨_, rfl, v, B, rfl, hv12, ok, fun H13 t2 r2 f2 xr xf sm13 nr2 nf2 ne2 ht2 hr2 hf2 kr2 kf2 => ?_⟩
      have hh13 := hh12.same sm13
      obtain ⟨xr1, hxr1, hkr1⟩ := hh13.reads
      obtain ⟨xf1, hxf1, hkf1⟩ := hh13.fet
      refine ⟨_, rfl, _, rfl, _, rfl, by show 2 ≤ sizeLine; decide, fun td ntd => ?_⟩
      have e4 := same_new (o := .tup [.ref r, .ref f]) ntd
      refine ⟨.ref t2, .ref td, sightsD (plain B), rfl, .tup (e4 _ _ ht2) (.cons (.lst (e4 _ _ hr2) (kr2.same e4)) (.cons (.lst (e4 _ _ hf2) (kf2.same e4)) .nil)),
        .tup upd_same (.cons (.lst (e4 _ _ hxr1) (hkr1.same e4)) (.cons (.lst (e4 _ _ hxf1) (hkf1.same e4)) .nil)), ?_, ?_, _, rfl, iteF ?_⟩
      · have h1 := dep_rds (plain B).reads
        have h2 := dep_rds (plain B).fet
        simp only [sightsD, rdsD, D.dep, deps]; omega
      · have h1 := sm_rds (xs := (plain B).reads) (by have := pin.reads; omega)
        have h2 := sm_rds (xs := (plain B).fet) (by have := pin.fet; omega)
        simp [sightsD, D.sm, smAll, h1, h2]
      -- found[0].append((0, 0))
      have ht3 := e4 _ _ ht2
      have hr3 := e4 _ _ hr2
      have hf3 := e4 _ _ hf2
      have sm14 : Same H12 (upd H13 td (.tup [.ref r, .ref f])) := sm13.trans e4
      generalize upd H13 td (.tup [.ref r, .ref f]) = H14 at ht3 hr3 hf3 sm14
      refine ⟨_, rfl, t2, _, 0, .ref r2, rfl, rfl, sqA_t ht3, rfl, .inl ⟨rfl, _, sqL_l hr3⟩, by show 2 ≤ sizeLine; decide, fun te nte => ?_⟩
      have e5 := same_new (o := .tup [.int 0, .int 0]) nte
      have xrl : xr.length ≤ 200 := by
        rw [kr2.len, List.length_map]
        have := pin.reads; omega
      refine ⟨r2, _, _, rfl, rfl, e5 _ _ hr3, fits (by omega), ?_⟩
      have b5 : But [r2] (upd H14 te (.tup [.int 0, .int 0])) (upd (upd H14 te (.tup [.int 0, .int 0])) r2 (.lst (xr ++ [.ref te]))) := But.set (by simp)
      have sm15 := But.new1 (sm14.trans e5) nr2 b5
      have ht4 := b5.tup (fun c hc => ⟨xr, by rw [List.mem_singleton.mp hc]; exact e5 _ _ hr3⟩) (e5 _ _ ht3)
      have hf4 := b5.at1 (e5 _ _ hf3) ne2.symm
      generalize upd (upd H14 te (.tup [.int 0, .int 0])) r2 (.lst (xr ++ [.ref te])) = H15 at sm15 ht4 hf4
      -- found[1].clear()
      refine ⟨_, rfl, t2, _, 1, .ref f2, rfl, rfl, sqA_t ht4, rfl, .inl ⟨rfl, _, sqL_l hf4⟩, f2, _, rfl, rfl, hf4, ?_⟩
      have sm16 := But.new1 sm15 nf2 (But.set (H := H15) (p := f2) (o := .lst []) (by simp))
      exact ⟨_, _, rfl, hB12.same sm16, hv12.same sm16, hh12.same sm16⟩
    · obtain ⟨y8, y9, rfl, hB9, _, _⟩ := hp
      exact ⟨_, _, _, _, _, _, _, _, rfl, hB9⟩
/-! ### what the top has left -/
theorem all_mk {l : PySem.W.OpenLaw} {w : World} {K : PySem.W.Frag} {h : Heap} {mg : Str → Option Value} {fa dd ms : Addr} {t1 t2 t3 t4 t5 t6 : Tok} (X : K.In h) (G : h.Ns mainGlobals mg) (hfa : mg "law" = some (.ref fa))
    (h_first_wrong_cell : ∃ f, Found K "first_wrong_cell" st_first_wrong_cell f) (h_first_wrong_order : ∃ f, Found K "first_wrong_order" st_first_wrong_order f) (h_order_can_be : ∃ f, Found K "order_can_be" st_order_can_be f) (h_counts_of_things : ∃ f, Found K "counts_of_things" st_counts_of_things f) (h_first_wrong_deed : ∃ f, Found K "first_wrong_deed" st_first_wrong_deed f) (h_deed_can_be : ∃ f, Found K "deed_can_be" st_deed_can_be f) (h_require_board : ∃ f, Found K "require_board" st_require_board f) (h_moves_told : ∃ f, Found K "moves_told" st_moves_told f) (h_moved_at_once : ∃ f, Found K "moved_at_once" st_moved_at_once f) (h_plain_run : ∃ f, Found K "plain_run" st_plain_run f) (h_plain_end : ∃ f, Found K "plain_end" st_plain_end f) (h_sights : ∃ f, Found K "sights" st_sights f) (h_law_begun : ∃ f, Found K "_law_begun" st_law_begun f) (h_law_take : ∃ f, Found K "_law_take" st_law_take f) (h_law_alike : ∃ f, Found K "_law_alike" st_law_alike f) (h_law_order : ∃ f, Found K "_law_order" st_law_order f) (h_law_deed : ∃ f, Found K "_law_deed" st_law_deed f) (h_law_board : ∃ f, Found K "_law_board" st_law_board f) (h_law_moves : ∃ f, Found K "_law_moves" st_law_moves f) (h_law_plain : ∃ f, Found K "_law_plain" st_law_plain f) (h_law_kinds : ∃ f, Found K "_law_kinds" st_law_kinds f) (h_law : ∃ f, Found K "law" st_law f)
    (g1 : PySem.W.nsIn K mainGlobals "LINE" = some (some (.int 4 t1))) (g2 : PySem.W.nsIn K mainGlobals "NUMBERS" = some (some (.int 10 t2))) (g3 : PySem.W.nsIn K mainGlobals "MOST_ORDERS" = some (some (.int 4 t3)))
    (g4 : PySem.W.nsIn K mainGlobals "MOST_MOVED" = some (some (.int 8 t4))) (g5 : PySem.W.nsIn K mainGlobals "MOST_DEEDS" = some (some (.int 60 t5))) (g6 : PySem.W.nsIn K mainGlobals "MOST_STARTS" = some (some (.int 3 t6)))
    (g7 : PySem.W.nsIn K mainGlobals "MEMORY_SIZES" = some (some (.ref ms))) (g8 : KTup K ms [.int 4, .int 8, .int 12, .int 16]) (g9 : PySem.W.nsIn K mainGlobals "DEEDS" = some (some (.ref dd))) (Kd : mg "DEEDS" = some (.ref dd) → Kinds K w mg dd)
    (z_len : PySem.W.nsIn K mainGlobals "len" = some none) (z_enumerate : PySem.W.nsIn K mainGlobals "enumerate" = some none) (z_all : PySem.W.nsIn K mainGlobals "all" = some none) (z_zip : PySem.W.nsIn K mainGlobals "zip" = some none) (z_range : PySem.W.nsIn K mainGlobals "range" = some none)
    (z_list : PySem.W.nsIn K mainGlobals "list" = some none) (z_tuple : PySem.W.nsIn K mainGlobals "tuple" = some none) (z_int : PySem.W.nsIn K mainGlobals "int" = some none) (z_min : PySem.W.nsIn K mainGlobals "min" = some none) (z_bool : PySem.W.nsIn K mainGlobals "bool" = some none) (z_str : PySem.W.nsIn K mainGlobals "str" = some none)
    (z_isinstance : PySem.W.nsIn K mainGlobals "isinstance" = some none) :
    ∃ fd : FuncData, (∀ (s : Shared) (v : Value), BindsTo s fd ⟨[v], []⟩ [("_law_script", v)]) ∧ ∀ base : Heap, K.In base → base.Ns mainGlobals mg → FnOk l.prog w K mg base CX0 6 fa fd ["_law_script"] (spLaw K) := by
  have n := fun {x : Str} (z : PySem.W.nsIn K mainGlobals x = some none) => PySem.W.mg_none_of X G z
  have Kd' := Kd (PySem.W.mg_of X G g9)
  have C : Consts K mg := ⟨⟨_, PySem.W.mg_of X G g1⟩, ⟨_, PySem.W.mg_of X G g2⟩, ⟨_, PySem.W.mg_of X G g3⟩, ⟨_, PySem.W.mg_of X G g4⟩, ⟨_, PySem.W.mg_of X G g5⟩, ⟨_, PySem.W.mg_of X G g6⟩, ⟨_, PySem.W.mg_of X G g7, g8⟩⟩
  obtain ⟨f, oc, od, kV, doc, pm, an, cdv, ct, osl, la, ll, lc, lk⟩ := h_law
  have e := hfa.symm.trans (PySem.W.mg_of X G la)
  cases e
  refine ⟨PySem.W.fnOf "law" "law" (defArgs st_law) (defBody st_law) (defScope st_law) .none kV doc pm an cdv ct, fun s v => .of_eq rfl, fun base _ _ => ?_⟩
  have c_take : Callee l.prog w K mg base "_law_take" 1 2 spTake := callee_mk X G h_law_take (fun f fd F => ok_take F) (fun _ _ _ _ _ _ us hl => match us, hl with | [_, _], _ => rfl)
  have c_order : Callee l.prog w K mg base "_law_order" 2 4 spOrder := callee_mk X G h_law_order (fun f fd F => ok_order F c_take (n z_min)) (fun _ _ _ _ _ _ us hl => match us, hl with | [_, _, _, _], _ => rfl)
  have c_deed : Callee l.prog w K mg base "_law_deed" 2 4 spDeed := callee_mk X G h_law_deed (fun f fd F => ok_deed F c_take (n z_len) (n z_int)) (fun _ _ _ _ _ _ us hl => match us, hl with | [_, _, _, _], _ => rfl)
  have c_board : Callee l.prog w K mg base "_law_board" 3 4 spBoard := callee_mk X G h_law_board (fun f fd F => ok_board F c_take c_order c_deed (n z_len) (n z_tuple) (n z_range)) (fun _ _ _ _ _ _ us hl => match us, hl with | [_, _, _, _], _ => rfl)
  have c_lmoves : Callee l.prog w K mg base "_law_moves" 1 2 spMoves := callee_mk X G h_law_moves (fun f fd F => ok_lmoves F (n z_range) (n z_int)) (fun _ _ _ _ _ _ us hl => match us, hl with | [_, _], _ => rfl)
  have c_lplain : Callee l.prog w K mg base "_law_plain" 2 1 spLPlain := callee_mk X G h_law_plain (fun f fd F => ok_lplain F c_lmoves (n z_list)) (fun _ _ _ _ _ _ us hl => match us, hl with | [_], _ => rfl)
  have step : ∀ k, Callee l.prog w K mg base "_law_alike" k 2 (spAlike k) → Callee l.prog w K mg base "_law_alike" (k + 1) 2 (spAlike (k + 1)) := fun k c =>
    callee_mk X G h_law_alike (fun f fd F => alike_go F k c (n z_len) (n z_range) (n z_isinstance) (n z_bool) (n z_int) (n z_str) (n z_tuple) (n z_list)) (fun _ _ _ _ _ _ us hl => match us, hl with | [_, _], _ => rfl)
  have c0 : Callee l.prog w K mg base "_law_alike" 0 2 (spAlike 0) :=
    callee_mk (ps := ["_law_found", "_law_due"]) X G h_law_alike (fun f fd F => ⟨fun vs H Q E h => by obtain ⟨u, v, d, rfl, _⟩ := h; rfl, fun A outer s H args us vs Q E hr he hb hv h => by obtain ⟨u, v, d, _, _, _, hd, _⟩ := h; exact absurd hd (Nat.not_lt_zero _)⟩) (fun _ _ _ _ _ _ us hl => match us, hl with | [_, _], _ => rfl)
  have c_fwc : Callee l.prog w K mg base "first_wrong_cell" 1 1 spFwCell := callee_mk X G h_first_wrong_cell (fun f fd F => ok_fwcell F C (n z_len) (n z_enumerate)) (fun _ _ _ _ _ _ us hl => match us, hl with | [_], _ => rfl)
  have c_oc : Callee l.prog w K mg base "order_can_be" 1 4 spOrdCan := callee_mk X G h_order_can_be (fun f fd F => ok_ordcan F C) (fun _ _ _ _ _ _ us hl => match us, hl with | [_, _, _, _], _ => rfl)
  have c_fwo : Callee l.prog w K mg base "first_wrong_order" 2 2 spFwOrd := callee_mk X G h_first_wrong_order (fun f fd F => ok_fword F C c_oc (n z_len) (n z_enumerate)) (fun _ _ _ _ _ _ us hl => match us, hl with | [_, _], _ => rfl)
  have c_dc : Callee l.prog w K mg base "deed_can_be" 1 2 (spDeedCan K w dd) := callee_mk X G h_deed_can_be (fun f fd F => ok_deedcan F Kd' (n z_len) (n z_all) (n z_zip)) (fun _ _ _ _ _ _ us hl => match us, hl with | [_, _], _ => rfl)
  have c_counts : Callee l.prog w K mg base "counts_of_things" 1 2 spCounts := callee_mk X G h_counts_of_things (fun f fd F => ok_counts F C) (fun _ _ _ _ _ _ us hl => match us, hl with | [_, _], _ => rfl)
  have c_fwd : Callee l.prog w K mg base "first_wrong_deed" 2 3 (spFwDeed K w dd) := callee_mk X G h_first_wrong_deed (fun f fd F => ok_fwdeed F C c_dc c_counts (n z_enumerate)) (fun _ _ _ _ _ _ us hl => match us, hl with | [_, _, _], _ => rfl)
  have c_req : Callee l.prog w K mg base "require_board" 3 1 spReq := callee_mk X G h_require_board (fun f fd F => ok_req F c_fwc c_fwo c_fwd (n z_len)) (fun _ _ _ _ _ _ us hl => match us, hl with | [_], _ => rfl)
  have c_moves : Callee l.prog w K mg base "moves_told" 1 2 spMoves := callee_mk X G h_moves_told (fun f fd F => ok_moves F (n z_range)) (fun _ _ _ _ _ _ us hl => match us, hl with | [_, _], _ => rfl)
  have c_once : Callee l.prog w K mg base "moved_at_once" 2 3 spOnce := callee_mk X G h_moved_at_once (fun f fd F => ok_once F c_moves) (fun _ _ _ _ _ _ us hl => match us, hl with | [_, _, _], _ => rfl)
  have c_run : Callee l.prog w K mg base "plain_run" 4 1 spRun := callee_mk X G h_plain_run (fun f fd F => ok_run F C c_req c_once (n z_list)) (fun _ _ _ _ _ _ us hl => match us, hl with | [_], _ => rfl)
  exact ok_law (fun_mk (st := st_law) ll lc lk) (callee_mk X G h_law_begun (fun f fd F => ok_begun F (n z_len) (n z_int) (n z_list)) (fun _ _ _ _ _ _ us hl => match us, hl with | [_], _ => rfl)) c_take c_board (callee_mk X G h_law_kinds (fun f fd F => ok_kinds F) (fun _ _ _ _ _ _ us hl => match us, hl with | [], _ => rfl)) c_lplain
    (step 3 (step 2 (step 1 (step 0 c0)))) (callee_mk X G h_plain_end (fun f fd F => ok_plain_end F c_run (n z_tuple)) (fun _ _ _ _ _ _ us hl => match us, hl with | [_], _ => rfl)) (callee_mk X G h_sights (fun f fd F => ok_sights F c_run) (fun _ _ _ _ _ _ us hl => match us, hl with | [_], _ => rfl)) (n z_range) (n z_int) (n z_tuple)
end
end Vt
open PySem PySem.W PyProof.Rows
set_option maxHeartbeats 0 in
theorem PySem.Challenge.cw_blockcarrier_k04_plainly_holds : PySem.Challenge.rw_blockcarrier_k04_plainly.Holds := by
  w_on; o_law; k_head; (case hw => w_witness2)
  k_fill
  refine L2.walk_of (l := PySem.Challenge.rw_blockcarrier_k04_plainly) (n := 63) (k := 6) (x := "_law_script") (CX := fun _ => L2.CX0) (sp := fun w => Vt.spLaw _) rfl (by decide) rfl ⟨rfl, by decide, by decide⟩ (fun w h Y => PySem.W.kIn_of Y) ?F (fun _ _ a ns hl _ hS => ⟨a, ns, rfl, hS, hl, fun _ => rfl⟩) (fun _ _ _ _ _ h => h)
  case F =>
    intro w mg fa h KX G hmg
    refine' Vt.all_mk KX G hmg ?h_first_wrong_cell ?h_first_wrong_order ?h_order_can_be ?h_counts_of_things ?h_first_wrong_deed ?h_deed_can_be ?h_require_board ?h_moves_told ?h_moved_at_once ?h_plain_run ?h_plain_end ?h_sights ?h_law_begun ?h_law_take ?h_law_alike ?h_law_order ?h_law_deed ?h_law_board ?h_law_moves ?h_law_plain ?h_law_kinds ?h_law ?g1 ?g2 ?g3 ?g4 ?g5 ?g6 ?g7 ?g8 ?g9 ?g10 ?z1 ?z2 ?z3 ?z4 ?z5 ?z6 ?z7 ?z8 ?z9 ?z10 ?z11 ?z12
    (case h_first_wrong_cell => (refine' Vt.found_mk ?a ?l ?c ?k; (case a => k_is); (case l => k_is); (case c => k_is); (case k => k_is)))
    (case h_first_wrong_order => (refine' Vt.found_mk ?a ?l ?c ?k; (case a => k_is); (case l => k_is); (case c => k_is); (case k => k_is)))
    (case h_order_can_be => (refine' Vt.found_mk ?a ?l ?c ?k; (case a => k_is); (case l => k_is); (case c => k_is); (case k => k_is)))
    (case h_counts_of_things => (refine' Vt.found_mk ?a ?l ?c ?k; (case a => k_is); (case l => k_is); (case c => k_is); (case k => k_is)))
    (case h_first_wrong_deed => (refine' Vt.found_mk ?a ?l ?c ?k; (case a => k_is); (case l => k_is); (case c => k_is); (case k => k_is)))
    (case h_deed_can_be => (refine' Vt.found_mk ?a ?l ?c ?k; (case a => k_is); (case l => k_is); (case c => k_is); (case k => k_is)))
    (case h_require_board => (refine' Vt.found_mk ?a ?l ?c ?k; (case a => k_is); (case l => k_is); (case c => k_is); (case k => k_is)))
    (case h_moves_told => (refine' Vt.found_mk ?a ?l ?c ?k; (case a => k_is); (case l => k_is); (case c => k_is); (case k => k_is)))
    (case h_moved_at_once => (refine' Vt.found_mk ?a ?l ?c ?k; (case a => k_is); (case l => k_is); (case c => k_is); (case k => k_is)))
    (case h_plain_run => (refine' Vt.found_mk ?a ?l ?c ?k; (case a => k_is); (case l => k_is); (case c => k_is); (case k => k_is)))
    (case h_plain_end => (refine' Vt.found_mk ?a ?l ?c ?k; (case a => k_is); (case l => k_is); (case c => k_is); (case k => k_is)))
    (case h_sights => (refine' Vt.found_mk ?a ?l ?c ?k; (case a => k_is); (case l => k_is); (case c => k_is); (case k => k_is)))
    (case h_law_begun => (refine' Vt.found_mk ?a ?l ?c ?k; (case a => k_is); (case l => k_is); (case c => k_is); (case k => k_is)))
    (case h_law_take => (refine' Vt.found_mk ?a ?l ?c ?k; (case a => k_is); (case l => k_is); (case c => k_is); (case k => k_is)))
    (case h_law_alike => (refine' Vt.found_mk ?a ?l ?c ?k; (case a => k_is); (case l => k_is); (case c => k_is); (case k => k_is)))
    (case h_law_order => (refine' Vt.found_mk ?a ?l ?c ?k; (case a => k_is); (case l => k_is); (case c => k_is); (case k => k_is)))
    (case h_law_deed => (refine' Vt.found_mk ?a ?l ?c ?k; (case a => k_is); (case l => k_is); (case c => k_is); (case k => k_is)))
    (case h_law_board => (refine' Vt.found_mk ?a ?l ?c ?k; (case a => k_is); (case l => k_is); (case c => k_is); (case k => k_is)))
    (case h_law_moves => (refine' Vt.found_mk ?a ?l ?c ?k; (case a => k_is); (case l => k_is); (case c => k_is); (case k => k_is)))
    (case h_law_plain => (refine' Vt.found_mk ?a ?l ?c ?k; (case a => k_is); (case l => k_is); (case c => k_is); (case k => k_is)))
    (case h_law_kinds => (refine' Vt.found_mk ?a ?l ?c ?k; (case a => k_is); (case l => k_is); (case c => k_is); (case k => k_is)))
    (case h_law => (refine' Vt.found_mk ?a ?l ?c ?k; (case a => k_is); (case l => k_is); (case c => k_is); (case k => k_is)))
    (case g1 => k_is); (case g2 => k_is); (case g3 => k_is); (case g4 => k_is); (case g5 => k_is); (case g6 => k_is); (case g7 => k_is)
    (case z1 => k_is); (case z2 => k_is); (case z3 => k_is); (case z4 => k_is); (case z5 => k_is); (case z6 => k_is); (case z7 => k_is); (case z8 => k_is); (case z9 => k_is); (case z10 => k_is); (case z11 => k_is); (case z12 => k_is)
    case g8 => exact Vt.ktup_mk (by k_is) (by decide) (.cons ⟨_, rfl⟩ (.cons ⟨_, rfl⟩ (.cons ⟨_, rfl⟩ (.cons ⟨_, rfl⟩ .nil))))
    case g9 => k_is
    case g10 =>
      intro m
      refine' Vt.kinds_mk m ?low ?l ?kl ?a1 ?a2 ?a3 ?a4 ?a5 ?a6 ?a7 ?t1 ?t2 ?t3 ?t4 ?t5 ?t6 ?t7
      (case low => decide)
      (case l => k_is)
      (case a1 => k_is); (case a2 => k_is); (case a3 => k_is); (case a4 => k_is); (case a5 => k_is); (case a6 => k_is); (case a7 => k_is)
      (case t1 => exact Vt.ktup_mk (by k_is) (by decide) (.cons ⟨_, rfl⟩ (.cons ⟨_, rfl⟩ .nil)))
      (case t2 => exact Vt.ktup_mk (by k_is) (by decide) (.cons ⟨_, rfl⟩ (.cons ⟨_, rfl⟩ .nil)))
      (case t3 => exact Vt.ktup_mk (by k_is) (by decide) (.cons ⟨_, rfl⟩ .nil))
      (case t4 => exact Vt.ktup_mk (by k_is) (by decide) (.cons ⟨_, rfl⟩ .nil))
      (case t5 => exact Vt.ktup_mk (by k_is) (by decide) .nil)
      (case t6 => exact Vt.ktup_mk (by k_is) (by decide) (.cons ⟨_, rfl⟩ .nil))
      (case t7 => exact Vt.ktup_mk (by k_is) (by decide) (.cons ⟨_, rfl⟩ .nil))
      case kl => exact ⟨⟨_, _, rfl, rfl⟩, ⟨_, _, rfl, rfl⟩, ⟨_, _, rfl, rfl⟩, ⟨_, _, rfl, rfl⟩, ⟨_, _, rfl, rfl⟩, ⟨_, _, rfl, rfl⟩, ⟨_, _, rfl, rfl⟩, trivial⟩
